import PyProof.Rows.All
import Wide.All
import OpenK.AllK
import Wide.FinOn
import HandS.Base
import HandS.Call
import HandS.List
import HandS.Comp
import HandS.Dict
import HandS.More
import HandS.Words
import HandS.Strs
import HandS.TupAny
import KE.DataFind
import KE.Datum
import KE.GoesMore
import KE.GoesComp
import HandS.ForMost
import HandS.IsInst
import HandS.Wide
import HandS.Style
import HandS.Walk
import HandS.Evl
import PyProof.Rows.SetFrom
import PyProof.GenCompT
import PyProof.TupleOfGen
import HandS.AnyAll
import HandS.GenOver
import KE.KDictPairs
import PyProof.Rows.Chain
import PyProof.FactsAll.subtypes_4
import HandS.Text
import HandS.GenList
import HandS.SortRule
import HandS.Conv
import HandS.ListItems
import HandS.TupSets
import HandS.Lambda
import HandS.EndTab
import HandS.HeadWalk
import HandS.HeadHook4
import HandS.Head2
import HandS.HeadEnd
import PySem.Challenge.RW_laidontop_k06_whole_the_least_and_all_be
set_option Elab.async false
set_option linter.all false
set_option maxRecDepth 100000
set_option maxHeartbeats 4000000
/-! Rules for what this text needs beside the hand layer's: a text taken out of a list, a tuple of texts sorted, a dict of a constant over tuple keys, methods of tuples. -/
namespace Lt
open PySem PySem.Spec PyProof.Rows L2

theorem erase_map {a b : Type} (f : a → b) : ∀ (l : List a) (j : Nat), (l.map f).eraseIdx j = (l.eraseIdx j).map f
  | [], j => by simp
  | x :: r, 0 => by simp
  | x :: r, j + 1 => by simp [erase_map f r j]
theorem txts_data {K : PySem.W.Frag} {H : Hp} : ∀ ss : List Str, DpAll K H (ss.map V.str) (ss.map PySem.W.Datum.toD)
  | [] => .nil
  | x :: r => .cons (.str x) (txts_data r)
section
variable {X : Cx}
def rRemS : V → List V → Hp → VK → Prop := fun x xs H Q => ∃ (l : Addr) (ss : List Str) (z : Str) (j : Nat),
  x = .ref l ∧ xs = [.str z] ∧ H l = some (.lst (ss.map V.str)) ∧ ss[j]? = some z ∧ (∀ m : Nat, m < j → ss[m]? ≠ some z) ∧
  Q .non (upd H l (.lst ((ss.eraseIdx j).map V.str)))
/-- xs.remove(y), texts: the first place of y goes -/
theorem mt_removeS (hu : X.A.units + 1 < cLine) : MtM X "list.remove" rRemS := by
  rintro pins s σ H _ _ v us Q inv relx relxs ⟨l, ss, z, j, rfl, rfl, hH, hj, hno, q⟩
  cases relx
  obtain ⟨_, rfl, t, rfl⟩ := relxs.one
  obtain ⟨hz, its, n, vals, hl, ho⟩ := inv.lstM hH
  have isl : s.heap.IsList l its.toArray := ⟨_, ho, rfl, n, rfl⟩
  obtain ⟨as, rds⟩ := Dp.readsAll inv (ss.map PySem.W.Datum.toD) (ss.map V.str) its (txts_data ss) vals
  have gone := vals.eraseIdx j
  rw [erase_map] at gone
  rw [List.length_map] at hz hl
  refine PySem.W.remove_list_datum (xs := ss) (x := z) isl ⟨as, by simpa using rds⟩ ⟨_, Reads.str z t⟩ (show X.A.units + 1 + 0 < cLine from hu) hj hno (by rw [List.size_toArray]; omega)
    ⟨.non, _, inv.lset (its' := its.eraseIdx j) (t' := s.toks) hH ho (by simp) gone ?_, rfl, q⟩
  have le := List.length_eraseIdx_le ss j
  rw [List.length_map]
  omega
/-- sorted(t), t a tuple of fewer than 64 texts -/
def rSortedT (K : PySem.W.Frag) : List V → Hp → VK → Prop := fun vs H Q => ∃ (a : Addr) (xs : List Str), vs = [V.ref a] ∧ SqT K H a (xs.map V.str) ∧ xs.length < 64 ∧
  ∀ (ys : List Str) (p : Addr), ys.Perm xs → sortedS ys = true → H p = none →
    Q (.ref p) (upd H p (.lst (ys.map V.str)))
theorem cr_sortedT : CallR X (.builtin "sorted") (rSortedT X.K) := by
  rintro pins s σ H _ us Q inv rel ⟨a, xs, rfl, sq, few, q⟩
  rw [Vals.ref1 rel]
  obtain ⟨its, vals, ⟨o, ho, hc, n, hd⟩, _⟩ := inv.tuple sq
  have len : its.length = xs.length := by rw [← vals.length, List.length_map]
  have txt : StrsAre its xs := vals.strs
  have fits : its.length ≤ sizeLine := Nat.le_trans (Nat.le_of_lt (len ▸ few)) (by decide)
  refine Calls.call_function_entry kind_sorted plain_sorted entry_sorted (args_sorted1 _) (wpAny_bind (m := checkCount "sorted" 1 1 _) (wpAny_pure
    (wpAny_bind (wpAny_collect_seq a (.inr rfl) ho hc hd (fun h1 kept => ?_) (by rw [List.size_toArray]; exact fits)))))
  have back : its.toArray.toList = its := by simp
  rw [back]
  refine wpAny_bind (wpAny_newList ?_ fits)
  have lst : (h1.push (seqObj "list" its.toArray 0)).get? h1.objs.size = some (seqObj "list" its.toArray 0) := Heap.get?_push_size _ rfl
  have inv1 : Inv X pins σ H { s with heap := h1 } := inv.kept (t' := s.toks) kept
  show wpAny _ _ _ _ _ { s with heap := h1.push (seqObj "list" its.toArray 0) }
  refine wpAny_bind (wpAny_holding (wpAny_call_entry slot_list_sort ⟨_, lst, rfl⟩ entry_list_sort (list_sort_treeK strKind_oneLt (s := { s with heap := h1.push (seqObj "list" its.toArray 0) }) lst txt.keysOf
    (fun v1 v2 rest e => keyKind_strs (by rw [← e]; exact txt)) (len ▸ few) fun st perm ord => ⟨_, rfl, ?_⟩) (args_list_sort _)))
  obtain ⟨ys, are, permS, ordS⟩ := sorted_out_str txt perm ord
  obtain ⟨ep, at1⟩ := sortedHeap_at (vs := its) (out := (arrOf st).map (·.2)) lst
  have lys : (ys.map V.str).length ≤ sizeLine := by
    rw [List.length_map, permS.length_eq]
    exact small64 few
  refine wpAny_pure ⟨_, rfl, .ref h1.objs.size, _, inv1.laid (t' := s.toks) (fun b u e => ?_) (Nat.le_refl _) (show ObjOk X.prog X.w _ _ _ (.lst (ys.map V.str)) from ⟨lys, _, ep, vals_of_strs are, by rw [Array.toArray_toList]; exact at1⟩), rfl,
    q ys _ permS ordS (inv1.hok.fresh (Nat.le_refl _))⟩
  have lt : b < h1.objs.size := Heap.lt_size e
  rw [sortedHeap_old (Nat.ne_of_lt lt) (by rw [size_push']; exact Nat.lt_succ_of_lt lt)]
  exact Heap.get?_push_of_some _ e
end
/-! ### {x: c for x in rows}, the rows tuples of ints and texts: over the library's DictComp_goes -/
def consts (c : Int) (ks : List (List Key)) : List (List Key × V) := ks.foldl (fun acc k => putK acc k (.int c)) []
theorem consts_snoc (c : Int) (ks : List (List Key)) (k : List Key) : consts c (ks ++ [k]) = putK (consts c ks) k (.int c) := by
  unfold consts
  rw [List.foldl_append]
  rfl
theorem consts_len (c : Int) (ks : List (List Key)) : (consts c ks).length ≤ ks.length := by
  have key : ∀ (ks : List (List Key)) (acc : List (List Key × V)), (ks.foldl (fun acc k => putK acc k (V.int c)) acc).length ≤ acc.length + ks.length := by
    intro ks
    induction ks with
    | nil => intro acc; exact Nat.le_refl _
    | cons k r ih =>
      intro acc
      have z := ih (putK acc k (.int c))
      have z2 := length_putK acc k (V.int c)
      rw [List.foldl_cons, List.length_cons]
      omega
  have z := key ks []
  rw [List.length_nil, Nat.zero_add] at z
  exact z
theorem consts_val (c : Int) (ks : List (List Key)) : ∀ k ∈ ks, valV (consts c ks) k = some (.int c) := by
  have key : ∀ (ks : List (List Key)) (acc : List (List Key × V)) (k : List Key), (k ∈ ks ∨ valV acc k = some (V.int c)) → valV (ks.foldl (fun acc k => putK acc k (V.int c)) acc) k = some (V.int c) := by
    intro ks
    induction ks with
    | nil =>
      intro acc k h
      rcases h with h | h
      · cases h
      · exact h
    | cons x r ih =>
      intro acc k h
      rw [List.foldl_cons]
      refine ih _ k ?_
      rw [valV_put]
      by_cases e : k = x
      · exact .inr (if_pos e)
      · rw [if_neg e]
        rcases h with h | h
        · exact .inl ((List.mem_cons.mp h).resolve_left e)
        · exact .inr h
  exact fun k hk => key ks [] k (.inl hk)
theorem keys_all {H : Hp} : ∀ {ls : List (List Key × V)} {ms : List (List Key × Addr × Value)}, KT H ls ms → ∀ z ∈ ms, H z.2.1 = some (.tup (z.1.map kV))
  | _, _, .nil, z, hz => by cases hz
  | _, _, .cons h t, z, hz => by
    rcases List.mem_cons.mp hz with rfl | hz
    · rw [← h.1]
      exact h.2.1
    · exact keys_all t z hz
/-- a dict's entries as they stand at D -/
def Raw (P : Program) (w : World) (h : Heap) (D : Addr) (xs : List (List Key × Addr × Value)) : Prop :=
  ∃ o es ep, h.get? D = some o ∧ o.ExactDict ∧ o.data = .dict es ep ∧ es.toList = xs.map (entryOfKey (tupleKind (mixKind P w))) ∧ (xs.map (·.1)).Nodup
theorem Raw.at {P : Program} {w : World} {h h' : Heap} {D : Addr} {xs : List (List Key × Addr × Value)} (r : Raw P w h D xs) (k : ∀ o, h.get? D = some o → h'.get? D = some o) : Raw P w h' D xs := by
  obtain ⟨o, es, ep, a1, a2⟩ := r
  exact ⟨o, es, ep, k o a1, a2⟩
theorem Raw.dict {P : Program} {w : World} {h h0 : Heap} {H : Hp} {D : Addr} {ls : List (List Key × V)} {xs : List (List Key × Addr × Value)} (r : Raw P w h D xs) (ok : HOk P w H h0) (kp : ∀ b o, h0.get? b = some o → h.get? b = some o) (kt : KT H ls xs) :
    h.DictOfH (tupleKind (mixKind P w)) D xs := by
  obtain ⟨o, es, ep, a1, a2, a3, a4, a5⟩ := r
  refine ⟨o, es, ep, a1, a2, a3, a4, fun z hz => ?_, a5⟩
  obtain ⟨ob, its, n, b1, b2⟩ := key_of ok (keys_all kt z hz)
  exact ⟨ob, its, n, kp _ ob b1, b2⟩
theorem below {b N C : Nat} (hb : b < N) (hC : N + 1 ≤ C) : b ≠ C ∧ b ≠ N := by omega
section
variable {X : Cx}
def tDcK (K : PySem.W.Frag) (c : Int) (te : TE) : TE := fun σ H Q => te σ H fun v H1 => ∃ (l : Addr) (ts : List Addr) (ks : List (List Key)), v = .ref l ∧ SqL K H1 l (ts.map V.ref) ∧ ts.length = ks.length ∧
  (∀ (i : Nat) (t : Addr) (k : List Key), ts[i]? = some t → ks[i]? = some k → H1 t = some (.tup (k.map kV))) ∧ ks.length ≤ 1000 ∧ ∀ D, H1 D = none → Q (.ref D) (upd H1 D (.dT (consts c ks)))
theorem pe_dcK {x : Str} {c : Int} {jc : Nat} {px pk pc pos : Pos} {iter : Expr} {scope : Scope} {te : TE} (hu : X.A.units + 1 < cLine) (hcalm : X.calm = true) (he : PE X iter te)
    (names : scope.names.all (fun y => y.2 == .local) = true) (uniq : ∀ y ∈ scope.names, y.2 = .local → scope.names.lookup y.1 = some .local) (hx : scope.names.lookup x = some .local) (hkind : scope.kind = .function)
    (hdb : (x == ("__debug__" : Str)) = false := by decide) (hs : ∀ x, foldedSetIterable iter X.env x = pure x := by intro _; rfl) :
    PE X (.DictComp (.Name x pk) (.Constant (.int c) jc pc) [⟨.Name x px, iter, [], 0⟩] scope pos) (tDcK X.K c te) := by
  refine ⟨fun pins s σ H Q inv h => ?_⟩
  have loc : ∀ y ∈ scope.names, y.2 = .local := fun y hy => by simpa using List.all_eq_true.mp names y hy
  have calm := inv.ok.hd hcalm
  refine DictComp_goes (closure_ok fun y hy e => by rw [loc y hy] at e; cases e) (fun y hy e => by rw [loc y hy] at e; cases e) hkind uniq
    (thn (he.run pins s σ H _ inv h) fun xv s1 ⟨v, H1, inv1, rel, l, ts, ks, ev, sq, len, keys, small, q⟩ => ?_) hs
  subst ev
  cases rel
  obtain ⟨its, vals, pl, _⟩ := inv1.list sq
  have hlt : (l : Nat) < s1.heap.objs.size := by
    obtain ⟨o, ho, _⟩ := pl.isList
    exact Heap.lt_size ho
  refine wpAny_pyIter_list pl.isList ⟨_, _, _, _, _, _, rfl, Goes.list calm s1.heap.objs.size l (Nat.ne_of_lt hlt) its.toArray, ⟨⟨_, Heap.get?_push_size _ rfl, rfl, rfl⟩, pl.isList.push _⟩, fun D C s3 begins empty => ?_⟩
  obtain ⟨⟨h3, tk3, rfl⟩, old, newD, newC, ne, ns0⟩ := begins
  have gC : (s1.heap.objs.size + 1 : Nat) ≤ C := by
    have z : (s1.heap.push { cls := .type "list_iterator", data := .fields #[.ref l, .int 0 0] }).objs.size ≤ C := newC
    rwa [Heap.size_push] at z
  have gD : (s1.heap.objs.size + 1 : Nat) ≤ D := by
    have z : (s1.heap.push { cls := .type "list_iterator", data := .fields #[.ref l, .int 0 0] }).objs.size ≤ D := newD
    rwa [Heap.size_push] at z
  have gD' : s1.heap.objs.size ≤ D := Nat.le_trans (Nat.le_succ _) gD
  have freeD : H1 D = none := inv1.hok.fresh gD'
  have kx : ∀ cl, (compEnvC scope cl C X.env).kindOf x = some .local := fun cl => lookup_relabel_local hx
  have plain : ∀ cl, ((compEnvC scope cl C X.env).scope.kind == .class || ((compEnvC scope cl C X.env).scope.kind == .module && (compEnvC scope cl C X.env).locals != (compEnvC scope cl C X.env).globals)) = false := fun cl => by
    show (scope.kind == .class || (scope.kind == .module && _)) = false
    rw [hkind]
    rfl
  have lits : its.length = ts.length := by rw [← vals.length, List.length_map]
  have lit : ∀ (i : Nat) (u : Value), its.toArray[i]? = some u → ∃ t k, u = .ref t ∧ ks[i]? = some k ∧ H1 t = some (.tup (k.map kV)) := fun i u e => by
    have e' : its[i]? = some u := by simpa using e
    have hi : i < ts.length := by
      rw [← lits]
      exact (List.getElem?_eq_some_iff.mp e').1
    obtain ⟨u2, g1, g2⟩ := vals.get (i := i) (x := .ref ts[i]) (by simp [hi])
    rw [e'] at g1
    cases g1
    exact ⟨ts[i], ks[i]'(by omega), g2, List.getElem?_eq_getElem (by omega), keys i _ _ (List.getElem?_eq_getElem hi) (List.getElem?_eq_getElem (by omega))⟩
  have isz : its.toArray.size = ks.length := by rw [List.size_toArray, lits, len]
  refine ⟨fun i sv => ∃ (h' : Heap) (tk : Nat) (m : Str → Option Value) (xs : List (List Key × Addr × Value)), sv = { s1 with heap := h', toks := tk } ∧ h'.Ns C m ∧ Raw X.prog X.w h' D xs ∧ KT H1 (consts c (ks.take i)) xs ∧
      ∀ b o, s1.heap.get? b = some o → h'.get? b = some o,
    ⟨h3, tk3, _, [], rfl, ns0, ⟨_, #[], 0, empty, ⟨rfl, rfl, rfl⟩, rfl, rfl, List.nodup_nil⟩, .nil, fun b o e => old b o (Heap.get?_push_of_some _ e)⟩, ?_, ?_, ?_⟩
  · rintro i _ h' tk ⟨h4, tk4, m, xs, rfl, ns, dd, kt, kp⟩ keeps _
    have off : ∀ b : Addr, b ≠ s1.heap.objs.size → b ∉ [s1.heap.objs.size] := fun b hb hm => hb (by simpa using hm)
    have nC : C ≠ s1.heap.objs.size := Nat.ne_of_gt gC
    have nD : D ≠ s1.heap.objs.size := Nat.ne_of_gt gD
    exact ⟨h', tk, m, xs, rfl, ns.at' fun o e => keeps _ o (off _ nC) e, dd.at fun o e => keeps _ o (off _ nD) e, kt, fun b o e => keeps b o (off b (Nat.ne_of_lt (Heap.lt_size e))) (kp b o e)⟩
  · rintro i v _ hi hv st ⟨h4, tk4, m, xs, rfl, ns, dd, kt, kp⟩
    obtain ⟨t, k, rfl, ek, hk⟩ := lit i v hv
    refine wpAny_assign_Name (wpAny_storeName_local (kx _) ns (fun h5 ns5 same5 => ?_) (plain _))
    refine wpAny_tests_nil ?_
    show wpAny _ _ _ _ _ _
    rw [eval_Name _ _ _ hdb]
    refine wpAny_bind (wpAny_standAt (wpAny_loadName_local hkind (kx _) ns5 (v := .ref t) (if_pos rfl) (wpAny_Constant_int ?_)))
    have up5 : ∀ b o, b ≠ C → h4.get? b = some o → h5.get? b = some o := fun b o hb e => same5.extBut b o hb e
    have oldC : ∀ b o, s1.heap.get? b = some o → b ≠ C := fun b o e => (below (Heap.lt_size e) gC).1
    have kp5 : ∀ b o, s1.heap.get? b = some o → h5.get? b = some o := fun b o e => up5 b o (oldC b o e) (kp b o e)
    have dd5 := (dd.at fun o e => up5 D o ne e).dict inv1.hok kp5 kt
    have room : (tupleKind (mixKind X.prog X.w)).room X.A := Nat.lt_trans (Nat.lt_succ_self _) hu
    have isk : (tupleKind (mixKind X.prog X.w)).is h5 k t := by
      obtain ⟨ob, its2, n2, b1, b2⟩ := key_of inv1.hok hk
      exact ⟨ob, its2, n2, kp5 _ ob b1, b2⟩
    have lxs : xs.length ≤ sizeLine := by
      rw [← Paired.length kt]
      have z := consts_len c (ks.take i)
      rw [List.length_take] at z
      exact Nat.le_of_lt (small1000 (by omega))
    refine wpAny_dictSet_heap (hsz := lxs) room isk dd5 fun h6 dd6 same6 => ?_
    have step : consts c (ks.take (i + 1)) = putK (consts c (ks.take i)) k (.int c) := by
      rw [List.take_add_one, ek]
      exact consts_snoc c _ k
    have keep6 : ∀ b o, b ≠ D → h5.get? b = some o → h6.get? b = some o := fun b o hb e => (same6.2 b hb).trans e
    have oldD : ∀ b o, s1.heap.get? b = some o → b ≠ D := fun b o e => (below (Heap.lt_size e) gD).1
    obtain ⟨o6, es6, ep6, c1, c2, c3, c4, _, c6⟩ := dd6
    refine ⟨⟨h6, _, _, _, rfl, ns5.at' fun o e => keep6 _ o ne.symm e, ⟨o6, es6, ep6, c1, c2, c3, c4, c6⟩, ?_, fun b o e => keep6 b o (oldD b o e) (kp5 b o e)⟩, ?_⟩
    · rw [step]
      exact kt.put k hk ⟨_, rfl⟩
    · have nI : s1.heap.objs.size ≠ C := (Nat.ne_of_gt gC).symm
      have nI2 : s1.heap.objs.size ≠ D := (Nat.ne_of_gt gD).symm
      have nl := below hlt gC
      have nl2 := below hlt gD
      exact ⟨st.1.at fun o e => keep6 _ o nI2 (up5 _ o nI e), st.2.at fun o e => keep6 _ o nl2.1 (up5 _ o nl.1 e)⟩
  · rintro _ ⟨h4, tk4, m, xs, rfl, ns, dd, kt, kp⟩
    refine ⟨m, ns, fun h' same => ?_⟩
    have kp' : ∀ b o, s1.heap.get? b = some o → h'.get? b = some o := fun b o e => same.extBut b o (below (Heap.lt_size e) gC).1 (kp b o e)
    rw [isz, List.take_length] at kt
    have fit : (consts c ks).length ≤ sizeLine := Nat.le_of_lt (small1000 (Nat.le_trans (consts_len c ks) small))
    have sys : (D == sysModules) = false := beq_eq_false_iff_ne.mpr (Nat.ne_of_gt (Nat.lt_of_lt_of_le inv1.big gD'))
    obtain ⟨o, es, ep, a1, a2, a3, a4, a5⟩ := dd.at (h' := h') fun o e => same.extBut _ o ne e
    exact ⟨.ref D, _, inv1.laid (t' := tk4) kp' gD' (show ObjOk X.prog X.w _ h' D (.dT (consts c ks)) from ⟨fit, sys, xs, kt.keeps fun b ys e => by rw [upd_ne (ne_of_none e freeD)]; exact e, o, es, ep, a1, a2, a3, a4, a5⟩), rfl, q D freeD⟩
end
/-! ### tuples whose object is known to have no dict: their methods can be called -/
section
def IsFz (u : HO) (xs : List V) : Prop := ∃ o : Obj, u = .frz o (.tup xs) ∧ o.cls = .type "tuple" ∧ o.dict = none
def TpO (H : Hp) (a : Addr) (xs : List V) : Prop := ∃ u, H a = some u ∧ IsFz u xs
theorem TpO.sqt {K : PySem.W.Frag} {H : Hp} {a : Addr} {xs : List V} (h : TpO H a xs) : SqT K H a xs := by
  obtain ⟨u, h1, o, rfl, _⟩ := h
  exact .inl (.inr ⟨o, h1⟩)
theorem TpO.ne {H : Hp} {a b : Addr} {xs : List V} {v : HO} (h : TpO H a xs) (h' : H b = some v) (d : ∀ o : Obj, v ≠ .frz o (.tup xs)) : a ≠ b := by
  obtain ⟨u, h1, o, rfl, _⟩ := h
  exact ne_of h1 h' fun z => d o z.symm
theorem TpO.new {H : Hp} {a : Addr} {xs : List V} {u : HO} (h : IsFz u xs) : TpO (upd H a u) a xs := ⟨u, upd_same, h⟩
theorem TpO.taken {H : Hp} {a b : Addr} {xs : List V} (h : TpO H a xs) (n : H b = none) : a ≠ b := by
  obtain ⟨u, h1, _⟩ := h
  exact ne_of_none h1 n
theorem TpO.move {H H' : Hp} {a : Addr} {xs : List V} (h : TpO H a xs) (e : ∀ u, H a = some u → H' a = some u) : TpO H' a xs := by
  obtain ⟨u, h1, h2⟩ := h
  exact ⟨u, e u h1, h2⟩
variable {X : Cx}
/-- a new tuple is laid where nothing stood: what is known of it -/
theorem laid_fz {pins : List (Addr × Obj)} {σ : L2.St} {H : Hp} {s : Shared} {h' : Heap} {Q : VK} {xs : List V} {us : List Value} (inv : Inv X pins σ H { s with heap := h' }) (vals : Vals xs us) (fit : xs.length ≤ sizeLine)
    (q : ∀ p u, H p = none → IsFz u xs → Q (.ref p) (upd H p u)) : EP X pins σ Q (.ref h'.objs.size) { s with heap := h'.push { cls := .type "tuple", data := .seq us.toArray } } := by
  have at1 : (h'.push { cls := .type "tuple", data := .seq us.toArray }).get? h'.objs.size = some { cls := .type "tuple", data := .seq us.toArray } := Heap.get?_push_size _ rfl
  refine ⟨.ref h'.objs.size, _, inv.laid (t' := s.toks) (fun b u e => Heap.get?_push_of_some _ e) (Nat.le_refl _) ?_, rfl, q _ (.frz { cls := .type "tuple", data := .seq us.toArray } (.tup xs)) (inv.hok.fresh (Nat.le_refl _)) ⟨_, rfl, rfl, rfl⟩⟩
  exact ⟨at1, fit, us, vals, _, at1, rfl, _, rfl⟩
def tTupZ (t : TA) : TE := fun σ H Q => t σ H fun xs H1 => xs.length ≤ sizeLine ∧ ∀ p u, H1 p = none → IsFz u xs → Q (.ref p) (upd H1 p u)
theorem pe_tupZ {x1} {es : List Expr} {t : TA} {pos : Pos} (h : PA X es t) : PE X (.Tuple es x1 pos) (tTupZ t) :=
  ⟨fun pins s σ H Q inv hq => wpAny_Tuple_spliced (thn (h.run pos pins s σ H _ inv hq) fun us s1 ⟨xs, H1, inv1, vals, fit, q⟩ => ⟨vals.length ▸ fit, laid_fz (s := s1) inv1 vals fit q⟩)⟩
def rCatZ (K : PySem.W.Frag) : R2 := fun x y H Q => ∃ a b xs ys, x = .ref a ∧ y = .ref b ∧ SqT K H a xs ∧ SqT K H b ys ∧ xs ≠ [] ∧ xs.length + ys.length ≤ sizeLine ∧
  (ys = [] → Q (.ref a) H) ∧ (ys ≠ [] → ∀ p u, H p = none → IsFz u (xs ++ ys) → Q (.ref p) (upd H p u))
theorem op_catZ : OpR X (binaryOp .Add) (rCatZ X.K) := by
  rintro pins s σ H _ _ v u Q inv relx rely ⟨a, b, xs, ys, rfl, rfl, sa, sb, some1, fit, same, new⟩
  cases relx
  cases rely
  obtain ⟨us, valsA, tupA, _⟩ := inv.tuple sa
  obtain ⟨ws, valsB, tupB, _⟩ := inv.tuple sb
  exact HT.cat_tup tupA tupB (fun e => some1 (valsA.nil_iff.mp e)) (fun e => ⟨.ref a, H, inv, rfl, same (valsB.nil_iff.mp e)⟩)
    (fun e => laid_fz (s := s) inv (valsA.append valsB) (by rw [List.length_append]; exact fit) (new fun w => e (valsB.nil_iff.mpr w))) (by rw [← valsA.length, ← valsB.length]; exact fit)
def rTupZ (K : PySem.W.Frag) : List V → Hp → VK → Prop := fun xs H Q => ∃ p ys, xs = [.ref p] ∧ SqL K H p ys ∧ ∀ l u, H l = none → IsFz u ys → Q (.ref l) (upd H l u)
theorem call_tupleZ : CallR X (.type "tuple") (rTupZ X.K) := by
  rintro pins s σ H _ us Q inv rel ⟨p, ys, rfl, sq, q⟩
  rw [Vals.ref1 rel]
  obtain ⟨its, vals, pl, fit⟩ := inv.list sq
  exact call_tuple_list pl.isList (fun h' kp => laid_fz (s := s) (inv.kept (t' := s.toks) kp) vals fit q) (by rw [List.size_toArray, ← vals.length]; exact fit)
def tTM (r : V → List V → Hp → VK → Prop) (to : TE) (t : TA) : TE := fun σ H Q => to σ H fun x H1 => (∃ a xs, x = .ref a ∧ TpO H1 a xs) ∧ t σ H1 fun xs H2 => r x xs H2 Q
/-- t.m(e, ..), t such a tuple -/
theorem pe_tm {o e : Expr} {es : List Expr} {to : TE} {t : TA} {name : Str} {apos cpos : Pos} {id : String} {r : V → List V → Hp → VK → Prop} (slot : Slot "tuple" name id)
    (hty : typeOf (.builtin id) = pure (.type "method_descriptor")) (hm : MtR X id r) (ho : PE X o to) (ha : PA X (e :: es) t)
    (h1 : attributeBase o name X.env (eval o X.env) = eval o X.env := by rfl)
    (h2 : ((backTo cpos (starEach (e :: es) X.env)).all (fun x => !x.1) && (backToKw cpos (keywordEach [] X.env)).all (fun x => x.1.isSome) && decide ((e :: es).length + ([] : List Keyword).length + (if ([] : List Keyword).isEmpty then 0 else 1) < 30)) = true := by rfl)
    (h3 : (apos.endLine == cpos.line) = true := by rfl) (h4 : starEach (e :: es) X.env = (false, eval e X.env) :: starEach es X.env := by rfl)
    (h5 : (backTo cpos (starEach es X.env)).any (·.1) = false := by rfl) : PE X (.Call (.Attribute o name apos) (e :: es) [] cpos) (tTM r to t) := by
  refine ⟨fun pins s σ H Q inv h => wpAny_Call_method_late h1 h2 h3 rfl (thn (ho.run pins s σ H _ inv h) fun v s1 ⟨x, H1, inv1, rel, ty, q1⟩ => ?_)⟩
  obtain ⟨a, xs, rfl, _, hu, ob, rfl, hc, hd⟩ := ty
  cases rel
  have stands : s1.heap.get? a = some ob := (inv1.hok a _ hu).1
  have args := ha.run cpos pins s1 σ H1 _ inv1 q1
  rw [h4] at args
  refine ⟨"tuple", id, PySem.F.plainAttrs_tuple, slot, hty, ⟨ob, stands, hc⟩, fun b e => by cases e; exact ⟨ob, stands, hd⟩, ?_⟩
  rw [h4]
  have plain : ((false, eval e X.env) :: backTo cpos (starEach es X.env)).any (·.1) = false := by rw [List.any_cons, h5]; rfl
  exact Calls.callWith_builtin plain (Calls.evalArgs_plain (thn args fun us s2 ⟨vs, H2, inv2, rels, q2⟩ => hm pins s2 σ H2 (.ref a) vs _ us Q inv2 rfl rels q2))
end
end Lt

set_option Elab.async false
set_option linter.all false
set_option maxRecDepth 100000
set_option maxHeartbeats 4000000
namespace Lt
open PySem PySem.Spec PyProof.Rows L2
/-! ### heaps -/
theorem same_new {H : Hp} {p : Addr} (h : H p = none) (o : HO) : Same H (upd H p o) := fun b u q => by
  rw [upd_ne (ne_of_none q h)]
  exact q
theorem same_put {H H' : Hp} {p : Addr} {o : HO} (s : Same H H') (h : H p = none) : Same H (upd H' p o) := fun b u q => by
  rw [upd_ne (ne_of_none q h)]
  exact s _ _ q
theorem same_tup {K : PySem.W.Frag} {H H' : Hp} {a : Addr} {xs : List V} (e : Same H H') (h : SqT K H a xs) : SqT K H' a xs := by
  rcases h with (h | ⟨o, h⟩) | h
  · exact .inl (.inl (e _ _ h))
  · exact .inl (.inr ⟨o, e _ _ h⟩)
  · exact .inr h
theorem sqt {K : PySem.W.Frag} {H : Hp} {a : Addr} {xs : List V} (h : H a = some (.tup xs)) : SqT K H a xs := .inl (.inl h)
theorem sql {K : PySem.W.Frag} {H : Hp} {a : Addr} {xs : List V} (h : H a = some (.lst xs)) : SqL K H a xs := .inl (.inl h)
/-- all but what stands at T is as it was -/
def SameT (T : Addr) (H H' : Hp) : Prop := ∀ b o, b ≠ T → H b = some o → H' b = some o
theorem SameT.refl (T : Addr) (H : Hp) : SameT T H H := fun _ _ _ h => h
theorem SameT.trans {T : Addr} {H H1 H2 : Hp} (a : SameT T H H1) (b : SameT T H1 H2) : SameT T H H2 := fun c o n h => b c o n (a c o n h)
theorem SameT.of {T : Addr} {H H' : Hp} (s : Same H H') : SameT T H H' := fun c o _ h => s c o h
theorem SameT.free {T : Addr} {H H' : Hp} (e : SameT T H H') {l : Addr} (hl : l ≠ T) (h : H' l = none) : H l = none := by
  cases q : H l with
  | none => rfl
  | some o =>
    rw [e l o hl q] at h
    cases h
mutual
theorem dp_same {K : PySem.W.Frag} {H H' : Hp} (e : Same H H') : ∀ {v : V} {d : PyData}, Dp K H v d → Dp K H' v d
  | _, _, .non => .non
  | _, _, .bl b => .bl b
  | _, _, .int i => .int i
  | _, _, .str x => .str x
  | _, _, .lst h a => .lst (e.seq h) (dpAll_same e a)
  | _, _, .tup h a => .tup (same_tup e h) (dpAll_same e a)
theorem dpAll_same {K : PySem.W.Frag} {H H' : Hp} (e : Same H H') : ∀ {vs : List V} {ds : List PyData}, DpAll K H vs ds → DpAll K H' vs ds
  | _, _, .nil => .nil
  | _, _, .cons h t => .cons (dp_same e h) (dpAll_same e t)
end
theorem dpAll_strs {K : PySem.W.Frag} {H : Hp} : ∀ ss : List Str, DpAll K H (ss.map V.str) (ss.map PyData.str)
  | [] => .nil
  | x :: r => .cons (.str x) (dpAll_strs r)
theorem dpAll_ints {K : PySem.W.Frag} {H : Hp} : ∀ ns : List Int, DpAll K H (ns.map V.int) (ns.map PyData.int)
  | [] => .nil
  | x :: r => .cons (.int x) (dpAll_ints r)
theorem dpAll_snoc {K : PySem.W.Frag} {H : Hp} : ∀ {vs : List V} {ds : List PyData} {v : V} {d : PyData}, DpAll K H vs ds → Dp K H v d → DpAll K H (vs ++ [v]) (ds ++ [d])
  | _, _, _, _, .nil, h => .cons h .nil
  | _, _, _, _, .cons a t, h => .cons a (dpAll_snoc t h)
theorem dpAll_append {K : PySem.W.Frag} {H : Hp} : ∀ {vs ws : List V} {ds es : List PyData}, DpAll K H vs ds → DpAll K H ws es → DpAll K H (vs ++ ws) (ds ++ es)
  | _, _, _, _, .nil, h => h
  | _, _, _, _, .cons a t, h => .cons a (dpAll_append t h)
theorem dpAll_len {K : PySem.W.Frag} {H : Hp} : ∀ {vs : List V} {ds : List PyData}, DpAll K H vs ds → vs.length = ds.length
  | _, _, .nil => rfl
  | _, _, .cons _ t => congrArg (· + 1) (dpAll_len t)
theorem dpAll_get {K : PySem.W.Frag} {H : Hp} : ∀ {vs : List V} {ds : List PyData}, DpAll K H vs ds → ∀ {i : Nat} {v : V}, vs[i]? = some v → ∃ d, ds[i]? = some d ∧ Dp K H v d
  | _, _, .nil, i, v, h => by simp at h
  | _, _, .cons a t, 0, v, h => by
    simp only [List.getElem?_cons_zero, Option.some.injEq] at h
    exact ⟨_, rfl, h ▸ a⟩
  | _, _, .cons a t, i + 1, v, h => by
    simp only [List.getElem?_cons_succ] at h ⊢
    exact dpAll_get t h
theorem TpO.same {H H' : Hp} {a : Addr} {xs : List V} (h : TpO H a xs) (e : Same H H') : TpO H' a xs := h.move fun u q => e _ _ q
theorem TpO.sameT {T : Addr} {H H' : Hp} {a : Addr} {xs : List V} (h : TpO H a xs) (e : SameT T H H') (n : a ≠ T) : TpO H' a xs := h.move fun u q => e _ _ n q
/-! ### walks -/
theorem in_it {J : It} {n : Nat} {G : Hp → Prop} {Y : Nat → Hp → V → Hp → Prop} (w : Walk J n G Y) {Qd : Hp → Prop} {R : V → Hp → (Hp → Prop) → Prop} {H0 : Hp} (Pv : Nat → Hp → Prop) (h0 : Pv 0 H0)
    (hG : ∀ i H, i ≤ n → Pv i H → G H) (hs : ∀ i x H H', i < n → Pv i H → Y i H x H' → R x H' (Pv (i + 1))) (hd : ∀ H, Pv n H → Qd H) :
    ∃ W : Nat → Nat → Hp → Prop, (∃ m, W 0 m H0) ∧ ∀ i m H, W i m H → (J.stop i H ∧ Qd H) ∨
      (J.go i H ∧ ∃ Nx : Hp → Prop, (∀ H', Nx H' → ∃ m', m' < m ∧ W (i + 1) m' H') ∧ ∀ x H', J.yld i H x H' → R x H' Nx) := by
  refine ⟨fun i m H => m = n - i ∧ i ≤ n ∧ Pv i H, ⟨n, by simp, Nat.zero_le _, h0⟩, ?_⟩
  rintro i m H ⟨rfl, hi, p⟩
  by_cases hlt : i < n
  · exact .inr ⟨w.goes i H hlt (hG i H hi p), Pv (i + 1), fun H' p' => ⟨n - (i + 1), by omega, rfl, hlt, p'⟩, fun x H' y => hs i x H H' hlt p (w.yields i H x H' hlt (hG i H hi p) y)⟩
  · have e : i = n := by omega
    subst e
    exact .inl ⟨w.stops H (hG i H hi p), hd H p⟩
/-! ### the tape -/
structure Tape (H : Hp) (T S : Addr) (ns : List Int) : Prop where
  at_ : ∃ i c : Int, H T = some (.lst [.ref S, .int i, .int c])
  scr : H S = some (.lst (ns.map V.int))
theorem Tape.ne {H : Hp} {T S : Addr} {ns : List Int} (t : Tape H T S ns) : S ≠ T := by
  obtain ⟨i, c, h⟩ := t.at_
  refine ne_of t.scr h fun z => ?_
  injection z with z
  cases ns with
  | nil => cases z
  | cons a r => cases z
theorem Tape.same {H H' : Hp} {T S : Addr} {ns : List Int} (t : Tape H T S ns) (s : Same H H') : Tape H' T S ns := by
  obtain ⟨i, c, h⟩ := t.at_
  exact ⟨⟨i, c, s _ _ h⟩, s _ _ t.scr⟩
theorem Tape.put {H : Hp} {T S : Addr} {ns : List Int} (t : Tape H T S ns) (i c : Int) : Tape (upd H T (.lst [.ref S, .int i, .int c])) T S ns :=
  ⟨⟨i, c, upd_same⟩, by rw [upd_ne t.ne]; exact t.scr⟩
theorem Tape.taken {H : Hp} {T S : Addr} {ns : List Int} (t : Tape H T S ns) : ∃ o, H T = some o := by
  obtain ⟨i, c, h⟩ := t.at_
  exact ⟨_, h⟩
theorem sameT_put {T : Addr} {H : Hp} (o : HO) : SameT T H (upd H T o) := fun b u n q => by rw [upd_ne n]; exact q
theorem new_ne {H' : Hp} {T p : Addr} {o : HO} (h : H' T = some o) (n : H' p = none) : p ≠ T := fun e => by
  rw [e, h] at n
  cases n
/-! ### texts in order -/
abbrev ltS (a b : Str) : Prop := a.cps.toList < b.cps.toList
theorem str_ext {a b : Str} (h : a.cps.toList = b.cps.toList) : a = b := by
  cases a with
  | mk x =>
    cases b with
    | mk y =>
      have e : x = y := Array.toList_inj.mp h
      rw [e]
theorem ltS_tri {a b : Str} (h1 : ¬ ltS a b) (h2 : ¬ ltS b a) : a = b := by
  apply str_ext
  rw [List.not_lt] at h1 h2
  exact List.le_antisymm h2 h1
theorem ltS_asymm {a b : Str} (h : ltS a b) : ¬ ltS b a := List.lt_asymm h
theorem ltS_irrefl (a : Str) : ¬ ltS a a := List.lt_irrefl _
theorem rising_pw : ∀ (p : Str) (l : List Str), risingS p l = true → (p :: l).Pairwise fun a b => ¬ ltS b a
  | p, [], _ => List.pairwise_singleton _ _
  | p, x :: r, h => by
    have h' : (!ltCps x.cps.toList p.cps.toList && risingS x r) = true := h
    rw [Bool.and_eq_true] at h'
    have ih := rising_pw x r h'.2
    have hx : ¬ ltS x p := by
      have q := h'.1
      rw [ltCps_eq] at q
      simpa using q
    refine List.pairwise_cons.mpr ⟨fun y hy => ?_, ih⟩
    rcases List.mem_cons.mp hy with e | hy
    · rw [e]
      exact hx
    · have q := (List.pairwise_cons.mp ih).1 y hy
      intro z
      by_cases e : ltS p x
      · exact q (List.lt_trans z e)
      · rw [ltS_tri e hx] at z
        exact q z
theorem sorted_pw {l : List Str} (h : sortedS l = true) : l.Pairwise fun a b => ¬ ltS b a := by
  cases l with
  | nil => exact List.Pairwise.nil
  | cons x r => exact rising_pw x r h
theorem sorted_one {l m : List Str} (hl : sortedS l = true) (hm : sortedS m = true) (p : l.Perm m) : l = m :=
  List.Perm.eq_of_pairwise (fun a b _ _ h1 h2 => ltS_tri h2 h1) (sorted_pw hl) (sorted_pw hm) p
/-- both of a pair, the lesser first -/
def asPair (q : Str × Str) : Str × Str := if ltS q.1 q.2 then (q.1, q.2) else (q.2, q.1)
theorem sorted_two {a b : Str} {l : List Str} (p : l.Perm [a, b]) (h : sortedS l = true) : l = [(asPair (a, b)).1, (asPair (a, b)).2] := by
  refine sorted_one h ?_ (p.trans ?_)
  · unfold asPair
    by_cases c : ltS a b
    · rw [if_pos c]
      show (!ltCps b.cps.toList a.cps.toList && true) = true
      rw [ltCps_eq, decide_eq_false (ltS_asymm c)]
      rfl
    · rw [if_neg c]
      show (!ltCps a.cps.toList b.cps.toList && true) = true
      rw [ltCps_eq, decide_eq_false c]
      rfl
  · unfold asPair
    by_cases c : ltS a b
    · rw [if_pos c]
    · rw [if_neg c]
      exact List.Perm.swap b a []
/-- the pairs of a row of texts, by the place of the first -/
def prs (ys : List Str) : Nat → List (Str × Str)
  | 0 => []
  | i + 1 => prs ys i ++ match ys[i]? with
    | some a => (ys.drop (i + 1)).map fun b => (a, b)
    | none => []
theorem prs_succ {ys : List Str} {i : Nat} {a : Str} (h : ys[i]? = some a) : prs ys (i + 1) = prs ys i ++ (ys.drop (i + 1)).map fun b => (a, b) := by
  show prs ys i ++ (match ys[i]? with | some a => (ys.drop (i + 1)).map fun b => (a, b) | none => []) = _
  rw [h]
theorem prs_mem {ys : List Str} {i j : Nat} {a b : Str} (hi : ys[i]? = some a) (hj : ys[j]? = some b) (h : i < j) : ∀ n, i < n → (a, b) ∈ prs ys n
  | 0, z => by omega
  | n + 1, z => by
    by_cases e : i = n
    · subst e
      rw [prs_succ hi]
      refine List.mem_append_right _ (List.mem_map.mpr ⟨b, ?_, rfl⟩)
      have q : (ys.drop (i + 1))[j - (i + 1)]? = some b := by
        rw [List.getElem?_drop, show i + 1 + (j - (i + 1)) = j by omega]
        exact hj
      exact List.mem_of_getElem? q
    · exact List.mem_append_left _ (prs_mem hi hj h n (by omega))
theorem prs_len (ys : List Str) : ∀ n, (prs ys n).length ≤ n * ys.length
  | 0 => by simp [prs]
  | n + 1 => by
    have ih := prs_len ys n
    rw [Nat.succ_mul]
    cases h : ys[n]? with
    | none =>
      have e : prs ys (n + 1) = prs ys n ++ (match ys[n]? with | some a => (ys.drop (n + 1)).map fun b => (a, b) | none => []) := rfl
      rw [e, h, List.append_nil]
      omega
    | some a =>
      rw [prs_succ h, List.length_append, List.length_map, List.length_drop]
      omega
theorem pair_in {ys bs : List Str} {a b : Str} (p : ys.Perm bs) (hs : sortedS ys = true) (ha : a ∈ bs) (hb : b ∈ bs) (ne : a ≠ b) : asPair (a, b) ∈ prs ys ys.length := by
  have key : ∀ {c d : Str}, c ∈ bs → d ∈ bs → ltS c d → (c, d) ∈ prs ys ys.length := fun {c d} hc hd lt => by
    obtain ⟨i, hi⟩ := List.getElem?_of_mem (p.mem_iff.mpr hc)
    obtain ⟨j, hj⟩ := List.getElem?_of_mem (p.mem_iff.mpr hd)
    have li := (List.getElem?_eq_some_iff.mp hi).1
    have lj := (List.getElem?_eq_some_iff.mp hj).1
    refine prs_mem hi hj ?_ _ li
    by_cases h : i < j
    · exact h
    · exfalso
      by_cases e : i = j
      · subst e
        rw [hi] at hj
        cases hj
        exact ltS_irrefl _ lt
      · have pw := List.pairwise_iff_getElem.mp (sorted_pw hs) j i lj li (by omega)
        rw [(List.getElem?_eq_some_iff.mp hi).2, (List.getElem?_eq_some_iff.mp hj).2] at pw
        exact pw lt
  unfold asPair
  by_cases c : ltS a b
  · rw [if_pos c]
    exact key ha hb c
  · rw [if_neg c]
    refine key hb ha ?_
    by_cases d : ltS b a
    · exact d
    · exact absurd (ltS_tri c d) ne
/-! ### what readings do -/
/-- the pile behind one reading -/
def lay (bs : List Str) (b : Str) : List Str := b :: bs.eraseIdx (bs.idxOf b)
/-- the books above -/
def over (bs : List Str) (b : Str) : List Str := bs.take (bs.idxOf b)
def behindM : List Str → List Str → List Str
  | bs, [] => bs
  | bs, b :: r => behindM (lay bs b) r
def liftedM : List Str → List Str → List Nat
  | _, [] => []
  | bs, b :: r => bs.idxOf b :: liftedM (lay bs b) r
def rowsM : List Str → List Str → List (Str × Str)
  | _, [] => []
  | bs, b :: r => (over bs b).map (fun o => (b, o)) ++ rowsM (lay bs b) r
theorem behindM_snoc (bs : List Str) : ∀ (rs : List Str) (b : Str), behindM bs (rs ++ [b]) = lay (behindM bs rs) b := by
  intro rs
  induction rs generalizing bs with
  | nil => intro b; rfl
  | cons x r ih => intro b; exact ih (lay bs x) b
theorem liftedM_snoc (bs : List Str) : ∀ (rs : List Str) (b : Str), liftedM bs (rs ++ [b]) = liftedM bs rs ++ [(behindM bs rs).idxOf b] := by
  intro rs
  induction rs generalizing bs with
  | nil => intro b; rfl
  | cons x r ih =>
    intro b
    show bs.idxOf x :: liftedM (lay bs x) (r ++ [b]) = bs.idxOf x :: (liftedM (lay bs x) r ++ [(behindM (lay bs x) r).idxOf b])
    rw [ih]
theorem rowsM_snoc (bs : List Str) : ∀ (rs : List Str) (b : Str), rowsM bs (rs ++ [b]) = rowsM bs rs ++ (over (behindM bs rs) b).map fun o => (b, o) := by
  intro rs
  induction rs generalizing bs with
  | nil => intro b; exact List.append_nil _
  | cons x r ih =>
    intro b
    show (over bs x).map (fun o => (x, o)) ++ rowsM (lay bs x) (r ++ [b]) = ((over bs x).map (fun o => (x, o)) ++ rowsM (lay bs x) r) ++ (over (behindM (lay bs x) r) b).map fun o => (b, o)
    rw [ih, List.append_assoc]
theorem idx_lt {bs : List Str} {b : Str} (h : b ∈ bs) : bs.idxOf b < bs.length := List.idxOf_lt_length_iff.mpr h
theorem idx_get {bs : List Str} {b : Str} (h : b ∈ bs) : bs[bs.idxOf b]? = some b := by
  rw [List.getElem?_eq_getElem (idx_lt h), List.getElem_idxOf (idx_lt h)]
theorem idx_first {bs : List Str} {b : Str} : ∀ m, m < bs.idxOf b → bs[m]? ≠ some b := by
  induction bs with
  | nil => intro m h; simp at h
  | cons x r ih =>
    intro m h
    rw [List.idxOf_cons] at h
    by_cases e : x == b
    · rw [e] at h
      simp at h
    · have e' : (x == b) = false := by simpa using e
      rw [e'] at h
      simp only [cond_false] at h
      cases m with
      | zero =>
        intro z
        simp only [List.getElem?_cons_zero, Option.some.injEq] at z
        rw [z] at e'
        simp at e'
      | succ m =>
        simp only [List.getElem?_cons_succ]
        exact ih m (by omega)
theorem lay_perm {bs : List Str} {b : Str} (h : b ∈ bs) : (lay bs b).Perm bs := by
  have q := (List.perm_cons_erase h).symm
  rw [List.erase_eq_eraseIdx_of_idxOf rfl] at q
  exact q
theorem behindM_perm : ∀ {bs : List Str} (rs : List Str), (∀ b ∈ rs, b ∈ bs) → (behindM bs rs).Perm bs
  | bs, [], _ => List.Perm.refl _
  | bs, b :: r, h => by
    have hb := h b (List.mem_cons_self ..)
    have p := lay_perm hb
    exact (behindM_perm r fun c hc => p.mem_iff.mpr (h c (List.mem_cons_of_mem _ hc))).trans p
/-- a book above another is another -/
theorem over_ne {bs : List Str} {b o : Str} (h : o ∈ over bs b) : o ≠ b := by
  obtain ⟨m, hm⟩ := List.getElem?_of_mem h
  have l := (List.getElem?_eq_some_iff.mp hm).1
  unfold over at hm l
  rw [List.length_take] at l
  rw [List.getElem?_take_of_lt (by omega)] at hm
  intro e
  subst e
  exact idx_first m (by omega) hm
theorem over_mem {bs : List Str} {b o : Str} (h : o ∈ over bs b) : o ∈ bs := List.mem_of_mem_take h
/-- how often both passed one another -/
def cnt (rows : List (Str × Str)) (q : Str × Str) : Nat := (rows.filter fun r => decide (asPair r = q)).length
theorem cnt_nil (q : Str × Str) : cnt [] q = 0 := rfl
theorem cnt_snoc (rows : List (Str × Str)) (r q : Str × Str) : cnt (rows ++ [r]) q = cnt rows q + if asPair r = q then 1 else 0 := by
  unfold cnt
  rw [List.filter_append, List.length_append]
  by_cases h : asPair r = q
  · rw [if_pos h, List.filter_cons_of_pos (by simpa using h)]
    rfl
  · rw [if_neg h, List.filter_cons_of_neg (by simpa using h)]
    rfl
/-! ### slices -/
theorem cut_to {xs : List V} {j : Nat} (h : j ≤ xs.length) : cutV xs none (some (j : Int)) = xs.take j := by
  unfold cutV
  rw [HT.sIx_none, HT.sIx_nat, Nat.min_eq_left h]
  simp
theorem cut_from {xs : List V} {j : Nat} (h : j ≤ xs.length) : cutV xs (some (j : Int)) none = xs.drop j := by
  unfold cutV
  rw [HT.sIx_none, HT.sIx_nat, Nat.min_eq_left h]
  rw [List.take_of_length_le (by rw [List.length_drop]; omega)]
/-! ### shapes -/
theorem shaped_of {d : PyData} (h1 : d.canLay0 = true) (h2 : d.depth ≤ 64) : SeqAt.shaped d = true := by
  unfold SeqAt.shaped
  rw [h1, decide_eq_true h2]
  rfl
theorem canAll : ∀ ds : List PyData, (∀ d ∈ ds, d.canLay0 = true) → PyData.canLayAll0 ds = true
  | [], _ => by rw [PyData.canLayAll0]
  | d :: r, h => by
    rw [PyData.canLayAll0, h d (List.mem_cons_self ..), canAll r fun x hx => h x (List.mem_cons_of_mem _ hx)]
    rfl
theorem depthAll_le {n : Nat} : ∀ ds : List PyData, (∀ d ∈ ds, d.depth ≤ n) → PyData.depthAll ds ≤ n
  | [], _ => by rw [PyData.depthAll]; exact Nat.zero_le _
  | d :: r, h => by
    rw [PyData.depthAll]
    exact Nat.max_le.mpr ⟨h d (List.mem_cons_self ..), depthAll_le r fun x hx => h x (List.mem_cons_of_mem _ hx)⟩
/-! ### rules within a comprehension: the written part is named -/
section
variable {X : Cx} {K : PySem.W.Frag}
theorem ixL (e : X.K = K) : IxR X (rIxL K) := by
  subst e
  exact ix_list
theorem ixT (e : X.K = K) : IxR X (rIxT K) := by
  subst e
  exact ix_tup
theorem cLen (e : X.K = K) : CallR X (.builtin "len") (Evl.rLenS K) := by
  subst e
  exact call_len_seq
theorem cSortT (e : X.K = K) : CallR X (.builtin "sorted") (rSortedT K) := by
  subst e
  exact cr_sortedT
theorem oEqD (hu : X.A.units + 64 < cLine) (e : X.K = K) : OpR X (compareOp .Eq) (rEqD K) := by
  subst e
  exact op_eqD hu
end
end Lt

set_option Elab.async false
set_option linter.all false
set_option maxRecDepth 100000
set_option maxHeartbeats 4000000
/-! len(set(xs)) of texts, whatever stands in xs more than once. -/
namespace Lt
open PySem PySem.Spec PyProof.Rows L2
/-! ### how many unlike texts -/
def nub (l : List Str) : List Str := l.foldl (fun acc x => if x ∈ acc then acc else acc ++ [x]) []
theorem nub_snoc (l : List Str) (x : Str) : nub (l ++ [x]) = if x ∈ nub l then nub l else nub l ++ [x] := by
  unfold nub
  rw [List.foldl_append]
  rfl
theorem snoc_ind {p : List Str → Prop} (h0 : p []) (h1 : ∀ l x, p l → p (l ++ [x])) : ∀ l, p l := by
  intro l
  have z : ∀ r : List Str, p r.reverse := by
    intro r
    induction r with
    | nil => exact h0
    | cons a r ih =>
      rw [List.reverse_cons]
      exact h1 _ a ih
  have q := z l.reverse
  rwa [List.reverse_reverse] at q
theorem nub_mem (l : List Str) : ∀ z, z ∈ nub l ↔ z ∈ l := by
  refine snoc_ind (p := fun l => ∀ z, z ∈ nub l ↔ z ∈ l) (fun z => Iff.rfl) (fun l x ih z => ?_) l
  rw [nub_snoc]
  by_cases c : x ∈ nub l
  · rw [if_pos c, ih z, List.mem_append, List.mem_singleton]
    exact ⟨.inl, fun h => h.elim id fun e => by rw [e]; exact (ih x).mp c⟩
  · rw [if_neg c, List.mem_append, List.mem_append, ih z]
theorem nub_nodup (l : List Str) : (nub l).Nodup := by
  refine snoc_ind (p := fun l => (nub l).Nodup) List.nodup_nil (fun l x ih => ?_) l
  rw [nub_snoc]
  by_cases c : x ∈ nub l
  · rw [if_pos c]
    exact ih
  · rw [if_neg c]
    exact nd_snoc ih c
def dist (l : List Str) : Nat := (nub l).length
theorem dist_snoc (l : List Str) (x : Str) : dist (l ++ [x]) = if x ∈ l then dist l else dist l + 1 := by
  unfold dist
  rw [nub_snoc]
  by_cases c : x ∈ nub l
  · rw [if_pos c, if_pos ((nub_mem l x).mp c)]
  · rw [if_neg c, if_neg fun z => c ((nub_mem l x).mpr z), List.length_append]
    rfl
theorem dist_le (l : List Str) : dist l ≤ l.length := by
  refine snoc_ind (p := fun l => dist l ≤ l.length) (Nat.le_refl _) (fun l x ih => ?_) l
  rw [dist_snoc, List.length_append, List.length_singleton]
  split <;> omega
/-- unlike texts, the same ones: as many -/
theorem dist_of {l ys : List Str} (nd : ys.Nodup) (mem : ∀ z, z ∈ ys ↔ z ∈ l) : ys.length = dist l := by
  have p : ys.Perm (nub l) := by
    rw [List.perm_ext_iff_of_nodup nd (nub_nodup l)]
    exact fun z => (mem z).trans (nub_mem l z).symm
  exact p.length_eq
/-! ### the set -/
section
variable {prog : Program} {w : World} {A : Around} {R : Result → Shared → Prop} {I : Addr} {fp wr : List Addr} {G : Array GenState → Array GenState → Prop} {n : Nat} {P : Nat → Value → Prop} {St : Nat → Shared → Prop}
theorem txt_loop (W : WalksS prog w A.in1 I fp wr G n P St) (S : Addr) (off : S ∉ fp) (ss : List Str) (len : n = ss.length) (room : n + 1 < scanBound) (val : ∀ i v, P i v → ∃ z t, ss[i]? = some z ∧ v = .str z t) :
    ∀ (m i : Nat) (s : Shared), i + m = n → St i s → s.heap.SetOf (PySem.strKind prog w) S (fun z => decide (z ∈ ss.take i)) (dist (ss.take i)) →
      (∀ s', Moved (S :: wr) G s s' → s'.heap.SetOf (PySem.strKind prog w) S (fun z => decide (z ∈ ss)) (dist ss) → R (.ok (.ret .none)) s') →
      codeAny (model prog w) A (.builtin "set.update.loop" ⟨[.ref S, .ref I], []⟩) R s := by
  have offW : S ∉ wr := fun h => off (W.sub _ h)
  have more : ∀ b ∈ wr, b ∈ S :: wr := fun b hb => .tail _ hb
  have carry : ∀ {s1 s2 : Shared} {M : Str → Bool} {c : Nat}, Moved wr G s1 s2 → s1.heap.SetOf (PySem.strKind prog w) S M c → s2.heap.SetOf (PySem.strKind prog w) S M c := fun mv st => by
    obtain ⟨o, es, ep, tb, ho, rest⟩ := st
    exact ⟨o, es, ep, tb, mv.heap S _ offW ho, rest⟩
  intro m
  induction m with
  | zero =>
    intro i s him st set done
    have hin : i = n := by omega
    subst hin
    refine codeAny_builtin F.entry_set_update_loop ?_
    rw [Around.under_plainId F.plain_set_update_loop _]
    show wpAny _ A.in1 (pyNext (.ref I) >>= _) _ _ s
    refine wpAny_bind (W.done s _ _ st fun s2 mv => ?_)
    rw [List.take_of_length_le (Nat.le_of_eq len.symm)] at set
    exact wpAny_pure (done s2 (mv.mono more) (carry mv set))
  | succ m ih =>
    intro i s him st set done
    refine codeAny_builtin F.entry_set_update_loop ?_
    rw [Around.under_plainId F.plain_set_update_loop _]
    show wpAny _ A.in1 (pyNext (.ref I) >>= _) _ _ s
    refine wpAny_bind (W.item i s _ _ (by omega) st fun v s2 pv st2 mv => ?_)
    obtain ⟨z, t, hz, rfl⟩ := val i v pv
    have isz : (PySem.strKind prog w).is z (.str z t) = true := strKind_is _ _ _ _
    have few : dist (ss.take i) ≤ i := Nat.le_trans (dist_le _) (by rw [List.length_take]; omega)
    have set2 := carry mv set
    show wpAny _ A.in1 (holding [Value.str z t] (setAdd S (.str z t)) >>= _) _ _ s2
    refine wpAny_bind (wpAny_holding ?_)
    unfold setAdd
    refine wpAny_holding (wpAny_bind ((PySem.strKind prog w).pyHash (k := z) isz (wpAny_setAddHashed_of (knd := PySem.strKind prog w) (s := { s2 with toks := s2.toks + 1 }) isz rfl set2 (by omega) fun h3 same set3 => ?_)))
    have set4 : h3.SetOf (PySem.strKind prog w) S (fun y => decide (y ∈ ss.take (i + 1))) (dist (ss.take (i + 1))) := by
      have e1 : ss.take (i + 1) = ss.take i ++ [z] := by
        rw [List.take_add_one, hz]
        rfl
      refine SetOf_congr set3 (fun y => ?_) ?_
      · rw [e1]
        simp [List.mem_append]
      · rw [e1, dist_snoc]
        simp
    have keep : ∀ b o, b ≠ S → s2.heap.get? b = some o → h3.get? b = some o := fun b o hb e => (same.2 b hb).trans e
    refine wpAny_pure ⟨plainId_quiet F.plain_set_update_loop _, ih (i + 1) _ (by omega) (W.frame _ s2 _ _ st2 (Nat.le_succ _) fun b hb o e => keep b o (fun h => off (h ▸ hb)) e) set4 fun s5 mv5 set5 => ?_⟩
    exact done s5 (Moved.trans W.gtrans ((mv.mono more).then_heap (Nat.le_succ _) fun b o hb e => keep b o (fun h => hb (h ▸ List.mem_cons_self)) e) mv5) set5
end
section
variable {prog : Program} {w : World} {A : Around} {E : Value → Shared → Prop} {s : Shared}
/-- set(v): what is left is to fill the new set -/
theorem set_call {v : Value} {Q : Value → Shared → Prop} (fill : ∀ led : Bool, wpAny (model prog w) A.in1.in1 (Builtin.«set.__init__» ⟨[.ref s.heap.objs.size, v], []⟩)
      (fun fin s' => match fin with
        | .done f => wants (fun r s2 => r = .none ∧ Q (.ref s.heap.objs.size) s2) E (.ok f) s'
        | .again c => c.quiet = true ∧ codeAny (model prog w) A.in1 c (wants (fun r s2 => r = .none ∧ Q (.ref s.heap.objs.size) s2) E) s')
      (fun e s' => wants (fun r s2 => r = .none ∧ Q (.ref s.heap.objs.size) s2) E (.error e) s')
      { s with heap := s.heap.push { cls := .type "set", dict := none, data := .set #[] 0 (.fresh 0 0 led) } }) : wpAny (model prog w) A (call (.type "set") [v]) Q E s := by
  have ft := PySem.F.called_set
  obtain ⟨c, tl, mro⟩ := ft.mro
  have made := ft.made
  have sub := ft.sub
  have notT := ft.notType
  have can := ft.canCreate
  have okT := PySem.F.typeCall_set_1 v
  refine wpAny_call (codeAny_of_tree (show wpAny _ _ (callAny (.type "set") _) _ _ _ from wpAny_pure ⟨Code.quiet_builtin _ (by decide +kernel), codeAny_builtin PySem.F.entry_type_call ?_⟩))
  rw [Around.under_plain (weight_type_call_type "set" [v] []) rfl]
  repeat (any_goals (first | assumption | wp_step))
  refine codeAny_mono (code_set_new_1 v (E := E) (Q₁ := fun obj s1 => ∃ led : Bool, obj = .ref s.heap.objs.size ∧ s1 = { s with heap := s.heap.push { cls := .type "set", dict := none, data := .set #[] 0 (.fresh 0 0 led) } }) fun led => ⟨led, rfl, rfl⟩) fun r s1 got => ?_
  cases r with
  | error e => exact got
  | ok fl =>
    cases fl with
    | ret obj =>
      obtain ⟨led, rfl, rfl⟩ := got
      have isSet : Shared.TypeIs { s with heap := s.heap.push { cls := .type "set", dict := none, data := .set #[] 0 (.fresh 0 0 led) } } (.ref s.heap.objs.size) "set" := ⟨_, Heap.get?_push_size _ rfl, rfl⟩
      have look := ft.init.lookup
      have bound := ft.init.bind (.ref s.heap.objs.size)
      repeat (any_goals (first | assumption | wp_step))
      refine codeAny_mono (codeAny_call_builtin ft.init.plain PySem.F.entry_set_init (check_set_init_1 isSet (fill led))) fun r2 s2 got2 => ?_
      cases r2 with
      | error e => exact got2
      | ok fl2 =>
        cases fl2 with
        | ret r =>
          obtain ⟨rfl, q⟩ := got2
          repeat (any_goals (first | assumption | wp_step))
        | _ => exact got2.elim
    | _ => exact got.elim
theorem set_txts {l : Addr} {items : Array Value} {ss : List Str} {Q : Value → Shared → Prop} (calm : A.handled = none) (hl : s.heap.IsList l items) (val : ∀ (i : Nat) (v : Value), items[i]? = some v → ∃ z t, ss[i]? = some z ∧ v = .str z t)
    (len : items.size = ss.length) (room : items.size + 1 < scanBound)
    (h : ∀ (h' : Heap) (tk : Nat), h'.SetOf (PySem.strKind prog w) s.heap.objs.size (fun z => decide (z ∈ ss)) (dist ss) → (∀ b o, s.heap.get? b = some o → h'.get? b = some o) → Q (.ref s.heap.objs.size) { s with heap := h', toks := tk }) :
    wpAny (model prog w) A (call (.type "set") [.ref l]) Q E s := by
  refine set_call fun led => ?_
  have below : (l : Nat) < s.heap.objs.size := by
    obtain ⟨o, ho, _⟩ := hl
    exact Heap.lt_size ho
  have atS : (s.heap.push { cls := .type "set", dict := none, data := .set #[] 0 (.fresh 0 0 led) }).get? s.heap.objs.size = some { cls := .type "set", dict := none, data := .set #[] 0 (.fresh 0 0 led) } := Heap.get?_push_size _ rfl
  have hl1 : (s.heap.push { cls := .type "set", dict := none, data := .set #[] 0 (.fresh 0 0 led) }).IsList l items := hl.push _
  obtain ⟨⟨oc, od, odt, osl⟩, ho1, hc1, n1, hd1⟩ := id hl1
  simp only at hc1 hd1
  subst hc1 hd1
  have no1 := PySem.F.sub_list_set
  have no2 := PySem.F.sub_list_frozenset
  have no3 : (Value.type "list" == Value.type "dict") = false := by decide
  unfold Builtin.«set.__init__» noKeywords Builtin.Frozenset.updateFrom
  generalize hPI : pyIter = PI
  wp_walk
  subst hPI
  refine wpAny_pyIter_list hl1 (wpAny_bind (wpAny_runValue ?_))
  have top1 : (s.heap.push { cls := .type "set", dict := none, data := .set #[] 0 (.fresh 0 0 led) }).objs.size = s.heap.objs.size + 1 := Heap.size_push _ _
  have calm3 : A.in1.in1.in1.handled = none := by simp [calm]
  have neI : l ≠ (s.heap.push { cls := .type "set", dict := none, data := .set #[] 0 (.fresh 0 0 led) }).objs.size := by
    rw [top1]
    exact Nat.ne_of_lt (Nat.lt_succ_of_lt below)
  have offS : s.heap.objs.size ∉ [(s.heap.push { cls := .type "set", dict := none, data := .set #[] 0 (.fresh 0 0 led) }).objs.size, l] := by
    rw [top1]
    intro z
    rcases List.mem_cons.mp z with e | e
    · exact Nat.succ_ne_self _ e.symm
    · exact absurd (List.mem_singleton.mp e) (Nat.ne_of_gt below)
  refine txt_loop ((Walks.list calm3 _ l neI items).toS) s.heap.objs.size offS ss len room val items.size 0 _ (Nat.zero_add _) ⟨⟨_, Heap.get?_push_size _ rfl, rfl, rfl⟩, hl1.push _⟩ ?empty ?filled
  case empty =>
    refine SetOf_congr ((setObjOf_fresh (knd := PySem.strKind prog w) led).setOf (Heap.get?_push_of_some _ atS) (by unfold scanBound; omega)) (fun z => ?_) rfl
    simp
  case filled =>
    intro s5 mv set5
    obtain ⟨h5, g5, d5, tk5, os5⟩ := s5
    obtain rfl : g5 = s.gens := mv.gens
    obtain rfl : d5 = s.drawn := mv.drawn
    obtain rfl : os5 = s.os := mv.os
    show wpAny _ _ _ _ _ _
    refine wpAny_pure (show wpAny _ _ (ret Value.none) _ _ _ from wpAny_pure ⟨rfl, h h5 tk5 set5 fun b o e => ?_⟩)
    have lt : b < s.heap.objs.size := Heap.lt_size e
    refine mv.heap b o (fun z => ?_) (Heap.get?_push_of_some _ (Heap.get?_push_of_some _ e))
    rcases List.mem_cons.mp z with e2 | e2
    · exact absurd e2 (Nat.ne_of_lt lt)
    · rw [List.mem_singleton.mp e2, top1] at lt
      exact absurd lt (Nat.not_lt.mpr (Nat.le_succ _))
end
section
variable {X : Cx}
def tLenSetS (K : PySem.W.Frag) (ta : TE) : TE := fun σ H Q => ta σ H fun x H1 => ∃ (l : Addr) (ss : List Str), x = .ref l ∧ SqL K H1 l (ss.map V.str) ∧ ss.length ≤ 1000 ∧ Q (.int (dist ss : Nat)) H1
theorem pe_lenSetS {a : Expr} {ta : TE} {p p2 q pos : Pos} (hcalm : X.calm = true) (g1 : Gl X "len") (m1 : X.mg "len" = none) (g2 : Gl X "set") (m2 : X.mg "set" = none) (ha : PE X a ta)
    (one : starEach [a] X.env = (false, eval a X.env) :: starEach [] X.env := by rfl) : PE X (.Call (.Name "len" p) [.Call (.Name "set" p2) [a] [] q] [] pos) (tLenSetS X.K ta) := by
  refine ⟨fun pins s σ H Q inv h => Call_ (ld_blt inv g1 m1 boot_len (callWith_builtin1 (args_cons ?_ rfl) rfl rfl))⟩
  refine Call_ (ld_blt inv g2 m2 boot_set (callWith_type1 (args_cons (thn (ha.run pins s σ H _ inv h) fun v s1 ⟨x, H1, inv1, rel, l, ss, ev, sq, few, q1⟩ => args_nil ?_) one) one rfl))
  subst ev
  cases rel
  obtain ⟨its, vals, pl, _⟩ := inv1.list sq
  have len : its.toArray.size = ss.length := by rw [List.size_toArray, ← vals.length, List.length_map]
  refine set_txts (ss := ss) (inv1.ok.hd hcalm) pl.isList (fun i v e => ?_) len (by rw [len]; unfold scanBound; omega) fun h' tk set kept => args_nil ?_
  · have e' : its[i]? = some v := by simpa using e
    have hi : i < ss.length := by
      have z := (List.getElem?_eq_some_iff.mp e').1
      rw [← len, List.size_toArray]
      exact z
    obtain ⟨u, g3, t, g4⟩ := vals.get (i := i) (x := .str ss[i]) (by simp [hi])
    rw [e'] at g3
    cases g3
    exact ⟨ss[i], t, List.getElem?_eq_getElem hi, g4⟩
  · obtain ⟨o, es, ep, tb, ho, ex, hd, _, _, _, fits, num⟩ := set
    have small : dist ss ≤ 1000 := Nat.le_trans (dist_le ss) few
    have inv2 : Inv X pins σ H1 { s1 with heap := h', toks := tk } := inv1.kept kept
    exact call_len_set ho ex hd fits (by rw [num]; omega) ⟨.int (dist ss : Nat), H1, inv2.tok _, ⟨_, by rw [num]⟩, q1⟩
end
end Lt

set_option Elab.async false
set_option linter.all false
set_option maxRecDepth 100000
set_option maxHeartbeats 4000000
namespace Lt
open PySem PySem.Spec PyProof.Rows L2
/-! ### who lies above was wanted since -/
theorem nub_cons (b : Str) (l : List Str) : nub (b :: l) = b :: (nub l).filter (fun z => decide (z ≠ b)) := by
  refine snoc_ind (p := fun l => nub (b :: l) = b :: (nub l).filter fun z => decide (z ≠ b)) rfl (fun l x ih => ?_) l
  have e : b :: (l ++ [x]) = (b :: l) ++ [x] := rfl
  have m1 : x ∈ nub (b :: l) ↔ x = b ∨ x ∈ nub l := by rw [nub_mem, nub_mem, List.mem_cons]
  rw [e, nub_snoc, nub_snoc]
  by_cases c : x ∈ nub l
  · rw [if_pos c, if_pos (m1.mpr (.inr c)), ih]
  · rw [if_neg c, List.filter_append]
    by_cases d : x = b
    · rw [if_pos (m1.mpr (.inl d)), ih, List.filter_cons_of_neg (by simpa using d), List.filter_nil, List.append_nil]
    · rw [if_neg fun z => (m1.mp z).elim d c, ih, List.filter_cons_of_pos (by simpa using d), List.filter_nil]
      rfl
theorem lay_filter {cur : List Str} {b : Str} (nd : cur.Nodup) : lay cur b = b :: cur.filter (fun z => decide (z ≠ b)) := by
  unfold lay
  rw [← List.erase_eq_eraseIdx_of_idxOf rfl, nd.erase_eq_filter]
  congr 1
  apply List.filter_congr
  intro z _
  by_cases e : z = b
  · subst e
    simp
  · have z1 : (z != b) = true := by simpa using e
    rw [z1]
    simp [e]
theorem behind_is {bs : List Str} (nd : bs.Nodup) : ∀ rs : List Str, (∀ b ∈ rs, b ∈ bs) → behindM bs rs = nub rs.reverse ++ bs.filter fun z => decide (z ∉ rs) := by
  refine snoc_ind (p := fun rs => (∀ b ∈ rs, b ∈ bs) → behindM bs rs = nub rs.reverse ++ bs.filter fun z => decide (z ∉ rs)) (fun _ => ?_) (fun rs b ih h => ?_)
  · show bs = [] ++ bs.filter fun z => decide (z ∉ ([] : List Str))
    rw [List.nil_append, List.filter_eq_self.mpr fun z _ => by simp]
  · have h1 : ∀ c ∈ rs, c ∈ bs := fun c hc => h c (List.mem_append_left _ hc)
    have nd2 : (behindM bs rs).Nodup := (behindM_perm rs h1).nodup_iff.mpr nd
    rw [behindM_snoc, lay_filter nd2, ih h1, List.filter_append, List.reverse_append, List.reverse_singleton]
    show b :: _ = nub (b :: rs.reverse) ++ _
    rw [nub_cons, List.filter_filter]
    show b :: _ = b :: ((nub rs.reverse).filter (fun z => decide (z ≠ b)) ++ bs.filter fun z => decide (z ∉ rs ++ [b]))
    congr 2
    apply List.filter_congr
    intro z _
    by_cases c1 : z ∈ rs
    · simp [c1]
    · by_cases c2 : z = b
      · simp [c2]
      · simp [c1, c2]
theorem nub_prefix (l : List Str) : ∀ r : List Str, ∃ t, nub (l ++ r) = nub l ++ t := by
  refine snoc_ind (p := fun r => ∃ t, nub (l ++ r) = nub l ++ t) ⟨[], by rw [List.append_nil, List.append_nil]⟩ (fun r x ih => ?_)
  obtain ⟨t, e⟩ := ih
  rw [← List.append_assoc, nub_snoc, e]
  by_cases c : x ∈ nub l ++ t
  · rw [if_pos c]
    exact ⟨t, rfl⟩
  · rw [if_neg c]
    exact ⟨t ++ [x], by rw [List.append_assoc]⟩
theorem idx_mid {l r : List Str} {b : Str} (h : b ∉ l) : (l ++ b :: r).idxOf b = l.length := by
  rw [List.idxOf_append, if_neg h, List.idxOf_cons_self, Nat.zero_add]
theorem nub_idx {l r : List Str} {b : Str} (h : b ∉ l) : (nub (l ++ b :: r)).idxOf b = (nub l).length := by
  obtain ⟨t, e⟩ := nub_prefix (l ++ [b]) r
  rw [List.append_assoc] at e
  have e2 : l ++ ([b] ++ r) = l ++ b :: r := rfl
  have nb : b ∉ nub l := fun z => h ((nub_mem l b).mp z)
  rw [e2, nub_snoc, if_neg nb, List.append_assoc] at e
  rw [e]
  exact idx_mid nb
theorem split_at {l : List Str} {b : Str} (h : b ∈ l) : l = l.take (l.idxOf b) ++ b :: l.drop (l.idxOf b + 1) ∧ b ∉ l.take (l.idxOf b) := by
  refine ⟨?_, fun z => over_ne (bs := l) (b := b) (o := b) z rfl⟩
  have i := idx_lt h
  have e := List.take_append_drop (l.idxOf b) l
  rw [List.drop_eq_getElem_cons i, List.getElem_idxOf i] at e
  exact e.symm
theorem lifted_seen {bs a : List Str} {b : Str} (nd : bs.Nodup) (ha : ∀ c ∈ a, c ∈ bs) (hb : b ∈ a) : (behindM bs a).idxOf b = dist (a.drop (a.length - a.reverse.idxOf b)) := by
  have hr : b ∈ a.reverse := List.mem_reverse.mpr hb
  obtain ⟨e, no⟩ := split_at hr
  have hn : b ∈ nub a.reverse := (nub_mem _ b).mpr hr
  rw [behind_is nd a ha, List.idxOf_append, if_pos hn]
  have k := nub_idx (l := a.reverse.take (a.reverse.idxOf b)) (r := a.reverse.drop (a.reverse.idxOf b + 1)) no
  rw [← e] at k
  rw [k]
  refine dist_of (nub_nodup _) fun z => ?_
  rw [nub_mem, List.take_reverse, List.mem_reverse]
theorem lifted_new {bs a : List Str} {b : Str} (nd : bs.Nodup) (ha : ∀ c ∈ a, c ∈ bs) (hbs : b ∈ bs) (hb : b ∉ a) : (behindM bs a).idxOf b = dist (a ++ over bs b) := by
  have hr : b ∉ nub a.reverse := fun z => hb (List.mem_reverse.mp ((nub_mem _ b).mp z))
  obtain ⟨e, no⟩ := split_at hbs
  have ef : (bs.filter fun z => decide (z ∉ a)).idxOf b = ((over bs b).filter fun z => decide (z ∉ a)).length := by
    have e2 : bs.filter (fun z => decide (z ∉ a)) = ((over bs b).filter fun z => decide (z ∉ a)) ++ b :: (bs.drop (bs.idxOf b + 1)).filter fun z => decide (z ∉ a) := by
      conv =>
        lhs
        rw [e]
      rw [List.filter_append, List.filter_cons_of_pos (by simpa using hb)]
      rfl
    rw [e2]
    exact idx_mid fun z => no ((List.mem_filter.mp z).1)
  rw [behind_is nd a ha, List.idxOf_append, if_neg hr, ef, Nat.add_comm, ← List.length_append]
  refine dist_of ?_ fun z => ?_
  · rw [List.nodup_append]
    refine ⟨nub_nodup _, (nd.sublist (List.take_sublist _ _)).filter _, fun x hx y hy xy => ?_⟩
    subst xy
    have z1 := List.mem_reverse.mp ((nub_mem _ _).mp hx)
    have z2 := (List.mem_filter.mp hy).2
    simp [z1] at z2
  · rw [List.mem_append, List.mem_append, nub_mem, List.mem_reverse, List.mem_filter]
    by_cases c : z ∈ a
    · simp [c]
    · simp [c]
theorem behindM_append (bs : List Str) : ∀ one two : List Str, behindM bs (one ++ two) = behindM (behindM bs one) two := by
  intro one
  induction one generalizing bs with
  | nil => intro two; rfl
  | cons x r ih => intro two; exact ih (lay bs x) two
theorem liftedM_append (bs : List Str) : ∀ one two : List Str, liftedM bs (one ++ two) = liftedM bs one ++ liftedM (behindM bs one) two := by
  intro one
  induction one generalizing bs with
  | nil => intro two; rfl
  | cons x r ih =>
    intro two
    show bs.idxOf x :: liftedM (lay bs x) (r ++ two) = bs.idxOf x :: (liftedM (lay bs x) r ++ liftedM (behindM (lay bs x) r) two)
    rw [ih]
theorem liftedM_get (bs : List Str) : ∀ (rs : List Str) (i : Nat) (b : Str), rs[i]? = some b → (liftedM bs rs)[i]? = some ((behindM bs (rs.take i)).idxOf b) := by
  intro rs
  induction rs generalizing bs with
  | nil => intro i b h; simp at h
  | cons x r ih =>
    intro i b h
    cases i with
    | zero =>
      simp only [List.getElem?_cons_zero, Option.some.injEq] at h
      subst h
      rfl
    | succ i =>
      simp only [List.getElem?_cons_succ] at h
      exact ih (lay bs x) i b h
/-! ### all that were lifted are all passings -/
theorem rows_count : ∀ {bs : List Str} (rs : List Str), (∀ b ∈ rs, b ∈ bs) → (rowsM bs rs).length = (liftedM bs rs).sum
  | bs, [], _ => rfl
  | bs, b :: r, h => by
    have hb := h b (List.mem_cons_self ..)
    have p := lay_perm hb
    have ih := rows_count (bs := lay bs b) r fun c hc => p.mem_iff.mpr (h c (List.mem_cons_of_mem _ hc))
    show ((over bs b).map (fun o => (b, o)) ++ rowsM (lay bs b) r).length = (bs.idxOf b :: liftedM (lay bs b) r).sum
    have i := idx_lt hb
    rw [List.length_append, List.length_map, ih, List.sum_cons]
    unfold over
    rw [List.length_take, Nat.min_eq_left (Nat.le_of_lt i)]
theorem sum_one {ps : List (Str × Str)} {q : Str × Str} (nd : ps.Nodup) (h : q ∈ ps) : (ps.map fun z => if q = z then 1 else 0).sum = 1 := by
  induction ps with
  | nil => cases h
  | cons a r ih =>
    rw [List.map_cons, List.sum_cons]
    obtain ⟨n1, n2⟩ := List.nodup_cons.mp nd
    by_cases e : q = a
    · subst e
      have z : (r.map fun z => if q = z then 1 else 0).sum = 0 := by
        have all : ∀ z ∈ r, q ≠ z := fun z hz e => n1 (e ▸ hz)
        clear ih h nd n1 n2
        induction r with
        | nil => rfl
        | cons c r ih2 =>
          rw [List.map_cons, List.sum_cons, if_neg (all c (List.mem_cons_self ..)), ih2 fun z hz => all z (List.mem_cons_of_mem _ hz)]
      rw [if_pos rfl, z]
    · rw [if_neg e, Nat.zero_add]
      exact ih n2 ((List.mem_cons.mp h).resolve_left e)
theorem cnt_sum {ps : List (Str × Str)} (nd : ps.Nodup) : ∀ rows : List (Str × Str), (∀ r ∈ rows, asPair r ∈ ps) → (ps.map fun q => cnt rows q).sum = rows.length := by
  intro rows
  have key : ∀ l : List (Str × Str), (∀ r ∈ l.reverse, asPair r ∈ ps) → (ps.map fun q => cnt l.reverse q).sum = l.length := by
    intro l
    induction l with
    | nil =>
      intro _
      have z : ∀ ps : List (Str × Str), (ps.map fun q => cnt [] q).sum = 0 := by
        intro ps
        induction ps with
        | nil => rfl
        | cons a r ih => rw [List.map_cons, List.sum_cons, cnt_nil, ih]
      exact z ps
    | cons r l ih =>
      intro h
      rw [List.reverse_cons] at h ⊢
      have hr := h r (by simp)
      have e : (ps.map fun q => cnt (l.reverse ++ [r]) q) = ps.map fun q => cnt l.reverse q + if asPair r = q then 1 else 0 := by
        apply List.map_congr_left
        intro q _
        exact cnt_snoc _ _ _
      have add : ∀ (ps : List (Str × Str)) (f g : Str × Str → Nat), (ps.map fun q => f q + g q).sum = (ps.map f).sum + (ps.map g).sum := by
        intro ps f g
        induction ps with
        | nil => rfl
        | cons a r ih =>
          rw [List.map_cons, List.sum_cons, List.map_cons, List.sum_cons, List.map_cons, List.sum_cons, ih]
          omega
      rw [e, add, ih fun z hz => h z (List.mem_append_left _ hz), sum_one nd hr, List.length_cons]
  intro h
  have z := key rows.reverse (by rw [List.reverse_reverse]; exact h)
  rw [List.reverse_reverse, List.length_reverse] at z
  exact z
theorem prs_fst {ys : List Str} : ∀ {n : Nat} {q : Str × Str}, q ∈ prs ys n → ∃ k, k < n ∧ ys[k]? = some q.1
  | 0, q, h => by cases h
  | n + 1, q, h => by
    cases e : ys[n]? with
    | none =>
      have e2 : prs ys (n + 1) = prs ys n ++ (match ys[n]? with | some a => (ys.drop (n + 1)).map fun b => (a, b) | none => []) := rfl
      rw [e2, e, List.append_nil] at h
      obtain ⟨k, h1, h2⟩ := prs_fst h
      exact ⟨k, by omega, h2⟩
    | some a =>
      rw [prs_succ e] at h
      rcases List.mem_append.mp h with h | h
      · obtain ⟨k, h1, h2⟩ := prs_fst h
        exact ⟨k, by omega, h2⟩
      · obtain ⟨b, hb, rfl⟩ := List.mem_map.mp h
        exact ⟨n, by omega, e⟩
theorem prs_nodup {ys : List Str} (nd : ys.Nodup) : ∀ n, (prs ys n).Nodup
  | 0 => List.nodup_nil
  | n + 1 => by
    cases e : ys[n]? with
    | none =>
      have e2 : prs ys (n + 1) = prs ys n ++ (match ys[n]? with | some a => (ys.drop (n + 1)).map fun b => (a, b) | none => []) := rfl
      rw [e2, e, List.append_nil]
      exact prs_nodup nd n
    | some a =>
      rw [prs_succ e, List.nodup_append]
      refine ⟨prs_nodup nd n, ?_, fun x hx y hy xy => ?_⟩
      · have nd2 : (ys.drop (n + 1)).Nodup := nd.sublist (List.drop_sublist _ _)
        exact List.Pairwise.map _ (fun x y ne z => ne (Prod.mk.inj z).2) nd2
      · subst xy
        obtain ⟨k, h1, h2⟩ := prs_fst hx
        obtain ⟨b, hb, rfl⟩ := List.mem_map.mp hy
        have z := nd_ix nd h2 e
        omega
end Lt

set_option Elab.async false
set_option linter.all false
set_option maxRecDepth 100000
set_option maxHeartbeats 4000000
namespace Lt
open PySem PySem.Spec PyProof.Rows L2
section
variable {P : Program} {w : World} {K : PySem.W.Frag} {mg : Str → Option Value} {base : Heap} {X : Cx}
theorem log_of {m : Int} (h0 : 0 < m) (h1 : m ≤ 1000000000000000000) : m.natAbs.log2 < 9000 := by
  have z : m.natAbs.log2 < 60 := (Nat.log2_lt (by omega)).mpr (Nat.lt_of_le_of_lt (show m.natAbs ≤ 1000000000000000000 by omega) (by decide))
  omega
theorem upd_self {H : Hp} {a : Addr} {o : HO} (h : H a = some o) : upd H a o = H := by
  funext b
  unfold upd
  by_cases e : b = a
  · rw [if_pos e, e, h]
  · rw [if_neg e]
def spDraw : Sp := fun vs H Q _ => ∃ (T S : Addr) (ns : List Int) (m : Int), vs = [.ref T, .int m] ∧ Tape H T S ns ∧ 0 < m ∧ m ≤ 1000000000000000000 ∧
  ∀ r i c : Int, 0 ≤ r → r < m → Q (.int r) (upd H T (.lst [.ref S, .int i, .int c]))
def Has (P : Program) (w : World) (K : PySem.W.Frag) (mg : Str → Option Value) (base : Heap) (k : Nat) (x : Str) (ps : List Str) (sp : Sp) : Prop :=
  ∃ (f : Addr) (fd : FuncData), FnOk P w K mg base CX0 k f fd ps sp ∧ mg x = some (.ref f) ∧ PySem.W.keepIn K (.ref f) = true ∧ Binds K fd ps []
theorem pe_go {k j : Nat} {x : Str} {ps : List Str} {sp : Sp} {e : Expr} {es : List Expr} {p pos : Pos} {t : TA} (c : Has X.prog X.w X.K X.mg X.base k x ps sp) (hr : Room j X.A) (hk : k ≤ j) (hg : Gl X x) (h : PA X (e :: es) t)
    (h1 : (x == ("__debug__" : Str)) = false := by decide) (h2 : starEach (e :: es) X.env = (false, eval e X.env) :: starEach es X.env := by rfl)
    (h3 : (backTo pos (starEach es X.env)).any (·.1) = false := by rfl) : PE X (.Call (.Name x p) (e :: es) [] pos) (tCall sp [] E0 t) := by
  obtain ⟨f, fd, F, m, kp, b⟩ := c
  exact pe_call F (hr.mono hk) hg m kp b .nil pass0 h h1 h2 h3
theorem pe_go0 {k j : Nat} {x : Str} {ps : List Str} {sp : Sp} {p pos : Pos} (c : Has X.prog X.w X.K X.mg X.base k x ps sp) (hr : Room j X.A) (hk : k ≤ j) (hg : Gl X x)
    (h1 : (x == ("__debug__" : Str)) = false := by decide) : PE X (.Call (.Name x p) [] [] pos) (tCall sp [] E0 tNil) := by
  obtain ⟨f, fd, F, m, kp, b⟩ := c
  exact pe_call0 F (hr.mono hk) hg m kp b .nil pass0 h1
structure Bi (mg : Str → Option Value) : Prop where
  len : mg "len" = none
  range : mg "range" = none
  tuple : mg "tuple" = none
  list : mg "list" = none
  sorted : mg "sorted" = none
  enumerate : mg "enumerate" = none
  isinstance : mg "isinstance" = none
  bool : mg "bool" = none
  set : mg "set" = none
  sum : mg "sum" = none
  min : mg "min" = none
  max : mg "max" = none
  dict : mg "dict" = none
  reversed : mg "reversed" = none
  all : mg "all" = none
  any : mg "any" = none
  int : mg "int" = none
  str : mg "str" = none
  zip : mg "zip" = none
def books : List Str := ["atlas", "bible", "comics", "diary", "essays", "fables", "guide"]
theorem books_nd : books.Nodup := by decide +kernel
theorem books_ok : ∀ b ∈ books, PyData.strOk b = true := by decide +kernel
structure IsPile (bs : List Str) : Prop where
  nd : bs.Nodup
  pos : 0 < bs.length
  most : bs.length ≤ 7
  ok : ∀ b ∈ bs, b ∈ books
abbrev natV (k : Nat) : V := .int (k : Int)
def spOrder : Sp := fun vs H Q _ => ∃ (T S : Addr) (ns : List Int) (n : Nat), vs = [.ref T, .int n] ∧ Tape H T S ns ∧ n ≤ 1000 ∧
  ∀ (p : Addr) (H' : Hp) (qs : List Nat), SameT T H H' → Tape H' T S ns → H p = none → H' p = some (.tup (qs.map natV)) → qs.Perm (List.range n) → Q (.ref p) H'
def spBooks : Sp := fun vs H Q _ => vs = [] ∧ ∀ p, H p = none → Q (.ref p) (upd H p (.lst (books.map V.str)))
def pick (bs : List Str) (qs : List Nat) : List Str := qs.map fun k => (bs[k]?).getD Str.empty
theorem pick_range (bs : List Str) : pick bs (List.range bs.length) = bs := by
  apply List.ext_getElem?
  intro i
  unfold pick
  rw [List.getElem?_map]
  by_cases h : i < bs.length
  · rw [List.getElem?_range h, List.getElem?_eq_getElem h]
    show some ((bs[i]?).getD Str.empty) = some bs[i]
    rw [List.getElem?_eq_getElem h]
    rfl
  · rw [List.getElem?_eq_none (by rw [List.length_range]; omega), List.getElem?_eq_none (by omega)]
    rfl
theorem pick_perm {bs : List Str} {qs : List Nat} (h : qs.Perm (List.range bs.length)) : (pick bs qs).Perm bs := by
  have q := h.map fun k => (bs[k]?).getD Str.empty
  have e : (List.range bs.length).map (fun k => (bs[k]?).getD Str.empty) = bs := pick_range bs
  rw [e] at q
  exact q
theorem pile_of {n : Nat} {qs : List Nat} (h0 : 0 < n) (h7 : n ≤ 7) (h : qs.Perm (List.range n)) : IsPile (pick (books.take n) qs) := by
  have hl : (books.take n).length = n := by
    rw [List.length_take]
    show min n 7 = n
    omega
  have p : (pick (books.take n) qs).Perm (books.take n) := pick_perm (by rw [hl]; exact h)
  refine ⟨p.nodup_iff.mpr (books_nd.sublist (List.take_sublist _ _)), ?_, ?_, fun b hb => List.mem_of_mem_take (p.mem_iff.mp hb)⟩
  · rw [p.length_eq, hl]
    exact h0
  · rw [p.length_eq, hl]
    exact h7
def spPile : Sp := fun vs H Q _ => ∃ (T S : Addr) (ns : List Int) (m : Int), vs = [.ref T, .int m] ∧ Tape H T S ns ∧ 0 < m ∧ m ≤ 7 ∧
  ∀ (p : Addr) (H' : Hp) (bs : List Str), SameT T H H' → Tape H' T S ns → H p = none → TpO H' p (bs.map V.str) → IsPile bs → (bs.length : Int) ≤ m → Q (.ref p) H'
def spReadings : Sp := fun vs H Q _ => ∃ (T S p : Addr) (ns : List Int) (bs : List Str) (m : Int), vs = [.ref T, .ref p, .int m] ∧ Tape H T S ns ∧ TpO H p (bs.map V.str) ∧ 0 < bs.length ∧ bs.length ≤ 7 ∧ 0 ≤ m ∧ m ≤ 60 ∧
  ∀ (l : Addr) (H' : Hp) (rs : List Str), SameT T H H' → Tape H' T S ns → H l = none → H' l = some (.lst (rs.map V.str)) → (rs.length : Int) ≤ m → (∀ b ∈ rs, b ∈ bs) → Q (.ref l) H'
theorem lay_map (bs : List Str) (b : Str) : (lay bs b).map V.str = [V.str b] ++ ((bs.take (bs.idxOf b)).map V.str ++ (bs.drop (bs.idxOf b + 1)).map V.str) := by
  unfold lay
  rw [List.map_cons, List.eraseIdx_eq_take_drop_succ, List.map_append]
  rfl
def spLaid : Sp := fun vs H Q _ => ∃ (p : Addr) (bs : List Str) (b : Str), vs = [.ref p, .str b] ∧ TpO H p (bs.map V.str) ∧ b ∈ bs ∧ bs.length ≤ 1000 ∧
  ∀ (q : Addr) (H' : Hp), Same H H' → TpO H' q ((lay bs b).map V.str) → Q (.ref q) H'
def spAbove : Sp := fun vs H Q _ => ∃ (p : Addr) (bs : List Str) (b : Str), vs = [.ref p, .str b] ∧ TpO H p (bs.map V.str) ∧ b ∈ bs ∧
  ∀ (q : Addr) (H' : Hp), Same H H' → H' q = some (.tup ((over bs b).map V.str)) → Q (.ref q) H'
def spAsPair : Sp := fun vs H Q _ => ∃ a b : Str, vs = [.str a, .str b] ∧ ∀ q : Addr, H q = none → Q (.ref q) (upd H q (.tup [.str (asPair (a, b)).1, .str (asPair (a, b)).2]))
def spBehind : Sp := fun vs H Q _ => ∃ (p r : Addr) (bs rs : List Str), vs = [.ref p, .ref r] ∧ TpO H p (bs.map V.str) ∧ H r = some (.lst (rs.map V.str)) ∧ bs.length ≤ 1000 ∧ (∀ b ∈ rs, b ∈ bs) ∧
  ∀ (q : Addr) (H' : Hp), Same H H' → TpO H' q ((behindM bs rs).map V.str) → Q (.ref q) H'
theorem take_step {rs : List Str} {i : Nat} {b : Str} (h : rs[i]? = some b) : rs.take (i + 1) = rs.take i ++ [b] := by
  rw [List.take_add_one, h]
  rfl
theorem take_sub {bs rs : List Str} (h : ∀ b ∈ rs, b ∈ bs) (i : Nat) : ∀ b ∈ rs.take i, b ∈ bs := fun b hb => h b (List.mem_of_mem_take hb)
theorem strs_get {rs : List Str} {i : Nat} {x : V} (h : (rs.map V.str)[i]? = some x) : ∃ b, rs[i]? = some b ∧ x = .str b := by
  rw [List.getElem?_map] at h
  cases e : rs[i]? with
  | none =>
    rw [e] at h
    cases h
  | some b =>
    rw [e] at h
    cases h
    exact ⟨b, rfl, rfl⟩
def spLifted : Sp := fun vs H Q _ => ∃ (p r : Addr) (bs rs : List Str), vs = [.ref p, .ref r] ∧ TpO H p (bs.map V.str) ∧ H r = some (.lst (rs.map V.str)) ∧ bs.length ≤ 1000 ∧ rs.length ≤ 1000 ∧ (∀ b ∈ rs, b ∈ bs) ∧
  ∀ (l : Addr) (H' : Hp), Same H H' → H l = none → H' l = some (.lst ((liftedM bs rs).map natV)) → Q (.ref l) H'
theorem liftedM_len (bs : List Str) : ∀ rs : List Str, (liftedM bs rs).length = rs.length := by
  intro rs
  induction rs generalizing bs with
  | nil => rfl
  | cons x r ih => exact congrArg (· + 1) (ih (lay bs x))
def KeepT (H H' : Hp) : Prop := ∀ b xs, H b = some (.tup xs) → H' b = some (.tup xs)
theorem KeepT.of {H H' : Hp} (s : Same H H') : KeepT H H' := fun b xs h => s _ _ h
theorem KeepT.put {H : Hp} {D : Addr} {o : HO} {u : HO} (h : H D = some u) (n : ∀ xs, u ≠ .tup xs) : KeepT H (upd H D o) := fun b xs q => by
  rw [upd_ne (ne_of q h fun z => n xs z.symm)]
  exact q
theorem KeepT.trans {H H1 H2 : Hp} (a : KeepT H H1) (b : KeepT H1 H2) : KeepT H H2 := fun c xs h => b c xs (a c xs h)
def PairsL (H : Hp) (ts : List Addr) (ps : List (Str × Str)) : Prop := ts.length = ps.length ∧ ∀ (i : Nat) (t : Addr) (q : Str × Str), ts[i]? = some t → ps[i]? = some q → H t = some (.tup [.str q.1, .str q.2])
theorem PairsL.nil (H : Hp) : PairsL H [] [] := ⟨rfl, fun i t q h => by simp at h⟩
theorem PairsL.move {H H' : Hp} {ts : List Addr} {ps : List (Str × Str)} (h : PairsL H ts ps) (k : KeepT H H') : PairsL H' ts ps := ⟨h.1, fun i t q a b => k _ _ (h.2 i t q a b)⟩
theorem PairsL.snoc {H : Hp} {ts : List Addr} {ps : List (Str × Str)} {t : Addr} {q : Str × Str} (h : PairsL H ts ps) (ht : H t = some (.tup [.str q.1, .str q.2])) : PairsL H (ts ++ [t]) (ps ++ [q]) := by
  refine ⟨by rw [List.length_append, List.length_append, h.1]; rfl, fun i t' q' a b => ?_⟩
  by_cases hi : i < ts.length
  · rw [List.getElem?_append_left hi] at a
    rw [List.getElem?_append_left (by rw [← h.1]; exact hi)] at b
    exact h.2 i t' q' a b
  · rw [List.getElem?_append_right (by omega)] at a
    rw [List.getElem?_append_right (by rw [← h.1]; omega), ← h.1] at b
    by_cases hz : i - ts.length = 0
    · rw [hz] at a b
      cases a
      cases b
      exact ht
    · rw [List.getElem?_eq_none (by rw [List.length_singleton]; omega)] at a
      cases a
abbrev sPairsData (ps : List (Str × Str)) : List PyData := ps.map fun q => .tuple [.str q.1, .str q.2]
theorem PairsL.dp {K : PySem.W.Frag} {H : Hp} : ∀ {ts : List Addr} {ps : List (Str × Str)}, PairsL H ts ps → DpAll K H (ts.map V.ref) (sPairsData ps)
  | [], [], _ => .nil
  | [], q :: r, h => by cases h.1
  | t :: ts, [], h => by cases h.1
  | t :: ts, q :: r, h => by
    refine .cons (.tup (sqt (h.2 0 t q rfl rfl)) (.cons (.str _) (.cons (.str _) .nil))) (PairsL.dp ⟨by simpa using h.1, fun i t' q' a b => h.2 (i + 1) t' q' a b⟩)
def spPairs (K : PySem.W.Frag) : Sp := fun vs H Q _ => ∃ (p : Addr) (bs : List Str), vs = [.ref p] ∧ SqT K H p (bs.map V.str) ∧ bs.length ≤ 20 ∧
  ∀ (l : Addr) (H' : Hp) (ys : List Str) (ts : List Addr), Same H H' → ys.Perm bs → sortedS ys = true → H l = none → H' l = some (.lst (ts.map V.ref)) → PairsL H' ts (prs ys ys.length) → Q (.ref l) H'
def key (q : Str × Str) : List Key := [Sum.inr q.1, Sum.inr q.2]
theorem key_inj {q r : Str × Str} (h : key q = key r) : q = r := by
  unfold key at h
  injection h with h1 h2
  injection h2 with h2 _
  injection h1 with h1
  injection h2 with h2
  exact Prod.ext h1 h2
theorem key_map (q : Str × Str) : (key q).map kV = [V.str q.1, V.str q.2] := rfl
def Counts (kvs : List (List Key × V)) (ps : List (Str × Str)) (rows : List (Str × Str)) : Prop := ∀ q ∈ ps, valV kvs (key q) = some (natV (cnt rows q))
theorem Counts.more {kvs : List (List Key × V)} {ps rows : List (Str × Str)} (h : Counts kvs ps rows) {r : Str × Str} (hr : asPair r ∈ ps) :
    Counts (putK kvs (key (asPair r)) (.int ((cnt rows (asPair r) : Int) + 1))) ps (rows ++ [r]) := fun q hq => by
  rw [valV_put, cnt_snoc]
  by_cases e : asPair r = q
  · subst e
    rw [if_pos rfl, if_pos rfl]
    rfl
  · rw [if_neg (fun z => e (key_inj z).symm), if_neg e, Nat.add_zero]
    exact h q hq
abbrev tri (rows : List (Str × Str)) (q : Str × Str) : PyData := .tuple [.str q.1, .str q.2, .int (cnt rows q : Nat)]
def TriL (rows : List (Str × Str)) (H : Hp) (ts : List Addr) (ps : List (Str × Str)) : Prop := ts.length = ps.length ∧
  ∀ (i : Nat) (t : Addr) (q : Str × Str), ts[i]? = some t → ps[i]? = some q → H t = some (.tup [.str q.1, .str q.2, natV (cnt rows q)])
theorem TriL.move {rows : List (Str × Str)} {H H' : Hp} {ts : List Addr} {ps : List (Str × Str)} (h : TriL rows H ts ps) (k : KeepT H H') : TriL rows H' ts ps := ⟨h.1, fun i t q a b => k _ _ (h.2 i t q a b)⟩
theorem TriL.snoc {rows : List (Str × Str)} {H : Hp} {ts : List Addr} {ps : List (Str × Str)} {t : Addr} {q : Str × Str} (h : TriL rows H ts ps) (ht : H t = some (.tup [.str q.1, .str q.2, natV (cnt rows q)])) : TriL rows H (ts ++ [t]) (ps ++ [q]) := by
  refine ⟨by rw [List.length_append, List.length_append, h.1]; rfl, fun i t' q' a b => ?_⟩
  by_cases hi : i < ts.length
  · rw [List.getElem?_append_left hi] at a
    rw [List.getElem?_append_left (by rw [← h.1]; exact hi)] at b
    exact h.2 i t' q' a b
  · rw [List.getElem?_append_right (by omega)] at a
    rw [List.getElem?_append_right (by rw [← h.1]; omega), ← h.1] at b
    by_cases hz : i - ts.length = 0
    · rw [hz] at a b
      cases a
      cases b
      exact ht
    · rw [List.getElem?_eq_none (by rw [List.length_singleton]; omega)] at a
      cases a
theorem TriL.dp {rows : List (Str × Str)} {K : PySem.W.Frag} {H : Hp} : ∀ {ts : List Addr} {ps : List (Str × Str)}, TriL rows H ts ps → DpAll K H (ts.map V.ref) (ps.map (tri rows))
  | [], [], _ => .nil
  | [], q :: r, h => by cases h.1
  | t :: ts, [], h => by cases h.1
  | t :: ts, q :: r, h =>
    .cons (.tup (sqt (h.2 0 t q rfl rfl)) (.cons (.str _) (.cons (.str _) (.cons (.int _) .nil)))) (TriL.dp ⟨by simpa using h.1, fun i t' q' a b => h.2 (i + 1) t' q' a b⟩)
theorem rowsM_len : ∀ {bs : List Str} (rs : List Str), (∀ b ∈ rs, b ∈ bs) → (rowsM bs rs).length ≤ rs.length * bs.length
  | bs, [], _ => Nat.zero_le _
  | bs, b :: r, h => by
    have p := lay_perm (h b (List.mem_cons_self ..))
    have ih := rowsM_len (bs := lay bs b) r fun c hc => p.mem_iff.mpr (h c (List.mem_cons_of_mem _ hc))
    rw [p.length_eq] at ih
    show ((over bs b).map (fun o => (b, o)) ++ rowsM (lay bs b) r).length ≤ (r.length + 1) * bs.length
    rw [List.length_append, List.length_map, Nat.succ_mul]
    have z : (over bs b).length ≤ bs.length := by
      unfold over
      rw [List.length_take]
      omega
    omega
def spPassings (K : PySem.W.Frag) : Sp := fun vs H Q _ => ∃ (p r : Addr) (bs rs : List Str), vs = [.ref p, .ref r] ∧ TpO H p (bs.map V.str) ∧ H r = some (.lst (rs.map V.str)) ∧ bs.length ≤ 7 ∧ rs.length ≤ 60 ∧ (∀ b ∈ rs, b ∈ bs) ∧
  ∀ (l : Addr) (H' : Hp) (ys : List Str) (xs : List V), Same H H' → H l = none → ys.Perm bs → sortedS ys = true → H' l = some (.lst xs) → DpAll K H' xs ((prs ys ys.length).map (tri (rowsM bs rs))) → Q (.ref l) H'
def spRead : Sp := fun vs H Q _ => ∃ (p r : Addr) (bs rs : List Str), vs = [.ref p, .ref r] ∧ TpO H p (bs.map V.str) ∧ H r = some (.lst (rs.map V.str)) ∧ bs.length ≤ 7 ∧ rs.length ≤ 60 ∧ (∀ b ∈ rs, b ∈ bs) ∧
  ∀ (t a n o : Addr) (H' : Hp) (ts : List Addr), Same H H' → H' t = some (.tup [.ref a, .ref n, .ref o]) → H' a = some (.tup ((behindM bs rs).map V.str)) → H' n = some (.lst ((liftedM bs rs).map natV)) →
    H' o = some (.lst (ts.map V.ref)) → PairsL H' ts (rowsM bs rs) → Q (.ref t) H'
theorem flat_map (ss : List Str) : (ss.map V.str).all flatV = true := flat_strs ss
theorem eqv_two (a b c d : Str) : PyData.eqv (.list [.str a, .str b]) (.list [.str c, .str d]) = decide ((a, b) = (c, d)) := by
  simp only [PyData.eqv, PyData.eqvAll, Bool.and_true]
  by_cases h1 : a = c
  · by_cases h2 : b = d
    · subst h1 h2
      simp
    · have z : (b == d) = false := beq_eq_false_iff_ne.mpr h2
      rw [z, Bool.and_false]
      exact (decide_eq_false fun e => h2 (Prod.mk.inj e).2).symm
  · have z : (a == c) = false := beq_eq_false_iff_ne.mpr h1
    rw [z, Bool.false_and]
    exact (decide_eq_false fun e => h1 (Prod.mk.inj e).1).symm
theorem shaped_two {a b : Str} (ha : PyData.strOk a = true) (hb : PyData.strOk b = true) : SeqAt.shaped (.list [.str a, .str b]) = true :=
  shaped_of (by simp [PyData.canLay0, PyData.canLayAll0, ha, hb]) (by simp [PyData.depth, PyData.depthAll])
def spTwo (K : PySem.W.Frag) : Sp := fun vs H Q _ => ∃ (p r : Addr) (bs : List Str) (ts : List Addr) (rows : List (Str × Str)), vs = [.ref p, .ref r] ∧ SqT K H p (bs.map V.str) ∧ bs.length ≤ 7 ∧ (∀ b ∈ bs, PyData.strOk b = true) ∧
  H r = some (.lst (ts.map V.ref)) ∧ PairsL H ts rows ∧ rows.length ≤ 900 ∧ (∀ z ∈ rows, PyData.strOk z.1 = true ∧ PyData.strOk z.2 = true) ∧
  ∀ (l : Addr) (H' : Hp) (ys : List Str) (xs : List V), Same H H' → H l = none → ys.Perm bs → sortedS ys = true → H' l = some (.lst xs) → DpAll K H' xs ((prs ys ys.length).map (tri rows)) → Q (.ref l) H'
def kindName : PyData → String
  | .none => "NoneType"
  | .bool _ => "bool"
  | .int _ => "int"
  | .str _ => "str"
  | .list _ => "list"
  | .tuple _ => "tuple"
  | .dict _ => "dict"
theorem ty_dp {H : Hp} {v : V} {d : PyData} (h : Dp K H v d) : TyX K H v (.type (kindName d)) := by
  cases h with
  | non => exact .base .non
  | bl b => exact .base (.bl b)
  | int i => exact .base (.int i)
  | str x => exact .base (.str x)
  | lst h a =>
    rcases h with (h | ⟨o, h⟩) | ⟨o, its, n, h, hc, _⟩
    · exact .base (.lst h)
    · exact .base (.frz h)
    · exact .kList h hc
  | tup h a =>
    rcases h with (h | ⟨o, h⟩) | ⟨o, its, n, h, hc, _⟩
    · exact .base (.tup h)
    · exact .fTuple h
    · exact .kTuple h hc
def Fine : Nat → PyData → Prop
  | _, .none => True
  | _, .bool _ => True
  | _, .int _ => True
  | _, .str x => PyData.strOk x = true
  | 0, .list _ => False
  | 0, .tuple _ => False
  | n + 1, .list ds => ds.length ≤ 1000 ∧ ∀ d ∈ ds, Fine n d
  | n + 1, .tuple ds => ds.length ≤ 1000 ∧ ∀ d ∈ ds, Fine n d
  | _, .dict _ => False
theorem kit_yes {K : PySem.W.Frag} {a : String} {cs : List Value} {b : String} (h : kitB a b = some true) : PySem.W.kitAny K (.type a) (.type b :: cs) = some true :=
  kitAny_cons (kit_ty h) (fun z => nomatch z) fun _ => rfl
theorem kit_no {K : PySem.W.Frag} {a : String} {cs : List Value} {b : String} {r : Bool} (h : kitB a b = some false) (t : PySem.W.kitAny K (.type a) cs = some r) : PySem.W.kitAny K (.type a) (.type b :: cs) = some r :=
  kitAny_cons (kit_ty h) (fun _ => t) fun z => nomatch z
theorem ixS (e : X.K = K) : IxR X (rIx K) := by
  subst e
  exact ix_seq
def spLike (K : PySem.W.Frag) (n : Nat) : Sp := fun vs H Q _ => ∃ (v1 v2 : V) (d : PyData) (m : Nat), n = m + 1 ∧ vs = [v1, v2] ∧ Dp K H v1 d ∧ Dp K H v2 d ∧ Fine m d ∧ ∀ H', Same H H' → Q (.bl true) H'
theorem fine_strs {ss : List Str} (hl : ss.length ≤ 1000) (ok : ∀ b ∈ ss, PyData.strOk b = true) (n : Nat) : Fine (n + 1) (.tuple (ss.map PyData.str)) := by
  refine ⟨by rw [List.length_map]; exact hl, fun d hd => ?_⟩
  obtain ⟨b, hb, rfl⟩ := List.mem_map.mp hd
  cases n <;> exact ok b hb
theorem fine_nats {ns : List Nat} (hl : ns.length ≤ 1000) (n : Nat) : Fine (n + 1) (.list ((ns.map fun k : Nat => (k : Int)).map PyData.int)) := by
  refine ⟨by rw [List.length_map, List.length_map]; exact hl, fun d hd => ?_⟩
  obtain ⟨b, hb, rfl⟩ := List.mem_map.mp hd
  cases n <;> exact True.intro
theorem natV_map (ns : List Nat) : ns.map natV = (ns.map fun k : Nat => (k : Int)).map V.int := by
  rw [List.map_map]
  rfl
theorem prs_sub {ys : List Str} : ∀ {n : Nat} {q : Str × Str}, q ∈ prs ys n → q.1 ∈ ys ∧ q.2 ∈ ys
  | 0, q, h => by cases h
  | n + 1, q, h => by
    cases e : ys[n]? with
    | none =>
      have e2 : prs ys (n + 1) = prs ys n ++ (match ys[n]? with | some a => (ys.drop (n + 1)).map fun b => (a, b) | none => []) := rfl
      rw [e2, e, List.append_nil] at h
      exact prs_sub h
    | some a =>
      rw [prs_succ e] at h
      rcases List.mem_append.mp h with h | h
      · exact prs_sub h
      · obtain ⟨b, hb, rfl⟩ := List.mem_map.mp h
        exact ⟨List.mem_of_getElem? e, List.mem_of_mem_drop hb⟩
theorem fine_tri {ys : List Str} {rows : List (Str × Str)} (hl : ys.length ≤ 7) (ok : ∀ b ∈ ys, PyData.strOk b = true) (n : Nat) : Fine (n + 2) (.list ((prs ys ys.length).map (tri rows))) := by
  have lp : (prs ys ys.length).length ≤ 49 := by
    have z := prs_len ys ys.length
    have z2 : ys.length * ys.length ≤ 7 * 7 := Nat.mul_le_mul hl hl
    omega
  refine ⟨by rw [List.length_map]; omega, fun d hd => ?_⟩
  obtain ⟨q, hq, rfl⟩ := List.mem_map.mp hd
  have z := prs_sub hq
  refine ⟨by show 3 ≤ 1000; decide, fun d hd => ?_⟩
  simp only [List.mem_cons, List.not_mem_nil, or_false] at hd
  rcases hd with rfl | rfl | rfl
  · cases n <;> exact ok _ z.1
  · cases n <;> exact ok _ z.2
  · cases n <;> exact True.intro
theorem fine_can : ∀ (n : Nat) (d : PyData), Fine n d → d.canLay0 = true ∧ d.depth ≤ n
  | n, .none, _ => ⟨by simp [PyData.canLay0], by simp [PyData.depth]⟩
  | n, .bool _, _ => ⟨by simp [PyData.canLay0], by simp [PyData.depth]⟩
  | n, .int _, _ => ⟨by simp [PyData.canLay0], by simp [PyData.depth]⟩
  | n, .str x, h => by
    have h' : PyData.strOk x = true := by cases n <;> exact h
    exact ⟨by simp [PyData.canLay0, h'], by simp [PyData.depth]⟩
  | 0, .list _, h => h.elim
  | 0, .tuple _, h => h.elim
  | n + 1, .list ds, h => by
    have a := fun d hd => fine_can n d (h.2 d hd)
    refine ⟨by rw [PyData.canLay0]; exact canAll ds fun d hd => (a d hd).1, ?_⟩
    rw [PyData.depth]
    exact Nat.succ_le_succ (depthAll_le ds fun d hd => (a d hd).2)
  | n + 1, .tuple ds, h => by
    have a := fun d hd => fine_can n d (h.2 d hd)
    refine ⟨by rw [PyData.canLay0]; exact canAll ds fun d hd => (a d hd).1, ?_⟩
    rw [PyData.depth]
    exact Nat.succ_le_succ (depthAll_le ds fun d hd => (a d hd).2)
  | n, .dict _, h => by cases n <;> exact h.elim
theorem fine_shaped {n : Nat} {d : PyData} (h : Fine n d) (hn : n ≤ 64) : SeqAt.shaped d = true := shaped_of (fine_can n d h).1 (Nat.le_trans (fine_can n d h).2 hn)
theorem fine_eqv {n : Nat} {d : PyData} (h : Fine n d) : PyData.eqv d d = true := PySem.SeqAt.eqv_refl d (fine_can n d h).1
theorem rowsM_sub : ∀ {bs : List Str} (rs : List Str), (∀ b ∈ rs, b ∈ bs) → ∀ z ∈ rowsM bs rs, z.1 ∈ bs ∧ z.2 ∈ bs
  | bs, [], _, z, hz => by cases hz
  | bs, b :: r, h, z, hz => by
    have hb := h b (List.mem_cons_self ..)
    have p := lay_perm hb
    rcases List.mem_append.mp (show z ∈ (over bs b).map (fun o => (b, o)) ++ rowsM (lay bs b) r from hz) with hz | hz
    · obtain ⟨o, ho, rfl⟩ := List.mem_map.mp hz
      exact ⟨hb, over_mem ho⟩
    · have q := rowsM_sub (bs := lay bs b) r (fun c hc => p.mem_iff.mpr (h c (List.mem_cons_of_mem _ hc))) z hz
      exact ⟨p.mem_iff.mp q.1, p.mem_iff.mp q.2⟩
def spLaw (K : PySem.W.Frag) : Sp := fun vs H Q _ => ∃ (a : Addr) (ns : List Int), vs = [.ref a] ∧ SqL K H a (ns.map V.int) ∧ ns.length ≤ 63 ∧ ∀ H', Q (.bl true) H'
end
end Lt

set_option Elab.async false
set_option linter.all false
set_option maxRecDepth 100000
set_option maxHeartbeats 4000000
namespace Lt
open PySem PySem.Spec PyProof.Rows L2
/-! rows of texts compared, asked, cut -/
theorem eqvAll_strs : ∀ xs ys : List Str, PyData.eqvAll (xs.map PyData.str) (ys.map PyData.str) = decide (xs = ys)
  | [], [] => rfl
  | [], y :: r => rfl
  | x :: r, [] => rfl
  | x :: r, y :: t => by
    show ((x == y) && PyData.eqvAll (r.map PyData.str) (t.map PyData.str)) = _
    rw [eqvAll_strs r t]
    by_cases c : x = y
    · subst c
      rw [beq_self_eq_true, Bool.true_and, decide_eq_decide]
      exact ⟨fun h => by rw [h], fun h => (List.cons.inj h).2⟩
    · rw [beq_eq_false_iff_ne.mpr c, Bool.false_and]
      exact (decide_eq_false fun h => c (List.cons.inj h).1).symm
theorem eqvL_strs (xs ys : List Str) : PyData.eqv (.list (xs.map PyData.str)) (.list (ys.map PyData.str)) = decide (xs = ys) := by
  rw [← eqvAll_strs]
  simp only [PyData.eqv]
theorem eqvT_strs (xs ys : List Str) : PyData.eqv (.tuple (xs.map PyData.str)) (.tuple (ys.map PyData.str)) = decide (xs = ys) := by
  rw [← eqvAll_strs]
  simp only [PyData.eqv]
theorem inV_strs (b : Str) (l : List Str) : inV (.str b) (l.map V.str) = decide (b ∈ l) := by
  unfold inV
  induction l with
  | nil => rfl
  | cons x r ih =>
    rw [List.map_cons, List.any_cons, ih]
    show ((x == b) || decide (b ∈ r)) = decide (b ∈ x :: r)
    by_cases e : x = b
    · subst e
      simp
    · have z : (x == b) = false := beq_eq_false_iff_ne.mpr e
      rw [z, Bool.false_or]
      by_cases c : b ∈ r
      · simp [c]
      · simp [c, Ne.symm e]
theorem oIn {X : Cx} {K : PySem.W.Frag} (e : X.K = K) : OpR X (compareOp .In) (rIn K false) := by
  subst e
  exact op_in_seq
theorem cut_all {xs : List V} {lo hi : Option Int} (h : HT.sIx xs.length 0 lo = 0 ∧ HT.sIx xs.length xs.length hi = xs.length) : cutV xs lo hi = xs := by
  unfold cutV
  rw [h.1, h.2, List.drop_zero, Nat.sub_zero, List.take_length]
/-- a tuple's slice: some tuple of the cut -/
theorem sl_of {K : PySem.W.Frag} {H : Hp} {a : Addr} {xs ys : List V} {lo hi : Option Int} {Q : VK} (sq : SqT K H a xs) (e : cutV xs lo hi = ys) (h : ∀ (b : Addr) (H2 : Hp), Same H H2 → SqT K H2 b ys → Q (.ref b) H2) : rSlA K (.ref a) lo hi H Q := by
  refine ⟨a, xs, rfl, sq, fun z => ?_, fun _ p hp => ?_⟩
  · rw [cut_all z] at e
    subst e
    exact h a H (fun _ _ h => h) sq
  · rw [e]
    exact h p _ (same_new hp _) (sqt upd_same)
theorem sl_lo {K : PySem.W.Frag} {σ : L2.St} {H : Hp} {a : Addr} {xs ys : List V} {lo : Option Int} {Q : VK} (sq : SqT K H a xs) (e : cutV xs lo none = ys) (h : ∀ (b : Addr) (H2 : Hp), Same H H2 → SqT K H2 b ys → Q (.ref b) H2) :
    tNoPart σ H fun u H3 => rSlA K (.ref a) lo u H3 Q := sl_of (lo := lo) (hi := none) sq e h
theorem filt_y {α : Type} {p : α → Bool} {b : α} (c : p b = true) : [b].filter p = [b] := by
  rw [List.filter_cons_of_pos c, List.filter_nil]
theorem filt_n {α : Type} {p : α → Bool} {b : α} (c : ¬ p b = true) : [b].filter p = [] := by
  rw [List.filter_cons_of_neg c, List.filter_nil]
/-- an expression with a word behind it: what follows is shown once -/
def tMid (te : TE) : TE := fun σ H Q => ∃ Mid : V → Hp → Prop, te σ H Mid ∧ ∀ v H', Mid v H' → Q v H'
theorem pe_mid {X : Cx} {e : Expr} {te : TE} (h : PE X e te) : PE X e (tMid te) :=
  ⟨fun pins s σ H Q I ⟨Mid, h1, h2⟩ => thn (h.run pins s σ H Mid I h1) fun v s1 ⟨x, H1, I1, r1, q1⟩ => ⟨x, H1, I1, r1, h2 _ _ q1⟩⟩
/-! a reading's first step, by its name -/
theorem un_seq {t u : TS} {D : Ends} {σ : L2.St} {H : Hp} (h : t { D with nx := u D } σ H) : tSeq t u D σ H := h
theorem un_if {r : R2} {a b : TE} {t u : TS} {D : Ends} {σ : L2.St} {H : Hp} (h : a σ H fun x H1 => b σ H1 fun y H2 => r x y H2 fun v H3 => ∃ k, v = .bl k ∧ if k = true then t D σ H3 else u D σ H3) : tIfS (tTest (tOp r a b)) t u D σ H := h
theorem un_asg {te : TE} {g : TG} {D : Ends} {σ : L2.St} {H : Hp} (h : te σ H fun x H1 => g x σ H1 D.nx) : tAsg te g D σ H := h
theorem un_for {wi : TI} {g : TG} {tb : TS} {D : Ends} {σ : L2.St} {H : Hp} (h : wi σ H fun J H1 => ∃ W : Nat → Nat → L2.St → Hp → Prop, (∃ m, W 0 m σ H1) ∧ ∀ i m σ H, W i m σ H →
  (J.stop i H ∧ D.nx σ H) ∨ (J.go i H ∧ ∃ N : L2.St → Hp → Prop, (∀ σ' H', N σ' H' → ∃ m', m' < m ∧ W (i + 1) m' σ' H') ∧ ∀ x H', J.yld i H x H' → g x σ H' fun σ2 H2 => tb { D with nx := N, ct := N, bk := D.nx } σ2 H2)) : tFor wi g tb D σ H := h
theorem cut_low {xs : List V} {j : Nat} {z : Int} (e : z = (j : Int)) (h : j ≤ xs.length) : cutV xs (some z) none = xs.drop j := by
  rw [e]
  exact cut_from h
theorem cut_high {xs : List V} {j : Nat} {z : Int} (e : z = (j : Int)) (h : j ≤ xs.length) : cutV xs none (some z) = xs.take j := by
  rw [e]
  exact cut_to h
end Lt

set_option Elab.async false
set_option linter.all false
set_option maxRecDepth 100000
set_option maxHeartbeats 4000000
namespace Lt
open PySem PySem.Spec PyProof.Rows L2
/-! ### neighbours that differ -/
def adj : List Str → Nat
  | [] => 0
  | [_] => 0
  | x :: y :: r => (if x = y then 0 else 1) + adj (y :: r)
theorem adj_append : ∀ (l : List Str) (x : Str) (r : List Str), adj (l ++ x :: r) = adj (l ++ [x]) + adj (x :: r)
  | [], x, r => by
    show adj (x :: r) = adj [x] + _
    exact (Nat.zero_add _).symm
  | [a], x, r => by
    show (if a = x then 0 else 1) + adj (x :: r) = ((if a = x then 0 else 1) + 0) + _
    rw [Nat.add_zero]
  | a :: b :: l, x, r => by
    show (if a = b then 0 else 1) + adj (b :: l ++ x :: r) = ((if a = b then 0 else 1) + adj (b :: l ++ [x])) + _
    rw [adj_append (b :: l) x r, Nat.add_assoc]
theorem adj_reverse : ∀ l : List Str, adj l.reverse = adj l
  | [] => rfl
  | [_] => rfl
  | x :: y :: r => by
    have e : (x :: y :: r).reverse = r.reverse ++ y :: [x] := by simp
    have e2 : (y :: r).reverse = r.reverse ++ [y] := by simp
    rw [e, adj_append, ← e2, adj_reverse (y :: r)]
    show _ + ((if y = x then 0 else 1) + 0) = (if x = y then 0 else 1) + _
    by_cases c : x = y
    · rw [if_pos c, if_pos c.symm]
      omega
    · rw [if_neg c, if_neg fun z => c z.symm]
      omega
/-- around: the last one ahead of the first -/
def cyc (l : List Str) : Nat := match l.getLast? with
  | none => 0
  | some z => adj (z :: l)
theorem cyc_snoc (l : List Str) (z : Str) : cyc (l ++ [z]) = adj (z :: (l ++ [z])) := by
  unfold cyc
  rw [List.getLast?_concat]
theorem snoc_of {l : List Str} (h : l ≠ []) : ∃ m z, l = m ++ [z] := ⟨l.dropLast, l.getLast h, (List.dropLast_concat_getLast h).symm⟩
theorem cyc_turn (u v : List Str) : cyc (u ++ v) = cyc (v ++ u) := by
  by_cases hu : u = []
  · rw [hu, List.append_nil]
    rfl
  by_cases hv : v = []
  · rw [hv, List.append_nil]
    rfl
  obtain ⟨u', p, rfl⟩ := snoc_of hu
  obtain ⟨v', q, rfl⟩ := snoc_of hv
  have e1 : (u' ++ [p]) ++ (v' ++ [q]) = (u' ++ [p] ++ v') ++ [q] := by simp
  have e2 : (v' ++ [q]) ++ (u' ++ [p]) = (v' ++ [q] ++ u') ++ [p] := by simp
  rw [e1, e2, cyc_snoc, cyc_snoc]
  have f1 : q :: (u' ++ [p] ++ v' ++ [q]) = (q :: u') ++ p :: (v' ++ [q]) := by simp
  have f2 : p :: (v' ++ [q] ++ u' ++ [p]) = (p :: v') ++ q :: (u' ++ [p]) := by simp
  rw [f1, f2, adj_append (q :: u') p, adj_append (p :: v') q]
  show adj (q :: u' ++ [p]) + adj (p :: v' ++ [q]) = adj (p :: v' ++ [q]) + adj (q :: u' ++ [p])
  exact Nat.add_comm _ _
theorem cyc_back (l : List Str) : cyc l.reverse = cyc l := by
  cases l with
  | nil => rfl
  | cons a r =>
    obtain ⟨m, z, e⟩ := snoc_of (l := a :: r) (by simp)
    have e1 : (a :: r).reverse = r.reverse ++ [a] := by simp
    rw [e1, cyc_snoc]
    have e2 : cyc (a :: r) = adj (z :: a :: r) := by
      conv =>
        lhs
        rw [e, cyc_snoc, ← e]
    have e3 : (z :: a :: r).reverse = r.reverse ++ a :: [z] := by simp
    have e4 : a :: (r.reverse ++ [a]) = a :: (a :: r).reverse := by simp
    rw [e2, ← adj_reverse (z :: a :: r), e3, adj_append, e4]
    have e5 : (a :: r).reverse = z :: m.reverse := by rw [e]; simp
    have e6 : adj (r.reverse ++ [a]) = adj (z :: m.reverse) := by rw [← e5]; simp
    rw [e6, e5]
    show (if a = z then 0 else 1) + _ = _ + ((if a = z then 0 else 1) + 0)
    omega
/-! ### two books alone -/
theorem asPair_swap (a b : Str) : asPair (a, b) = asPair (b, a) := by
  unfold asPair
  by_cases c : ltS a b
  · rw [if_pos c, if_neg (ltS_asymm c)]
  · rw [if_neg c]
    by_cases d : ltS b a
    · rw [if_pos d]
    · rw [if_neg d, ltS_tri c d]
theorem asPair_eq {a b c d : Str} (h : asPair (a, b) = asPair (c, d)) : (a = c ∧ b = d) ∨ (a = d ∧ b = c) := by
  unfold asPair at h
  by_cases c1 : ltS a b
  · rw [if_pos c1] at h
    by_cases c2 : ltS c d
    · rw [if_pos c2] at h
      exact .inl ⟨(Prod.mk.inj h).1, (Prod.mk.inj h).2⟩
    · rw [if_neg c2] at h
      exact .inr ⟨(Prod.mk.inj h).1, (Prod.mk.inj h).2⟩
  · rw [if_neg c1] at h
    by_cases c2 : ltS c d
    · rw [if_pos c2] at h
      exact .inr ⟨(Prod.mk.inj h).2, (Prod.mk.inj h).1⟩
    · rw [if_neg c2] at h
      exact .inl ⟨(Prod.mk.inj h).2, (Prod.mk.inj h).1⟩
def two (x y : Str) (l : List Str) : List Str := l.filter fun z => decide (z = x ∨ z = y)
theorem two_append (x y : Str) (a b : List Str) : two x y (a ++ b) = two x y a ++ two x y b := List.filter_append ..
theorem two_in {x y b : Str} (h : b = x ∨ b = y) (r : List Str) : two x y (b :: r) = b :: two x y r := List.filter_cons_of_pos (by simpa using h)
theorem two_out {x y b : Str} (h : ¬ (b = x ∨ b = y)) (r : List Str) : two x y (b :: r) = two x y r := List.filter_cons_of_neg (by simpa using h)
theorem two_mem {x y z : Str} {l : List Str} : z ∈ two x y l ↔ z ∈ l ∧ (z = x ∨ z = y) := by
  unfold two
  rw [List.mem_filter, decide_eq_true_iff]
theorem cnt_append (a b : List (Str × Str)) (q : Str × Str) : cnt (a ++ b) q = cnt a q + cnt b q := by
  unfold cnt
  rw [List.filter_append, List.length_append]
theorem two_lay {bs : List Str} (nd : bs.Nodup) (x y b : Str) : two x y (lay bs b) = (if b = x ∨ b = y then [b] else []) ++ (two x y bs).filter fun z => decide (z ≠ b) := by
  rw [lay_filter nd]
  have e : two x y (bs.filter fun z => decide (z ≠ b)) = (two x y bs).filter fun z => decide (z ≠ b) := by
    unfold two
    rw [List.filter_filter, List.filter_filter]
    apply List.filter_congr
    intro z _
    exact Bool.and_comm _ _
  by_cases c : b = x ∨ b = y
  · rw [two_in c, if_pos c, e]
    rfl
  · rw [two_out c, if_neg c, e]
    rfl
/-- how often both are in a passing of b -/
theorem cnt_over {bs : List Str} {b t o : Str} (h : b = t) (ne : t ≠ o) : ∀ l : List Str, (cnt (l.map fun z => (b, z)) (asPair (t, o))) = (l.filter fun z => decide (z = o)).length := by
  subst h
  intro l
  unfold cnt
  rw [List.filter_map, List.length_map]
  congr 1
  apply List.filter_congr
  intro z _
  show decide (asPair (b, z) = asPair (b, o)) = decide (z = o)
  rw [decide_eq_decide]
  constructor
  · intro e
    rcases asPair_eq e with ⟨_, e⟩ | ⟨e, _⟩
    · exact e
    · exact absurd e ne
  · intro e
    rw [e]
theorem cnt_none {x y b : Str} (h : ¬ (b = x ∨ b = y)) : ∀ l : List Str, cnt (l.map fun z => (b, z)) (asPair (x, y)) = 0 := by
  intro l
  unfold cnt
  rw [List.length_eq_zero_iff, List.filter_eq_nil_iff]
  intro r hr
  obtain ⟨z, _, rfl⟩ := List.mem_map.mp hr
  intro e
  rcases asPair_eq (of_decide_eq_true e) with ⟨e, _⟩ | ⟨e, _⟩
  · exact h (.inl e)
  · exact h (.inr e)
theorem filter_two {x y t : Str} (h : t = x ∨ t = y) (l : List Str) : (l.filter fun z => decide (z = t)) = (two x y l).filter fun z => decide (z = t) := by
  unfold two
  rw [List.filter_filter]
  apply List.filter_congr
  intro z _
  by_cases c : z = t
  · rw [decide_eq_true c, c, decide_eq_true h]
    rfl
  · rw [decide_eq_false c]
    rfl
theorem cnt_two {x y : Str} (ne : x ≠ y) : ∀ (rs : List Str) {bs : List Str} {t o : Str}, bs.Nodup → two x y bs = [t, o] → (∀ b ∈ rs, b ∈ bs) → cnt (rowsM bs rs) (asPair (x, y)) = adj (t :: two x y rs)
  | [], bs, t, o, nd, e, h => rfl
  | b :: r, bs, t, o, nd, e, h => by
    have hb := h b List.mem_cons_self
    have p := lay_perm hb
    have nd2 : (lay bs b).Nodup := p.nodup_iff.mpr nd
    have h2 : ∀ c ∈ r, c ∈ lay bs b := fun c hc => p.mem_iff.mpr (h c (List.mem_cons_of_mem _ hc))
    have tm : t = x ∨ t = y := (two_mem.mp (by rw [e]; exact List.mem_cons_self)).2
    have om : o = x ∨ o = y := (two_mem.mp (by rw [e]; exact List.mem_cons_of_mem _ List.mem_cons_self)).2
    have nto : t ≠ o := by
      have z : (two x y bs).Nodup := nd.filter _
      rw [e] at z
      have z2 := (List.nodup_cons.mp z).1
      intro c
      exact z2 (by rw [c]; exact List.mem_cons_self)
    have ap : asPair (x, y) = asPair (t, o) := by
      rcases tm with rfl | rfl
      · rcases om with rfl | rfl
        · exact absurd rfl nto
        · rfl
      · rcases om with rfl | rfl
        · exact asPair_swap _ _
        · exact absurd rfl nto
    show cnt ((over bs b).map (fun z => (b, z)) ++ rowsM (lay bs b) r) (asPair (x, y)) = _
    rw [cnt_append]
    obtain ⟨es, nover⟩ := split_at hb
    have es2 : two x y (over bs b) ++ two x y (b :: bs.drop (bs.idxOf b + 1)) = [t, o] := by
      rw [← two_append, ← e]
      exact congrArg (two x y) es.symm
    have nov : b ∉ two x y (over bs b) := fun z => nover (two_mem.mp z).1
    by_cases c : b = x ∨ b = y
    · rw [two_in c] at es2 ⊢
      have bto : b = t ∨ b = o := by
        have z : b ∈ two x y bs := two_mem.mpr ⟨hb, c⟩
        rw [e] at z
        rcases List.mem_cons.mp z with z | z
        · exact .inl z
        · exact .inr (List.mem_singleton.mp z)
      rcases bto with rfl | rfl
      · have z0 : two x y (over bs b) = [] := by
          cases q : two x y (over bs b) with
          | nil => rfl
          | cons a l =>
            rw [q] at es2 nov
            have z := (List.cons.inj es2).1
            exact absurd (by rw [z]; exact List.mem_cons_self) nov
        have l2 : two x y (lay bs b) = [b, o] := by
          rw [two_lay nd, if_pos c, e, List.filter_cons_of_neg (by simp), List.filter_cons_of_pos (by simpa using nto.symm)]
          rfl
        rw [cnt_two ne r nd2 l2 h2, ap, cnt_over (bs := bs) rfl nto, filter_two om, z0]
        show 0 + _ = (if b = b then 0 else 1) + _
        rw [if_pos rfl]
      · have z0 : two x y (over bs b) = [t] := by
          cases q : two x y (over bs b) with
          | nil =>
            rw [q] at es2
            exact absurd (List.cons.inj es2).1.symm nto
          | cons a l =>
            rw [q] at es2 nov
            have z := List.cons.inj es2
            cases l with
            | nil => rw [z.1]
            | cons a2 l2 =>
              have z2 := (List.cons.inj z.2).1
              exact absurd (by rw [← z2]; exact List.mem_cons_of_mem _ List.mem_cons_self) nov
        have l2 : two x y (lay bs b) = [b, t] := by
          rw [two_lay nd, if_pos c, e, List.filter_cons_of_pos (by simpa using nto), List.filter_cons_of_neg (by simp)]
          rfl
        rw [cnt_two ne r nd2 l2 h2, ap, asPair_swap, cnt_over (bs := bs) rfl nto.symm, filter_two tm, z0, List.filter_cons_of_pos (by simp)]
        show 1 + _ = (if t = b then 0 else 1) + _
        rw [if_neg nto]
    · have l2 : two x y (lay bs b) = [t, o] := by
        rw [two_lay nd, if_neg c, e, List.filter_cons_of_pos (by simpa using fun z : t = b => c (z ▸ tm)), List.filter_cons_of_pos (by simpa using fun z : o = b => c (z ▸ om))]
        rfl
      rw [two_out c, cnt_two ne r nd2 l2 h2, cnt_none c, Nat.zero_add]
end Lt

set_option Elab.async false
set_option linter.all false
set_option maxRecDepth 100000
set_option maxHeartbeats 4000000
namespace Lt
open PySem PySem.Spec PyProof.Rows L2
/-! ### the rows of readings -/
theorem rows_in : ∀ {bs : List Str} (rs : List Str), (∀ b ∈ rs, b ∈ bs) → ∀ z ∈ rowsM bs rs, z.1 ∈ bs ∧ z.2 ∈ bs ∧ z.1 ≠ z.2
  | bs, [], _, z, hz => by cases hz
  | bs, b :: r, h, z, hz => by
    have hb := h b List.mem_cons_self
    have p := lay_perm hb
    have hz2 : z ∈ (over bs b).map (fun o => (b, o)) ++ rowsM (lay bs b) r := hz
    rcases List.mem_append.mp hz2 with hz | hz
    · obtain ⟨o, ho, rfl⟩ := List.mem_map.mp hz
      exact ⟨hb, over_mem ho, (over_ne ho).symm⟩
    · obtain ⟨q1, q2, q3⟩ := rows_in (bs := lay bs b) r (fun c hc => p.mem_iff.mpr (h c (List.mem_cons_of_mem _ hc))) z hz
      exact ⟨p.mem_iff.mp q1, p.mem_iff.mp q2, q3⟩
/-! ### which of both lies above -/
def lastOf (t : Str) : List Str → Str
  | [] => t
  | z :: r => lastOf z r
theorem lastOf_get : ∀ (l : List Str) (t : Str), l ≠ [] → l.getLast? = some (lastOf t l)
  | [z], t, _ => rfl
  | z :: y :: r, t, _ => by
    rw [List.getLast?_cons_cons]
    exact lastOf_get (y :: r) z (by simp)
theorem two_behind {x y : Str} : ∀ (rs : List Str) {bs : List Str} {t o : Str}, bs.Nodup → two x y bs = [t, o] → (∀ b ∈ rs, b ∈ bs) → ∃ o', two x y (behindM bs rs) = [lastOf t (two x y rs), o']
  | [], bs, t, o, nd, e, h => ⟨o, e⟩
  | b :: r, bs, t, o, nd, e, h => by
    have hb := h b List.mem_cons_self
    have p := lay_perm hb
    have nd2 : (lay bs b).Nodup := p.nodup_iff.mpr nd
    have h2 : ∀ c ∈ r, c ∈ lay bs b := fun c hc => p.mem_iff.mpr (h c (List.mem_cons_of_mem _ hc))
    have tm : t = x ∨ t = y := (two_mem.mp (by rw [e]; exact List.mem_cons_self)).2
    have om : o = x ∨ o = y := (two_mem.mp (by rw [e]; exact List.mem_cons_of_mem _ List.mem_cons_self)).2
    have nto : t ≠ o := by
      have z : (two x y bs).Nodup := nd.filter _
      rw [e] at z
      have z2 := (List.nodup_cons.mp z).1
      intro c
      exact z2 (by rw [c]; exact List.mem_cons_self)
    show ∃ o', two x y (behindM (lay bs b) r) = _
    by_cases c : b = x ∨ b = y
    · rw [two_in c]
      have bto : b = t ∨ b = o := by
        have z : b ∈ two x y bs := two_mem.mpr ⟨hb, c⟩
        rw [e] at z
        rcases List.mem_cons.mp z with z | z
        · exact .inl z
        · exact .inr (List.mem_singleton.mp z)
      rcases bto with rfl | rfl
      · have l2 : two x y (lay bs b) = [b, o] := by
          rw [two_lay nd, if_pos c, e, List.filter_cons_of_neg (by simp), List.filter_cons_of_pos (by simpa using nto.symm)]
          rfl
        exact two_behind r nd2 l2 h2
      · have l2 : two x y (lay bs b) = [b, t] := by
          rw [two_lay nd, if_pos c, e, List.filter_cons_of_pos (by simpa using nto), List.filter_cons_of_neg (by simp)]
          rfl
        exact two_behind r nd2 l2 h2
    · have l2 : two x y (lay bs b) = [t, o] := by
        rw [two_lay nd, if_neg c, e, List.filter_cons_of_pos (by simpa using fun z : t = b => c (z ▸ tm)), List.filter_cons_of_pos (by simpa using fun z : o = b => c (z ▸ om))]
        rfl
      rw [two_out c]
      exact two_behind r nd2 l2 h2
theorem two_pile : ∀ {bs : List Str} {x y : Str}, bs.Nodup → x ≠ y → x ∈ bs → y ∈ bs → ∃ t o, two x y bs = [t, o] := by
  intro bs x y nd ne hx hy
  have nd2 : (two x y bs).Nodup := nd.filter _
  have p : (two x y bs).Perm [x, y] := by
    refine (List.perm_ext_iff_of_nodup nd2 ?_).mpr fun z => ?_
    · simp [ne]
    · rw [two_mem]
      constructor
      · rintro ⟨_, rfl | rfl⟩
        · exact List.mem_cons_self
        · exact List.mem_cons_of_mem _ List.mem_cons_self
      · intro h
        rcases List.mem_cons.mp h with rfl | h
        · exact ⟨hx, .inl rfl⟩
        · obtain rfl := List.mem_singleton.mp h
          exact ⟨hy, .inr rfl⟩
  have l := p.length_eq
  match q : two x y bs, l with
  | [t, o], _ => exact ⟨t, o, rfl⟩
/-- on each later day two books pass one another as often as they change around -/
theorem day_cyc {ns rs : List Str} {x y : Str} (nd : ns.Nodup) (h : ∀ b ∈ rs, b ∈ ns) (hx : x ∈ rs) (hy : y ∈ ns) (ne : x ≠ y) : cnt (rowsM (behindM ns rs) rs) (asPair (x, y)) = cyc (two x y rs) := by
  obtain ⟨t, o, e⟩ := two_pile nd ne (h x hx) hy
  obtain ⟨o', e'⟩ := two_behind rs nd e h
  have pm := behindM_perm rs h
  rw [cnt_two ne rs (pm.nodup_iff.mpr nd) e' fun b hb => pm.mem_iff.mpr (h b hb)]
  have some1 : two x y rs ≠ [] := fun z => by
    have q : x ∈ two x y rs := two_mem.mpr ⟨hx, .inl rfl⟩
    rw [z] at q
    cases q
  unfold cyc
  rw [lastOf_get _ t some1]
theorem prs_at {ys : List Str} : ∀ {n : Nat} {q : Str × Str}, q ∈ prs ys n → ∃ i j : Nat, i < j ∧ ys[i]? = some q.1 ∧ ys[j]? = some q.2
  | 0, q, h => by cases h
  | n + 1, q, h => by
    cases e : ys[n]? with
    | none =>
      have e2 : prs ys (n + 1) = prs ys n ++ (match ys[n]? with | some a => (ys.drop (n + 1)).map fun b => (a, b) | none => []) := rfl
      rw [e2, e, List.append_nil] at h
      exact prs_at h
    | some a =>
      rw [prs_succ e] at h
      rcases List.mem_append.mp h with h | h
      · exact prs_at h
      · obtain ⟨b, hb, rfl⟩ := List.mem_map.mp h
        obtain ⟨k, hk⟩ := List.getElem?_of_mem hb
        rw [List.getElem?_drop] at hk
        exact ⟨n, n + 1 + k, by omega, e, hk⟩
theorem prs_pair {ys : List Str} (nd : ys.Nodup) (so : sortedS ys = true) {n : Nat} {q : Str × Str} (h : q ∈ prs ys n) : asPair (q.1, q.2) = q ∧ q.1 ≠ q.2 ∧ q.1 ∈ ys ∧ q.2 ∈ ys := by
  obtain ⟨i, j, lt, e1, e2⟩ := prs_at h
  obtain ⟨l1, f1⟩ := List.getElem?_eq_some_iff.mp e1
  obtain ⟨l2, f2⟩ := List.getElem?_eq_some_iff.mp e2
  have ne : q.1 ≠ q.2 := fun z => by
    rw [← z] at e2
    have := nd_ix nd e1 e2
    omega
  have pw := List.pairwise_iff_getElem.mp (sorted_pw so) i j l1 l2 lt
  rw [f1, f2] at pw
  refine ⟨?_, ne, List.mem_of_getElem? e1, List.mem_of_getElem? e2⟩
  unfold asPair
  by_cases c : ltS q.1 q.2
  · rw [if_pos c]
  · exact absurd (ltS_tri c pw) ne
/-- days that change around alike -/
theorem day_cnt {ns rs rs' ys : List Str} (nd : ns.Nodup) (h : ∀ b ∈ rs, b ∈ ns) (h' : ∀ b ∈ rs', b ∈ ns) (all : ∀ b ∈ ns, b ∈ rs) (all' : ∀ b ∈ ns, b ∈ rs') (c : ∀ x y, cyc (two x y rs') = cyc (two x y rs)) (py : ys.Perm ns) (so : sortedS ys = true) :
    ∀ q ∈ prs ys ys.length, cnt (rowsM (behindM ns rs') rs') q = cnt (rowsM (behindM ns rs) rs) q := by
  intro q hq
  obtain ⟨e, ne, m1, m2⟩ := prs_pair (py.nodup_iff.mpr nd) so hq
  have n1 := py.mem_iff.mp m1
  have n2 := py.mem_iff.mp m2
  rw [← e, day_cyc nd h' (all' _ n1) n2 ne, day_cyc nd h (all _ n1) n2 ne, c]
theorem day_sum {ns rs ys : List Str} (nd : ns.Nodup) (h : ∀ b ∈ rs, b ∈ ns) (py : ys.Perm ns) (so : sortedS ys = true) : (liftedM ns rs).sum = ((prs ys ys.length).map fun q => cnt (rowsM ns rs) q).sum := by
  rw [cnt_sum (prs_nodup (py.nodup_iff.mpr nd) ys.length) (rowsM ns rs) fun r hr => ?_, rows_count rs h]
  obtain ⟨z1, z2, z3⟩ := rows_in rs h r hr
  exact pair_in py so z1 z2 z3
theorem turn_cyc (rs : List Str) (k : Nat) (x y : Str) : cyc (two x y (rs.drop k ++ rs.take k)) = cyc (two x y rs) := by
  rw [two_append, cyc_turn, ← two_append, List.take_append_drop]
theorem back_cyc (rs : List Str) (x y : Str) : cyc (two x y rs.reverse) = cyc (two x y rs) := by
  have e : two x y rs.reverse = (two x y rs).reverse := List.filter_reverse ..
  rw [e, cyc_back]
/-! ### days done again -/
theorem day_again {bs rs : List Str} (nd : bs.Nodup) (h : ∀ b ∈ rs, b ∈ bs) : behindM (behindM bs rs) rs = behindM bs rs := by
  have pm := behindM_perm rs h
  rw [behind_is (pm.nodup_iff.mpr nd) rs fun b hb => pm.mem_iff.mpr (h b hb)]
  rw [behind_is nd rs h, List.filter_append, List.filter_filter]
  have e1 : (nub rs.reverse).filter (fun z => decide (z ∉ rs)) = [] := by
    rw [List.filter_eq_nil_iff]
    intro z hz
    have := List.mem_reverse.mp ((nub_mem _ _).mp hz)
    simpa using this
  rw [e1, List.nil_append]
  congr 1
  apply List.filter_congr
  intro z _
  rw [Bool.and_self]
theorem lifted_low (rest : List Str) : ∀ (rs : List Str) {l : List Str}, (∀ b ∈ rs, b ∈ l) → liftedM (l ++ rest) rs = liftedM l rs
  | [], l, _ => rfl
  | b :: r, l, h => by
    have hb := h b List.mem_cons_self
    have p := lay_perm hb
    show (l ++ rest).idxOf b :: liftedM (lay (l ++ rest) b) r = l.idxOf b :: liftedM (lay l b) r
    have e1 : (l ++ rest).idxOf b = l.idxOf b := by rw [List.idxOf_append, if_pos hb]
    have e2 : lay (l ++ rest) b = lay l b ++ rest := by
      unfold lay
      rw [e1, List.eraseIdx_append_of_lt_length (idx_lt hb)]
      rfl
    rw [e1, e2, lifted_low rest r fun c hc => p.mem_iff.mpr (h c (List.mem_cons_of_mem _ hc))]
theorem day_each {bs ns rs : List Str} (nd : bs.Nodup) (nn : ns.Nodup) (h : ∀ b ∈ rs, b ∈ bs) (h2 : ∀ b ∈ rs, b ∈ ns) (all : ∀ b ∈ ns, b ∈ rs) : liftedM (behindM bs rs) rs = liftedM (behindM ns rs) rs := by
  rw [behind_is nd rs h, behind_is nn rs h2]
  have e : (ns.filter fun z => decide (z ∉ rs)) = [] := by
    rw [List.filter_eq_nil_iff]
    intro z hz
    simpa using all z hz
  rw [e, List.append_nil]
  exact lifted_low _ rs fun b hb => (nub_mem _ _).mpr (List.mem_reverse.mpr hb)
end Lt

set_option Elab.async false
set_option linter.all false
set_option maxRecDepth 100000
set_option maxHeartbeats 4000000
/-! tuple(x for x, y in t), t a tuple of pairs: over the library's generator expressions of two names. -/
namespace Lt
open PySem PySem.Spec PyProof.Rows L2
section
variable {prog : Program} {w : World} {A : Around}
/-- a walk of one-value steps whose values are tuples that stand all the while -/
theorem walk_tups {I : Addr} {fp wr : List Addr} {n : Nat} {Pv : Nat → Value → Prop} {St : Nat → Heap → Prop} (W : Walks prog w A I fp wr n Pv St) (Ts : Nat → Addr) (us : Nat → Array Value)
    (is : ∀ i v, i < n → Pv i v → v = .ref (Ts i)) (off : ∀ i, i < n → Ts i ∉ wr)
    (free : ∀ (e : Expr) i v (s : Shared) (Q : Unit → Shared → Prop) E, St i s.heap → Q () s → wpAny (model prog w) A (letOwnedTupleGo e (.ref I) v) Q E s) :
    WalksU prog w A I (fp ++ (List.range n).map Ts) wr n (fun j a => j < n ∧ a = us j) (fun j h => St j h ∧ ∀ k, k < n → h.IsTuple (Ts k) (us k)) (fun j T h => (j < n ∧ T = Ts j) ∧ St (j + 1) h ∧ ∀ k, k < n → h.IsTuple (Ts k) (us k)) where
  sub := fun b hb => List.mem_append_left _ (W.sub b hb)
  frame := fun i h h' st k => ⟨W.frame i h h' st.1 fun b hb o e => k b (List.mem_append_left _ hb) o e,
    fun j hj => (st.2 j hj).at fun o e => k _ (List.mem_append_right _ (List.mem_map.mpr ⟨j, List.mem_range.mpr hj, rfl⟩)) o e⟩
  item := fun i s Q E hi st q => W.item i s Q E hi st.1 fun v h' tk pv st' k => by
    have tups : ∀ j, j < n → h'.IsTuple (Ts j) (us j) := fun j hj => (st.2 j hj).at fun o e => k _ o (off j hj) e
    rw [is i v hi pv]
    exact q (Ts i) (us i) h' tk ⟨hi, rfl⟩ (tups i hi) ⟨⟨hi, rfl⟩, st', tups⟩ k
  go := fun es k pos i T s Q E mid q => free _ (i + 1) _ s Q E mid.2.1 (q s.heap mid.2 fun _ _ _ e => e)
  apart := fun i T h mid => by
    rw [mid.1.2]
    exact off i mid.1.1
  done := fun s Q E st q => W.done s Q E st.1 q
  self := fun i s Q E st q => W.self i s Q E st.1 q
end
section
variable {X : Cx} {pins : List (Addr × Obj)} {σ : L2.St} {H : Hp} {s : Shared}
/-- the code object of a generator expression in a def whose table is at P, and where its builtins stand -/
theorem gen_code {c P : Addr} {ps : Array Value} {gpos : Pos} {qn : Str} {scope : Scope} {o : Obj} {E : Value → Shared → Prop} {B : Value → Addr → Shared → Prop} (inv : Inv X pins σ H s) (TB : GxR.TabB X.base X.mg c P) (hc : X.env.code = .ref c)
    (hP : H P = some (.tbl ps)) (ht : TriplesOk ps.toList)
    (go : ∀ (code : Value) (h3 : Heap) (tk : Nat) (more : Array Value), Heap.ExtBut P (s.heap.push o) h3 → s.heap.objs.size + 1 ≤ h3.objs.size → h3.get? P = some { cls := .none, data := .fields (ps ++ more) } → TriplesOk (ps ++ more).toList →
      B code builtinsNs { s with heap := h3, toks := tk }) :
    wpAny (model X.prog X.w) X.A (genexprCode X.env gpos qn scope) (fun code s3 => wpAny (model X.prog X.w) X.A (builtinsFor X.env.globals X.env.builtins) (B code) E s3) E { s with heap := s.heap.push o } := by
  have at0 : s.heap.get? P = some (PySem.W.tabObj ps) := inv.hok P _ hP
  have at1 : (s.heap.push o).get? P = some (PySem.W.tabObj ps) := Heap.get?_push_of_some _ at0
  have head : PySem.W.CodeHd (s.heap.push o) c P := TB.code.keeps fun b u e => Heap.get?_push_of_some _ (inv.bk b u e)
  have big : (s.heap.push o).objs.size = s.heap.objs.size + 1 := Heap.size_push ..
  have bis : ∀ (code : Value) (h3 : Heap) (tk : Nat), Heap.ExtBut P (s.heap.push o) h3 → B code builtinsNs { s with heap := h3, toks := tk } →
      wpAny (model X.prog X.w) X.A (builtinsFor X.env.globals X.env.builtins) (B code) E { s with heap := h3, toks := tk } := by
    intro code h3 tk ext b
    obtain ⟨bm, ob, b1, b2, _, b4, b5, b6, b7, b8⟩ := TB.bm
    refine wpAny_builtinsFor (m := X.mg) ?_ b1 b2 (ext _ _ b4 (Heap.get?_push_of_some _ (inv.bk _ _ b5))) b6 b7 b8 b
    rw [inv.ok.glob]
    exact ((inv.mod.glob.keeps inv.bk).push o).extBut ext TB.gP
  cases found : codeAmong gpos ps.toList with
  | some cv => exact wpAny_genexprCode_hit hc (head.code at1 ht) found (bis cv _ s.toks (.refl _ _) (go cv _ s.toks #[] (.refl _ _) (Nat.le_of_eq big.symm) (by rw [Array.append_empty]; exact at1) (by rw [Array.append_empty]; exact ht)))
  | none =>
    refine wpAny_genexprCodeX hc (head.code at1 ht) (head.tab at1) found fun c' h3 tk ext ge lt isc _ tab _ => ?_
    obtain ⟨_, _, _, _, _, _, _, _, _, _, _, _, _, _, _, _, _, _, _, tri, _⟩ := isc
    exact bis _ h3 tk ext (go _ h3 tk _ ext (by rw [← big]; exact Nat.le_trans ge (Nat.le_of_lt lt)) tab.2 tri)
/-- its own scope: two names, the walked thing -/
def GenTwo (scope : Scope) (x y : Str) : Prop := scope.kind = .function ∧ scope.isCoroutine = false ∧ (∀ z ∈ scope.names, z.2 = .local) ∧ scope.names.lookup (".0" : Str) = some NameKind.local ∧ scope.names.lookup x = some .local ∧ scope.names.lookup y = some .local ∧ x ≠ y
theorem vals_by : ∀ (xs : List V) (us : List Value), xs.length = us.length → (∀ (i : Nat) x u, xs[i]? = some x → us[i]? = some u → RelV x u) → Vals xs us
  | [], [], _, _ => .nil
  | [], _ :: _, l, _ => by cases l
  | _ :: _, [], l, _ => by cases l
  | x :: xs, u :: us, l, h => .cons (h 0 x u rfl rfl) (vals_by xs us (by simpa using l) fun i x u hx hu => h (i + 1) x u (by simpa using hx) (by simpa using hu))
def tTupG (K : PySem.W.Frag) (P : Addr) (te : TE) : TE := fun σ H Q => te σ H fun v H1 => ∃ (a : Addr) (ts : List Addr) (ps : List (V × V)), v = .ref a ∧ SqT K H1 a (ts.map V.ref) ∧ ts.length = ps.length ∧
  (∀ (i : Nat) (t : Addr) (p : V × V), ts[i]? = some t → ps[i]? = some p → SqT K H1 t [p.1, p.2]) ∧ GxR.TabG H1 P ∧ ∀ H2 q u, GxR.Tabbed P H1 H2 → H2 q = none → IsFz u (ps.map (·.1)) → Q (.ref q) (upd H2 q u)
theorem pe_tupG {c P : Addr} {x y : Str} {iter : Expr} {px py pt pe p pos gpos : Pos} {kt : Nat} {scope : Scope} {te : TE} {k : Nat} (hr : Room k X.A) (hg : Gl X "tuple") (hm : X.mg "tuple" = none) (TB : GxR.TabB X.base X.mg c P) (hc : X.env.code = .ref c) (S : GenTwo scope x y) (hi : PE X iter te)
    (hs : ∀ v, genFold iter X.env v = pure v := by intro _; rfl) (hd : (x == ("__debug__" : Str)) = false := by decide)
    (he : starEach [.GeneratorExp (.Name x pe) [⟨.Tuple [.Name x px, .Name y py] kt pt, iter, [], 0⟩] scope gpos] X.env = (false, eval (.GeneratorExp (.Name x pe) [⟨.Tuple [.Name x px, .Name y py] kt pt, iter, [], 0⟩] scope gpos) X.env) :: starEach [] X.env := by rfl) :
    PE X (.Call (.Name "tuple" p) [.GeneratorExp (.Name x pe) [⟨.Tuple [.Name x px, .Name y py] kt pt, iter, [], 0⟩] scope gpos] [] pos) (tTupG X.K P te) := by
  obtain ⟨kind, co, loc, dot, one, two, ne⟩ := S
  have hv : bootBuiltins ("tuple" : Str) = some (.type "tuple") := by decide +kernel
  refine ⟨fun pins s σ H Q inv h => wpAny_Call_Name_kw (ld_blt inv hg hm hv (PyProof.Rows.callWith_type1 ?_ he (by rfl)))⟩
  rw [he]
  show wpAny _ _ (spliced ((false, _) :: backTo pos (starEach [] X.env))) _ _ s
  refine Calls.spliced_cons ?_
  refine wpAny_GeneratorExp_walksQT hr.hd co (closure_ok fun z hz e => by rw [loc z hz] at e; cases e) (fun z hz e => by rw [loc z hz] at e; cases e) dot one two ne kind (by have := hr.dp; omega) ?_ hs
  refine thn (hi.run pins s σ H _ inv h) fun xv s1 ⟨v, H1, inv1, rel, q1⟩ => ?_
  obtain ⟨a, ts, ps, rfl, sq, len, each, ⟨tb, hP, ht⟩, q⟩ := q1
  cases rel
  obtain ⟨its, vals, tupA, fit⟩ := inv1.tuple sq
  have nits : its.length = ts.length := by rw [← vals.length, List.length_map]
  have pairs : ∀ i, ∃ u : Array Value, i < ts.length → ∃ (t : Addr) (p : V × V) (va vb : Value), ts[i]? = some t ∧ ps[i]? = some p ∧ u = #[va, vb] ∧ RelV p.1 va ∧ s1.heap.IsTuple t u := by
    intro i
    by_cases hi : i < ts.length
    · have e1 := List.getElem?_eq_getElem hi
      have e2 : ps[i]? = some (ps[i]'(by omega)) := List.getElem?_eq_getElem _
      obtain ⟨us, vs2, tp, _⟩ := inv1.tuple (each i _ _ e1 e2)
      obtain ⟨va, vb, rfl, r1, r2⟩ := vs2.two
      exact ⟨#[va, vb], fun _ => ⟨_, _, va, vb, e1, e2, rfl, r1, tp⟩⟩
    · exact ⟨#[], fun z => absurd z hi⟩
  obtain ⟨us, hus⟩ := Classical.axiomOfChoice pairs
  have ats : ∀ i, i < ts.length → its.toArray[i]? = some (.ref ((ts[i]?).getD 0)) ∧ s1.heap.IsTuple ((ts[i]?).getD 0) (us i) := by
    intro i hi
    obtain ⟨t, pp, va, vb, e1, e2, _, _, tp⟩ := hus i hi
    obtain ⟨u2, g1, g2⟩ := vals.get (i := i) (x := .ref t) (by rw [List.getElem?_map, e1]; rfl)
    obtain rfl : u2 = .ref t := g2
    rw [e1]
    exact ⟨by simpa using g1, tp⟩
  have sz : its.toArray.size = ts.length := by rw [List.size_toArray, nits]
  have lt1 : ∀ {b : Addr} {u : Array Value}, s1.heap.IsTuple b u → b < s1.heap.objs.size := fun t => by
    obtain ⟨o, e, _⟩ := t
    exact Heap.lt_size e
  have at0 : s1.heap.get? P = some { cls := .none, data := .fields tb } := inv1.hok P _ hP
  have ltP : P < s1.heap.objs.size := Heap.lt_size at0
  have neP : ∀ {b : Addr} {u : Array Value}, s1.heap.IsTuple b u → b ≠ P := fun t e => by
    obtain ⟨o, e1, e2, _⟩ := t
    rw [e, at0] at e1
    cases e1
    cases e2
  refine wpAny_pyIter_tuple tupA ⟨inv1.nolimit.push _, gen_code inv1 TB hc hP ht fun code h3 tk more ext big at3 tri => ?_⟩
  have keep : ∀ b u, b ≠ P → s1.heap.get? b = some u → h3.get? b = some u := fun b u nb e => ext b u nb (Heap.get?_push_of_some _ e)
  have it3 : h3.IsTupleIter s1.heap.objs.size a 0 := ⟨_, ext _ _ (Nat.ne_of_gt ltP) (Heap.get?_push_size _ rfl), rfl, rfl⟩
  have nst : cStatics ≠ P ∧ cStatics < s1.heap.objs.size := by
    obtain ⟨_, ns, _⟩ := inv1.nolimit
    refine ⟨fun e => ?_, ns.lt⟩
    obtain ⟨o', es, ep, ho, hd', _⟩ := ns
    rw [e, at0] at ho
    cases ho
    cases hd'
  have isT : s1.heap.IsTuple a its.toArray := tupA
  have tup3 : h3.IsTuple a its.toArray := isT.at fun o e => keep _ _ (neP isT) e
  have ats3 : ∀ i, i < ts.length → h3.IsTuple ((ts[i]?).getD 0) (us i) := fun i hi => (ats i hi).2.at fun o e => keep _ _ (neP (ats i hi).2) e
  have up : s1.heap.objs.size < h3.objs.size := big
  have W0 : ∀ A' : Around, A'.handled = none → WalksU X.prog X.w A' s1.heap.objs.size _ [s1.heap.objs.size] ts.length _ _ _ :=
    fun A' hA => walk_tups (sz ▸ Walks.tuple hA s1.heap.objs.size a (Nat.ne_of_lt (lt1 tupA)) its.toArray) (fun i => (ts[i]?).getD 0) us
      (fun i v hi e => Option.some.inj (e.symm.trans (ats i hi).1)) (fun i hi z => Nat.ne_of_lt (lt1 (ats i hi).2) (List.mem_singleton.mp z))
      (fun e i v s' Q' E' st q' => by
        obtain ⟨o, ho, hc', hd'⟩ := st.1
        exact letGo_of_cls ho hc' hd' (by decide) q')
  refine ⟨s1.heap.objs.size, _, [s1.heap.objs.size], ts.length, _, _, _, fun _ => true, fun i z => ∃ va vb, us i = #[va, vb] ∧ z = va, rfl, W0, ?two, ⟨⟨it3, tup3⟩, ats3⟩, ?fp, (inv1.nolimit.push _).extBut ext nst.1, fun z => Nat.ne_of_lt nst.2 (List.mem_singleton.mp z), ?quiet, ?rest⟩
  case two =>
    rintro i vs ⟨hi, rfl⟩
    obtain ⟨_, _, va, vb, _, _, e, _⟩ := hus i hi
    exact ⟨va, vb, e⟩
  case fp =>
    intro b hb
    rcases List.mem_append.mp hb with z | z
    · rcases List.mem_cons.mp z with z | z
      · rw [z]
        exact up
      · rw [List.mem_singleton.mp z]
        exact Nat.lt_trans (lt1 tupA) up
    · obtain ⟨i, hi, rfl⟩ := List.mem_map.mp z
      exact Nat.lt_trans (lt1 (ats i (List.mem_range.mp hi)).2) up
  case quiet =>
    intro href _
    refine ⟨fun A' E' i va vb s2 m2 hA hp hn ha hb hk => ?_, fun A' E' i va vb s2 m2 hA hp hz hn ha hb hk => ?_⟩
    · simp only [List.forIn_nil]
      exact wpAny_pure ⟨rfl, GxR.keeps_refl _⟩
    · exact wpAny_Name (wpAny_loadName_local kind (show scope.names.lookup x = some .local from one) hn ha ⟨⟨va, vb, hp.2.symm, rfl⟩, GxR.keeps_refl _⟩) hd
  case rest =>
    intro g h5 tk5 gs bare hag hsz keep5 W gat
    rw [GxR.passing_true, List.length_range] at W
    refine Calls.spliced_nil (call_tuple_gen W.in4_3 (fun i s9 st9 => st9.1.typeIs) gat (fun b hb => ?_) List.mem_cons_self (fun s' acc moved items => ?_) (by rw [← List.length_map (f := V.ref)]; exact fit))
    · show b < h5.objs.size
      have e5 : h5.objs.size = g + 1 := hsz
      have g3 : h3.objs.size < g := hag
      rcases List.mem_cons.mp hb with z | z
      · rw [z, e5]
        exact Nat.lt_succ_self g
      · rcases List.mem_cons.mp z with z | z
        · rw [z, e5]
          exact Nat.lt_succ_of_lt g3
        · rw [e5]
          exact Nat.lt_succ_of_lt (Nat.lt_trans (List.mem_range.mp z) g3)
    · have old : ∀ b u, s1.heap.get? b = some u → b ∉ [h3.objs.size, s1.heap.objs.size] := fun b u e hb => by
        have l := Heap.lt_size e
        rcases List.mem_cons.mp hb with z | z
        · exact Nat.lt_asymm up (by rw [← z]; exact l)
        · rw [List.mem_singleton.mp z] at l
          exact Nat.lt_irrefl _ l
      have inv2 := GxR.inv_tab (more := more) (h' := s'.heap) (g' := s'.gens) (d' := s'.drawn) (t' := s'.toks) inv1 hP (fun b u nb e => moved.heap b u (old b u e) (keep5 b u (keep b u nb e))) (moved.heap P _ (old P _ at0) (keep5 P _ at3)) (AllBare.movedS (inv1.bare.push bare) moved)
      rw [GxR.sh_eta s1 s' moved.os] at inv2
      have rels : Vals (ps.map (·.1)) acc.toList := by
        refine vals_by _ _ (by rw [List.length_map, ← len]; exact items.1.symm.trans (Array.length_toList (xs := acc)).symm) fun i v u hv hu => ?_
        obtain ⟨j, hj, va, vb, e1, rfl⟩ := items.2 i u (by simpa using hu)
        rw [List.getElem?_map] at hv
        cases e2 : ps[i]? with
        | none =>
          rw [e2] at hv
          cases hv
        | some pp =>
          rw [e2] at hv
          cases hv
          have li : i < ts.length := by
            rw [len]
            exact (List.getElem?_eq_some_iff.mp e2).1
          obtain rfl : i = j := by
            rw [List.getElem?_range li] at hj
            exact Option.some.inj hj
          obtain ⟨_, p2, va2, vb2, _, f2, f3, f4, _⟩ := hus i li
          rw [e2] at f2
          cases f2
          rw [f3] at e1
          have e3 : va2 = u := by
            have z := congrArg Array.toList e1
            simpa using (List.cons.inj z).1
          rw [← e3]
          exact f4
      have e : acc = acc.toList.toArray := by simp
      rw [e]
      exact laid_fz (s := s') inv2 rels (by rw [List.length_map, ← len, ← List.length_map (f := V.ref)]; exact fit) fun p u hp hu => q _ p u ⟨⟨_, upd_same, tri⟩, fun b nb => upd_ne nb⟩ hp hu
end
end Lt

set_option Elab.async false
set_option linter.all false
set_option maxRecDepth 100000
set_option maxHeartbeats 4000000
/-! all(e for x in t), t a tuple, e any expression of the layer, read in the generator's own frame. -/
namespace Lt
open PySem PySem.Spec PyProof.Rows L2
/-! ### the frame -/
theorem clo_nil (cells : List (Str × Addr)) : ∀ (names : List (Str × NameKind)) (acc : List (Str × Addr)), (∀ y ∈ names, y.2 ≠ .free) → cloFrom cells names acc = acc
  | [], _, _ => rfl
  | (n, k) :: r, acc, h => by
    have hk : (k == NameKind.free) = false := beq_eq_false_iff_ne.mpr (h (n, k) (List.mem_cons_self ..))
    show (if k == .free then _ else _) = acc
    rw [hk, if_neg Bool.false_ne_true]
    exact clo_nil cells r acc fun y hy => h y (List.mem_cons_of_mem _ hy)
structure GenOne (scope : Scope) (x : Str) : Prop where
  kind : scope.kind = .function
  co : scope.isCoroutine = false
  own : ∀ y ∈ scope.names, y.2 ≠ .cell ∧ y.2 ≠ .free
  dot : scope.names.lookup (".0" : Str) = some NameKind.local
  loc : scope.names.lookup x = some .local
  ne : x ≠ ".0"
abbrev gExp (elt iter : Expr) (x : Str) (px : Pos) (scope : Scope) (pos : Pos) : Expr := .GeneratorExp elt [⟨.Name x px, iter, [], 0⟩] scope pos
theorem ov_frames {A : Around} {e : Expr} {it : Value} {cenv : Env} {gs : List Comprehension} {sc : Scope} {p : Pos} {l : List Env} (h : A.frames = some l) : (A.over (.compLoop (.GeneratorExp e gs sc p) 0 it .none cenv) []).frames = some (cenv :: l) := by
  have e1 : (Code.compLoop (.GeneratorExp e gs sc p) 0 it .none cenv).envs = [cenv] := rfl
  simp only [Around.over, e1, List.map_nil, h]
  rfl
theorem ov_units {A : Around} {e : Expr} {it : Value} {cenv : Env} {gs : List Comprehension} {sc : Scope} {p : Pos} : (A.over (.compLoop (.GeneratorExp e gs sc p) 0 it .none cenv) []).units = A.units + 3 := by
  have e1 : (Code.compLoop (.GeneratorExp e gs sc p) 0 it .none cenv).cUnits = 3 := rfl
  simp only [Around.over, e1, List.map_nil]
  rfl
theorem room_gen {k : Nat} {A : Around} {e : Expr} {it : Value} {cenv : Env} {gs : List Comprehension} {sc : Scope} {p : Pos} (r : Room (k + 1) A) : Room k (A.in1.in1.over (.compLoop (.GeneratorExp e gs sc p) 0 it .none cenv) []) := by
  refine ⟨r.hd, ?_, ?_⟩
  · have := r.dp
    show A.depth + 1 + 3 * k + 5 < _
    omega
  · have := r.un
    rw [ov_units]
    show A.units + 1 + 1 + 3 + 16 * k + 200 < _
    omega
def gx (X : Cx) (A : Around) (x : Str) (scope : Scope) (C : Addr) (code : Value) (s4 : Shared) (H4 : Hp) (I : Addr) : Cx :=
  { prog := X.prog, w := X.w, K := X.K, mg := X.mg, base := X.base, A := A, N := [".0", x], s_0 := s4, H_0 := H4, env := genEnv scope [] C code builtinsNs X.env, outer := X.stack, stack := genEnv scope [] C code builtinsNs X.env :: X.stack,
    ex := [I], fn := fun _ => true, calm := true, pn := [], xe := fun _ _ => False }
theorem inv_gens {X : Cx} {pins : List (Addr × Obj)} {σ : L2.St} {H : Hp} {s : Shared} {g : Array GenState} (I : Inv X pins σ H s) (h : AllBare g) : Inv X pins σ H { s with gens := g } :=
  ⟨I.ok, I.os, h, I.base, I.loc, I.cell, I.free, I.freeC, I.pin, I.hok, I.len⟩
/-- ahead of the item i -/
def GSt (X' : Cx) (pin : Addr × Obj) (I t : Addr) (W : Nat → Hp → Prop) (i : Nat) (s : Shared) : Prop :=
  ∃ (H : Hp) (y : Option V), Inv X' [pin] [some (.ref I), y] H s ∧ W i H ∧ s.heap.IsTupleIter I t i
theorem GSt.gens {X' : Cx} {pin : Addr × Obj} {I t : Addr} {W : Nat → Hp → Prop} {i : Nat} {s : Shared} {g : Array GenState} (h : GSt X' pin I t W i s) (hg : AllBare g) : GSt X' pin I t W i { s with gens := g } := by
  obtain ⟨H, y, inv, w, it⟩ := h
  exact ⟨H, y, inv_gens inv hg, w, it⟩
def gR (X' : Cx) (pin : Addr × Obj) (I : Addr) (n : Nat) (W : Nat → Hp → Prop) : GenEnd := fun m _ r s1 => r = .ok .next ∧ m = 0 ∧ ∃ (H : Hp) (y : Option V), Inv X' [pin] [some (.ref I), y] H s1 ∧ W n H
def gY (X' : Cx) (pin : Addr × Obj) (I t : Addr) (n : Nat) (tr : Nat → Bool) (W : Nat → Hp → Prop) : Protocol := fun m _ v s kap =>
  v = .bool (tr (n - 1 - m)) ∧ GSt X' pin I t W (n - m) s ∧ ∀ g, AllBare g → kap (.send .none) { s with gens := g }
section
variable {X : Cx} {A : Around} {elt iter : Expr} {x : Str} {px pos : Pos} {scope : Scope} {C I t : Addr} {code : Value} {s4 : Shared} {H4 : Hp} {pin : Addr × Obj} {te : TE} {xs : List V} {tr : Nat → Bool} {W : Nat → Hp → Prop}
theorem gen_loop (S : GenOne scope x) (hA : A.handled = none) (nI : I < s4.heap.objs.size) (hC : C = s4.heap.objs.size) (nf : I ∉ frs X.stack) (hne : t ≠ I) (hp : pin.1 ≠ I) (hH : ∀ i H, W i H → H I = none)
    (he : PE (gx X (A.over (.compLoop (gExp elt iter x px scope pos) 0 (.ref I) .none (genEnv scope [] C code builtinsNs X.env)) []) x scope C code s4 H4 I) elt te)
    (hsq : ∀ i H, W i H → SqT X.K H t xs) (hst : ∀ (i : Nat) (H : Hp) (v : V), xs[i]? = some v → W i H → te [some (.ref I), some v] H fun y H' => y = .bl (tr i) ∧ W (i + 1) H') :
    ∀ (k i : Nat) (s₀ s : Shared), xs.length - i = k → i ≤ xs.length →
      GSt (gx X (A.over (.compLoop (gExp elt iter x px scope pos) 0 (.ref I) .none (genEnv scope [] C code builtinsNs X.env)) []) x scope C code s4 H4 I) pin I t W i s →
      Seg (model X.prog X.w) A (gR (gx X (A.over (.compLoop (gExp elt iter x px scope pos) 0 (.ref I) .none (genEnv scope [] C code builtinsNs X.env)) []) x scope C code s4 H4 I) pin I xs.length W)
        (gY (gx X (A.over (.compLoop (gExp elt iter x px scope pos) 0 (.ref I) .none (genEnv scope [] C code builtinsNs X.env)) []) x scope C code s4 H4 I) pin I t xs.length tr W) (xs.length - i) s₀
        (.compLoop (gExp elt iter x px scope pos) 0 (.ref I) .none (genEnv scope [] C code builtinsNs X.env)) ((model X.prog X.w).den (.compLoop (gExp elt iter x px scope pos) 0 (.ref I) .none (genEnv scope [] C code builtinsNs X.env))) [] s := by
  have hA' : (A.over (.compLoop (gExp elt iter x px scope pos) 0 (.ref I) .none (genEnv scope [] C code builtinsNs X.env)) []).handled = none := hA
  intro k
  induction k with
  | zero =>
    intro i s₀ s hk hi G
    have e : i = xs.length := by omega
    subst e
    obtain ⟨H, y, inv, w, it⟩ := G
    obtain ⟨its, vals, tup, fit⟩ := inv.tuple (show SqT _ H t xs from hsq _ H w)
    have len : its.toArray.size = xs.length := by rw [List.size_toArray, ← vals.length]
    show Seg _ A _ _ _ s₀ _ ((compTurn (gExp elt iter x px scope pos) 0 (.ref I) .none (genEnv scope [] C code builtinsNs X.env)).onRaise (leaving (genEnv scope [] C code builtinsNs X.env))) [] s
    rw [compTurn_gen, Sem.onRaise_eq_wrap]
    refine seg_bind_wrap (wpAny_standAt ?_)
    refine seg_bind_wrap ((Walks.tuple hA' I t hne its.toArray).done s _ _ (by rw [len]; exact ⟨it, tup⟩) fun h' tk hk' => ?_)
    refine seg_end (.ok .next) ⟨rfl, Nat.sub_self _, H, y, inv.turned (t' := tk) (it := I) (fun b o hb e => hk' b o (fun z => hb (List.mem_singleton.mp z)) e) (hH _ H w) ?_ (.inl (List.mem_singleton.mpr rfl)) (fun _ _ z => nomatch z) ?_, w⟩
    · show I ≠ C
      rw [hC]
      exact Nat.ne_of_lt nI
    · intro p hp'
      rw [show p = pin from List.mem_singleton.mp hp']
      exact hp
  | succ k ih =>
    intro i s₀ s hk hi G
    have lt : i < xs.length := by omega
    obtain ⟨H, y, inv, w, it⟩ := G
    obtain ⟨its, vals, tup, fit⟩ := inv.tuple (show SqT _ H t xs from hsq _ H w)
    have len : its.toArray.size = xs.length := by rw [List.size_toArray, ← vals.length]
    have nIC : I ≠ C := by
      rw [hC]
      exact Nat.ne_of_lt nI
    have nI0 := hH i H w
    show Seg _ A _ _ _ s₀ _ ((compTurn (gExp elt iter x px scope pos) 0 (.ref I) .none (genEnv scope [] C code builtinsNs X.env)).onRaise (leaving (genEnv scope [] C code builtinsNs X.env))) [] s
    rw [compTurn_gen, Sem.onRaise_eq_wrap]
    refine seg_bind_wrap (wpAny_standAt ?_)
    refine seg_bind_wrap ((Walks.tuple hA' I t hne its.toArray).item i s _ _ (by rw [len]; exact lt) ⟨it, tup⟩ fun v h1 tk1 pv st1 kp1 => ?_)
    have ev : its[i]? = some v := by simpa using pv
    obtain ⟨u, gu, ru⟩ := vals.get (i := i) (x := xs[i]) (List.getElem?_eq_getElem lt)
    rw [ev] at gu
    cases gu
    have inv1 := inv.turned (t' := tk1) (it := I) (h' := h1) (fun b o hb e => kp1 b o (fun z => hb (List.mem_singleton.mp z)) e) nI0 nIC (.inl (List.mem_singleton.mpr rfl)) (fun _ _ z => nomatch z)
      (fun p hp' => by rw [show p = pin from List.mem_singleton.mp hp']; exact hp)
    obtain ⟨io, hio, ic, id⟩ := st1.1
    have inv1p := inv1.pins_of (pins' := [(I, io), pin]) fun p hp' => by
      rcases List.mem_cons.mp hp' with e | hp'
      · rw [e]
        exact ⟨hio, nI0, nIC, nf, fun v z => by rw [id] at z; cases z⟩
      · exact inv1.pin p (List.mem_append_right _ hp')
    refine seg_bind_wrap (wpAny_of_eq (rfl : letOwnedTupleGo (.Name x px) (.ref I) v = pure ()) ?_)
    have nd : ([(".0" : Str), x] : List Str).Nodup := List.nodup_cons.mpr ⟨fun z => S.ne (List.mem_singleton.mp z).symm, List.nodup_cons.mpr ⟨fun z => (nomatch z), List.nodup_nil⟩⟩
    have pg : PG (gx X (A.over (.compLoop (gExp elt iter x px scope pos) 0 (.ref I) .none (genEnv scope [] C code builtinsNs X.env)) []) x scope C code s4 H4 I) (.Name x px) (gName 1) := pg_name (i := 1) nd rfl (.inl S.loc) (.inl rfl)
    refine seg_bind_wrap (wpAny_mono (pg.run [(I, io), pin] _ _ H xs[i] v (fun σ' H' => σ' = [some (.ref I), some xs[i]] ∧ H' = H) inv1p ru ⟨rfl, rfl⟩) (fun _ s2 h2 => ?_) fun _ _ z => (z : False).elim)
    obtain ⟨σ2, H2, inv2, rfl, rfl⟩ := h2
    refine seg_bind_wrap ?_
    simp only [List.forIn_nil]
    refine wpAny_pure ?_
    simp only [if_true]
    have hy : ∀ v, yieldOut (genEnv scope [] C code builtinsNs X.env) v = yieldValue v := fun v => by
      have e : (genEnv scope [] C code builtinsNs X.env).scope.isCoroutine = false := S.co
      simp only [yieldOut, e, Bool.false_eq_true, if_false]
    simp only [hy]
    rw [Sem.bind_eq_wrap', Sem.bind_eq_wrap', Sem.wrap_wrap, Sem.wrap_wrap]
    refine seg_wrap (wpAny_mono (he.run [(I, io), pin] s2 _ H2 _ inv2 (hst i H2 xs[i] (List.getElem?_eq_getElem lt) w)) (fun u3 s3 h3 => ?_) fun _ _ z => (z : False).elim)
    obtain ⟨yv, H3, inv3, rel3, rfl, w3⟩ := h3
    obtain rfl : u3 = .bool (tr i) := rel3
    have G3 : GSt (gx X (A.over (.compLoop (gExp elt iter x px scope pos) 0 (.ref I) .none (genEnv scope [] C code builtinsNs X.env)) []) x scope C code s4 H4 I) pin I t W (i + 1) s3 :=
      ⟨H3, _, inv3.pins_of fun p hp' => inv3.pin p (List.mem_append_right _ (List.mem_cons_of_mem _ hp')), w3, io, (inv3.pin (I, io) (List.mem_append_right _ (List.mem_cons_self ..))).1, ic, id⟩
    obtain ⟨m, em⟩ : ∃ m, xs.length - i = m + 1 := ⟨k, hk⟩
    rw [em]
    refine seg_at (seg_yield rfl rfl rfl ⟨?_, ?_, fun g hg => ?_⟩)
    · rw [show xs.length - 1 - m = i by omega]
    · rw [show xs.length - m = i + 1 by omega]
      exact G3
    · have z := ih (i + 1) { s3 with gens := g } { s3 with gens := g } (by omega) lt (G3.gens hg)
      rw [show xs.length - (i + 1) = m by omega] at z
      exact seg_again rfl z
theorem gen_start (hA : A.handled = none) {s₀ s : Shared} {n : Nat} {R : GenEnd} {Y : Protocol} {its : Array Value} (hne : t ≠ I) (it : s.heap.IsTupleIter I t 0) (tup : s.heap.IsTuple t its)
    (h : Seg (model X.prog X.w) A R Y n s₀ (.compLoop (gExp elt iter x px scope pos) 0 (.ref I) .none (genEnv scope [] C code builtinsNs X.env)) ((model X.prog X.w).den (.compLoop (gExp elt iter x px scope pos) 0 (.ref I) .none (genEnv scope [] C code builtinsNs X.env))) [] s) :
    Seg (model X.prog X.w) A R Y n s₀ (.compStart (gExp elt iter x px scope pos) 0 (.ref I) .none (genEnv scope [] C code builtinsNs X.env)) ((model X.prog X.w).den (.compStart (gExp elt iter x px scope pos) 0 (.ref I) .none (genEnv scope [] C code builtinsNs X.env))) [] s := by
  have hA' : (A.over (.compStart (gExp elt iter x px scope pos) 0 (.ref I) .none (genEnv scope [] C code builtinsNs X.env)) []).handled = none := hA
  show Seg _ A _ _ _ s₀ _ ((compStart (gExp elt iter x px scope pos) 0 (.ref I) .none (genEnv scope [] C code builtinsNs X.env)).onRaise (leaving (genEnv scope [] C code builtinsNs X.env))) [] s
  unfold compStart
  rw [Sem.onRaise_eq_wrap]
  show Seg _ A _ _ _ s₀ _ ((ask >>= _).wrap _ _ _ _) [] s
  refine seg_bind_wrap (wpAny_askSetting ?_)
  split
  · exact seg_again rfl h
  · refine seg_bind_wrap (wpAny_rule ?_)
    first
    | exact seg_bind_wrap (wpAny_standAt (seg_bind_wrap ((Walks.tuple hA' I t hne its).self 0 s _ _ ⟨it, tup⟩ (seg_again rfl h))))
    | (show Seg _ A _ _ _ s₀ _ ((standAt iter.pos >>= _).wrap _ _ _ _) [] s
       exact seg_bind_wrap (wpAny_standAt (seg_bind_wrap ((Walks.tuple hA' I t hne its).self 0 s _ _ ⟨it, tup⟩ (seg_again rfl h)))))
end
/-! ### all of it -/
section
variable {prog : Program} {w : World} {A : Around}
theorem all_loop {a : Addr} {n : Nat} {J : Nat → Shared → Prop} {Je : Shared → Prop} {tr : Nat → Bool} {R : Result → Shared → Prop} (je : ∀ i s, J i s → Je s)
    (item : ∀ (i : Nat) (s : Shared) (Q : Option Value → Shared → Prop) (E : Value → Shared → Prop), i < n → J i s → (∀ s', J (i + 1) s' → Q (some (.bool (tr i))) s') → wpAny (model prog w) A.in1 (pyNext (.ref a)) Q E s)
    (done : ∀ (s : Shared) (Q : Option Value → Shared → Prop) (E : Value → Shared → Prop), J n s → (∀ s', Je s' → Q none s') → wpAny (model prog w) A.in1 (pyNext (.ref a)) Q E s) :
    ∀ (k i : Nat) (s : Shared), n - i = k → i ≤ n → J i s → (∀ s', Je s' → R (.ok (.ret (.bool (((List.range n).drop i).all tr)))) s') → codeAny (model prog w) A (.builtin "all.loop" ⟨[.ref a], []⟩) R s := by
  intro k
  induction k with
  | zero =>
    intro i s hk hi j q
    have e : i = n := by omega
    subst e
    refine codeAny_builtin F.entry_all_loop ?_
    rw [Around.under_plainId F.plain_all_loop _]
    show wpAny _ A.in1 (pyNext (.ref a) >>= _) _ _ s
    refine wpAny_bind (done s _ _ j fun s' h' => wpAny_bind (wpAny_rule (wpAny_pure ?_)))
    have z := q s' h'
    rw [List.drop_of_length_le (by simp)] at z
    exact z
  | succ k ih =>
    intro i s hk hi j q
    have lt : i < n := by omega
    have hd : (List.range n).drop i = i :: (List.range n).drop (i + 1) := by
      rw [List.drop_eq_getElem_cons (by simpa using lt)]
      simp
    refine codeAny_builtin F.entry_all_loop ?_
    rw [Around.under_plainId F.plain_all_loop _]
    show wpAny _ A.in1 (pyNext (.ref a) >>= _) _ _ s
    refine wpAny_bind (item i s _ _ lt j fun s' j' => ?_)
    refine wpAny_bind (wpAny_holding (wpAny_truthy_bool ?_))
    refine wpAny_bind (wpAny_letGo ?_)
    cases hb : tr i with
    | true =>
      simp only [if_true]
      refine wpAny_pure ⟨plainId_quiet F.plain_all_loop _, ih (i + 1) _ (by omega) lt j' fun s'' h'' => ?_⟩
      have z := q s'' h''
      rw [hd, List.all_cons, hb, Bool.true_and] at z
      exact z
    | false =>
      simp only [Bool.false_eq_true, if_false]
      refine wpAny_bind (wpAny_rule (wpAny_pure ?_))
      have z := q s' (je _ _ j')
      rw [hd, List.all_cons, hb, Bool.false_and] at z
      exact z
end
/-! ### the rule -/
theorem bare_set {g : Array GenState} {k : Nat} {y : GenState} (h : AllBare g) (hy : y.bare = true) : AllBare (g.setIfInBounds k y) := by
  intro z hz
  obtain ⟨i, hi, rfl⟩ := Array.mem_iff_getElem.mp hz
  have hi' : i < g.size := by simpa using hi
  rw [Array.getElem_setIfInBounds]
  · split
    · exact hy
    · exact h _ (Array.getElem_mem hi')
  · exact hi'
theorem un_skip {fs : List Addr} {I : Addr} {H1 H4 H : Hp} {h1 h4 h : Heap} (a : Un fs [] H1 H4 h1 h4) (b : Un fs [I] H4 H h4 h) (hI : h1.objs.size ≤ I) : Un fs [] H1 H h1 h := by
  have u := (a.mono (fs' := fs) (ex' := [I]) (fun _ z => z) (fun _ z => nomatch z)).trans b
  have no : ∀ c o, h1.get? c = some o → c ∉ [I] := fun c o e z => by
    have l := Heap.lt_size e
    rw [List.mem_singleton.mp z] at l
    exact absurd (Nat.lt_of_lt_of_le l hI) (Nat.lt_irrefl _)
  exact ⟨fun c o e n hf _ => u.keep c o e n hf (no c o e), fun c o e n hf _ => u.slot c o e n hf (no c o e), fun c o e n _ => u.free c o e n (no c o e), fun c o e _ => u.there c o e (no c o e), u.tups, u.frzs, u.tbls⟩
theorem un_tab {fs : List Addr} {H : Hp} {P : Addr} {ps more : Array Value} {h h' : Heap} (hP : H P = some (.tbl ps)) (k : ∀ b o, b ≠ P → h.get? b = some o → h'.get? b = some o) (at1 : ∃ o, h'.get? P = some o) : Un fs [] H (upd H P (.tbl (ps ++ more))) h h' := by
  have nN : ∀ b, H b = none → b ≠ P := fun b e z => by
    rw [z, hP] at e
    cases e
  have nO : ∀ b u, H b = some u → (∀ q, u ≠ .tbl q) → b ≠ P := fun b u e q z => by
    rw [z, hP] at e
    exact q ps (Option.some.inj e).symm
  refine ⟨fun b o e n _ _ => k b o (nN b n) e, fun b o e n _ _ => ⟨o.slots, k b o (nN b n) e⟩, fun b o e n _ => by rw [upd_ne (nN b n)]; exact n, fun b o e _ => ?_, fun b xs e => by rw [upd_ne (nO b _ e fun q z => by cases z)]; exact e, fun b o u e => by rw [upd_ne (nO b _ e fun q z => by cases z)]; exact e, fun b qs e => ?_⟩
  · by_cases hb : b = P
    · rw [hb]
      exact at1
    · exact ⟨o, k b o hb e⟩
  · by_cases hb : b = P
    · rw [hb, hP] at e
      cases e
      rw [hb, upd_same]
      exact ⟨more, rfl⟩
    · rw [upd_ne hb, e]
      exact ⟨#[], by simp⟩
def tAllN (K : PySem.W.Frag) (P : Addr) (tel te : TE) : TE := fun σ H Q => te σ H fun v H1 => ∃ (t : Addr) (xs : List V) (tr : Nat → Bool) (W : Nat → Hp → Prop), v = .ref t ∧ SqT K H1 t xs ∧ GxR.TabG H1 P ∧
  (∀ H2, GxR.Tabbed P H1 H2 → W 0 H2) ∧ (∀ i H, W i H → SqT K H t xs ∧ ∀ b, H1 b = none → H b = none) ∧
  (∀ (J : Addr) (i : Nat) (H : Hp) (v : V), xs[i]? = some v → W i H → tel [some (.ref J), some v] H fun y H' => y = .bl (tr i) ∧ W (i + 1) H') ∧ ∀ (i : Nat) (H : Hp), W i H → Q (.bl ((List.range xs.length).all tr)) H
section
variable {X : Cx}
theorem pe_allN {c P : Addr} {elt iter : Expr} {x : Str} {px p pos gpos : Pos} {scope : Scope} {tel te : TE} {k : Nat} (hr : Room (k + 1) X.A) (hg : Gl X "all") (hm : X.mg "all" = none) (TB : GxR.TabB X.base X.mg c P) (hc : X.env.code = .ref c) (S : GenOne scope x) (hi : PE X iter te)
    (he : ∀ (A : Around) (C : Addr) (code : Value) (s4 : Shared) (H4 : Hp) (I : Addr), Room k A → PE (gx X A x scope C code s4 H4 I) elt tel) (hs : ∀ v, genFold iter X.env v = pure v := by intro _; rfl)
    (hse : starEach [gExp elt iter x px scope gpos] X.env = (false, eval (gExp elt iter x px scope gpos) X.env) :: starEach [] X.env := by rfl) :
    PE X (.Call (.Name "all" p) [gExp elt iter x px scope gpos] [] pos) (tAllN X.K P tel te) := by
  have hv : bootBuiltins ("all" : Str) = some (.builtin "all") := by decide +kernel
  refine ⟨fun pins s σ H Q inv h => wpAny_Call_Name_kw (ld_blt inv hg hm hv (PyProof.Rows.callWith_builtin1 ?_ hse (by rfl)))⟩
  rw [hse]
  show wpAny _ _ (spliced ((false, _) :: backTo pos (starEach [] X.env))) _ _ s
  refine Calls.spliced_cons ?_
  have noF : ∀ y ∈ scope.names, y.2 ≠ .free := fun y hy => (S.own y hy).2
  have clo : closureFor scope X.env = pure [] := by
    rw [closure_ok fun y hy e => absurd e (noF y hy), clo_nil _ _ _ noF]
  refine wpAny_GeneratorExp_make S.co clo (fun y hy => (S.own y hy).1) S.dot S.kind (by have := hr.dp; omega) ?_ hs
  refine thn (hi.run pins s σ H _ inv h) fun xv s1 ⟨v, H1, inv1, rel, q1⟩ => ?_
  obtain ⟨t, xs, tr, W, rfl, sq, ⟨tb, hP, ht⟩, w0, wsq, wst, q⟩ := q1
  cases rel
  obtain ⟨its, vals, tupA, fit⟩ := inv1.tuple sq
  have len : its.toArray.size = xs.length := by rw [List.size_toArray, ← vals.length]
  have isT : s1.heap.IsTuple t its.toArray := tupA
  have lt1 : t < s1.heap.objs.size := by
    obtain ⟨o, e, _⟩ := isT
    exact Heap.lt_size e
  have at0 : s1.heap.get? P = some { cls := .none, data := .fields tb } := inv1.hok P _ hP
  have ltP : P < s1.heap.objs.size := Heap.lt_size at0
  have neP : t ≠ P := fun e => by
    obtain ⟨o, e1, e2, _⟩ := isT
    rw [e, at0] at e1
    cases e1
    cases e2
  refine wpAny_pyIter_tuple tupA ⟨inv1.nolimit.push _, gen_code inv1 TB hc hP ht fun code h3 tk more ext big at3 tri => ?_⟩
  intro h' ns same
  have keep3 : ∀ b u, b ≠ P → s1.heap.get? b = some u → h3.get? b = some u := fun b u nb e => ext b u nb (Heap.get?_push_of_some _ e)
  have inv4 := GxR.inv_tab (more := more) (h' := h3) (g' := s1.gens) (d' := s1.drawn) (t' := tk) inv1 hP keep3 at3 inv1.bare
  have un4 : Un (frs X.stack) [] H1 (upd H1 P (.tbl (tb ++ more))) s1.heap h3 := un_tab hP keep3 ⟨_, at3⟩
  have tab4 : GxR.Tabbed P H1 (upd H1 P (.tbl (tb ++ more))) := ⟨⟨_, upd_same, tri⟩, fun b nb => upd_ne nb⟩
  have w4 := w0 _ tab4
  have it3 : h3.IsTupleIter s1.heap.objs.size t 0 := ⟨_, ext _ _ (Nat.ne_of_gt ltP) (Heap.get?_push_size _ rfl), rfl, rfl⟩
  have tup3 : h3.IsTuple t its.toArray := isT.at fun o e => keep3 _ _ neP e
  have upI : s1.heap.objs.size < h3.objs.size := big
  have sz' : h'.objs.size = h3.objs.size + 1 := by
    rw [same.1]
    exact Heap.size_push ..
  have keep' : ∀ b o, h3.get? b = some o → h'.get? b = some o := fun b o e => same.extBut b o (Nat.ne_of_lt (Heap.lt_size e)) (Heap.get?_push_of_some _ e)
  generalize hH4 : upd H1 P (.tbl (tb ++ more)) = H4 at inv4 un4 w4 tab4
  have none4 : ∀ b, h3.objs.size ≤ b → H4 b = none := fun b hb => inv4.hok.fresh hb
  have nI0 : H1 s1.heap.objs.size = none := inv1.hok.fresh (Nat.le_refl _)
  have nIf : s1.heap.objs.size ∉ frs X.stack := fun z => by
    obtain ⟨_, o, e, _⟩ := inv1.stack.mem z
    exact absurd (Heap.lt_size e) (Nat.lt_irrefl _)
  have naf : ∀ b, h3.objs.size ≤ b → b ∉ frs X.stack := fun b hb z => by
    obtain ⟨_, o, e, _⟩ := inv4.stack.mem z
    exact absurd (Nat.lt_of_lt_of_le (Heap.lt_size e) hb) (Nat.lt_irrefl _)
  refine Calls.spliced_nil ?_
  generalize hgo : ({ cls := .type "generator", data := .fields #[.int ((s1.gens.size : Nat) : Int) 0, .str "<genexpr>" (tk + 1), .str (X.env.qual ++ "<genexpr>") (tk + 1 + 1)] } : Obj) = go
  have isg : (h'.push go).IsGen h'.objs.size s1.gens.size := ⟨go, _, _, Heap.get?_push_size _ (by rw [← hgo]; rfl), by rw [← hgo], by rw [← hgo], by rw [← hgo]⟩
  have up5 : ∀ b o, h3.get? b = some o → (h'.push go).get? b = some o := fun b o e => Heap.get?_push_of_some _ (keep' b o e)
  obtain ⟨A', eA⟩ : ∃ A' : Around, A' = X.A.in1.in1.over (.compLoop (gExp elt iter x px scope gpos) 0 (.ref s1.heap.objs.size) .none (genEnv scope [] h3.objs.size code builtinsNs X.env)) [] := ⟨_, rfl⟩
  have roomA : Room k A' := by rw [eA]; exact room_gen hr
  have framesA : A'.frames = some (genEnv scope [] h3.objs.size code builtinsNs X.env :: X.stack) := by
    rw [eA]
    exact ov_frames inv1.ok.frames
  obtain ⟨X', eX⟩ : ∃ X' : Cx, X' = gx X A' x scope h3.objs.size code { s1 with heap := h3, toks := tk } H4 s1.heap.objs.size := ⟨_, rfl⟩
  have inv5 : Inv X' [(h'.objs.size, go)] [some (.ref s1.heap.objs.size), none] H4 { s1 with gens := s1.gens.push (.fresh (.compStart (gExp elt iter x px scope gpos) 0 (.ref s1.heap.objs.size) .none (genEnv scope [] h3.objs.size code builtinsNs X.env))), toks := tk + 1 + 1 + 1, heap := h'.push go } := by
    rw [eX]
    have look : ∀ y, ((genEnv scope [] h3.objs.size code builtinsNs X.env).kindOf y = some .cell ∨ (genEnv scope [] h3.objs.size code builtinsNs X.env).kindOf y = some .free) → False := fun y z => by
      rcases z with z | z
      · exact (S.own _ (PySem.mem_of_lookup (show scope.names.lookup y = some .cell from z))).1 rfl
      · exact (S.own _ (PySem.mem_of_lookup (show scope.names.lookup y = some .free from z))).2 rfl
    refine ⟨⟨inv1.ok.mod, S.kind, inv1.ok.glob, rfl, Nat.le_refl _, fun _ _ _ z => (nomatch z), fun y z => (look y z).elim, fun _ _ _ z => (nomatch z), fun _ => roomA.hd, framesA, .inr ⟨rfl, rfl⟩, fun b hb => ?_, inv4.bs, Nat.le_trans inv4.ok.bsz inv4.sz, fun b o e => ?_, fun b hb => ?_, inv4.stack, inv4.stkFree⟩,
      rfl, inv1.bare.push rfl, Un.kept up5, ⟨_, ns.push _, fun i y v h1 h2 h3' => ?_⟩, fun _ _ z => (nomatch z), none4 _ (Nat.le_refl _), fun _ _ z => (nomatch z), fun p hp => ?_, inv4.hok.kept up5, rfl⟩
    · rw [List.mem_singleton.mp hb]
      exact ⟨Nat.ne_of_lt upI, fun _ _ z => (nomatch z)⟩
    · intro z
      have l := Heap.lt_size (inv1.bk b o e)
      rw [List.mem_singleton.mp z] at l
      exact Nat.lt_irrefl _ l
    · rw [List.mem_singleton.mp hb]
      exact nIf
    · match i, h1, h2 with
      | 0, h1, h2 =>
        cases h1
        cases h2
        exact ⟨.ref s1.heap.objs.size, rfl, .inl ⟨S.dot, by simp⟩⟩
      | 1, h1, h2 => cases h2
      | i + 2, h1, h2 => simp at h2
    · rw [show p = (h'.objs.size, go) from List.mem_singleton.mp hp]
      refine ⟨Heap.get?_push_size _ (by rw [← hgo]; rfl), none4 _ (by omega), ?_, naf _ (by omega), fun v z => ?_⟩
      · show h'.objs.size ≠ h3.objs.size
        omega
      · rw [← hgo] at z
        cases z
  have G0 : GSt X' (h'.objs.size, go) s1.heap.objs.size t W 0 { s1 with gens := s1.gens.push (.fresh (.compStart (gExp elt iter x px scope gpos) 0 (.ref s1.heap.objs.size) .none (genEnv scope [] h3.objs.size code builtinsNs X.env))), toks := tk + 1 + 1 + 1, heap := h'.push go } :=
    ⟨H4, none, inv5, w4, it3.at fun o e => up5 _ o e⟩
  have hH : ∀ i H, W i H → H s1.heap.objs.size = none := fun i H w => (wsq i H w).2 _ nI0
  have loop := gen_loop (elt := elt) (iter := iter) (px := px) (pos := gpos) (A := X.A.in1.in1) (C := h3.objs.size) (I := s1.heap.objs.size) (t := t) (code := code) (s4 := { s1 with heap := h3, toks := tk }) (H4 := H4) (pin := (h'.objs.size, go)) (te := tel) (xs := xs) (tr := tr) (W := W)
    S hr.hd upI rfl nIf (Nat.ne_of_lt lt1) (show h'.objs.size ≠ s1.heap.objs.size by omega) hH (he _ _ _ _ _ _ (room_gen hr)) (fun i H w => (wsq i H w).1) (fun i H v e w => wst _ i H v e w)
  rw [← eA, ← eX] at loop
  have isg5 : ∀ s : Shared, (∃ (i : Nat), GSt X' (h'.objs.size, go) s1.heap.objs.size t W i s) → s.heap.IsGen h'.objs.size s1.gens.size := fun s ⟨i, H, y, inv', _⟩ => by
    obtain ⟨z, _⟩ := inv'.pin (h'.objs.size, go) (List.mem_append_right _ (List.mem_cons_self ..))
    exact ⟨go, _, _, z, by rw [← hgo], by rw [← hgo], by rw [← hgo]⟩
  have endOf : ∀ (i : Nat) (H : Hp) (y : Option V) (s : Shared), Inv X' [(h'.objs.size, go)] [some (.ref s1.heap.objs.size), y] H s → W i H → ∀ (s' : Shared), s'.os = s.os → AllBare s'.gens → (∀ b o, s.heap.get? b = some o → s'.heap.get? b = some o) →
      CE X.stack X.prog X.w H1 s1 Q (.bool ((List.range xs.length).all tr)) s' := fun i H y s inv' w s' os br kp => by
    have ub := inv'.base
    have uo := inv'.os
    rw [eX] at ub uo
    have u1 : Un (frs X.stack) [] H1 H s1.heap s.heap := un_skip un4 ub (Nat.le_refl _)
    have hok := inv'.hok
    rw [eX] at hok
    exact ⟨.bl _, H, os.trans uo, br, u1.trans (Un.kept kp), hok.kept kp, rfl, q i H w⟩
  refine call_function_tree F.kind_all F.plain_all F.entry_all (F.args_all1 _) ?_
  unfold Builtin.«all»
  refine wpAny_bind (m := oneArg "all" _) (wpAny_pure ?_)
  refine wpAny_bind (wpAny_pyIter_gen (isg5 _ ⟨0, G0⟩) ?_)
  refine wpAny_pure ⟨plainId_quiet F.plain_all_loop _, all_loop (a := h'.objs.size) (n := xs.length) (tr := tr)
    (J := fun i s => GSt X' (h'.objs.size, go) s1.heap.objs.size t W i s ∧ ∃ gs, s.gens[s1.gens.size]? = some gs ∧ ∀ g, AllBare g → gs.Goes (model X.prog X.w) X.A.in1.in1 (gR X' (h'.objs.size, go) s1.heap.objs.size xs.length W) (gY X' (h'.objs.size, go) s1.heap.objs.size t xs.length tr W) (xs.length - i) (.send .none) { s with gens := g })
    (Je := fun s' => CE X.stack X.prog X.w H1 s1 Q (.bool ((List.range xs.length).all tr)) s') (fun i s ⟨⟨H, y, inv', w, _⟩, _⟩ => endOf i H y s inv' w s rfl inv'.bare fun _ _ e => e) ?item ?done xs.length 0 _ rfl (Nat.zero_le _) ⟨G0, _, Array.getElem?_push_size .., fun g hg => ⟨rfl, ?start⟩⟩ fun s' ce => ?_⟩
  case start =>
    have it5 : (h'.push go).IsTupleIter s1.heap.objs.size t 0 := it3.at fun o e => up5 _ o e
    have tup5 : (h'.push go).IsTuple t its.toArray := tup3.at fun o e => up5 _ o e
    have z := loop xs.length 0 { s1 with gens := g, toks := tk + 1 + 1 + 1, heap := h'.push go } { s1 with gens := g, toks := tk + 1 + 1 + 1, heap := h'.push go } rfl (Nat.zero_le _) (G0.gens hg)
    exact gen_start (X := X) (A := X.A.in1.in1) (its := its.toArray) hr.hd (Nat.ne_of_lt lt1) it5 tup5 z
  case item =>
    rintro i s5 Q5 E5 lt ⟨G, gs, hgs, go5⟩ q5
    obtain ⟨m, em⟩ : ∃ m, xs.length - i = m + 1 := ⟨xs.length - i - 1, by omega⟩
    rw [em] at go5
    obtain ⟨H5, y5, inv5', w5, _⟩ := id G
    have gl : s1.gens.size < s5.gens.size := (Array.getElem?_eq_some_iff.mp hgs).1
    refine GenW.wpAny_gsz (n := s1.gens.size + 1) gl ?_
    refine wpAny_pyNext_genexpQ (n := m + 1) (P := fun m _ s1' => m = 0 ∧ ∃ (H : Hp) (y : Option V), Inv X' [(h'.objs.size, go)] [some (.ref s1.heap.objs.size), y] H s1' ∧ W xs.length H) (Y := gY X' (h'.objs.size, go) s1.heap.objs.size t xs.length tr W)
      hr.hd inv5'.nolimit (by have := hr.dp; show X.A.depth < _; omega) (isg5 _ ⟨i, G⟩) hgs (go5 _ (bare_set inv5'.bare rfl)) (fun v s6 gs' hb hv => ?_) (fun s6 hp h6 hk => ?_)
    · obtain ⟨rfl, G6, kap⟩ := hv
      intro sz6
      rw [show xs.length - 1 - (m + 1 - 1) = i by omega]
      rw [show xs.length - (m + 1 - 1) = i + 1 by omega] at G6
      obtain ⟨H6, y6, inv6, w6, _⟩ := id G6
      refine q5 _ ⟨G6.gens (bare_set inv6.bare hb), gs', ?_, fun g hg => ?_⟩
      · have l6 : s1.gens.size < s6.gens.size := by
          rw [GenW.setGen_size] at sz6
          omega
        show (s6.gens.setIfInBounds s1.gens.size gs')[s1.gens.size]? = some gs'
        rw [Array.getElem?_setIfInBounds_self_of_lt l6]
      · rw [show xs.length - (i + 1) = m by omega]
        exact kap g hg
    · exact absurd hp.1 (Nat.succ_ne_zero m)
  case done =>
    rintro s5 Q5 E5 ⟨G, gs, hgs, go5⟩ q5
    rw [Nat.sub_self] at go5
    obtain ⟨H5, y5, inv5', w5, _⟩ := id G
    refine wpAny_pyNext_genexpQ (n := 0) (P := fun m _ s1' => m = 0 ∧ ∃ (H : Hp) (y : Option V), Inv X' [(h'.objs.size, go)] [some (.ref s1.heap.objs.size), y] H s1' ∧ W xs.length H) (Y := gY X' (h'.objs.size, go) s1.heap.objs.size t xs.length tr W)
      hr.hd inv5'.nolimit (by have := hr.dp; show X.A.depth < _; omega) (isg5 _ ⟨_, G⟩) hgs (go5 _ (bare_set inv5'.bare rfl)) (fun v s6 gs' hb hv => ?_) (fun s6 hp h6 hk => ?_)
    · obtain ⟨_, G6, kap⟩ := hv
      obtain ⟨H6, y6, inv6, w6, _⟩ := id G6
      exact (kap _ inv6.bare).elim
    · obtain ⟨_, H6, y6, inv6, w6⟩ := hp
      exact q5 _ (endOf _ H6 y6 s6 inv6 w6 _ rfl (bare_set inv6.bare rfl) hk)
  · rw [List.drop_zero]
    exact inv1.after ce
end
end Lt

set_option Elab.async false
set_option linter.all false
set_option maxRecDepth 100000
set_option maxHeartbeats 4000000
/-! dict(t), t a tuple of pairs: over the library's dict of pairs. -/
namespace Lt
open PySem PySem.Spec PyProof.Rows L2
section
variable {X : Cx}
def rDictT (K : PySem.W.Frag) : List V → Hp → VK → Prop := fun xs H Q => ∃ (a : Addr) (ps : List Addr) (kvs : List (Key × V)), xs = [.ref a] ∧ TpO H a (ps.map V.ref) ∧ Paired (fun p kv => SqT K H p [kV kv.1, kv.2]) ps kvs ∧
  ∀ p, H p = none → Q (.ref p) (upd H p (.dK (mergeK [] kvs)))
theorem call_dictT (calm : X.calm = true) : CallR X (.type "dict") (rDictT X.K) := by
  rintro pins s σ H _ us Q inv rel ⟨a, ps, kvs, rfl, tp, pairs, q⟩
  rw [Vals.ref1 rel]
  obtain ⟨_, hu, o, rfl, cls, nod⟩ := tp
  obtain ⟨at1, fit, vs, vals, o', at2, cls2, n, dat⟩ := inv.hok a _ hu
  have ev := refs_at vals
  subst ev
  rw [at1] at at2
  cases at2
  obtain ⟨prs, kv, len, each⟩ := L2.pairs_of inv pairs
  have pick : ∀ j : Nat, ∃ u : Value, ∀ z : Key × Value, prs[j]? = some z → ∃ b, ps[j]? = some b ∧ IsTup s.heap b #[u, z.2] ∧ keyIs z.1 u = true := by
    intro j
    cases e : prs[j]? with
    | none => exact ⟨.none, fun z hz => nomatch hz⟩
    | some z =>
      obtain ⟨b, u, e1, e2, e3⟩ := each j z e
      exact ⟨u, fun z' hz => by cases hz; exact ⟨b, e1, e2, e3⟩⟩
  obtain ⟨f, hf⟩ := Classical.axiomOfChoice pick
  have at3 : ∀ (i : Nat) (k v : Value), (prs.mapIdx fun j (z : Key × Value) => (f j, z.2))[i]? = some (k, v) → ∃ z, prs[i]? = some z ∧ k = f i ∧ v = z.2 := fun i k v e => by
    rw [List.getElem?_mapIdx] at e
    cases e2 : prs[i]? with
    | none =>
      rw [e2] at e
      cases e
    | some z =>
      rw [e2] at e
      cases e
      exact ⟨z, rfl, rfl, rfl⟩
  have lps : ps.length ≤ sizeLine := by
    rw [List.length_map] at fit
    exact fit
  have lprs : (prs.mapIdx fun j (z : Key × Value) => (f j, z.2)).length = prs.length := List.length_mapIdx
  refine PySem.call_dict_pairs (knd := mixKind X.prog X.w) (kvs := prs) (PairArg.tuple a (ps.map Value.ref).toArray (fun j => (ps[j]?).getD 0) (prs.mapIdx fun j (z : Key × Value) => (f j, z.2))) (inv.ok.hd calm) ⟨⟨o, n, at1, cls, nod, dat⟩, ?_, fun j k v e => ?_⟩ ⟨lprs.symm, fun i k v e => ?_⟩ (by rw [lprs, len]; exact lps) fun h' tk dd keeps => ?_
  · rw [lprs, len, List.size_toArray, List.length_map]
  · obtain ⟨z, e1, rfl, rfl⟩ := at3 j k v e
    obtain ⟨b, g1, g2, g3⟩ := hf j z e1
    have g4 : (ps[j]?).getD 0 = b := by rw [g1]; rfl
    show _ = some (Value.ref ((ps[j]?).getD 0)) ∧ PairAt s.heap ((ps[j]?).getD 0) _ _
    rw [g4]
    exact ⟨by simp [g1], .inl g2⟩
  · obtain ⟨z, e1, rfl, rfl⟩ := at3 i k v e
    obtain ⟨b, g1, g2, g3⟩ := hf i z e1
    exact ⟨z.1, e1, g3⟩
  · have sys : (s.heap.objs.size == sysModules) = false := beq_eq_false_iff_ne.mpr (Nat.ne_of_gt inv.big)
    have small : (mergeK [] kvs).length ≤ sizeLine := by
      have z := length_mergeK kvs []
      rw [List.length_nil, Nat.zero_add, kv.length, len] at z
      exact Nat.le_trans z lps
    exact ⟨.ref s.heap.objs.size, upd H s.heap.objs.size (.dK (mergeK [] kvs)), inv.laid (t' := tk) (fun b u e => keeps b u (fun z => nomatch z) e) (Nat.le_refl _) (show ObjOk X.prog X.w _ _ _ (.dK (mergeK [] kvs)) from ⟨small, sys, merged [] prs, KV.merge kv .nil, dd⟩), rfl, q _ (inv.hok.fresh (Nat.le_refl _))⟩
end
end Lt

set_option Elab.async false
set_option linter.all false
set_option maxRecDepth 100000
set_option maxHeartbeats 4000000
/-! 'a' <= sign <= 'z' as a generator's element; len(set(t)), t a tuple of texts. -/
namespace Lt
open PySem PySem.Spec PyProof.Rows L2
/-- a small letter -/
def small (c : Nat) : Bool := decide (97 ≤ c) && decide (c ≤ 122)
theorem sign_le (a c : Nat) : (!decide ([c] < [a])) = decide (a ≤ c) := by
  by_cases h : a ≤ c
  · rw [decide_eq_true h, decide_eq_false (fun z => by
      rw [List.cons_lt_cons_iff] at z
      rcases z with z | z
      · omega
      · exact List.not_lt_nil _ z.2)]
    rfl
  · rw [decide_eq_false h, decide_eq_true (List.cons_lt_cons_iff.mpr (.inl (by omega)))]
    rfl
theorem elt_az {prog : Program} {w : World} {scope : Scope} {x : Str} {j k : Nat} {p1 p2 p3 p4 : Pos} (hk : scope.kind = .function) (hl : scope.names.lookup x = some .local) (hd : (x == ("__debug__" : Str)) = false := by decide)
    (hm : lastMarks [.LtE, .LtE] [.Name x p2, .Constant (.str "z") k p3] = false := by with_unfolding_all rfl) :
    GxR.EltP prog w scope x (.Compare (.Constant (.str "a") j p1) [.LtE, .LtE] [.Name x p2, .Constant (.str "z") k p3] p4) small := by
  intro cenv A' E' c t s2 m2 hs hn hm2
  refine Compare_chain (Calls.Constant_str (chain_link (wpAny_Name (wpAny_loadName_local (by rw [hs]; exact hk) (show cenv.scope.names.lookup x = some .local by rw [hs]; exact hl) hn hm2 ?_) hd))) hm
  refine PySem.P.le_str ?_
  have e1 : (!decide ((⟨#[c]⟩ : Str).cps.toList < ("a" : Str).cps.toList)) = decide (97 ≤ c) := sign_le 97 c
  rw [e1]
  refine wpAny_truthy_bool ?_
  by_cases h : 97 ≤ c
  · rw [decide_eq_true h]
    refine ite_tt (chain_last (Calls.Constant_str (PySem.P.le_str ?_)))
    have e2 : (!decide (("z" : Str).cps.toList < (⟨#[c]⟩ : Str).cps.toList)) = decide (c ≤ 122) := sign_le c 122
    rw [e2]
    refine ⟨?_, GxR.keeps_tok _ _⟩
    unfold small
    rw [decide_eq_true h, Bool.true_and]
  · rw [decide_eq_false h]
    refine ite_ff ⟨?_, GxR.keeps_tok _ _⟩
    unfold small
    rw [decide_eq_false h, Bool.false_and]
section
variable {prog : Program} {w : World} {A : Around} {E : Value → Shared → Prop} {s : Shared}
theorem set_txtsT {l : Addr} {items : Array Value} {ss : List Str} {Q : Value → Shared → Prop} (calm : A.handled = none) (hl : s.heap.IsTuple l items) (val : ∀ (i : Nat) (v : Value), items[i]? = some v → ∃ z t, ss[i]? = some z ∧ v = .str z t)
    (len : items.size = ss.length) (room : items.size + 1 < scanBound)
    (h : ∀ (h' : Heap) (tk : Nat), h'.SetOf (PySem.strKind prog w) s.heap.objs.size (fun z => decide (z ∈ ss)) (dist ss) → (∀ b o, s.heap.get? b = some o → h'.get? b = some o) → Q (.ref s.heap.objs.size) { s with heap := h', toks := tk }) :
    wpAny (model prog w) A (call (.type "set") [.ref l]) Q E s := by
  refine set_call fun led => ?_
  generalize hso : ({ cls := .type "set", dict := none, data := .set #[] 0 (.fresh 0 0 led) } : Obj) = so
  have below : (l : Nat) < s.heap.objs.size := by
    obtain ⟨o, ho, _⟩ := hl
    exact Heap.lt_size ho
  have atS : (s.heap.push so).get? s.heap.objs.size = some so := Heap.get?_push_size _ (by rw [← hso]; rfl)
  have hl1 : (s.heap.push so).IsTuple l items := hl.at fun o e => Heap.get?_push_of_some _ e
  have top1 : (s.heap.push so).objs.size = s.heap.objs.size + 1 := Heap.size_push _ _
  obtain ⟨⟨oc, od, odt, osl⟩, ho1, hc1, n1, hd1⟩ := id hl1
  simp only at hc1 hd1
  subst hc1 hd1
  have no1 := PySem.F.sub_tuple_set
  have no2 := PySem.F.sub_tuple_frozenset
  have no3 : (Value.type "tuple" == Value.type "dict") = false := by decide
  unfold Builtin.«set.__init__» noKeywords Builtin.Frozenset.updateFrom
  generalize hPI : pyIter = PI
  subst hso
  wp_walk
  subst hPI
  refine wpAny_pyIter_tuple hl1 (wpAny_bind (wpAny_runValue ?_))
  have calm3 : A.in1.in1.in1.handled = none := by simp [calm]
  have neI : l ≠ (s.heap.push { cls := .type "set", dict := none, data := .set #[] 0 (.fresh 0 0 led) }).objs.size := by
    rw [top1]
    exact Nat.ne_of_lt (Nat.lt_succ_of_lt below)
  have offS : s.heap.objs.size ∉ [(s.heap.push { cls := .type "set", dict := none, data := .set #[] 0 (.fresh 0 0 led) }).objs.size, l] := by
    rw [top1]
    intro z
    rcases List.mem_cons.mp z with e | e
    · exact Nat.succ_ne_self _ e.symm
    · exact absurd (List.mem_singleton.mp e) (Nat.ne_of_gt below)
  refine txt_loop ((Walks.tuple calm3 _ l neI items).toS) s.heap.objs.size offS ss len room val items.size 0 _ (Nat.zero_add _) ⟨⟨_, Heap.get?_push_size _ rfl, rfl, rfl⟩, hl1.at fun o e => Heap.get?_push_of_some _ e⟩ ?empty ?filled
  case empty =>
    refine SetOf_congr ((setObjOf_fresh (knd := PySem.strKind prog w) led).setOf (Heap.get?_push_of_some _ atS) (by unfold scanBound; omega)) (fun z => ?_) rfl
    simp
  case filled =>
    intro s5 mv set5
    obtain ⟨h5, g5, d5, tk5, os5⟩ := s5
    obtain rfl : g5 = s.gens := mv.gens
    obtain rfl : d5 = s.drawn := mv.drawn
    obtain rfl : os5 = s.os := mv.os
    show wpAny _ _ _ _ _ _
    refine wpAny_pure (show wpAny _ _ (ret Value.none) _ _ _ from wpAny_pure ⟨rfl, h h5 tk5 set5 fun b o e => ?_⟩)
    have lt : b < s.heap.objs.size := Heap.lt_size e
    refine mv.heap b o (fun z => ?_) (Heap.get?_push_of_some _ (Heap.get?_push_of_some _ e))
    rcases List.mem_cons.mp z with e2 | e2
    · exact absurd e2 (Nat.ne_of_lt lt)
    · rw [List.mem_singleton.mp e2, top1] at lt
      exact absurd lt (Nat.not_lt.mpr (Nat.le_succ _))
end
section
variable {X : Cx}
def tLenSetT (K : PySem.W.Frag) (ta : TE) : TE := fun σ H Q => ta σ H fun x H1 => ∃ (l : Addr) (ss : List Str), x = .ref l ∧ SqT K H1 l (ss.map V.str) ∧ ss.length ≤ 1000 ∧ Q (.int (dist ss : Nat)) H1
theorem pe_lenSetT {a : Expr} {ta : TE} {p p2 q pos : Pos} (hcalm : X.calm = true) (g1 : Gl X "len") (m1 : X.mg "len" = none) (g2 : Gl X "set") (m2 : X.mg "set" = none) (ha : PE X a ta)
    (one : starEach [a] X.env = (false, eval a X.env) :: starEach [] X.env := by rfl) : PE X (.Call (.Name "len" p) [.Call (.Name "set" p2) [a] [] q] [] pos) (tLenSetT X.K ta) := by
  refine ⟨fun pins s σ H Q inv h => Call_ (ld_blt inv g1 m1 boot_len (callWith_builtin1 (args_cons ?_ rfl) rfl rfl))⟩
  refine Call_ (ld_blt inv g2 m2 boot_set (callWith_type1 (args_cons (thn (ha.run pins s σ H _ inv h) fun v s1 ⟨x, H1, inv1, rel, l, ss, ev, sq, few, q1⟩ => args_nil ?_) one) one rfl))
  subst ev
  cases rel
  obtain ⟨its, vals, tup, _⟩ := inv1.tuple sq
  have len : its.toArray.size = ss.length := by rw [List.size_toArray, ← vals.length, List.length_map]
  refine set_txtsT (ss := ss) (inv1.ok.hd hcalm) tup (fun i v e => ?_) len (by rw [len]; unfold scanBound; omega) fun h' tk set kept => args_nil ?_
  · have e' : its[i]? = some v := by simpa using e
    have hi : i < ss.length := by
      have z := (List.getElem?_eq_some_iff.mp e').1
      rw [← len, List.size_toArray]
      exact z
    obtain ⟨u, g3, t, g4⟩ := vals.get (i := i) (x := .str ss[i]) (by simp [hi])
    rw [e'] at g3
    cases g3
    exact ⟨ss[i], t, List.getElem?_eq_getElem hi, g4⟩
  · obtain ⟨o, es, ep, tb, ho, ex, hd, _, _, _, fits, num⟩ := set
    have small : dist ss ≤ 1000 := Nat.le_trans (dist_le ss) few
    have inv2 : Inv X pins σ H1 { s1 with heap := h', toks := tk } := inv1.kept kept
    exact call_len_set ho ex hd fits (by rw [num]; omega) ⟨.int (dist ss : Nat), H1, inv2.tok _, ⟨_, by rw [num]⟩, q1⟩
end
end Lt

set_option Elab.async false
set_option linter.all false
set_option maxRecDepth 100000
set_option maxHeartbeats 4000000
/-! what a name and a pile are, of any data; heaps that differ in tables alone. -/
namespace Lt
open PySem PySem.Spec PyProof.Rows L2
def nameD : PyData → Bool
  | .str z => decide (1 ≤ z.length) && decide (z.length ≤ 8) && z.cps.toList.all small
  | _ => false
def txts (ds : List PyData) : List Str := ds.filterMap fun d => match d with
  | .str z => some z
  | _ => none
def pileD : PyData → Bool
  | .tuple ds => decide (1 ≤ ds.length) && decide (ds.length ≤ 7) && ds.all nameD && decide (dist (txts ds) = ds.length)
  | _ => false
theorem nameD_str (z : Str) : nameD (.str z) = (decide (1 ≤ z.length) && decide (z.length ≤ 8) && z.cps.toList.all small) := rfl
theorem pileD_tup (ds : List PyData) : pileD (.tuple ds) = (decide (1 ≤ ds.length) && decide (ds.length ≤ 7) && ds.all nameD && decide (dist (txts ds) = ds.length)) := rfl
theorem name_str {d : PyData} (h : nameD d = true) : ∃ z, d = .str z := by
  cases d with
  | str z => exact ⟨z, rfl⟩
  | _ => cases h
theorem kind_str {K : PySem.W.Frag} {H : Hp} {v : V} {d : PyData} (dp : Dp K H v d) : (∃ z, d = .str z) ∨ ((∀ z, d ≠ .str z) ∧ kitB (kindName d) "str" = some false) := by
  cases d with
  | str z => exact .inl ⟨z, rfl⟩
  | none => exact .inr ⟨fun z => (nomatch ·), (show kitB "NoneType" "str" = some false by decide +kernel)⟩
  | bool b => exact .inr ⟨fun z => (nomatch ·), (show kitB "bool" "str" = some false by decide +kernel)⟩
  | int i => exact .inr ⟨fun z => (nomatch ·), (show kitB "int" "str" = some false by decide +kernel)⟩
  | list ds => exact .inr ⟨fun z => (nomatch ·), (show kitB "list" "str" = some false by decide +kernel)⟩
  | tuple ds => exact .inr ⟨fun z => (nomatch ·), (show kitB "tuple" "str" = some false by decide +kernel)⟩
  | dict kvs => cases dp
theorem kind_tup {K : PySem.W.Frag} {H : Hp} {v : V} {d : PyData} (dp : Dp K H v d) : (∃ ds, d = .tuple ds) ∨ ((∀ ds, d ≠ .tuple ds) ∧ kitB (kindName d) "tuple" = some false) := by
  cases d with
  | tuple ds => exact .inl ⟨ds, rfl⟩
  | none => exact .inr ⟨fun z => (nomatch ·), (show kitB "NoneType" "tuple" = some false by decide +kernel)⟩
  | bool b => exact .inr ⟨fun z => (nomatch ·), (show kitB "bool" "tuple" = some false by decide +kernel)⟩
  | int i => exact .inr ⟨fun z => (nomatch ·), (show kitB "int" "tuple" = some false by decide +kernel)⟩
  | list ds => exact .inr ⟨fun z => (nomatch ·), (show kitB "list" "tuple" = some false by decide +kernel)⟩
  | str z => exact .inr ⟨fun z => (nomatch ·), (show kitB "str" "tuple" = some false by decide +kernel)⟩
  | dict kvs => cases dp
theorem name_no {d : PyData} (h : ∀ z, d ≠ .str z) : nameD d = false := by
  cases d with
  | str z => exact absurd rfl (h z)
  | _ => rfl
theorem pile_no {d : PyData} (h : ∀ ds, d ≠ .tuple ds) : pileD d = false := by
  cases d with
  | tuple ds => exact absurd rfl (h ds)
  | _ => rfl
theorem no_free {names : List (Str × NameKind)} {q : Str × NameKind → Prop} (h : names.all (fun y => y.2 != .free) = true) : ∀ y ∈ names, y.2 = .free → q y := fun y hy e => by
  have z := List.all_eq_true.mp h y hy
  rw [e] at z
  cases z
theorem txts_map : ∀ ss : List Str, txts (ss.map PyData.str) = ss
  | [] => rfl
  | x :: r => by
    show x :: txts (r.map PyData.str) = x :: r
    rw [txts_map r]
theorem txts_all : ∀ {ds : List PyData}, (∀ d ∈ ds, nameD d = true) → ds = (txts ds).map PyData.str
  | [], _ => rfl
  | d :: ds, h => by
    obtain ⟨z, rfl⟩ := name_str (h d (List.mem_cons_self ..))
    have ih := txts_all (ds := ds) fun e he => h e (List.mem_cons_of_mem _ he)
    have e : txts (PyData.str z :: ds) = z :: txts ds := rfl
    rw [e, List.map_cons, ← ih]
theorem dpAll_txts {K : PySem.W.Frag} {H : Hp} : ∀ {vs : List V} {ss : List Str}, DpAll K H vs (ss.map PyData.str) → vs = ss.map V.str
  | _, [], .nil => rfl
  | _, x :: r, .cons h t => by
    cases h
    rw [List.map_cons, dpAll_txts t]
def atD (p : PyData → Bool) (l : List PyData) (i : Nat) : Bool := match l[i]? with
  | some d => p d
  | none => false
theorem atD_some {p : PyData → Bool} {l : List PyData} {i : Nat} {d : PyData} (h : l[i]? = some d) : atD p l i = p d := by
  unfold atD
  rw [h]
theorem all_at (p : PyData → Bool) (l : List PyData) : (List.range l.length).all (atD p l) = l.all p := by
  rw [Bool.eq_iff_iff, List.all_eq_true, List.all_eq_true]
  constructor
  · intro h d hd
    obtain ⟨i, hi⟩ := List.getElem?_of_mem hd
    have l := (List.getElem?_eq_some_iff.mp hi).1
    have z := h i (List.mem_range.mpr l)
    rw [atD_some hi] at z
    exact z
  · intro h i hi
    have l := List.mem_range.mp hi
    rw [atD_some (List.getElem?_eq_getElem l)]
    exact h _ (List.getElem_mem l)
/-! ### heaps that differ in tables alone -/
def SameN (H H' : Hp) : Prop := ∀ b o, H b = some o → (∀ q, o ≠ .tbl q) → H' b = some o
theorem SameN.refl (H : Hp) : SameN H H := fun _ _ h _ => h
theorem SameN.trans {H H1 H2 : Hp} (a : SameN H H1) (b : SameN H1 H2) : SameN H H2 := fun c o h n => b c o (a c o h n) n
theorem SameN.of {H H' : Hp} (s : Same H H') : SameN H H' := fun c o h _ => s c o h
theorem SameN.tab {P : Addr} {H H' : Hp} (t : GxR.TabG H P) (s : GxR.Tabbed P H H') : SameN H H' := fun b o h n => by
  by_cases e : b = P
  · obtain ⟨ps, h1, _⟩ := t
    rw [e, h1] at h
    exact absurd (Option.some.inj h).symm (n ps)
  · rw [s.2 b e]
    exact h
theorem SameN.tup {K : PySem.W.Frag} {H H' : Hp} {a : Addr} {xs : List V} (e : SameN H H') (h : SqT K H a xs) : SqT K H' a xs := by
  rcases h with (h | ⟨o, h⟩) | h
  · exact .inl (.inl (e _ _ h fun q z => nomatch z))
  · exact .inl (.inr ⟨o, e _ _ h fun q z => nomatch z⟩)
  · exact .inr h
theorem SameN.lst {K : PySem.W.Frag} {H H' : Hp} {a : Addr} {xs : List V} (e : SameN H H') (h : SqL K H a xs) : SqL K H' a xs := by
  rcases h with (h | ⟨o, h⟩) | h
  · exact .inl (.inl (e _ _ h fun q z => nomatch z))
  · exact .inl (.inr ⟨o, e _ _ h fun q z => nomatch z⟩)
  · exact .inr h
mutual
theorem dp_sameN {K : PySem.W.Frag} {H H' : Hp} (e : SameN H H') : ∀ {v : V} {d : PyData}, Dp K H v d → Dp K H' v d
  | _, _, .non => .non
  | _, _, .bl b => .bl b
  | _, _, .int i => .int i
  | _, _, .str x => .str x
  | _, _, .lst h a => .lst (e.lst h) (dpAll_sameN e a)
  | _, _, .tup h a => .tup (e.tup h) (dpAll_sameN e a)
theorem dpAll_sameN {K : PySem.W.Frag} {H H' : Hp} (e : SameN H H') : ∀ {vs : List V} {ds : List PyData}, DpAll K H vs ds → DpAll K H' vs ds
  | _, _, .nil => .nil
  | _, _, .cons h t => .cons (dp_sameN e h) (dpAll_sameN e t)
end
theorem TpO.sameN {H H' : Hp} {a : Addr} {xs : List V} (h : TpO H a xs) (e : SameN H H') : TpO H' a xs := by
  obtain ⟨u, h1, o, rfl, r⟩ := h
  exact ⟨_, e _ _ h1 (fun q z => nomatch z), o, rfl, r⟩
theorem Tape.sameN {H H' : Hp} {T S : Addr} {ns : List Int} (t : Tape H T S ns) (s : SameN H H') : Tape H' T S ns := by
  obtain ⟨i, c, h⟩ := t.at_
  exact ⟨⟨i, c, s _ _ h (fun q z => nomatch z)⟩, s _ _ t.scr (fun q z => nomatch z)⟩
theorem SameN.lstH {H H' : Hp} {a : Addr} {xs : List V} (e : SameN H H') (h : H a = some (.lst xs)) : H' a = some (.lst xs) := e _ _ h fun q z => nomatch z
theorem SameN.tupH {H H' : Hp} {a : Addr} {xs : List V} (e : SameN H H') (h : H a = some (.tup xs)) : H' a = some (.tup xs) := e _ _ h fun q z => nomatch z
theorem tabG_same {P : Addr} {H H' : Hp} (t : GxR.TabG H P) (s : Same H H') : GxR.TabG H' P := by
  obtain ⟨ps, h, r⟩ := t
  exact ⟨ps, s _ _ h, r⟩
theorem tabG_but {P T : Addr} {H H' : Hp} (t : GxR.TabG H P) (s : SameT T H H') (h : ∃ xs, H T = some (.lst xs)) : GxR.TabG H' P := by
  obtain ⟨ps, h1, r⟩ := t
  obtain ⟨xs, h2⟩ := h
  exact ⟨ps, s _ _ (ne_of h1 h2 fun z => nomatch z) h1, r⟩
theorem tabG_tab {P P' : Addr} {H H' : Hp} (t : GxR.TabG H P) (s : GxR.Tabbed P' H H') : GxR.TabG H' P := by
  by_cases e : P = P'
  · rw [e]
    exact s.1
  · obtain ⟨ps, h, r⟩ := t
    exact ⟨ps, by rw [s.2 P e]; exact h, r⟩
theorem tabbed_refl {P : Addr} {H : Hp} (t : GxR.TabG H P) : GxR.Tabbed P H H := ⟨t, fun _ _ => rfl⟩
end Lt

set_option Elab.async false
set_option linter.all false
set_option maxRecDepth 100000
set_option maxHeartbeats 4000000
/-! Generator expressions of one clause or two, over anything that the layer walks, read in their own frame: what they hand out. -/
namespace Lt
open PySem PySem.Spec PyProof.Rows L2 GenW
abbrev TB := List V → L2.St → Hp → (List V → L2.St → Hp → Prop) → Prop
/-- a piece of a generator's code: what is out so far, the names, the heap -/
structure GB (X : Cx) (m : Sem Unit) (t : TB) : Prop where
  run : ∀ (A : Around) (S : Addr) (ip : List (Addr × Obj)) (R : GenEnd) (n : Nat) (ys : List V) (s₀ : Shared) (c : Code) (fs : List Frame) (K : Unit → Sem PySem.Fin) (J : Value → Sem PySem.Fin) (gd : Bool → Bool) (lv : List Value → List Value) (s : Shared) (σ : L2.St) (H : Hp) (N : List V → L2.St → Hp → Prop),
    GC X S ip A c fs gd → n + ys.length = sizeLine →
    (∀ (n' : Nat) (ys' : List V) (s₀' s' : Shared) (σ' : L2.St) (H' : Hp), n' + ys'.length = sizeLine → GI X S ip ys' σ' H' s' → N ys' σ' H' → Seg (model X.prog X.w) A R (GY X S) n' s₀' c (K ()) fs s') →
    GI X S ip ys σ H s → t ys σ H N → Seg (model X.prog X.w) A R (GY X S) n s₀ c (m.wrap K J gd lv) fs s
section
variable {X : Cx} {e : Expr} {te : TE}
def tEmit (te : TE) : TB := fun ys σ H N => ys.length < sizeLine ∧ te σ H fun x H1 => N (ys ++ [x]) σ H1
theorem gb_emit (hx : ∀ e s, ¬ X.xe e s) (he : PE X e te) (hco : X.env.scope.isCoroutine = false) : GB X (do let v ← eval e X.env; standAt e.pos; let _ ← yieldOut X.env v) (tEmit te) := by
  refine ⟨fun A S ip R n ys s₀ c fs K J gd lv s σ H N g hn k hI ht => ?_⟩
  obtain ⟨hlt, ht⟩ := ht
  obtain ⟨n, rfl⟩ : ∃ m, n = m + 1 := ⟨n - 1, by omega⟩
  obtain ⟨acc, cc, r, I⟩ := hI
  have hy : ∀ v, yieldOut X.env v = yieldValue v := fun v => by simp only [yieldOut, hco, Bool.false_eq_true, if_false]
  simp only [hy]
  refine seg_bind_wrap ?_
  rw [g.over]
  refine wpAny_mono (he.run _ s σ H _ I ht) (fun v s' hv => ?_) fun x s' hq => (hx _ _ hq).elim
  obtain ⟨x, H1, I1, rv, q⟩ := hv
  have G1 : GI X S ip ys σ H1 s' := ⟨acc, cc, r, I1⟩
  refine seg_at (seg_yield g.split g.gd g.guard ⟨ys, x, ip, σ, H1, hn, rv, G1, fun s'' z => ?_⟩)
  refine k n (ys ++ [x]) s'' s'' σ H1 ?_ (G1.woken g.pn g.ip g.apart rv z) q
  rw [List.length_append, List.length_singleton]
  omega
/-- what a clause's loop wants: W by the turn -/
def tLoop (J : It) (g : TG) (tb : TB) : TB := fun ys σ H N => ∃ (L : Nat) (W : Nat → List V → L2.St → Hp → Prop), W 0 ys σ H ∧
  (∀ i ys σ H, i < L → W i ys σ H → J.go i H ∧ ∀ x H', J.yld i H x H' → g x σ H' fun σ2 H2 => tb ys σ2 H2 (W (i + 1))) ∧ ∀ ys σ H, W L ys σ H → J.stop L H ∧ N ys σ H
/-- the iterator's own objects -/
def FpS (X : Cx) (S : Addr) (ip : List (Addr × Obj)) (b : Addr) : Prop :=
  b ≠ X.env.locals ∧ b ∉ X.fs ∧ (b ∈ X.ex ∨ X.s_0.heap.objs.size ≤ b) ∧ (∀ x c, X.env.cells.lookup x = some c → c ≠ b) ∧ (∀ p ∈ X.pn ++ ip, p.1 ≠ b) ∧ S ≠ b
theorem FpS.ok {S b : Addr} {ip : List (Addr × Obj)} {H : Hp} {o : Obj} (h : FpS X S ip b) (hn : H b = none) : FpOk X ((S, o) :: ip) H b := by
  obtain ⟨h1, h2, h3, h4, h5, h6⟩ := h
  refine ⟨hn, h1, h2, h3, h4, fun p hp => ?_⟩
  rcases List.mem_append.mp hp with z | z
  · exact h5 p (List.mem_append_left _ z)
  · rcases List.mem_cons.mp z with z | z
    · rw [z]
      exact h6
    · exact h5 p (List.mem_append_right _ z)
theorem fp_st {S b : Addr} {ip : List (Addr × Obj)} {H : Hp} {o : Obj} (h : FpOk X ((S, o) :: ip) H b) : FpS X S ip b := by
  obtain ⟨_, h1, h2, h3, h4, h5⟩ := h
  refine ⟨h1, h2, h3, h4, fun p hp => ?_, h5 (S, o) (List.mem_append_right _ List.mem_cons_self)⟩
  rcases List.mem_append.mp hp with z | z
  · exact h5 p (List.mem_append_left _ z)
  · exact h5 p (List.mem_append_right _ (List.mem_cons_of_mem _ z))
theorem cloop {tg iter : Expr} {d : Nat} {it : Addr} {fp : List Addr} {tn : Nat → Heap → Prop} {J : It} {g : TG} {body : Sem Unit} {tb : TB} {hxr : Value → Sem Unit} (hx : ∀ e s, ¬ X.xe e s) (hc : X.calm = true) (T : Turn X.prog X.w X.K tg J fp it tn) (hg : PG X tg g) (hb : GB X body tb)
    (den : (model X.prog X.w).den (.compLoop e d (.ref it) .none X.env) = Sem.onRaise (standAt iter.pos >>= fun _ => pyNext (.ref it) >>= fun r => match r with
      | none => pure (.done .next)
      | some v => letOwnedTupleGo tg (.ref it) v >>= fun _ => assign tg X.env v >>= fun _ => body >>= fun _ => again (.compLoop e d (.ref it) .none X.env)) hxr)
    {A : Around} {S : Addr} {ip : List (Addr × Obj)} {R : GenEnd} {fs : List Frame} (gc : GC X S ip A (.compLoop e d (.ref it) .none X.env) fs id) (fok : ∀ b ∈ fp, FpS X S ip b)
    {L : Nat} {W : Nat → List V → L2.St → Hp → Prop} {N : List V → L2.St → Hp → Prop} (step : ∀ i ys σ H, i < L → W i ys σ H → J.go i H ∧ ∀ x H', J.yld i H x H' → g x σ H' fun σ2 H2 => tb ys σ2 H2 (W (i + 1))) (last : ∀ ys σ H, W L ys σ H → J.stop L H ∧ N ys σ H)
    (fin : ∀ (n : Nat) (ys : List V) (s₀ s : Shared) (σ : L2.St) (H : Hp), n + ys.length = sizeLine → GI X S ip ys σ H s → N ys σ H → Seg (model X.prog X.w) A R (GY X S) n s₀ (.compLoop e d (.ref it) .none X.env) (leafOf (.ok .next)) fs s) :
    ∀ (k i n : Nat) (ys : List V) (s₀ s : Shared) (σ : L2.St) (H : Hp), L - i = k → i ≤ L → n + ys.length = sizeLine → W i ys σ H → GI X S ip ys σ H s → tn i s.heap → (∀ b ∈ fp, H b = none) →
      Seg (model X.prog X.w) A R (GY X S) n s₀ (.compLoop e d (.ref it) .none X.env) ((model X.prog X.w).den (.compLoop e d (.ref it) .none X.env)) fs s := by
  intro k
  induction k with
  | zero =>
    intro i n ys s₀ s σ H hk hi hn w hI st fr
    have e : i = L := by omega
    subst e
    obtain ⟨stop, q⟩ := last ys σ H w
    obtain ⟨acc, cc, r, I⟩ := hI
    rw [den, Sem.onRaise_eq_wrap]
    refine seg_bind_wrap (wpAny_standAt ?_)
    refine seg_bind_wrap ?_
    rw [gc.over]
    refine wpAny_mono (T.done X rfl rfl rfl hc _ _ s σ H (fun _ _ => False) I (fun b hb => (fok b hb).ok (fr b hb)) st stop) (fun r1 s1 h1 => ?_) fun _ _ z => z.elim
    obtain ⟨rfl, I1⟩ := h1
    exact fin n ys s₀ s1 σ H hn ⟨acc, cc, r, I1⟩ q
  | succ k ih =>
    intro i n ys s₀ s σ H hk hi hn w hI st fr
    have lt : i < L := by omega
    obtain ⟨go, stp⟩ := step i ys σ H lt w
    obtain ⟨acc, cc, r, I⟩ := hI
    rw [den, Sem.onRaise_eq_wrap]
    refine seg_bind_wrap (wpAny_standAt ?_)
    refine seg_bind_wrap ?_
    rw [gc.over]
    refine wpAny_mono (T.item X rfl rfl rfl hc _ _ s σ H (fun _ _ => False) I (fun b hb => (fok b hb).ok (fr b hb)) st go) (fun r1 s1 h1 => ?_) fun _ _ z => z.elim
    obtain ⟨u, rfl, h1⟩ := h1
    refine seg_bind_wrap ?_
    rw [gc.over]
    refine wpAny_mono h1 (fun _ s2 h2 => ?_) fun _ _ z => z.elim
    obtain ⟨x, H2, I2, rx, y2, st2, fr2⟩ := h2
    have I2' : Inv X ((S, lstObj acc cc) :: (ip ++ pinsAt fp s2.heap)) σ H2 s2 := I2.pinned (fun b hb => (fok b hb).ok (fr2 b hb)) (T.obj _ _ st2)
    refine seg_bind_wrap ?_
    rw [gc.over]
    refine wpAny_mono (hg.run _ s2 σ H2 x u _ I2' rx (stp x H2 y2)) (fun _ s3 h3 => ?_) fun _ _ z => (hx _ _ z).elim
    obtain ⟨σ3, H3, I3, q3⟩ := h3
    rw [Sem.bind_eq_wrap' body, Sem.wrap_wrap]
    refine hb.run A S (ip ++ pinsAt fp s2.heap) R n ys s₀ _ fs _ _ _ _ s3 σ3 H3 (W (i + 1)) ⟨gc.pn, fun p hp => ?_, gc.apart, gc.over, gc.split, gc.guard, rfl⟩ hn (fun n' ys' s₀' s4 σ4 H4 hn' G4 w4 => ?_) ⟨acc, cc, r, I3⟩ q3
    · rcases List.mem_append.mp hp with z | z
      · exact gc.ip p z
      · exact fun e => (fok p.1 (of_pinsAt z).1).2.2.2.2.2 e.symm
    · obtain ⟨acc4, cc4, r4, I4⟩ := G4
      refine seg_again rfl (ih (i + 1) n' ys' s₀' s4 σ4 H4 (by omega) lt hn' w4 ⟨acc4, cc4, r4, I4.pins_of fun p hp => ?_⟩ (T.keep _ _ _ st2 fun b hb o eo => ?_) fun b hb => ?_)
      · rcases List.mem_cons.mp hp with z | z
        · rw [z]
          exact I4.pin _ (List.mem_append_right _ List.mem_cons_self)
        · exact I4.pin p (List.mem_append_right _ (List.mem_cons_of_mem _ (List.mem_append_left _ z)))
      · exact (I4.pin (b, o) (List.mem_append_right _ (List.mem_cons_of_mem _ (List.mem_append_right _ (mem_pinsAt hb eo))))).1
      · obtain ⟨o, eo, _⟩ := T.obj _ _ st2 b hb
        exact (I4.pin (b, o) (List.mem_append_right _ (List.mem_cons_of_mem _ (List.mem_append_right _ (mem_pinsAt hb eo))))).2.1
/-- two clauses -/
abbrev gEx2 (elt tg iter tg1 iter1 : Expr) (scope : Scope) (pos : Pos) : Expr := .GeneratorExp elt [⟨tg, iter, [], 0⟩, ⟨tg1, iter1, [], 0⟩] scope pos
abbrev emitS (elt : Expr) (env : Env) : Sem Unit := do let v ← eval elt env; standAt elt.pos; let _ ← yieldOut env v
abbrev inS (e iter1 : Expr) (env : Env) : Sem Unit := do
  let x ← eval iter1 env
  standAt iter1.pos
  let x ← foldedSetIterable iter1 env x
  let _ ← runOwn (.compStart e 1 (← holding [x] (pyIter x)) .none env) env
theorem den_in {elt tg iter tg1 iter1 : Expr} {scope : Scope} {pos : Pos} {it : Addr} : (model X.prog X.w).den (.compLoop (gEx2 elt tg iter tg1 iter1 scope pos) 1 (.ref it) .none X.env) = Sem.onRaise (standAt iter1.pos >>= fun _ => pyNext (.ref it) >>= fun r => match r with
      | none => pure (.done .next)
      | some v => letOwnedTupleGo tg1 (.ref it) v >>= fun _ => assign tg1 X.env v >>= fun _ => emitS elt X.env >>= fun _ => again (.compLoop (gEx2 elt tg iter tg1 iter1 scope pos) 1 (.ref it) .none X.env)) (fun x => do noteFrame x X.env; theTreesLotGoes x) := by
  rfl
theorem den_out {elt tg iter tg1 iter1 : Expr} {scope : Scope} {pos : Pos} {it : Addr} : (model X.prog X.w).den (.compLoop (gEx2 elt tg iter tg1 iter1 scope pos) 0 (.ref it) .none X.env) = Sem.onRaise (standAt iter.pos >>= fun _ => pyNext (.ref it) >>= fun r => match r with
      | none => pure (.done .next)
      | some v => letOwnedTupleGo tg (.ref it) v >>= fun _ => assign tg X.env v >>= fun _ => inS (gEx2 elt tg iter tg1 iter1 scope pos) iter1 X.env >>= fun _ => again (.compLoop (gEx2 elt tg iter tg1 iter1 scope pos) 0 (.ref it) .none X.env)) (leaving X.env) := by
  have h : ∀ f : Unit → Sem PySem.Fin, (inS (gEx2 elt tg iter tg1 iter1 scope pos) iter1 X.env >>= f) = (eval iter1 X.env >>= fun x => standAt iter1.pos >>= fun _ => foldedSetIterable iter1 X.env x >>= fun x => holding [x] (pyIter x) >>= fun v =>
      runOwn (.compStart (gEx2 elt tg iter tg1 iter1 scope pos) 1 v .none X.env) X.env >>= fun _ => f ()) := fun f => by
    simp only [inS, bind_assoc, pure_bind]
  simp only [h]
  rfl
theorem den_one {elt tg iter : Expr} {scope : Scope} {pos : Pos} {it : Addr} : (model X.prog X.w).den (.compLoop (.GeneratorExp elt [⟨tg, iter, [], 0⟩] scope pos) 0 (.ref it) .none X.env) = Sem.onRaise (standAt iter.pos >>= fun _ => pyNext (.ref it) >>= fun r => match r with
      | none => pure (.done .next)
      | some v => letOwnedTupleGo tg (.ref it) v >>= fun _ => assign tg X.env v >>= fun _ => emitS elt X.env >>= fun _ => again (.compLoop (.GeneratorExp elt [⟨tg, iter, [], 0⟩] scope pos) 0 (.ref it) .none X.env)) (leaving X.env) := by
  rfl
def tIn (wi : TI) (g : TG) (tb : TB) : TB := fun ys σ H N => wi σ H fun J H1 => tLoop J g tb ys σ H1 N
theorem start_in {elt tg iter tg1 iter1 : Expr} {scope : Scope} {pos : Pos} {it : Addr} {A : Around} {R : GenEnd} {Y : Protocol} {n : Nat} {s₀ s : Shared} {fs : List Frame} {J : It} {fp : List Addr} {tn : Nat → Heap → Prop} (T : Turn X.prog X.w X.K tg1 J fp it tn) (st : tn 0 s.heap)
    (h : Seg (model X.prog X.w) A R Y n s₀ (.compLoop (gEx2 elt tg iter tg1 iter1 scope pos) 1 (.ref it) .none X.env) ((model X.prog X.w).den (.compLoop (gEx2 elt tg iter tg1 iter1 scope pos) 1 (.ref it) .none X.env)) fs s) :
    Seg (model X.prog X.w) A R Y n s₀ (.compStart (gEx2 elt tg iter tg1 iter1 scope pos) 1 (.ref it) .none X.env) ((model X.prog X.w).den (.compStart (gEx2 elt tg iter tg1 iter1 scope pos) 1 (.ref it) .none X.env)) fs s := by
  show Seg _ A _ _ _ s₀ _ ((compStart (gEx2 elt tg iter tg1 iter1 scope pos) 1 (.ref it) .none X.env).onRaise (fun x => do noteFrame x X.env; standAt theWindowsPlace)) fs s
  unfold compStart
  rw [Sem.onRaise_eq_wrap]
  show Seg _ A _ _ _ s₀ _ ((ask >>= _).wrap _ _ _ _) fs s
  refine seg_bind_wrap (wpAny_askSetting ?_)
  split
  · exact seg_again rfl h
  · refine seg_bind_wrap (wpAny_rule ?_)
    first
    | exact seg_bind_wrap (wpAny_standAt (seg_bind_wrap (T.self _ 0 s _ _ st (seg_again rfl h))))
    | (show Seg _ A _ _ _ s₀ _ ((standAt iter1.pos >>= _).wrap _ _ _ _) fs s
       exact seg_bind_wrap (wpAny_standAt (seg_bind_wrap (T.self _ 0 s _ _ st (seg_again rfl h)))))
theorem gb_in {elt tg iter tg1 iter1 : Expr} {scope : Scope} {pos : Pos} {wi : TI} {g : TG} {tb : TB} (hx : ∀ e s, ¬ X.xe e s) (hc : X.calm = true) (hi : PI X tg1 iter1 wi) (hg : PG X tg1 g) (hb : GB X (emitS elt X.env) tb) (hs : ∀ x, foldedSetIterable iter1 X.env x = pure x) :
    GB X (inS (gEx2 elt tg iter tg1 iter1 scope pos) iter1 X.env) (tIn wi g tb) := by
  refine ⟨fun A S ip R n ys s₀ c fs K J gd lv s σ H N gc hn k hI ht => ?_⟩
  obtain ⟨acc, cc, r, I⟩ := hI
  refine seg_bind_wrap ?_
  rw [gc.over]
  refine wpAny_mono (hi.run _ s σ H _ I ht) (fun v s1 h1 => ?_) fun _ _ z => (hx _ _ z).elim
  refine seg_bind_wrap (wpAny_standAt ?_)
  refine seg_bind_wrap (wpAny_of_eq (hs v) ?_)
  refine seg_bind_wrap (wpAny_holding ?_)
  rw [gc.over]
  refine wpAny_mono h1 (fun itv s2 h2 => ?_) fun _ _ z => (hx _ _ z).elim
  obtain ⟨it, fp, tn, J1, H2, rfl, I2, T, st2, f2, L, W, w0, step, last⟩ := h2
  refine seg_call fun p => ?_
  have gl := fun (kk : Result → Sem PySem.Fin) => gc_loop (k := kk) (c' := .compLoop (gEx2 elt tg iter tg1 iter1 scope pos) 1 (.ref it) .none X.env) (l := lv []) (kp := []) (p := p) gc rfl rfl
  refine start_in T st2 ?_
  exact cloop (iter := iter1) hx hc T hg hb den_in (gl _) (fun b hb => fp_st (f2 b hb)) step last (fun n' ys' s₀' s' σ' H' hn' G' q' => seg_leaf (.ok .next) (k n' ys' s₀' s' σ' H' hn' G' q')) L 0 n ys s₀ s2 σ H2 rfl (Nat.zero_le _) hn w0 ⟨acc, cc, r, I2⟩ st2 fun b hb => (f2 b hb).1
end
end Lt

set_option Elab.async false
set_option linter.all false
set_option maxRecDepth 100000
set_option maxHeartbeats 4000000
/-! A generator expression is made: one clause or more. tuple(g). -/
namespace Lt
open PySem PySem.Spec PyProof.Rows L2 GenW
abbrev gExM (elt tg iter : Expr) (rest : List Comprehension) (scope : Scope) (pos : Pos) : Expr := .GeneratorExp elt (⟨tg, iter, [], 0⟩ :: rest) scope pos
section
variable {M : Model} {A : Around} {E : Value → Shared → Prop} {s : Shared}
theorem eval_many (elt tg iter : Expr) (rest : List Comprehension) (scope : Scope) (pos : Pos) (env : Env) (hco : scope.isCoroutine = false) :
    eval (gExM elt tg iter rest scope pos) env = (eval iter env >>= fun x => standAt iter.pos >>= fun _ => genFold iter env x >>= fun x => holding [x] (pyIter x) >>= fun it => enterFrame >>= fun _ => closureFor scope env >>= fun cl =>
      genexprCode env pos (env.qual ++ "<genexpr>") scope >>= fun code => builtinsFor env.globals env.builtins >>= fun bi => newFunctionEnv scope env.globals cl [(".0", it)] (env.qual ++ "<genexpr>.") none code none bi >>= fun cenv =>
      newGenerator (.compStart (gExM elt tg iter rest scope pos) 0 it .none cenv) "<genexpr>" (env.qual ++ "<genexpr>")) := by
  rw [arm_eval_GeneratorExp]
  simp only [hco, Bool.false_eq_true, if_false]
  cases iter <;> rfl
theorem make_many {elt tg iter : Expr} {rest : List Comprehension} {scope : Scope} {env : Env} {pos : Pos} {Q : Value → Shared → Prop} (hco : scope.isCoroutine = false) (hclos : closureFor scope env = pure []) (hcell : ∀ y ∈ scope.names, y.2 ≠ .cell) (h0 : scope.names.lookup (".0" : Str) = some NameKind.local)
    (hkind : scope.kind = .function) (hroom : A.depth < recursionLimit)
    (h : wpAny M A (eval iter env) (fun xv s1 => wpAny M A (pyIter xv) (fun it s2 => s2.heap.NoLimit ∧
      wpAny M A (genexprCode env pos (env.qual ++ "<genexpr>") scope) (fun code s3 => wpAny M A (builtinsFor env.globals env.builtins) (fun bi s4 =>
        ∀ h', h'.Ns s4.heap.objs.size (fun y => if y = ".0" then some it else none) → Heap.SameBut s4.heap.objs.size (s4.heap.push { cls := .type "frame", data := .dict #[] }) h' →
          Q (.ref h'.objs.size) { s4 with
            gens := s4.gens.push (.fresh (.compStart (gExM elt tg iter rest scope pos) 0 it .none (genEnv scope [] s4.heap.objs.size code bi env))),
            toks := s4.toks + 1 + 1 + 1,
            heap := h'.push { cls := .type "generator", data := .fields #[.int s4.gens.size 0, .str "<genexpr>" (s4.toks + 1), .str (env.qual ++ "<genexpr>") (s4.toks + 1 + 1)] } }) E s3) E s2) E s1) E s)
    (hs : ∀ x, genFold iter env x = pure x) : wpAny M A (eval (gExM elt tg iter rest scope pos) env) Q E s := by
  rw [eval_many _ _ _ _ _ _ _ hco, hclos]
  refine wpAny_bind (wpAny_mono h (fun xv s1 h1 => ?_) fun _ _ z => z)
  refine wpAny_bind (wpAny_standAt (wpAny_bind (wpAny_of_eq (hs xv) ?_)))
  refine wpAny_bind (wpAny_holding (wpAny_mono h1 (fun it s2 h2 => ?_) fun _ _ z => z))
  refine wpAny_bind (wpAny_enterFrame h2.1 hroom (wpAny_bind (wpAny_pure ?_)))
  refine wpAny_bind (wpAny_mono h2.2 (fun code s3 h3 => ?_) fun _ _ z => z)
  refine wpAny_bind (wpAny_mono h3 (fun bi s4 h4 => ?_) fun _ _ z => z)
  have own : ∀ y ∈ ([((".0" : Str), it)] : List (Str × Value)), scope.names.lookup y.1 = some NameKind.local := fun y hy => by
    rw [List.mem_singleton.mp hy]
    exact h0
  refine wpAny_bind (wpAny_newFunctionEnv hcell own (fun h' hn' hs' => ?_) hkind)
  have e : (fun y : Str => ([((".0" : Str), it)] : List (Str × Value)).reverse.lookup y) = fun y : Str => if y = (".0" : Str) then some it else none := by
    funext y
    by_cases hy : y = ".0"
    · subst hy
      simp
    · have no : (y == (".0" : Str)) = false := by simpa using hy
      simp [List.lookup, no, hy]
  rw [e] at hn'
  simp only [newGenerator, newFields]
  exact wpAny_bind (wpAny_newGen (wpAny_bind (wpAny_mkText (wpAny_bind (wpAny_mkText (wpAny_newObj_type (h4 h' hn' hs') (by size_fits)))))))
end
structure GenMany (scope : Scope) (xs : List Str) : Prop where
  kind : scope.kind = .function
  co : scope.isCoroutine = false
  own : ∀ y ∈ scope.names, y.2 ≠ .cell ∧ y.2 ≠ .free
  dot : scope.names.lookup (".0" : Str) = some NameKind.local
def gx2 (X : Cx) (A : Around) (xs : List Str) (scope : Scope) (C : Addr) (code : Value) (s4 : Shared) (H4 : Hp) (ex : List Addr) (pn : List (Addr × Obj)) : Cx :=
  { prog := X.prog, w := X.w, K := X.K, mg := X.mg, base := X.base, A := A, N := ".0" :: xs, s_0 := s4, H_0 := H4, env := genEnv scope [] C code builtinsNs X.env, outer := X.stack, stack := genEnv scope [] C code builtinsNs X.env :: X.stack,
    ex := ex, fn := fun _ => true, calm := true, pn := pn, xe := fun _ _ => False }
theorem ov_room {k : Nat} {A : Around} {e : Expr} {it : Value} {cenv : Env} {gs : List Comprehension} {sc : Scope} {p : Pos} (r : Room (k + 1) A) : Room k (A.over (.compLoop (.GeneratorExp e gs sc p) 0 it .none cenv) []) := by
  refine ⟨r.hd, ?_, ?_⟩
  · have := r.dp
    show A.depth + 1 + 3 * k + 5 < _
    omega
  · have := r.un
    rw [ov_units]
    omega
section
variable {X : Cx} {pins : List (Addr × Obj)} {σ : L2.St} {H : Hp} {s : Shared}
/-- the code object, where nothing is new -/
theorem gen_code0 {c P : Addr} {ps : Array Value} {gpos : Pos} {qn : Str} {scope : Scope} {E : Value → Shared → Prop} {B : Value → Addr → Shared → Prop} (inv : Inv X pins σ H s) (TB : GxR.TabB X.base X.mg c P) (hc : X.env.code = .ref c) (hP : H P = some (.tbl ps)) (ht : TriplesOk ps.toList)
    (go : ∀ (code : Value) (h3 : Heap) (tk : Nat) (more : Array Value), Heap.ExtBut P s.heap h3 → s.heap.objs.size ≤ h3.objs.size → h3.get? P = some { cls := .none, data := .fields (ps ++ more) } → TriplesOk (ps ++ more).toList → B code builtinsNs { s with heap := h3, toks := tk }) :
    wpAny (model X.prog X.w) X.A (genexprCode X.env gpos qn scope) (fun code s3 => wpAny (model X.prog X.w) X.A (builtinsFor X.env.globals X.env.builtins) (B code) E s3) E s := by
  have at1 : s.heap.get? P = some (PySem.W.tabObj ps) := inv.hok P _ hP
  have head : PySem.W.CodeHd s.heap c P := TB.code.keeps fun b u e => inv.bk b u e
  have bis : ∀ (code : Value) (h3 : Heap) (tk : Nat), Heap.ExtBut P s.heap h3 → B code builtinsNs { s with heap := h3, toks := tk } →
      wpAny (model X.prog X.w) X.A (builtinsFor X.env.globals X.env.builtins) (B code) E { s with heap := h3, toks := tk } := fun code h3 tk ext b => by
    obtain ⟨bm, ob, b1, b2, _, b4, b5, b6, b7, b8⟩ := TB.bm
    refine wpAny_builtinsFor (m := X.mg) ?_ b1 b2 (ext _ _ b4 (inv.bk _ _ b5)) b6 b7 b8 b
    rw [inv.ok.glob]
    exact (inv.mod.glob.keeps inv.bk).extBut ext TB.gP
  cases found : codeAmong gpos ps.toList with
  | some cv => exact wpAny_genexprCode_hit hc (head.code at1 ht) found (bis cv _ s.toks (.refl _ _) (go cv _ s.toks #[] (.refl _ _) (Nat.le_refl _) (by rw [Array.append_empty]; exact at1) (by rw [Array.append_empty]; exact ht)))
  | none =>
    refine wpAny_genexprCodeX hc (head.code at1 ht) (head.tab at1) found fun c' h3 tk ext ge lt isc _ tab _ => ?_
    obtain ⟨_, _, _, _, _, _, _, _, _, _, _, _, _, _, _, _, _, _, _, tri, _⟩ := isc
    exact bis _ h3 tk ext (go _ h3 tk _ ext (Nat.le_trans ge (Nat.le_of_lt lt)) tab.2 tri)
/-- what a generator expression wants: its first thing walked, the table, then its loop with nothing out -/
def tGen (xs : List Str) (P : Addr) (wi : TI) (g : TG) (tb : TB) : TGen := fun σ H cont => wi σ H fun J H1 => GxR.TabG H1 P ∧ ∀ (I : Addr) (H2 : Hp), GxR.Tabbed P H1 H2 → tLoop J g tb [] (some (.ref I) :: xs.map fun _ => none) H2 fun ys _ H3 => cont ys H3
theorem start_out {X' : Cx} {elt tg iter : Expr} {rest : List Comprehension} {scope : Scope} {pos : Pos} {it : Addr} {A : Around} {R : GenEnd} {Y : Protocol} {n : Nat} {s₀ s : Shared} {J : It} {fp : List Addr} {tn : Nat → Heap → Prop} (T : Turn X'.prog X'.w X'.K tg J fp it tn) (st : tn 0 s.heap)
    (h : Seg (model X'.prog X'.w) A R Y n s₀ (.compLoop (gExM elt tg iter rest scope pos) 0 (.ref it) .none X'.env) ((model X'.prog X'.w).den (.compLoop (gExM elt tg iter rest scope pos) 0 (.ref it) .none X'.env)) [] s) :
    Seg (model X'.prog X'.w) A R Y n s₀ (.compStart (gExM elt tg iter rest scope pos) 0 (.ref it) .none X'.env) ((model X'.prog X'.w).den (.compStart (gExM elt tg iter rest scope pos) 0 (.ref it) .none X'.env)) [] s := by
  show Seg _ A _ _ _ s₀ _ ((compStart (gExM elt tg iter rest scope pos) 0 (.ref it) .none X'.env).onRaise (leaving X'.env)) [] s
  unfold compStart
  rw [Sem.onRaise_eq_wrap]
  show Seg _ A _ _ _ s₀ _ ((ask >>= _).wrap _ _ _ _) [] s
  refine seg_bind_wrap (wpAny_askSetting ?_)
  split
  · exact seg_again rfl h
  · refine seg_bind_wrap (wpAny_rule ?_)
    first
    | exact seg_bind_wrap (wpAny_standAt (seg_bind_wrap (T.self _ 0 s _ _ st (seg_again rfl h))))
    | (show Seg _ A _ _ _ s₀ _ ((standAt iter.pos >>= _).wrap _ _ _ _) [] s
       exact seg_bind_wrap (wpAny_standAt (seg_bind_wrap (T.self _ 0 s _ _ st (seg_again rfl h)))))
theorem pgen_exp {c P : Addr} {elt tg iter : Expr} {rest : List Comprehension} {xs : List Str} {scope : Scope} {gpos : Pos} {wi : TI} {g : TG} {tb : TB} {k j : Nat} {body : Env → Sem Unit} (hr : Room j X.A) (TB : GxR.TabB X.base X.mg c P) (hc : X.env.code = .ref c) (S : GenMany scope xs) (hi : PI X tg iter wi)
    (den : ∀ (X' : Cx) (it : Addr), (model X'.prog X'.w).den (.compLoop (gExM elt tg iter rest scope gpos) 0 (.ref it) .none X'.env) = Sem.onRaise (standAt iter.pos >>= fun _ => pyNext (.ref it) >>= fun r => match r with
      | none => pure (.done .next)
      | some v => letOwnedTupleGo tg (.ref it) v >>= fun _ => assign tg X'.env v >>= fun _ => body X'.env >>= fun _ => again (.compLoop (gExM elt tg iter rest scope gpos) 0 (.ref it) .none X'.env)) (leaving X'.env))
    (hg : ∀ (A : Around) (C : Addr) (code : Value) (s4 : Shared) (H4 : Hp) (ex : List Addr) (pn : List (Addr × Obj)), PG (gx2 X A xs scope C code s4 H4 ex pn) tg g)
    (hb : ∀ (A : Around) (C : Addr) (code : Value) (s4 : Shared) (H4 : Hp) (ex : List Addr) (pn : List (Addr × Obj)), Room k A → GB (gx2 X A xs scope C code s4 H4 ex pn) (body (genEnv scope [] C code builtinsNs X.env)) tb) (hs : ∀ v, genFold iter X.env v = pure v := by intro _; rfl) :
    PGen X (k + 1) (gExM elt tg iter rest scope gpos) (tGen xs P wi g tb) (fun _ _ _ => False) := by
  refine ⟨fun pins s σ H cont inv h => ?_⟩
  have noF : ∀ y ∈ scope.names, y.2 ≠ .free := fun y hy => (S.own y hy).2
  have clo : closureFor scope X.env = pure [] := by
    rw [closure_ok fun y hy e => absurd e (noF y hy), clo_nil _ _ _ noF]
  refine make_many S.co clo (fun y hy => (S.own y hy).1) S.dot S.kind (by have := hr.dp; omega) ?_ hs
  refine thn (hi.run pins s σ H _ inv h) fun xv s1 h1 => thn h1 fun itv s2 h2 => ?_
  obtain ⟨it, fp, tn, J, H1, rfl, inv1, T, st, fok, ⟨tb0, hP, ht⟩, q⟩ := h2
  have at0 : s2.heap.get? P = some { cls := .none, data := .fields tb0 } := inv1.hok P _ hP
  refine ⟨inv1.nolimit, gen_code0 inv1 TB hc hP ht fun code h3 tk more ext big at3 tri => ?_⟩
  intro h' ns same
  have keep3 : ∀ b u, b ≠ P → s2.heap.get? b = some u → h3.get? b = some u := fun b u nb e => ext b u nb e
  have inv4 := GxR.inv_tab (more := more) (h' := h3) (g' := s2.gens) (d' := s2.drawn) (t' := tk) inv1 hP keep3 at3 inv1.bare
  have tab4 : GxR.Tabbed P H1 (upd H1 P (.tbl (tb0 ++ more))) := ⟨⟨_, upd_same, tri⟩, fun b nb => upd_ne nb⟩
  have fpo : ∀ b ∈ fp, ∃ o, s2.heap.get? b = some o ∧ ∀ v, o.data ≠ .cell v := T.obj _ _ st
  have neP : ∀ b ∈ fp, b ≠ P := fun b hb e => by
    have z := (fok b hb).1
    rw [e, hP] at z
    cases z
  have st3 : tn 0 h3 := T.keep _ _ _ st fun b hb o e => keep3 b o (neP b hb) e
  have none3 : ∀ b ∈ fp, upd H1 P (.tbl (tb0 ++ more)) b = none := fun b hb => by
    rw [upd_ne (neP b hb)]
    exact (fok b hb).1
  generalize hH4 : upd H1 P (.tbl (tb0 ++ more)) = H4 at inv4 tab4 none3
  have sz' : h'.objs.size = h3.objs.size + 1 := by
    rw [same.1]
    exact Heap.size_push ..
  have keep' : ∀ b o, h3.get? b = some o → h'.get? b = some o := fun b o e => same.extBut b o (Nat.ne_of_lt (Heap.lt_size e)) (Heap.get?_push_of_some _ e)
  have fplt : ∀ b ∈ fp, b < h3.objs.size := fun b hb => by
    obtain ⟨o, e, _⟩ := fpo b hb
    exact Heap.lt_size (keep3 b o (neP b hb) e)
  have none4 : ∀ b, h3.objs.size ≤ b → H4 b = none := fun b hb => inv4.hok.fresh hb
  have naf : ∀ b, h3.objs.size ≤ b → b ∉ frs X.stack := fun b hb z => by
    obtain ⟨_, o, e, _⟩ := inv4.stack.mem z
    exact absurd (Nat.lt_of_lt_of_le (Heap.lt_size e) hb) (Nat.lt_irrefl _)
  generalize hgo : ({ cls := .type "generator", data := .fields #[.int ((s2.gens.size : Nat) : Int) 0, .str "<genexpr>" (tk + 1), .str (X.env.qual ++ "<genexpr>") (tk + 1 + 1)] } : Obj) = go
  have isg : ∀ hh : Heap, hh.get? h'.objs.size = some go → hh.IsGen h'.objs.size s2.gens.size := fun hh e => ⟨go, _, _, e, by rw [← hgo], by rw [← hgo], by rw [← hgo]⟩
  have hgp : (h'.push go).get? h'.objs.size = some go := Heap.get?_push_size _ (by rw [← hgo]; rfl)
  have up5 : ∀ b o, h3.get? b = some o → (h'.push go).get? b = some o := fun b o e => Heap.get?_push_of_some _ (keep' b o e)
  refine ⟨H4, { s2 with heap := h3, toks := tk }, fp, inv4, fun b hb => ⟨(fok b hb).2.2.2.1, (fok b hb).2.1, (fok b hb).2.2.2.2.1, (fok b hb).2.2.2.2.2⟩, h'.objs.size, s2.gens.size, _, rfl, ?_, ?_, isg _ hgp, Array.getElem?_push_size .., rfl, inv1.bare.push rfl, ?_, up5, ?_⟩
  · show h3.objs.size ≤ h'.objs.size
    omega
  · show h'.objs.size < (h'.push go).objs.size
    rw [Heap.size_push]
    exact Nat.lt_succ_self _
  · exact inv4.nolimit.keeps up5
  intro Aw Sx sW hrw hfr hSx hkW hSo hos hba
  have szp : (h'.push go).objs.size = h'.objs.size + 1 := Heap.size_push ..
  have hSz : h'.objs.size < Sx := by
    have z : (h'.push go).objs.size ≤ Sx := hSx
    omega
  have hS3 : h3.objs.size < Sx := by omega
  obtain ⟨cS, heS⟩ := hSo
  have upW : ∀ b o, h3.get? b = some o → sW.heap.get? b = some o := fun b o e => hkW b o (up5 b o e)
  have hea : sW.heap.get? h'.objs.size = some go := hkW _ _ hgp
  obtain ⟨A', eA⟩ : ∃ A' : Around, A' = Aw.over (.compLoop (gExM elt tg iter rest scope gpos) 0 (.ref it) .none (genEnv scope [] h3.objs.size code builtinsNs X.env)) [] := ⟨_, rfl⟩
  have roomA : Room k A' := by rw [eA]; exact ov_room hrw
  have framesA : A'.frames = some (genEnv scope [] h3.objs.size code builtinsNs X.env :: X.stack) := by
    rw [eA]
    exact ov_frames hfr
  obtain ⟨X', eX⟩ : ∃ X' : Cx, X' = gx2 X A' xs scope h3.objs.size code { s2 with heap := h3, toks := tk } H4 fp [(h'.objs.size, go)] := ⟨_, rfl⟩
  have nsW : sW.heap.Ns h3.objs.size (fun y => if y = ".0" then some (.ref it) else none) := by
    obtain ⟨o, es, ep, ho, r⟩ := ns
    exact ⟨o, es, ep, hkW _ _ (Heap.get?_push_of_some _ ho), r⟩
  have invW : Inv X' [(Sx, lstObj #[] cS)] (some (.ref it) :: xs.map fun _ => none) H4 sW := by
    rw [eX]
    have look : ∀ y, ((genEnv scope [] h3.objs.size code builtinsNs X.env).kindOf y = some .cell ∨ (genEnv scope [] h3.objs.size code builtinsNs X.env).kindOf y = some .free) → False := fun y z => by
      rcases z with z | z
      · exact (S.own _ (PySem.mem_of_lookup (show scope.names.lookup y = some .cell from z))).1 rfl
      · exact (S.own _ (PySem.mem_of_lookup (show scope.names.lookup y = some .free from z))).2 rfl
    refine ⟨⟨inv1.ok.mod, S.kind, inv1.ok.glob, rfl, Nat.le_refl _, fun _ _ _ z => (nomatch z), fun y z => (look y z).elim, fun _ _ _ z => (nomatch z), fun _ => roomA.hd, framesA, .inr ⟨rfl, rfl⟩, fun b hb => ?_, inv4.bs, Nat.le_trans inv4.ok.bsz inv4.sz, fun b o e => ?_, fun b hb => ?_, inv4.stack, inv4.stkFree⟩,
      hos, hba, Un.kept upW, ⟨_, nsW, fun i y v h1 h2 h3' => ?_⟩, fun _ _ z => (nomatch z), none4 _ (Nat.le_refl _), fun _ _ z => (nomatch z), fun p hp => ?_, inv4.hok.kept upW, ?_⟩
    · exact ⟨Nat.ne_of_lt (fplt b hb), fun _ _ z => (nomatch z)⟩
    · intro z
      rcases (fok b z).2.2.2.1 with y | y
      · exact inv1.ok.noex b o e y
      · exact absurd (Nat.lt_of_lt_of_le (Heap.lt_size e) (Nat.le_trans inv1.ok.bsz y)) (Nat.lt_irrefl _)
    · intro z
      rcases List.mem_cons.mp (inv1.stkSub b z) with y | y
      · exact (fok b hb).2.1 y
      · exact (fok b hb).2.2.1 y
    · cases i with
      | zero =>
        cases h1
        cases h2
        exact ⟨.ref it, rfl, .inl ⟨S.dot, by simp⟩⟩
      | succ i =>
        rw [List.getElem?_cons_succ, List.getElem?_map] at h2
        cases e : xs[i]? with
        | none => rw [e] at h2; cases h2
        | some z => rw [e] at h2; cases h2
    · rcases List.mem_append.mp hp with z | z
      · rw [show p = (h'.objs.size, go) from List.mem_singleton.mp z]
        refine ⟨hea, none4 _ (by omega), ?_, naf _ (by omega), fun v y => ?_⟩
        · show h'.objs.size ≠ h3.objs.size
          omega
        · rw [← hgo] at y
          cases y
      · rw [show p = (Sx, lstObj #[] cS) from List.mem_singleton.mp z]
        refine ⟨heS, none4 _ (by omega), ?_, naf _ (by omega), fun v y => by cases y⟩
        exact Nat.ne_of_gt hS3
    · show (some (V.ref it) :: xs.map fun _ => (none : Option V)).length = ((".0" : Str) :: xs).length
      simp
  have G0 : GI X' Sx [] [] (some (.ref it) :: xs.map fun _ => none) H4 sW := ⟨#[], cS, .nil, invW⟩
  have gc : GC X' Sx [] Aw (.compLoop (gExM elt tg iter rest scope gpos) 0 (.ref it) .none X'.env) [] id := by
    rw [eX]
    refine ⟨fun p hp => ?_, fun p hp => (nomatch hp), ⟨?_, ?_, fun _ _ z => (nomatch z)⟩, eA.symm, rfl, rfl, rfl⟩
    · rw [List.mem_singleton.mp hp]
      exact Nat.ne_of_lt hSz
    · show h3.objs.size ≤ Sx
      omega
    · exact Nat.ne_of_gt hS3
  have fokX : ∀ b ∈ fp, FpS X' Sx [] b := fun b hb => by
    rw [eX]
    have l := fplt b hb
    refine ⟨Nat.ne_of_lt l, fun z => ?_, .inl hb, fun _ _ z => (nomatch z), fun p hp => ?_, fun z => ?_⟩
    · rcases List.mem_cons.mp (inv1.stkSub b z) with y | y
      · exact (fok b hb).2.1 y
      · exact (fok b hb).2.2.1 y
    · rcases List.mem_append.mp hp with z | z
      · rw [List.mem_singleton.mp z]
        exact Nat.ne_of_gt (Nat.lt_of_lt_of_le l (by omega))
      · cases z
    · exact absurd (Nat.lt_trans l hS3) (by rw [z]; exact Nat.lt_irrefl _)
  have tX : X'.prog = X.prog ∧ X'.w = X.w ∧ X'.K = X.K ∧ X'.calm = true ∧ X'.env = genEnv scope [] h3.objs.size code builtinsNs X.env := by
    rw [eX]
    exact ⟨rfl, rfl, rfl, rfl, rfl⟩
  obtain ⟨L, W, w0, step, last⟩ := q it H4 tab4
  have TX : Turn X'.prog X'.w X'.K tg J fp it tn := by
    rw [tX.1, tX.2.1, tX.2.2.1]
    exact T
  have hxX : ∀ e s, ¬ X'.xe e s := by
    rw [eX]
    exact fun _ _ z => z
  have bX : GB X' (body X'.env) tb := by
    rw [eX]
    exact hb _ _ _ _ _ _ _ roomA
  have gX : PG X' tg g := by
    rw [eX]
    exact hg _ _ _ _ _ _ _
  have pinned : ∀ {ys : List V} {s' : Shared} {σ' : L2.St} {ip : List (Addr × Obj)} {H' : Hp}, GI X' Sx ip ys σ' H' s' → s'.heap.IsGen h'.objs.size s2.gens.size := fun {ys s' σ' ip H'} hI => by
    obtain ⟨acc, cc, _, J⟩ := hI
    rw [eX] at J
    exact isg _ (J.pin (h'.objs.size, go) (List.mem_append_left _ (List.mem_singleton.mpr rfl))).1
  have loop := cloop (iter := iter) (R := fun n s₀ r s' => r = .ok .next ∧ ∃ ys σ' H', n + ys.length = sizeLine ∧ GI X' Sx [] ys σ' H' s' ∧ cont ys H') hxX tX.2.2.2.1 TX gX bX (den X' it) gc fokX step last
    (fun n ys s₀ s' σ' H' hn G' c' => seg_end (.ok .next) ⟨rfl, ys, σ', H', hn, G', c'⟩) L 0 sizeLine [] sW sW _ H4 rfl (Nat.zero_le _) (Nat.add_zero _) w0 G0 (T.keep _ _ _ st3 fun b hb o e => upW b o e) none3
  have run := start_out (X' := X') (s := sW) TX (T.keep _ _ _ st3 fun b hb o e => upW b o e) loop
  rw [tX.1, tX.2.1, tX.2.2.2.2] at run
  refine seg_imp (fun n s₀ r s' hR => ?_) (fun n s₀ v s' kap kap' hkk hY => ?_) sizeLine run
  · obtain ⟨rfl, ys, σ', H', hn, hI, c'⟩ := hR
    obtain ⟨a1, _, _, acc, cc, ra, ea⟩ := hI.at
    obtain ⟨_, _, _, J'⟩ := hI
    rw [eX] at J'
    exact .inl ⟨.inr rfl, H', ys, acc, cc, J'.os, J'.bare, J'.base, J'.hok, a1, ea, ra, by omega, c'⟩
  · obtain ⟨ys, xx, ip, σ', H', hn, h2, hI, h3'⟩ := hY
    obtain ⟨_, _, _, acc, cc, ra, ea⟩ := hI.at
    have hgg := pinned hI
    obtain ⟨_, _, _, J'⟩ := hI
    rw [eX] at J'
    have hsz : acc.size = ys.length := by
      have e1 := ra.length
      have e2 : acc.toList.length = acc.size := by simp
      omega
    exact ⟨J'.os, J'.bare, J'.nolimit, hgg, ⟨acc, cc, ea, by rw [hsz]; exact hn⟩, fun s' z => hkk _ _ (h3' s' z)⟩
end
end Lt

set_option Elab.async false
set_option linter.all false
set_option maxRecDepth 100000
set_option maxHeartbeats 4000000
/-! tuple(g), g a generator expression just made. -/
namespace Lt
open PySem PySem.Spec PyProof.Rows L2 GenW
open Sem (wp)
open AutoSeq1 (wpAny_loadPart')
abbrev NoX : XK := fun _ _ _ => False
theorem noX {P : Program} {w : World} {outer : List Env} {H : Hp} {s s' : Shared} {e : Value} (c : CX P w outer H s NoX e s') : False := by
  obtain ⟨_, _, _, _, _, _, _, _, _, _, _, _, hW⟩ := c
  exact hW
section
variable {P : Program} {w : World} {outer : List Env} {H : Hp} {sc s : Shared} {ex : List Addr} {Q : List V → Hp → Prop} {A : Around} {k : Nat} {u : Value}
theorem collect_made {Q' : List Value → Shared → Prop} {E : Value → Shared → Prop} (hr : Room k A.in1.in1) (hfr : A.frames = some outer) (h : GMade P w k outer H sc ex Q NoX u s)
    (hQ : ∀ (s' : Shared) (acc : Array Value) (H' : Hp) (ys : List V), Vals ys acc.toList → ys.length ≤ sizeLine → s'.os = sc.os → AllBare s'.gens → Un (frs outer) ex H H' sc.heap s'.heap → HOk P w H' s'.heap → Q ys H' → Q' acc.toList s') :
    wpAny (model P w) A (collect u) Q' E s := by
  obtain ⟨a, g, c, rfl, ha1, ha2, hg, hgs, hos, hb, hl, hkp, wake⟩ := h
  have hSa : s.heap.objs.size ≠ a := Nat.ne_of_gt ha2
  have hcl : cStatics < s.heap.objs.size := let ⟨_, hn, _⟩ := hl; hn.lt
  have hSc : s.heap.objs.size ≠ cStatics := Nat.ne_of_gt hcl
  unfold collect
  refine wpAny_bind (wpAny_runValue (codeAny_builtin F.entry_proto_collect ?_))
  rw [Around.under_plainId F.plain_proto_collect _]
  show wpAny _ A.in1 (newList [] >>= fun l => again (.builtin "list.__iadd__" ⟨[l, .ref a], []⟩)) _ _ s
  refine wpAny_bind (wpAny_newObj_type ?_)
  refine wpAny_pure ⟨plainId_quiet F.plain_list_iadd _, codeAny_builtin F.entry_list_iadd ?_⟩
  rw [Around.under_plainId F.plain_list_iadd _]
  have k1 : ∀ b o, s.heap.get? b = some o → (s.heap.push { cls := .type "list", data := .seq ([] : List Value).toArray }).get? b = some o := fun b o e => Heap.get?_push_of_some _ e
  have gty : ∀ {h : Heap}, (∀ b o, s.heap.get? b = some o → h.get? b = some o) → h.IsGen a g := fun {h} q => hg.keeps q
  show wpAny _ A.in1 (Builtin.List.listExtendWith (.ref s.heap.objs.size) (.ref a) (.ref s.heap.objs.size)) _ _ _
  unfold Builtin.List.listExtendWith
  refine wpAny_bind (wpAny_typeOf (Heap.IsGen.typeIs (s := { s with heap := _ }) (gty k1)) ?_)
  have h1 : Builtin.List.listSameRef (.ref s.heap.objs.size) (.ref a) = false := by simp [Builtin.List.listSameRef, hSa]
  have h2 : (Value.type "generator" == Value.type "list") = false := by decide
  have h3 : (Value.type "generator" == Value.type "tuple") = false := by decide
  simp only [h1, h2, h3, Bool.or_false, Bool.false_eq_true, if_false]
  refine wpAny_bind (wpAny_pyIter_gen (s := { s with heap := _ }) (gty k1) ?_)
  refine wpAny_bind (wpAny_holding ?_)
  unfold Builtin.List.listLengthHint
  refine wpAny_bind (wpAny_specialOf (Heap.IsGen.typeIs (s := { s with heap := _ }) (gty k1)) F.gen_no_len ?_)
  show wpAny _ A.in1 (specialOf (Value.ref a) (Str.ofString "__length_hint__") >>= _) _ _ _
  refine wpAny_bind (wpAny_specialOf (Heap.IsGen.typeIs (s := { s with heap := _ }) (gty k1)) F.gen_no_hint ?_)
  refine wpAny_pure ?_
  show wpAny _ A.in1 (rule "list.extend.makes-room" >>= fun _ => Builtin.List.listTouch (.ref s.heap.objs.size) >>= fun _ =>
    again (.builtin "list.extend.loop" ⟨[.ref s.heap.objs.size, .ref a, .ref s.heap.objs.size], []⟩)) _ _ _
  refine wpAny_bind (wpAny_rule ?_)
  have hS1 : (s.heap.push { cls := .type "list", data := .seq ([] : List Value).toArray }).get? s.heap.objs.size = some { cls := .type "list", data := .seq ([] : List Value).toArray } := Heap.get?_push_size _ rfl
  refine wpAny_bind ?_
  show wpAny _ A.in1 (updateSeq s.heap.objs.size (·.push .none) >>= fun _ => updateSeq s.heap.objs.size (·.pop)) _ _ _
  refine wpAny_bind (wpAny_updateSeq hS1 rfl ?_)
  have hS2 := Heap.get?_update_self (Obj.mapSeq (·.push Value.none)) hS1 rfl
  refine wpAny_updateSeq hS2 rfl ?_
  have hS3 := Heap.get?_update_self (Obj.mapSeq (·.pop)) hS2 rfl
  have up : ∀ (h : Heap) (f : Obj → Obj), (∀ b o, s.heap.get? b = some o → h.get? b = some o) → ∀ b o, s.heap.get? b = some o → (h.update s.heap.objs.size f).get? b = some o := fun h f q b o e =>
    (Heap.get?_update_other _ _ (Ne.symm (Nat.ne_of_lt (Heap.lt_size e)))).trans (q b o e)
  have k4 := up _ (Obj.mapSeq (·.pop)) (up _ (Obj.mapSeq (·.push Value.none)) k1)
  refine wpAny_pure ⟨plainId_quiet F.plain_extend_loop _, drain (P := P) (w := w) (outer := outer) (H := H) (sc := sc) (ex := ex) (Q := Q) (EX := NoX) (A := A) (g := g) hr.hd (by have := hr.dp; show A.depth < _; have e : A.in1.in1.depth = A.depth := rfl; omega) hSa hSc
    (fun s' acc c H' ys q1 q2 q3 q4 q5 q6 q7 q8 q9 => ?_) (fun e s' hc => (noX hc).elim) sizeLine _ (gty k4) (hl.keeps k4) ⟨_, hgs, rfl, ?_⟩⟩
  · show wpAny _ A (load s.heap.objs.size >>= _) _ _ s'
    refine wpAny_bind (wpAny_load q1 ?_)
    exact wpAny_pure (hQ s' acc H' ys q2 q3 q4 q5 q6 q7 q9)
  · exact wake _ _ _ hr hfr (Nat.le_refl _) k4 ⟨_, hS3⟩ hos (allBare_setGen (s := { s with heap := _ }) hb rfl)
theorem new_made {Q₁ : Value → Shared → Prop} {E : Value → Shared → Prop} (hr : Room k A.in1.in1.in1) (hfr : A.frames = some outer) (h : GMade P w k outer H sc ex Q NoX u s)
    (hQ : ∀ (s' : Shared) (acc : Array Value) (H' : Hp) (ys : List V), Vals ys acc.toList → ys.length ≤ sizeLine → s'.os = sc.os → AllBare s'.gens → Un (frs outer) ex H H' sc.heap s'.heap → HOk P w H' s'.heap → Q ys H' → Q₁ (.ref s'.heap.objs.size) { s' with heap := s'.heap.push { cls := .type "tuple", data := .seq acc } }) :
    codeAny (model P w) A (.call (.builtin "tuple.__new__") ⟨[.type "tuple", u], []⟩) (wants Q₁ E) s := by
  refine codeAny_of_tree ?_
  show wpAny _ A.in1 (do checkBuiltinCall "tuple.__new__" ⟨[.type "tuple", u], []⟩; again (.builtin "tuple.__new__" ⟨[.type "tuple", u], []⟩)) _ _ s
  refine wpAny_bind (wpAny_of_eq (F.newCall_tuple_1 _) (wpAny_pure ⟨plainId_quiet F.plain_tuple_new _, codeAny_builtin F.entry_tuple_new ?_⟩))
  rw [Around.under_plainId F.plain_tuple_new _]
  have hsub := sub_tuple_self
  have hinit := init_tuple_lookup
  have hmh := madeHere_tuple
  have hTI : s.TypeIs u "generator" := by
    obtain ⟨a, g, c, rfl, _, _, hg, _⟩ := id h
    exact hg.typeIs
  wp_walk using wpAny_typeOf hTI, collect_made hr (show A.in1.frames = some outer from hfr) h
  intro s' acc H' ys h1 h2 h3 h4 h5 h6 h7
  show wpAny _ _ (Builtin.Tuple.tupleExact acc.toList.toArray >>= fun v => ret v) _ _ _
  unfold Builtin.Tuple.tupleExact
  have sz : acc.toList.toArray.size ≤ sizeLine := by
    have e := h1.length
    simp only [Array.toArray_toList]
    have e2 : acc.toList.length = acc.size := by simp
    omega
  refine wpAny_bind (wpAny_newObj_type ?_ sz)
  refine wpAny_pure ?_
  have e : acc.toList.toArray = acc := by simp
  rw [e]
  exact hQ s' acc H' ys h1 h2 h3 h4 h5 h6 h7
theorem tuple_made {Q₁ : Value → Shared → Prop} {E : Value → Shared → Prop} (hr : Room k A.in1.in1.in1.in1) (hfr : A.frames = some outer) (h : GMade P w k outer H sc ex Q NoX u s)
    (hQ : ∀ (s' : Shared) (acc : Array Value) (H' : Hp) (ys : List V), Vals ys acc.toList → ys.length ≤ sizeLine → s'.os = sc.os → AllBare s'.gens → Un (frs outer) ex H H' sc.heap s'.heap → HOk P w H' s'.heap → Q ys H' → Q₁ (.ref s'.heap.objs.size) { s' with heap := s'.heap.push { cls := .type "tuple", data := .seq acc } }) :
    wpAny (model P w) A (call (.type "tuple") [u]) Q₁ E s := by
  refine callType_codes (Q₁ := fun obj s1 => s1.TypeIs obj "tuple" ∧ Q₁ obj s1) F.called_tuple (F.typeCall_tuple_1 _) F.entry_object_init
    (new_made (A := A.in1) hr hfr h fun s' acc H' ys h1 h2 h3 h4 h5 h6 h7 => ⟨⟨_, Heap.get?_push_size _ rfl, rfl⟩, hQ s' acc H' ys h1 h2 h3 h4 h5 h6 h7⟩) fun obj s1 h1 => ?_
  exact ⟨h1.1, F.args_object_init_2 obj _, object_init_meets F.called_tuple.init.lookup F.called_tuple.made (by decide) P w A.in1 _ s1 ⟨h1.1, rfl, h1.2⟩⟩
end
def tTupM (tg : TGen) : TE := fun σ H Q => tg σ H fun out H2 => ∀ p u, H2 p = none → IsFz u out → Q (.ref p) (upd H2 p u)
theorem pe_tupM {X : Cx} {e : Expr} {tg : TGen} {k : Nat} {p pos : Pos} (h : PGen X k e tg NoX) (hr : Room (k + 1) X.A) (hg : Gl X "tuple") (hm : X.mg "tuple" = none) (he : starEach [e] X.env = (false, eval e X.env) :: starEach [] X.env := by rfl) :
    PE X (.Call (.Name "tuple" p) [e] [] pos) (tTupM tg) := by
  have hv : bootBuiltins ("tuple" : Str) = some (.type "tuple") := by decide +kernel
  refine ⟨fun pins s σ H Q inv hq => wpAny_Call_Name_kw (ld_blt inv hg hm hv (PyProof.Rows.callWith_type1 ?_ he (by rfl)))⟩
  rw [he]
  show wpAny _ _ (spliced ((false, _) :: backTo pos (starEach [] X.env))) _ _ s
  refine Calls.spliced_cons (thn (h.run pins s σ H _ inv hq) fun u s1 ⟨H1, sc, ex, I1, hex, hG⟩ => ?_)
  refine Calls.spliced_nil ?_
  refine tuple_made ⟨hr.hd, ?_, ?_⟩ I1.ok.frames hG fun s' acc H' ys h1 h2 h3 h4 h5 h6 h7 => ?_
  · have := hr.dp
    show X.A.depth + 3 * k + 5 < _
    omega
  · have := hr.un
    show X.A.units + 1 + 1 + 1 + 1 + 16 * k + 200 < _
    omega
  · have inv2 : Inv X pins σ H' s' := I1.call' (ch := ex) h3 h5 h6 h4 hex
    have e : acc = acc.toList.toArray := by simp
    rw [e]
    exact laid_fz (s := s') inv2 h1 h2 h7
end Lt

set_option Elab.async false
set_option linter.all false
set_option maxRecDepth 100000
set_option maxHeartbeats 4000000
/-! slices and sums of tuples whose kind is known: of the same kind again. -/
namespace Lt
open PySem PySem.Spec PyProof.Rows L2
section
variable {X : Cx}
def rSlY : V → Option Int → Option Int → Hp → VK → Prop := fun x lo hi H Q => ∃ (a : Addr) (xs : List V), x = .ref a ∧ TpO H a xs ∧ ∀ (c : Addr) (H2 : Hp), Same H H2 → TpO H2 c (cutV xs lo hi) → Q (.ref c) H2
theorem sl_tupY : SlR X rSlY := by
  rintro pins s σ H _ v vl vu lo hi sl Q inv rx hs pl pu ⟨a, xs, rfl, ha, q⟩
  by_cases hw : HT.sIx xs.length 0 lo = 0 ∧ HT.sIx xs.length xs.length hi = xs.length
  · exact sl_tupA pins s σ H _ v vl vu lo hi sl Q inv rx hs pl pu ⟨a, xs, rfl, ha.sqt, fun _ => q a H (fun _ _ h => h) (by rw [cut_all hw]; exact ha), fun z => absurd hw z⟩
  · cases rx
    obtain ⟨its, vals, tup, fit⟩ := inv.tuple (ha.sqt (K := X.K))
    have len : its.toArray.size = xs.length := by rw [List.size_toArray]; exact vals.length.symm
    refine ⟨"tuple", _, PyProof.Rows.slot_tuple_getitem.lookup, tup.typeIs, HT.getItem_tuple_cut tup hs pl pu (by rw [len]; exact hw) ?_ (by rw [len]; exact fit)⟩
    rw [len]
    exact laid_fz (s := s) inv ((vals.drop (HT.sIx xs.length 0 lo)).take (HT.sIx xs.length xs.length hi - HT.sIx xs.length 0 lo)) (Nat.le_trans (cutV_length xs lo hi) fit) fun p u hp hu => q p _ (same_new hp u) (TpO.new hu)
def rCatY : R2 := fun x y H Q => ∃ (a b : Addr) (xs ys : List V), x = .ref a ∧ y = .ref b ∧ TpO H a xs ∧ TpO H b ys ∧ xs.length + ys.length ≤ sizeLine ∧ ∀ (c : Addr) (H2 : Hp), Same H H2 → TpO H2 c (xs ++ ys) → Q (.ref c) H2
theorem op_catY : OpR X (binaryOp .Add) rCatY := by
  rintro pins s σ H _ _ v u Q inv rx ry ⟨a, b, xs, ys, rfl, rfl, ha, hb, fit, q⟩
  by_cases e : xs = []
  · subst e
    cases rx
    cases ry
    obtain ⟨its, r1, p1, _⟩ := inv.tuple (ha.sqt (K := X.K))
    obtain ⟨its2, r2, p2, _⟩ := inv.tuple (hb.sqt (K := X.K))
    cases r1
    exact cat_tup0 p1 p2 ⟨.ref b, H, inv, rfl, q b H (fun _ _ h => h) hb⟩
  · exact op_catZ pins s σ H _ _ v u Q inv rx ry ⟨a, b, xs, ys, rfl, rfl, ha.sqt, hb.sqt, e, fit, fun z => q a H (fun _ _ h => h) (by rw [z, List.append_nil]; exact ha), fun _ p w hp hw => q p _ (same_new hp w) (TpO.new hw)⟩
end
theorem cut_mid {xs : List V} {i j : Nat} {y z : Int} (ey : y = (i : Int)) (ez : z = (j : Int)) (hi : i ≤ xs.length) (hj : j ≤ xs.length) : cutV xs (some y) (some z) = (xs.drop i).take (j - i) := by
  rw [ey, ez]
  unfold cutV
  rw [HT.sIx_nat, HT.sIx_nat, Nat.min_eq_left hi, Nat.min_eq_left hj]
end Lt

set_option Elab.async false
set_option linter.all false
set_option maxRecDepth 100000
set_option maxHeartbeats 4000000
/-! sorted(xs), xs a list of tuples of ints and texts, of any length: over the library's sorting under an order. -/
namespace Lt
open PySem PySem.Spec PyProof.Rows L2
/-! ### the order of such tuples -/
def ltKey : Key → Key → Bool
  | .inl i, .inl j => decide (i < j)
  | .inr a, .inr b => decide (ltS a b)
  | .inl _, .inr _ => true
  | .inr _, .inl _ => false
theorem ltKey_asym : ∀ {a b : Key}, ltKey a b = true → ltKey b a = false
  | .inl i, .inl j, h => decide_eq_false (by have := of_decide_eq_true h; omega)
  | .inr a, .inr b, h => decide_eq_false (ltS_asymm (of_decide_eq_true h))
  | .inl _, .inr _, _ => rfl
  | .inr _, .inl _, h => nomatch h
theorem ltKey_tri : ∀ {a b : Key}, ltKey a b = false → ltKey b a = false → a = b
  | .inl i, .inl j, h1, h2 => by
    have a1 := of_decide_eq_false h1
    have a2 := of_decide_eq_false h2
    rw [show i = j by omega]
  | .inr a, .inr b, h1, h2 => by rw [ltS_tri (of_decide_eq_false h1) (of_decide_eq_false h2)]
  | .inl _, .inr _, h, _ => nomatch h
  | .inr _, .inl _, _, h => nomatch h
theorem ltKey_trans : ∀ {a b c : Key}, ltKey a b = true → ltKey b c = true → ltKey a c = true
  | .inl i, .inl j, .inl k, h1, h2 => decide_eq_true (by have := of_decide_eq_true h1; have := of_decide_eq_true h2; omega)
  | .inr a, .inr b, .inr c, h1, h2 => decide_eq_true (List.lt_trans (of_decide_eq_true h1) (of_decide_eq_true h2))
  | .inl _, .inl _, .inr _, _, _ => rfl
  | .inl _, .inr _, .inr _, _, _ => rfl
  | .inl _, .inr _, .inl _, _, h => nomatch h
  | .inr _, .inl _, _, h, _ => nomatch h
  | .inr _, .inr _, .inl _, _, h => nomatch h
theorem ltKey_irr (a : Key) : ltKey a a = false := by
  cases h : ltKey a a with
  | false => rfl
  | true => rw [ltKey_asym h] at h; exact h.symm
def lexK : List Key → List Key → Bool
  | [], [] => false
  | [], _ :: _ => true
  | _ :: _, [] => false
  | a :: r, b :: t => if a = b then lexK r t else ltKey a b
theorem lexK_asym : ∀ {l m : List Key}, lexK l m = true → lexK m l = false
  | [], [], h => nomatch h
  | [], _ :: _, _ => rfl
  | _ :: _, [], h => nomatch h
  | a :: r, b :: t, h => by
    unfold lexK at h ⊢
    by_cases e : a = b
    · rw [if_pos e] at h
      rw [if_pos e.symm]
      exact lexK_asym h
    · rw [if_neg e] at h
      rw [if_neg fun z => e z.symm]
      exact ltKey_asym h
theorem lexK_tri : ∀ {l m : List Key}, lexK l m = false → lexK m l = false → l = m
  | [], [], _, _ => rfl
  | [], _ :: _, h, _ => nomatch h
  | _ :: _, [], _, h => nomatch h
  | a :: r, b :: t, h1, h2 => by
    unfold lexK at h1 h2
    by_cases e : a = b
    · rw [if_pos e] at h1
      rw [if_pos e.symm] at h2
      rw [e, lexK_tri h1 h2]
    · rw [if_neg e] at h1
      rw [if_neg fun z => e z.symm] at h2
      exact absurd (ltKey_tri h1 h2) e
theorem lexK_trans : ∀ {l m n : List Key}, lexK l m = true → lexK m n = true → lexK l n = true
  | [], [], _, h, _ => nomatch h
  | [], _ :: _, [], _, h => nomatch h
  | [], _ :: _, _ :: _, _, _ => rfl
  | _ :: _, [], _, h, _ => nomatch h
  | _ :: _, _ :: _, [], _, h => nomatch h
  | a :: r, b :: t, c :: u, h1, h2 => by
    unfold lexK at h1 h2 ⊢
    by_cases e : a = b
    · rw [if_pos e] at h1
      by_cases e2 : b = c
      · rw [if_pos e2] at h2
        rw [if_pos (e.trans e2)]
        exact lexK_trans h1 h2
      · rw [if_neg e2] at h2
        rw [e, if_neg e2]
        exact h2
    · rw [if_neg e] at h1
      by_cases e2 : b = c
      · rw [← e2, if_neg e]
        exact h1
      · rw [if_neg e2] at h2
        have h3 := ltKey_trans h1 h2
        have ne : a ≠ c := fun z => by
          rw [z, ltKey_irr] at h3
          cases h3
        rw [if_neg ne]
        exact h3
theorem lexK_swo {α : Type} (k : α → List Key) : SrtO.Swo fun x y => lexK (k x) (k y) := by
  refine ⟨fun x y h => lexK_asym h, fun x y z h1 h2 => ?_⟩
  cases h : lexK (k z) (k x) with
  | false => rfl
  | true =>
    exfalso
    cases h3 : lexK (k x) (k y) with
    | true =>
      rw [lexK_trans h h3] at h2
      cases h2
    | false =>
      rw [lexK_tri h3 h1] at h
      rw [h] at h2
      cases h2
/-- at each place of the same sort -/
def AlikeK : List Key → List Key → Prop
  | a :: r, b :: t => (a.isLeft = b.isLeft) ∧ AlikeK r t
  | _, _ => True
/-! ### the comparison -/
theorem eqb_key (i j : Int) : (i == j) = decide (i = j) := rfl
section
variable {prog : Program} {w : World} {A : Around} {s : Shared}
/-- these values are these keys -/
inductive KeyVs : List Key → List Value → Prop
  | nil : KeyVs [] []
  | int {i : Int} {t : Tok} {ks us} : KeyVs ks us → KeyVs (.inl i :: ks) (.int i t :: us)
  | str {z : Str} {t : Tok} {ks us} : KeyVs ks us → KeyVs (.inr z :: ks) (.str z t :: us)
theorem KeyVs.len : ∀ {ks us}, KeyVs ks us → us.length = ks.length
  | _, _, .nil => rfl
  | _, _, .int h => congrArg (· + 1) h.len
  | _, _, .str h => congrArg (· + 1) h.len
theorem oneLt_is (c : Bool) {a b : Int} {t u : Tok} {Q : Bool → Shared → Prop} (h : Q (decide (a < b)) s) : wpAny (model prog w) A (oneLt' c (.int a t) (.int b u)) Q (fun _ _ => False) s := by
  cases c with
  | true => exact oneLt_int h
  | false => exact PySem.W.kat_one _ _ (PyProof.Rows.lt_int h)
theorem oneLt_strs (c : Bool) {a b : Str} {t u : Tok} {Q : Bool → Shared → Prop} (h : Q (decide (ltS a b)) s) : wpAny (model prog w) A (oneLt' c (.str a t) (.str b u)) Q (fun _ _ => False) s := by
  cases c with
  | true => exact oneLt_str h
  | false => exact PySem.W.kat_one _ _ (lt_str h)
theorem lex_run (b : Bool) : ∀ {ks ms : List Key} {us vs : List Value} (i : Nat) (fin : Bool), KeyVs ks us → KeyVs ms vs → AlikeK ks ms → ks.length = ms.length → fin = false →
    PySem.W.KatLex prog w A b fin (fun r s' => s' = s ∧ r = lexK ks ms) (us.zip vs) i s
  | _, _, _, _, i, fin, .nil, .nil, _, _, e => ⟨rfl, e⟩
  | _, _, _, _, i, fin, .nil, .int _, _, l, _ => nomatch l
  | _, _, _, _, i, fin, .nil, .str _, _, l, _ => nomatch l
  | _, _, _, _, i, fin, .int _, .nil, _, l, _ => nomatch l
  | _, _, _, _, i, fin, .str _, .nil, _, l, _ => nomatch l
  | _, _, _, _, i, fin, .int _, .str _, al, _, _ => nomatch al.1
  | _, _, _, _, i, fin, .str _, .int _, al, _, _ => nomatch al.1
  | _, _, _, _, i, fin, @KeyVs.int x t ks us h1, @KeyVs.int y u ms vs h2, al, l, e => by
    refine PySem.W.kat_cons (SeqAt.EqAt.int_int x t y u prog w _ _ (PySem.W.kat_go (fun e1 => ?_) (fun e1 => ?_)))
    · have exy : x = y := by simpa using e1
      have ih := lex_run b (i + 1) fin h1 h2 al.2 (Nat.succ.inj l) e
      have el : lexK (Sum.inl x :: ks) (Sum.inl y :: ms) = lexK ks ms := by
        show (if _ then _ else _) = _
        rw [if_pos (by rw [exy])]
      rw [el]
      exact PySem.W.kat_yes ih
    · have nxy : ¬ x = y := by simpa using e1
      refine PySem.W.kat_no (oneLt_is _ ⟨rfl, ?_⟩)
      show decide (x < y) = if _ then _ else _
      rw [if_neg fun z => nxy (Sum.inl.inj z)]
      rfl
  | _, _, _, _, i, fin, @KeyVs.str x t ks us h1, @KeyVs.str y u ms vs h2, al, l, e => by
    refine PySem.W.kat_cons (SeqAt.EqAt.str_str x t y u prog w _ _ (PySem.W.kat_go (fun e1 => ?_) (fun e1 => ?_)))
    · have exy : x = y := by simpa using e1
      have ih := lex_run b (i + 1) fin h1 h2 al.2 (Nat.succ.inj l) e
      have el : lexK (Sum.inr x :: ks) (Sum.inr y :: ms) = lexK ks ms := by
        show (if _ then _ else _) = _
        rw [if_pos (by rw [exy])]
      rw [el]
      exact PySem.W.kat_yes ih
    · have nxy : ¬ x = y := by simpa using e1
      refine PySem.W.kat_no (oneLt_strs _ ⟨rfl, ?_⟩)
      show decide (ltS x y) = if _ then _ else _
      rw [if_neg fun z => nxy (Sum.inr.inj z)]
      rfl
/-- a tuple of these keys -/
def TupK (h : Heap) (v : Value) (ks : List Key) : Prop := ∃ (a : Addr) (o : Obj) (us : List Value) (n : Nat), v = .ref a ∧ h.get? a = some o ∧ o.cls = .type "tuple" ∧ o.data = .seq us.toArray n ∧ KeyVs ks us
theorem TupK.keeps {h h' : Heap} {v : Value} {ks : List Key} (x : TupK h v ks) (k : ∀ b o, h.get? b = some o → o.cls = .type "tuple" → h'.get? b = some o) : TupK h' v ks := by
  obtain ⟨a, o, us, n, e, ho, hc, r⟩ := x
  exact ⟨a, o, us, n, e, k a o ho hc, hc, r⟩
theorem tup_cmp {vs : List Value} {k : Value → List Key} (hp : ∀ v ∈ vs, TupK s.heap v (k v)) (al : ∀ v ∈ vs, ∀ u ∈ vs, AlikeK (k v) (k u) ∧ (k v).length = (k u).length) :
    SrtO.Cmp prog w A s (tuples' true) (fun p => p.1 ∈ vs) (SrtO.lt2 fun v u => lexK (k v) (k u)) := by
  intro p q hm hm'
  show wpAny (model prog w) A (keyLt' (tuples' true) p.1 q.1) (fun r s' => s' = s ∧ r = lexK (k p.1) (k q.1)) (fun _ _ => False) s
  obtain ⟨a, o, us, n, e, ho, _, hd, h1⟩ := hp _ hm
  obtain ⟨a', o', us', n', e', ho', _, hd', h2⟩ := hp _ hm'
  have ak := al _ hm _ hm'
  generalize k p.1 = ks at h1 ak ⊢
  generalize k q.1 = ms at h2 ak ⊢
  rw [e, e']
  refine PySem.W.kat_lt ho hd ho' hd' ?_
  have l1 := h1.len
  have l2 := h2.len
  exact lex_run true 0 _ h1 h2 ak.1 ak.2 (by rw [List.size_toArray, List.size_toArray, l1, l2, ak.2]; exact decide_eq_false (Nat.lt_irrefl _))
theorem firstK {h : Heap} : ∀ {vs : List Value} {k : Value → List Key}, (∀ v ∈ vs, TupK h v (k v) ∧ k v ≠ []) → ∃ fs, PySem.W.KatTups h vs fs ∧ fs.length = vs.length ∧ ∀ f ∈ fs, ∃ v ∈ vs, ∃ x r, k v = x :: r ∧ ((∃ i t, x = .inl i ∧ f = .int i t) ∨ ∃ z t, x = .inr z ∧ f = .str z t)
  | [], _, _ => ⟨[], .nil, rfl, fun f hf => nomatch hf⟩
  | v :: vs, k, hp => by
    obtain ⟨fs, h1, h2, h3⟩ := firstK (vs := vs) (k := k) fun u hu => hp u (List.mem_cons_of_mem _ hu)
    obtain ⟨⟨a, o, us, n, e, ho, hc, hd, kv⟩, ne⟩ := hp v (List.mem_cons_self ..)
    have more : ∀ f ∈ fs, ∃ v' ∈ v :: vs, ∃ x r, k v' = x :: r ∧ ((∃ i t, x = .inl i ∧ f = .int i t) ∨ ∃ z t, x = .inr z ∧ f = .str z t) := fun f hf => by
      obtain ⟨v', hv, r⟩ := h3 f hf
      exact ⟨v', List.mem_cons_of_mem _ hv, r⟩
    cases hk : k v with
    | nil => exact absurd hk ne
    | cons x r =>
      rw [hk] at kv
      cases kv with
      | @int i t _ us' kv' =>
        refine ⟨.int i t :: fs, ?_, by rw [List.length_cons, h2, List.length_cons], fun f hf => ?_⟩
        · rw [e]
          exact .cons ho hc hd (by simp) h1
        · rcases List.mem_cons.mp hf with rfl | hf
          · exact ⟨v, List.mem_cons_self .., _, _, hk, .inl ⟨i, t, rfl, rfl⟩⟩
          · exact more f hf
      | @str z t _ us' kv' =>
        refine ⟨.str z t :: fs, ?_, by rw [List.length_cons, h2, List.length_cons], fun f hf => ?_⟩
        · rw [e]
          exact .cons ho hc hd (by simp) h1
        · rcases List.mem_cons.mp hf with rfl | hf
          · exact ⟨v, List.mem_cons_self .., _, _, hk, .inr ⟨z, t, rfl, rfl⟩⟩
          · exact more f hf
theorem tup_sortable {a : Addr} {vs : List Value} {k : Value → List Key} (h0 : 0 < vs.length) (hp : ∀ v ∈ vs, TupK s.heap v (k v) ∧ k v ≠ []) (al : ∀ v ∈ vs, ∀ u ∈ vs, AlikeK (k v) (k u) ∧ (k v).length = (k u).length)
    (ha : ∀ o, s.heap.get? a = some o → o.cls ≠ .type "tuple") : SrtO.SortableO prog w A s a vs fun v u => lexK (k v) (k u) := by
  intro h' keep
  have hp' : ∀ v ∈ vs, TupK h' v (k v) ∧ k v ≠ [] := fun v hm => ⟨(hp v hm).1.keeps fun b o e c => keep b o (fun z => by subst z; exact ha o e c) e, (hp v hm).2⟩
  obtain ⟨fs, h1, h2, h3⟩ := firstK hp'
  refine ⟨tuples' true, fun Q E hq => ?_, tup_cmp (fun v hm => (hp' v hm).1) al⟩
  have sort : ∀ f ∈ fs, ∀ g ∈ fs, (∃ i t j u, f = .int i t ∧ g = .int j u) ∨ ∃ y t z u, f = .str y t ∧ g = .str z u := fun f hf g hg => by
    obtain ⟨v, hv, x, r, e1, c1⟩ := h3 f hf
    obtain ⟨u, hu, y, r', e2, c2⟩ := h3 g hg
    have q := (al v hv u hu).1
    rw [e1, e2] at q
    rcases c1 with ⟨i, t, rfl, rfl⟩ | ⟨z, t, rfl, rfl⟩
    · rcases c2 with ⟨j, t2, rfl, rfl⟩ | ⟨z2, t2, rfl, rfl⟩
      · exact .inl ⟨_, _, _, _, rfl, rfl⟩
      · exact nomatch (show true = false from q.1)
    · rcases c2 with ⟨j, t2, rfl, rfl⟩ | ⟨z2, t2, rfl, rfl⟩
      · exact nomatch (show false = true from q.1)
      · exact .inr ⟨_, _, _, _, rfl, rfl⟩
  cases fs with
  | nil => exact absurd (h2 ▸ h0) (Nat.lt_irrefl _)
  | cons f fr =>
    rcases sort f (List.mem_cons_self ..) f (List.mem_cons_self ..) with ⟨i, t, _, _, ef, _⟩ | ⟨y, t, _, _, ef, _⟩
    · refine PySem.W.kat_kind (T := .type "int") h1 (Nat.succ_pos _) (fun g hm => ?_) (by rfl) ?_
      · rcases sort f (List.mem_cons_self ..) g hm with ⟨_, _, j, u, _, rfl⟩ | ⟨_, _, _, _, e, _⟩
        · exact PySem.W.Looks.now
        · rw [ef] at e
          cases e
      · have e : (Value.type "int" != Value.type "tuple") = true := by first | decide +kernel | rfl | decide
        rw [e]
        exact hq
    · refine PySem.W.kat_kind (T := .type "str") h1 (Nat.succ_pos _) (fun g hm => ?_) (by rfl) ?_
      · rcases sort f (List.mem_cons_self ..) g hm with ⟨_, _, _, _, e, _⟩ | ⟨_, _, j, u, _, rfl⟩
        · rw [ef] at e
          cases e
        · exact PySem.W.Looks.now
      · have e : (Value.type "str" != Value.type "tuple") = true := by first | decide +kernel | rfl | decide
        rw [e]
        exact hq
theorem sorted_tups {E : Value → Shared → Prop} {l : Addr} {vs : List Value} {k : Value → List Key} {Q : Value → Shared → Prop} (hl : s.heap.IsList l vs.toArray) (hz : vs.length ≤ sizeLine) (hp : ∀ v ∈ vs, TupK s.heap v (k v) ∧ k v ≠ [])
    (al : ∀ v ∈ vs, ∀ u ∈ vs, AlikeK (k v) (k u) ∧ (k v).length = (k u).length)
    (h : ∀ (h' : Heap) (d : Addr) (out : List Value), SrtO.Srtd (fun v u => lexK (k v) (k u)) out → SrtO.Stb (fun v u => lexK (k v) (k u)) out vs → (∀ b o, s.heap.get? b = some o → h'.get? b = some o) → s.heap.objs.size ≤ d → (∃ n, h'.get? d = some (seqObj "list" out.toArray n)) → Q (.ref d) { s with heap := h' }) :
    wpAny (model prog w) A (call (.builtin "sorted") [.ref l]) Q E s := by
  refine SrtO.sorted_ord (lexK_swo k) hl hz (fun h2 h₁ a ha kk => tup_sortable (s := { s with heap := h₁ }) (by omega) (fun v hm => ⟨(hp v hm).1.keeps fun b o e _ => (kk b o e).2, (hp v hm).2⟩) al fun o e c => ?_) fun out hs hb => ?_
  · have e' : some o = some (seqObj "list" vs.toArray 0) := e.symm.trans ha
    cases e'
    exact absurd (Value.type.inj c) (by decide)
  · exact h _ _ out hs hb (fun b o e => sortedAll_old e) (Nat.le_succ _) (sortedAll_at s.heap vs out.toArray)
end
/-! ### the rule -/
section
variable {X : Cx}
theorem keyVs_of : ∀ {ks : List Key} {us : List Value}, Vals (ks.map kV) us → KeyVs ks us
  | [], _, .nil => .nil
  | .inl i :: ks, _ :: us, .cons r t => by
    obtain ⟨tk, rfl⟩ := r
    exact .int (keyVs_of t)
  | .inr z :: ks, _ :: us, .cons r t => by
    obtain ⟨tk, rfl⟩ := r
    exact .str (keyVs_of t)
def adr : Value → Addr
  | .ref a => a
  | _ => 0
theorem refs_of : ∀ {ts : List Addr} {us : List Value}, Vals (ts.map V.ref) us → us = ts.map Value.ref
  | [], _, .nil => rfl
  | t :: ts, u :: us, .cons r h => by
    obtain rfl : u = Value.ref t := r
    rw [refs_of h]
    rfl
theorem refs_vals : ∀ ts : List Addr, Vals (ts.map V.ref) (ts.map Value.ref)
  | [] => .nil
  | t :: ts => .cons rfl (refs_vals ts)
/-- sorted(xs): ts the places of the tuples, ks what they hold -/
def rSortK (K : PySem.W.Frag) : List V → Hp → VK → Prop := fun vs H Q => ∃ (a : Addr) (ts : List Addr) (k : Addr → List Key), vs = [V.ref a] ∧ SqL K H a (ts.map V.ref) ∧ (∀ t ∈ ts, SqT K H t ((k t).map kV) ∧ k t ≠ []) ∧
  (∀ t ∈ ts, ∀ u ∈ ts, AlikeK (k t) (k u) ∧ (k t).length = (k u).length) ∧
  ∀ (us : List Addr) (p : Addr), us.Perm ts → (us.Pairwise fun t u => lexK (k u) (k t) = false) → H p = none → Q (.ref p) (upd H p (.lst (us.map V.ref)))
theorem cr_sortK : CallR X (.builtin "sorted") (rSortK X.K) := by
  rintro pins s σ H _ us Q inv rel ⟨a, ts, k, rfl, sq, tup, al, q⟩
  rw [Vals.ref1 rel]
  obtain ⟨its, vals, hl, fit⟩ := inv.list sq
  have eits := refs_of vals
  subst eits
  have sz : (ts.map Value.ref).length ≤ sizeLine := by
    rw [List.length_map] at fit ⊢
    exact fit
  refine sorted_tups (k := fun v => k (adr v)) hl.isList sz (fun v hv => ?_) (fun v hv u hu => ?_) fun h' d out srt stb kp le at1 => ?_
  · obtain ⟨t, ht, rfl⟩ := List.mem_map.mp hv
    obtain ⟨sqt1, ne⟩ := tup t ht
    obtain ⟨us2, vs2, ⟨o, ho, hc, n, hd⟩, _⟩ := inv.tuple sqt1
    exact ⟨⟨t, o, us2, n, rfl, ho, hc, hd, keyVs_of vs2⟩, ne⟩
  · obtain ⟨t, ht, rfl⟩ := List.mem_map.mp hv
    obtain ⟨t2, ht2, rfl⟩ := List.mem_map.mp hu
    exact al t ht t2 ht2
  · have pm : (out.map adr).Perm ts := by
      have z := stb.perm.map adr
      rw [List.map_map, show (adr ∘ Value.ref) = id from rfl, List.map_id] at z
      exact z
    have eo : out = (out.map adr).map Value.ref := by
      have z : ∀ v ∈ out, Value.ref (adr v) = v := fun v hv => by
        obtain ⟨t, _, rfl⟩ := List.mem_map.mp (stb.perm.mem_iff.mp hv)
        rfl
      rw [List.map_map]
      have z2 : out.map (Value.ref ∘ adr) = out.map id := List.map_congr_left z
      rw [z2, List.map_id]
    obtain ⟨n, at1⟩ := at1
    have pw : (out.map adr).Pairwise fun t u => lexK (k u) (k t) = false := List.pairwise_map.mpr srt
    rw [eo] at at1
    generalize out.map adr = us at pm pw at1
    have fitU : (us.map V.ref).length ≤ sizeLine := by
      rw [List.length_map, pm.length_eq, ← List.length_map (f := V.ref)]
      exact fit
    exact ⟨.ref d, upd H d (.lst (us.map V.ref)), inv.laid (t' := s.toks) kp le (show ObjOk X.prog X.w _ _ _ (.lst (us.map V.ref)) from ⟨fitU, _, n, refs_vals us, at1⟩), rfl, q us d pm pw (inv.hok.fresh le)⟩
theorem cSortK {K : PySem.W.Frag} (e : X.K = K) : CallR X (.builtin "sorted") (rSortK K) := by
  subst e
  exact cr_sortK
end
end Lt

set_option Elab.async false
set_option linter.all false
set_option maxRecDepth 100000
set_option maxHeartbeats 4000000
namespace Lt
open PySem PySem.Spec PyProof.Rows L2
section
variable {P : Program} {w : World} {K : PySem.W.Frag} {mg : Str → Option Value} {base : Heap} {X : Cx}
def TpS (K : PySem.W.Frag) (H : Hp) (a : Addr) (xs : List V) : Prop := SqT K H a xs
theorem TpS.sqt {K : PySem.W.Frag} {H : Hp} {a : Addr} {xs : List V} (h : TpS K H a xs) : SqT K H a xs := h
theorem TpS.same {K : PySem.W.Frag} {H H' : Hp} {a : Addr} {xs : List V} (h : TpS K H a xs) (s : Same H H') : TpS K H' a xs := same_tup s h
theorem TpS.but {K : PySem.W.Frag} {T : Addr} {H H' : Hp} {a : Addr} {xs : List V} (h : TpS K H a xs) (s : SameT T H H') (n : ∀ u, H T = some u → (∀ ys, u ≠ .tup ys) ∧ ∀ o ys, u ≠ .frz o (.tup ys)) : TpS K H' a xs := by
  rcases h with (h | ⟨o, h⟩) | h
  · exact .inl (.inl (s _ _ (fun e => (n _ (e ▸ h)).1 _ rfl) h))
  · exact .inl (.inr ⟨o, s _ _ (fun e => (n _ (e ▸ h)).2 _ _ rfl) h⟩)
  · exact .inr h
theorem TpO.tps {K : PySem.W.Frag} {H : Hp} {a : Addr} {xs : List V} (h : TpO H a xs) : TpS K H a xs := h.sqt
def spBehindT (K : PySem.W.Frag) : Sp := fun vs H Q _ => ∃ (p r : Addr) (bs rs : List Str), vs = [.ref p, .ref r] ∧ TpO H p (bs.map V.str) ∧ TpS K H r (rs.map V.str) ∧ bs.length ≤ 1000 ∧ (∀ b ∈ rs, b ∈ bs) ∧
  ∀ (q : Addr) (H' : Hp), Same H H' → TpO H' q ((behindM bs rs).map V.str) → Q (.ref q) H'
def spLiftedT (K : PySem.W.Frag) : Sp := fun vs H Q _ => ∃ (p r : Addr) (bs rs : List Str), vs = [.ref p, .ref r] ∧ TpO H p (bs.map V.str) ∧ TpS K H r (rs.map V.str) ∧ bs.length ≤ 1000 ∧ rs.length ≤ 1000 ∧ (∀ b ∈ rs, b ∈ bs) ∧
  ∀ (l : Addr) (H' : Hp), Same H H' → H l = none → H' l = some (.lst ((liftedM bs rs).map natV)) → Q (.ref l) H'
def spPassT (K : PySem.W.Frag) : Sp := fun vs H Q _ => ∃ (p r : Addr) (bs rs : List Str), vs = [.ref p, .ref r] ∧ TpO H p (bs.map V.str) ∧ TpS K H r (rs.map V.str) ∧ bs.length ≤ 7 ∧ rs.length ≤ 60 ∧ (∀ b ∈ rs, b ∈ bs) ∧
  ∀ (l : Addr) (H' : Hp) (ys : List Str) (xs : List V), Same H H' → H l = none → ys.Perm bs → sortedS ys = true → H' l = some (.lst xs) → DpAll K H' xs ((prs ys ys.length).map (tri (rowsM bs rs))) → Q (.ref l) H'
def spReadT (K : PySem.W.Frag) : Sp := fun vs H Q _ => ∃ (p r : Addr) (bs rs : List Str), vs = [.ref p, .ref r] ∧ (SqL K H p (bs.map V.str) ∨ SqT K H p (bs.map V.str)) ∧ TpS K H r (rs.map V.str) ∧ bs.length ≤ 7 ∧ rs.length ≤ 60 ∧ (∀ b ∈ rs, b ∈ bs) ∧
  ∀ (t a n o : Addr) (H' : Hp) (ts : List Addr), Same H H' → H' t = some (.tup [.ref a, .ref n, .ref o]) → H' a = some (.tup ((behindM bs rs).map V.str)) → H' n = some (.lst ((liftedM bs rs).map natV)) →
    H' o = some (.lst (ts.map V.ref)) → PairsL H' ts (rowsM bs rs) → Q (.ref t) H'
def spTwoT (K : PySem.W.Frag) : Sp := fun vs H Q _ => ∃ (p r : Addr) (bs : List Str) (ts : List Addr) (rows : List (Str × Str)), vs = [.ref p, .ref r] ∧ SqL K H p (bs.map V.str) ∧ bs.length ≤ 7 ∧ (∀ b ∈ bs, PyData.strOk b = true) ∧
  H r = some (.lst (ts.map V.ref)) ∧ PairsL H ts rows ∧ rows.length ≤ 900 ∧ (∀ z ∈ rows, PyData.strOk z.1 = true ∧ PyData.strOk z.2 = true) ∧
  ∀ (l : Addr) (H' : Hp) (ys : List Str) (xs : List V), Same H H' → H l = none → ys.Perm bs → sortedS ys = true → H' l = some (.lst xs) → DpAll K H' xs ((prs ys ys.length).map (tri rows)) → Q (.ref l) H'
structure IsWants (m n : Nat) (ws : List (Str × Nat)) : Prop where
  sub : (ws.map (·.1)).Sublist (books.take m)
  pos : ∀ p ∈ ws, 0 < p.2
  some_ : ws ≠ []
  few : (ws.map (·.2)).sum ≤ n
def WL (H : Hp) (ts : List Addr) (ws : List (Str × Nat)) : Prop := ts.length = ws.length ∧ ∀ (i : Nat) (t : Addr) (p : Str × Nat), ts[i]? = some t → ws[i]? = some p → H t = some (.tup [.str p.1, natV p.2])
theorem WL.move {H H' : Hp} {ts : List Addr} {ws : List (Str × Nat)} (h : WL H ts ws) (k : ∀ t xs, H t = some (.tup xs) → H' t = some (.tup xs)) : WL H' ts ws := ⟨h.1, fun i t p a b => k _ _ (h.2 i t p a b)⟩
theorem WL.snoc {H : Hp} {ts : List Addr} {ws : List (Str × Nat)} {t : Addr} {p : Str × Nat} (h : WL H ts ws) (ht : H t = some (.tup [.str p.1, natV p.2])) : WL H (ts ++ [t]) (ws ++ [p]) := by
  refine ⟨by rw [List.length_append, List.length_append, h.1]; rfl, fun i t' p' a b => ?_⟩
  rcases Nat.lt_or_ge i ts.length with hi | hi
  · rw [List.getElem?_append_left hi] at a
    rw [List.getElem?_append_left (by rw [← h.1]; exact hi)] at b
    exact h.2 i t' p' a b
  · rw [List.getElem?_append_right hi] at a
    rw [List.getElem?_append_right (by rw [← h.1]; exact hi), ← h.1] at b
    cases e : i - ts.length with
    | zero =>
      rw [e] at a b
      cases a
      cases b
      exact ht
    | succ k =>
      rw [e] at a
      cases a
def WAt (H : Hp) (W : Addr) (ws : List (Str × Nat)) : Prop := ∃ ts, TpO H W (ts.map V.ref) ∧ WL H ts ws
theorem WAt.same {H H' : Hp} {W : Addr} {ws : List (Str × Nat)} (h : WAt H W ws) (s : Same H H') : WAt H' W ws := by
  obtain ⟨ts, a, b⟩ := h
  exact ⟨ts, a.same s, b.move fun t xs e => s _ _ e⟩
theorem WAt.sameT {T : Addr} {H H' : Hp} {W : Addr} {ws : List (Str × Nat)} (h : WAt H W ws) {xs : List V} (hT : H T = some (.lst xs)) (s : SameT T H H') : WAt H' W ws := by
  obtain ⟨ts, a, b⟩ := h
  exact ⟨ts, a.sameT s (a.ne hT fun o z => nomatch z), b.move fun t ys e => s _ _ (ne_of e hT fun z => nomatch z) e⟩
theorem sameT_new {T : Addr} {H H' : Hp} {p : Addr} {o : HO} (s : SameT T H H') (h : H p = none) : SameT T H (upd H' p o) := fun b u n q => by
  rw [upd_ne (ne_of_none q h)]
  exact s b u n q
def spWants : Sp := fun vs H Q _ => ∃ (T S : Addr) (ns : List Int) (m n : Nat), vs = [.ref T, .int m, .int n] ∧ Tape H T S ns ∧ 0 < m ∧ m ≤ 7 ∧ 0 < n ∧ n ≤ 1000 ∧
  ∀ (W : Addr) (H' : Hp) (ws : List (Str × Nat)), SameT T H H' → Tape H' T S ns → H W = none → WAt H' W ws → IsWants m n ws → Q (.ref W) H'
def flat : List (Str × Nat) → List Str
  | [] => []
  | p :: r => List.replicate p.2 p.1 ++ flat r
theorem flat_append : ∀ a b : List (Str × Nat), flat (a ++ b) = flat a ++ flat b
  | [], b => rfl
  | p :: r, b => by
    show _ ++ flat (r ++ b) = (_ ++ flat r) ++ flat b
    rw [flat_append r b, List.append_assoc]
theorem flat_len : ∀ ws : List (Str × Nat), (flat ws).length = (ws.map (·.2)).sum
  | [] => rfl
  | p :: r => by
    show (List.replicate p.2 p.1 ++ flat r).length = p.2 + _
    rw [List.length_append, List.length_replicate, flat_len r]
    rfl
theorem flat_mem : ∀ {ws : List (Str × Nat)} {b : Str}, b ∈ flat ws → b ∈ ws.map (·.1)
  | p :: r, b, h => by
    rcases List.mem_append.mp h with h | h
    · rw [(List.mem_replicate.mp h).2]
      exact List.mem_cons_self
    · exact List.mem_cons_of_mem _ (flat_mem h)
theorem mem_flat : ∀ {ws : List (Str × Nat)} {b : Str}, (∀ p ∈ ws, 0 < p.2) → b ∈ ws.map (·.1) → b ∈ flat ws
  | p :: r, b, pos, h => by
    rcases List.mem_cons.mp h with h | h
    · have p0 := pos p List.mem_cons_self
      exact List.mem_append_left _ (List.mem_replicate.mpr ⟨by omega, h⟩)
    · exact List.mem_append_right _ (mem_flat (fun q hq => pos q (List.mem_cons_of_mem _ hq)) h)
theorem flat_take {ws : List (Str × Nat)} (i : Nat) : (flat (ws.take i)).length ≤ (flat ws).length := by
  have e := flat_append (ws.take i) (ws.drop i)
  rw [List.take_append_drop] at e
  rw [e, List.length_append]
  omega
theorem refs_get {ts : List Addr} {i : Nat} {x : V} (h : (ts.map V.ref)[i]? = some x) : ∃ t, ts[i]? = some t ∧ x = .ref t := by
  rw [List.getElem?_map] at h
  cases e : ts[i]? with
  | none =>
    rw [e] at h
    cases h
  | some t =>
    rw [e] at h
    cases h
    exact ⟨t, rfl, rfl⟩
def spDay : Sp := fun vs H Q _ => ∃ (T S W : Addr) (ns : List Int) (ws : List (Str × Nat)), vs = [.ref T, .ref W] ∧ Tape H T S ns ∧ WAt H W ws ∧ ws.length ≤ 7 ∧ (flat ws).length ≤ 100 ∧
  ∀ (D : Addr) (H' : Hp) (rs : List Str), SameT T H H' → Tape H' T S ns → H D = none → TpO H' D (rs.map V.str) → rs.Perm (flat ws) → Q (.ref D) H'
abbrev wnames (ws : List (Str × Nat)) : List Str := ws.map fun x => x.1
theorem merge_has (k : Key) : ∀ (kvs acc : List (Key × V)), (valV (mergeK acc kvs) k).isSome = true ↔ (valV acc k).isSome = true ∨ k ∈ kvs.map Prod.fst
  | [], acc => ⟨fun h => .inl h, fun h => h.elim (fun h => h) fun h => nomatch h⟩
  | x :: r, acc => by
    show (valV (mergeK (putK acc x.1 x.2) r) k).isSome = true ↔ _
    rw [merge_has k r, valV_put, List.map_cons, List.mem_cons]
    by_cases e : k = x.1
    · rw [if_pos e]
      exact ⟨fun _ => .inr (.inl e), fun _ => .inl rfl⟩
    · rw [if_neg e]
      exact ⟨fun h => h.elim .inl fun h => .inr (.inr h), fun h => h.elim .inl fun h => h.elim (fun h => absurd h e) .inr⟩
def wkvs (ws : List (Str × Nat)) : List (Key × V) := ws.map fun p => (Sum.inr p.1, natV p.2)
theorem wkvs_has (ws : List (Str × Nat)) (b : Str) : (valV (mergeK [] (wkvs ws)) (Sum.inr b)).isSome = decide (b ∈ wnames ws) := by
  rw [Bool.eq_iff_iff, merge_has, decide_eq_true_iff]
  unfold wkvs
  rw [List.map_map]
  constructor
  · rintro (h | h)
    · cases h
    · obtain ⟨p, hp, e⟩ := List.mem_map.mp h
      exact List.mem_map.mpr ⟨p, hp, Sum.inr.inj e⟩
  · intro h
    obtain ⟨p, hp, e⟩ := List.mem_map.mp h
    exact .inr (List.mem_map.mpr ⟨p, hp, by show Sum.inr p.1 = _; rw [e]⟩)
theorem nodup_le : ∀ {l m : List Str}, l.Nodup → (∀ z ∈ l, z ∈ m) → l.length ≤ m.length
  | [], m, _, _ => Nat.zero_le _
  | a :: l, m, nd, h => by
    obtain ⟨n1, n2⟩ := List.nodup_cons.mp nd
    have ha := h a List.mem_cons_self
    have z := nodup_le (m := m.erase a) n2 fun z hz => (List.mem_erase_of_ne (a := z) (b := a) fun e : z = a => n1 (e ▸ hz)).mpr (h z (List.mem_cons_of_mem _ hz))
    have z2 := List.length_erase_of_mem ha
    have z3 := List.length_pos_of_mem ha
    rw [List.length_cons]
    omega
theorem cut_any (xs : List V) (j : Nat) : ∃ k, cutV xs none (some (j : Int)) = xs.take k := by
  refine ⟨min j xs.length, ?_⟩
  unfold cutV
  rw [HT.sIx_none, HT.sIx_nat]
  simp
theorem WL.paired {K : PySem.W.Frag} {H : Hp} : ∀ {ts : List Addr} {ws : List (Str × Nat)}, WL H ts ws → Paired (fun p (kv : Key × V) => SqT K H p [kV kv.1, kv.2]) ts (wkvs ws)
  | [], [], _ => .nil
  | [], _ :: _, h => nomatch h.1
  | _ :: _, [], h => nomatch h.1
  | t :: ts, p :: ws, h => .cons (sqt (h.2 0 t p rfl rfl)) (WL.paired (ts := ts) (ws := ws) ⟨by simpa using h.1, fun i t' p' a b => h.2 (i + 1) t' p' (by simpa using a) (by simpa using b)⟩)
theorem cDictT (e : X.K = K) (c : X.calm = true) : CallR X (.type "dict") (rDictT K) := by
  subst e
  exact call_dictT c
def spBelow : Sp := fun vs H Q _ => ∃ (T S W : Addr) (ns : List Int) (ws : List (Str × Nat)), vs = [.ref T, .ref W] ∧ Tape H T S ns ∧ WAt H W ws ∧ (wnames ws).Sublist books ∧
  ∀ (p : Addr) (H' : Hp) (bs : List Str), SameT T H H' → Tape H' T S ns → H p = none → TpO H' p (bs.map V.str) → bs.Nodup → bs.length ≤ 7 → (∀ b ∈ bs, b ∈ books) → (∀ b ∈ wnames ws, b ∈ bs) → Q (.ref p) H'
theorem sum_nat (l : List Nat) : (l.map fun k : Nat => (k : Int)).sum = (l.sum : Int) := by
  induction l with
  | nil => rfl
  | cons a r ih =>
    rw [List.map_cons, List.sum_cons, List.sum_cons, ih]
    omega
theorem lifted_small {bs rs : List Str} (h : ∀ b ∈ rs, b ∈ bs) : (liftedM bs rs).sum ≤ rs.length * bs.length := by
  rw [← rows_count rs h]
  exact rowsM_len rs h
def spFarP (K : PySem.W.Frag) : Sp := fun vs H Q _ => ∃ (p r : Addr) (bs rs : List Str) (d : Int), vs = [.ref p, .ref r, .int d] ∧ TpO H p (bs.map V.str) ∧ TpS K H r (rs.map V.str) ∧ bs.length ≤ 1000 ∧ (∀ b ∈ rs, b ∈ bs) ∧
  ∀ (q : Addr) (H' : Hp), Same H H' → TpO H' q ((if 0 < d then behindM bs rs else bs).map V.str) → Q (.ref q) H'
def spFarL (K : PySem.W.Frag) : Sp := fun vs H Q _ => ∃ (p r : Addr) (bs rs : List Str) (d : Int), vs = [.ref p, .ref r, .int d] ∧ TpO H p (bs.map V.str) ∧ TpS K H r (rs.map V.str) ∧ bs.length ≤ 7 ∧ rs.length ≤ 60 ∧ (∀ b ∈ rs, b ∈ bs) ∧
  ∀ H' : Hp, Same H H' → Q (.int (if d ≤ 0 then 0 else ((liftedM bs rs).sum : Int) + (d - 1) * ((liftedM (behindM bs rs) rs).sum : Int))) H'
theorem wn_len (ws : List (Str × Nat)) : (wnames ws).length = ws.length := List.length_map ..
def spLater (K : PySem.W.Frag) : Sp := fun vs H Q _ => ∃ (W r : Addr) (ws : List (Str × Nat)) (rs : List Str), vs = [.ref W, .ref r] ∧ WAt H W ws ∧ TpS K H r (rs.map V.str) ∧ ws.length ≤ 7 ∧ rs.length ≤ 60 ∧ (∀ b ∈ rs, b ∈ wnames ws) ∧
  ∀ (t a n o : Addr) (H' : Hp) (ts : List Addr), Same H H' → H' t = some (.tup [.ref a, .ref n, .ref o]) → H' a = some (.tup ((behindM (behindM (wnames ws) rs) rs).map V.str)) → H' n = some (.lst ((liftedM (behindM (wnames ws) rs) rs).map natV)) →
    H' o = some (.lst (ts.map V.ref)) → PairsL H' ts (rowsM (behindM (wnames ws) rs) rs) → Q (.ref t) H'
end
end Lt

set_option Elab.async false
set_option linter.all false
set_option maxRecDepth 100000
set_option maxHeartbeats 4000000
namespace Lt
open PySem PySem.Spec PyProof.Rows L2
/-! ### the day of turns: first a reader of each book, then a second one of each that has one .. -/
def turnsM (ws : List (Str × Nat)) : List (Nat × Str) := ws.flatMap fun p => (List.range p.2).map fun t => (t, p.1)
def roundM (ws : List (Str × Nat)) (t : Nat) : List (Nat × Str) := (ws.filter fun p => decide (t < p.2)).map fun p => (t, p.1)
def mostT (ws : List (Str × Nat)) (M : Nat) : List (Nat × Str) := (List.range M).flatMap (roundM ws)
def topW (ws : List (Str × Nat)) : Nat := (ws.map (·.2)).sum
def mostM (ws : List (Str × Nat)) : List Str := (mostT ws (topW ws)).map (·.2)
def tk2 (q : Nat × Str) : List Key := [.inl (q.1 : Int), .inr q.2]
theorem tk2_inj {q r : Nat × Str} (h : tk2 q = tk2 r) : q = r := by
  obtain ⟨a, b⟩ := q
  obtain ⟨c, d⟩ := r
  have h1 := List.cons.inj h
  have h2 := List.cons.inj h1.2
  have e1 : (a : Int) = c := Sum.inl.inj h1.1
  have e2 : b = d := Sum.inr.inj h2.1
  rw [e2, show a = c by omega]
theorem le_top : ∀ {ws : List (Str × Nat)} {p : Str × Nat}, p ∈ ws → p.2 ≤ topW ws
  | q :: ws, p, h => by
    show p.2 ≤ ((q :: ws).map (·.2)).sum
    rw [List.map_cons, List.sum_cons]
    rcases List.mem_cons.mp h with e | h
    · rw [e]
      omega
    · have := le_top h
      unfold topW at this
      omega
theorem fm_append {α β : Type} (f g : α → List β) : ∀ l : List α, (l.flatMap fun x => f x ++ g x).Perm (l.flatMap f ++ l.flatMap g)
  | [] => .nil
  | a :: l => by
    rw [List.flatMap_cons, List.flatMap_cons, List.flatMap_cons, List.append_assoc, List.append_assoc]
    refine List.Perm.append_left _ ?_
    exact ((fm_append f g l).append_left (g a)).trans (List.perm_append_comm_assoc _ _ _)
theorem one_col (x : Str) (n : Nat) : ∀ M : Nat, ((List.range M).flatMap fun t => if t < n then [(t, x)] else []) = (List.range (min n M)).map fun t => (t, x)
  | 0 => by
    rw [Nat.min_zero]
    rfl
  | M + 1 => by
    rw [List.range_succ, List.flatMap_append, one_col x n M]
    show _ ++ ((if M < n then [(M, x)] else []) ++ []) = _
    rw [List.append_nil]
    by_cases h : M < n
    · rw [if_pos h, Nat.min_eq_right (by omega), Nat.min_eq_right (by omega), List.range_succ, List.map_append]
      rfl
    · rw [if_neg h, List.append_nil, Nat.min_eq_left (by omega), Nat.min_eq_left (by omega)]
theorem round_cons (p : Str × Nat) (ws : List (Str × Nat)) (t : Nat) : roundM (p :: ws) t = (if t < p.2 then [(t, p.1)] else []) ++ roundM ws t := by
  unfold roundM
  by_cases h : t < p.2
  · rw [if_pos h, List.filter_cons_of_pos (by simpa using h)]
    rfl
  · rw [if_neg h, List.filter_cons_of_neg (by simpa using h)]
    rfl
theorem most_perm : ∀ (ws : List (Str × Nat)) (M : Nat), (∀ p ∈ ws, p.2 ≤ M) → (mostT ws M).Perm (turnsM ws)
  | [], M, _ => by
    have e : mostT [] M = [] := by
      show (List.range M).flatMap (fun _ => []) = []
      induction M with
      | zero => rfl
      | succ M ih => rw [List.range_succ, List.flatMap_append, ih fun p hp => nomatch hp]; rfl
    rw [e]
    exact .nil
  | p :: ws, M, h => by
    have e : mostT (p :: ws) M = (List.range M).flatMap fun t => (if t < p.2 then [(t, p.1)] else []) ++ roundM ws t := by
      unfold mostT
      congr 1
      funext t
      exact round_cons p ws t
    rw [e]
    refine (fm_append _ _ _).trans ?_
    rw [one_col, Nat.min_eq_left (h p List.mem_cons_self)]
    exact (most_perm ws M fun q hq => h q (List.mem_cons_of_mem _ hq)).append_left _
theorem round_at {ws : List (Str × Nat)} {t : Nat} {q : Nat × Str} (h : q ∈ roundM ws t) : q.1 = t := by
  obtain ⟨p, _, rfl⟩ := List.mem_map.mp h
  rfl
theorem most_at {ws : List (Str × Nat)} {M : Nat} {q : Nat × Str} (h : q ∈ mostT ws M) : q.1 < M := by
  obtain ⟨t, ht, hq⟩ := List.mem_flatMap.mp h
  rw [round_at hq]
  exact List.mem_range.mp ht
theorem lex_far {t u : Nat} {a b : Str} (h : t < u) : lexK (tk2 (u, a)) (tk2 (t, b)) = false := by
  have h1 : lexK (tk2 (t, b)) (tk2 (u, a)) = true := by
    have e : ltKey (.inl (t : Int)) (.inl (u : Int)) = true := decide_eq_true (by omega)
    have ne : ¬ (Sum.inl (t : Int) : Key) = Sum.inl (u : Int) := fun z => by
      have := Sum.inl.inj z
      omega
    show (if (Sum.inl (t : Int) : Key) = Sum.inl (u : Int) then _ else ltKey _ _) = true
    rw [if_neg ne]
    exact e
  exact lexK_asym h1
theorem lex_near {t : Nat} {a b : Str} (h : ltS a b) : lexK (tk2 (t, b)) (tk2 (t, a)) = false := by
  have h1 : lexK (tk2 (t, a)) (tk2 (t, b)) = true := by
    have e : ltKey (.inr a) (.inr b) = true := decide_eq_true h
    have ne : ¬ (Sum.inr a : Key) = Sum.inr b := fun z => ltS_irrefl a (by rw [← Sum.inr.inj z] at h; exact h)
    show (if (Sum.inl (t : Int) : Key) = Sum.inl (t : Int) then (if (Sum.inr a : Key) = Sum.inr b then _ else ltKey _ _) else _) = true
    rw [if_pos rfl, if_neg ne]
    exact e
  exact lexK_asym h1
theorem most_pw {ws : List (Str × Nat)} (so : (wnames ws).Pairwise ltS) : ∀ M : Nat, (mostT ws M).Pairwise fun x y => lexK (tk2 y) (tk2 x) = false
  | 0 => List.Pairwise.nil
  | M + 1 => by
    have e : mostT ws (M + 1) = mostT ws M ++ roundM ws M := by
      unfold mostT
      rw [List.range_succ, List.flatMap_append]
      show _ ++ (roundM ws M ++ []) = _
      rw [List.append_nil]
    rw [e]
    refine List.pairwise_append.mpr ⟨most_pw so M, ?_, fun x hx y hy => ?_⟩
    · unfold roundM
      rw [List.pairwise_map]
      have z : (ws.Pairwise fun p q => ltS p.1 q.1) := List.pairwise_map.mp so
      exact (z.sublist List.filter_sublist).imp fun h => lex_near h
    · obtain ⟨t, a⟩ := x
      obtain ⟨u, b⟩ := y
      have h1 := most_at hx
      have h2 := round_at hy
      exact lex_far (by simp at h1 h2; omega)
theorem turns_one {ws : List (Str × Nat)} (so : (wnames ws).Pairwise ltS) {us : List (Nat × Str)} (p : us.Perm (turnsM ws)) (s : us.Pairwise fun x y => lexK (tk2 y) (tk2 x) = false) : us.map (·.2) = mostM ws := by
  have e : us = mostT ws (topW ws) := List.Perm.eq_of_pairwise (le := fun x y => lexK (tk2 y) (tk2 x) = false) (fun a b _ _ h1 h2 => tk2_inj (lexK_tri h2 h1)) s (most_pw so _) (p.trans (most_perm ws _ fun q hq => le_top hq).symm)
  rw [e]
  rfl
theorem turns_flat : ∀ ws : List (Str × Nat), (turnsM ws).map (·.2) = flat ws
  | [] => rfl
  | p :: ws => by
    show ((List.range p.2).map _ ++ turnsM ws).map _ = List.replicate p.2 p.1 ++ flat ws
    rw [List.map_append, turns_flat ws, List.map_map]
    congr 1
    refine List.eq_replicate_iff.mpr ⟨by simp, fun b hb => ?_⟩
    obtain ⟨t, _, e⟩ := List.mem_map.mp hb
    exact e.symm
theorem most_flat (ws : List (Str × Nat)) : (mostM ws).Perm (flat ws) := by
  rw [← turns_flat]
  exact (most_perm ws _ fun q hq => le_top hq).map _
/-! ### two books of that day -/
def alt (x y : Str) : Nat → List Str
  | 0 => []
  | k + 1 => x :: y :: alt x y k
theorem alt_snoc (x y : Str) : ∀ k : Nat, alt x y (k + 1) = alt x y k ++ [x, y]
  | 0 => rfl
  | k + 1 => by
    show x :: y :: alt x y (k + 1) = x :: y :: (alt x y k ++ [x, y])
    rw [alt_snoc x y k]
def wrd (x y : Str) (a b M : Nat) : List Str := (List.range M).flatMap fun t => (if t < a then [x] else []) ++ (if t < b then [y] else [])
theorem wrd_eq (x y : Str) (a b : Nat) : ∀ M : Nat, wrd x y a b M = alt x y (min (min a b) M) ++ (List.replicate (min a M - min b M) x ++ List.replicate (min b M - min a M) y)
  | 0 => by
    simp [wrd, alt]
  | M + 1 => by
    have e : wrd x y a b (M + 1) = wrd x y a b M ++ ((if M < a then [x] else []) ++ (if M < b then [y] else [])) := by
      unfold wrd
      rw [List.range_succ, List.flatMap_append]
      simp
    rw [e, wrd_eq x y a b M]
    by_cases ha : M < a
    · by_cases hb : M < b
      · rw [if_pos ha, if_pos hb, show min (min a b) M = M by omega, show min (min a b) (M + 1) = M + 1 by omega, show min a M - min b M = 0 by omega, show min b M - min a M = 0 by omega,
          show min a (M + 1) - min b (M + 1) = 0 by omega, show min b (M + 1) - min a (M + 1) = 0 by omega, alt_snoc]
        simp
      · rw [if_pos ha, if_neg hb, show min (min a b) M = b by omega, show min (min a b) (M + 1) = b by omega, show min b M - min a M = 0 by omega, show min b (M + 1) - min a (M + 1) = 0 by omega,
          show min a (M + 1) - min b (M + 1) = (min a M - min b M) + 1 by omega, List.replicate_succ']
        simp
    · by_cases hb : M < b
      · rw [if_neg ha, if_pos hb, show min (min a b) M = a by omega, show min (min a b) (M + 1) = a by omega, show min a M - min b M = 0 by omega, show min a (M + 1) - min b (M + 1) = 0 by omega,
          show min b (M + 1) - min a (M + 1) = (min b M - min a M) + 1 by omega, List.replicate_succ']
        simp
      · rw [if_neg ha, if_neg hb, show min (min a b) M = min a b by omega, show min (min a b) (M + 1) = min a b by omega, show min a M = a by omega, show min b M = b by omega, show min a (M + 1) = a by omega, show min b (M + 1) = b by omega]
        simp
theorem adj_rep (z : Str) : ∀ n : Nat, adj (z :: List.replicate n z) = 0
  | 0 => rfl
  | n + 1 => by
    show (if z = z then 0 else 1) + adj (z :: List.replicate n z) = 0
    rw [if_pos rfl, adj_rep z n]
theorem adj_alt {x y : Str} (ne : x ≠ y) (r : List Str) : ∀ k : Nat, adj (y :: (alt x y k ++ r)) = 2 * k + adj (y :: r)
  | 0 => by
    show adj (y :: r) = _
    omega
  | k + 1 => by
    show (if y = x then 0 else 1) + ((if x = y then 0 else 1) + adj (y :: (alt x y k ++ r))) = _
    rw [if_neg ne.symm, if_neg ne, adj_alt ne r k]
    omega
theorem last_rep {l : List Str} {z : Str} {n : Nat} : l ++ List.replicate (n + 1) z = (l ++ List.replicate n z) ++ [z] := by
  rw [List.replicate_succ', List.append_assoc]
theorem cyc_wrd {x y : Str} (ne : x ≠ y) {a b M : Nat} (ha : 0 < a) (hb : 0 < b) (am : a ≤ M) (bm : b ≤ M) : cyc (wrd x y a b M) = 2 * min a b := by
  rw [wrd_eq, show min (min a b) M = min a b by omega, show min a M = a by omega, show min b M = b by omega]
  obtain ⟨k, hk⟩ : ∃ k, min a b = k + 1 := ⟨min a b - 1, by omega⟩
  by_cases h : a ≤ b
  · rw [show a - b = 0 by omega, List.replicate_zero, List.nil_append]
    have e : adj (y :: (alt x y (min a b) ++ List.replicate (b - a) y)) = 2 * min a b := by
      rw [adj_alt ne, adj_rep]
      rfl
    cases hn : b - a with
    | zero =>
      rw [hn] at e
      rw [hk] at e ⊢
      rw [List.replicate_zero, List.append_nil] at e ⊢
      rw [alt_snoc, show [x, y] = [x] ++ [y] from rfl, ← List.append_assoc] at e ⊢
      rw [cyc_snoc]
      exact e
    | succ n =>
      rw [hn] at e
      rw [last_rep] at e ⊢
      rw [cyc_snoc]
      exact e
  · rw [show b - a = 0 by omega, List.replicate_zero, List.append_nil]
    obtain ⟨n, hn⟩ : ∃ n, a - b = n + 1 := ⟨a - b - 1, by omega⟩
    have e : adj (x :: (alt x y (min a b) ++ List.replicate (a - b) x)) = 2 * min a b := by
      rw [hk, hn]
      show (if x = x then 0 else 1) + ((if x = y then 0 else 1) + adj (y :: (alt x y k ++ List.replicate (n + 1) x))) = _
      rw [if_pos rfl, if_neg ne, adj_alt ne]
      show 0 + (1 + (2 * k + ((if y = x then 0 else 1) + adj (x :: List.replicate n x)))) = _
      rw [if_neg ne.symm, adj_rep]
      omega
    rw [hn] at e ⊢
    rw [last_rep] at e ⊢
    rw [cyc_snoc]
    exact e
theorem cyc_two {x y : Str} (ne : x ≠ y) {a b : Nat} (ha : 0 < a) (hb : 0 < b) : cyc (List.replicate a x ++ List.replicate b y) = 2 := by
  obtain ⟨n, rfl⟩ : ∃ n, b = n + 1 := ⟨b - 1, by omega⟩
  obtain ⟨m, rfl⟩ : ∃ m, a = m + 1 := ⟨a - 1, by omega⟩
  rw [last_rep, cyc_snoc, ← last_rep]
  have e : y :: (List.replicate (m + 1) x ++ List.replicate (n + 1) y) = (y :: List.replicate m x) ++ x :: y :: List.replicate n y := by
    rw [List.replicate_succ', List.replicate_succ]
    simp
  rw [e, adj_append]
  have e1 : (y :: List.replicate m x) ++ [x] = y :: x :: List.replicate m x := by
    show y :: (List.replicate m x ++ [x]) = _
    rw [← List.replicate_succ', List.replicate_succ]
  rw [e1]
  show ((if y = x then 0 else 1) + adj (x :: List.replicate m x)) + ((if x = y then 0 else 1) + adj (y :: List.replicate n y)) = 2
  rw [if_neg ne.symm, if_neg ne, adj_rep, adj_rep]
/-- where two books stand among the wants -/
theorem two_at : ∀ {ws : List (Str × Nat)} {x y : Str} {a b : Nat}, (wnames ws).Nodup → (x, a) ∈ ws → (y, b) ∈ ws → x ≠ y →
    (∃ l1 l2 l3, ws = l1 ++ (x, a) :: (l2 ++ (y, b) :: l3) ∧ ∀ p ∈ l1 ++ l2 ++ l3, ¬ (p.1 = x ∨ p.1 = y)) ∨ ∃ l1 l2 l3, ws = l1 ++ (y, b) :: (l2 ++ (x, a) :: l3) ∧ ∀ p ∈ l1 ++ l2 ++ l3, ¬ (p.1 = x ∨ p.1 = y) := by
  intro ws x y a b nd hx hy ne
  have key : ∀ {x y : Str} {a b : Nat} {l r : List (Str × Nat)}, (wnames (l ++ (x, a) :: r)).Nodup → (y, b) ∈ r → ∃ l2 l3, r = l2 ++ (y, b) :: l3 ∧ ∀ p ∈ l ++ l2 ++ l3, ¬ (p.1 = x ∨ p.1 = y) := by
    intro x y a b l r nd h
    obtain ⟨l2, l3, rfl⟩ := List.append_of_mem h
    refine ⟨l2, l3, rfl, fun p hp z => ?_⟩
    unfold wnames at nd
    simp only [List.map_append, List.map_cons] at nd
    have hp' : p.1 ∈ l.map (fun x => x.1) ∨ p.1 ∈ l2.map (fun x => x.1) ∨ p.1 ∈ l3.map (fun x => x.1) := by
      rcases List.mem_append.mp hp with hp | hp
      · rcases List.mem_append.mp hp with hp | hp
        · exact .inl (List.mem_map.mpr ⟨p, hp, rfl⟩)
        · exact .inr (.inl (List.mem_map.mpr ⟨p, hp, rfl⟩))
      · exact .inr (.inr (List.mem_map.mpr ⟨p, hp, rfl⟩))
    obtain ⟨_, n2, n3⟩ := List.nodup_append.mp nd
    obtain ⟨n4, n5⟩ := List.nodup_cons.mp n2
    obtain ⟨_, n6, n7⟩ := List.nodup_append.mp n5
    obtain ⟨n8, _⟩ := List.nodup_cons.mp n6
    rcases z with z | z
    · rw [z] at hp'
      rcases hp' with h | h | h
      · exact n3 _ h _ List.mem_cons_self rfl
      · exact n4 (List.mem_append_left _ h)
      · exact n4 (List.mem_append_right _ (List.mem_cons_of_mem _ h))
    · rw [z] at hp'
      rcases hp' with h | h | h
      · exact n3 _ h _ (List.mem_cons_of_mem _ (List.mem_append_right _ List.mem_cons_self)) rfl
      · exact n7 _ h _ List.mem_cons_self rfl
      · exact n8 h
  obtain ⟨l, r, rfl⟩ := List.append_of_mem hx
  rcases List.mem_append.mp hy with h | h
  · obtain ⟨l1, l2, rfl⟩ := List.append_of_mem h
    right
    have nd2 : (wnames (l1 ++ (y, b) :: (l2 ++ (x, a) :: r))).Nodup := by simpa using nd
    obtain ⟨m2, m3, e, q⟩ := key (l := l1) (r := l2 ++ (x, a) :: r) nd2 (List.mem_append_right _ List.mem_cons_self)
    refine ⟨l1, m2, m3, by rw [← e]; simp, fun p hp z => q p hp z.symm⟩
  · left
    rcases List.mem_cons.mp h with h | h
    · exact absurd (congrArg Prod.fst h).symm ne
    · obtain ⟨l2, l3, e, q⟩ := key nd h
      exact ⟨l, l2, l3, by rw [e], q⟩
theorem two_comm (x y : Str) (l : List Str) : two x y l = two y x l := by
  unfold two
  congr 1
  funext z
  exact decide_eq_decide.mpr or_comm
theorem two_none {x y : Str} : ∀ {l : List Str}, (∀ z ∈ l, ¬ (z = x ∨ z = y)) → two x y l = []
  | [], _ => rfl
  | z :: l, h => by rw [two_out (h z List.mem_cons_self), two_none fun u hu => h u (List.mem_cons_of_mem _ hu)]
theorem two_rep {x y : Str} (z : Str) (h : z = x ∨ z = y) : ∀ n : Nat, two x y (List.replicate n z) = List.replicate n z
  | 0 => rfl
  | n + 1 => by rw [List.replicate_succ, two_in h, two_rep z h n]
theorem flat_none {x y : Str} {l : List (Str × Nat)} (h : ∀ p ∈ l, ¬ (p.1 = x ∨ p.1 = y)) : two x y (flat l) = [] := two_none fun z hz => by
  obtain ⟨p, hp, rfl⟩ := List.mem_map.mp (flat_mem hz)
  exact h p hp
theorem round_none {x y : Str} {l : List (Str × Nat)} (h : ∀ p ∈ l, ¬ (p.1 = x ∨ p.1 = y)) (t : Nat) : two x y ((roundM l t).map (·.2)) = [] := two_none fun z hz => by
  obtain ⟨q, hq, rfl⟩ := List.mem_map.mp hz
  obtain ⟨p, hp, rfl⟩ := List.mem_map.mp hq
  exact h p (List.mem_filter.mp hp).1
theorem round_app (l r : List (Str × Nat)) (t : Nat) : roundM (l ++ r) t = roundM l t ++ roundM r t := by
  unfold roundM
  rw [List.filter_append, List.map_append]
theorem two_flat {x y : Str} {a b : Nat} {l1 l2 l3 : List (Str × Nat)} (h : ∀ p ∈ l1 ++ l2 ++ l3, ¬ (p.1 = x ∨ p.1 = y)) : two x y (flat (l1 ++ (x, a) :: (l2 ++ (y, b) :: l3))) = List.replicate a x ++ List.replicate b y := by
  have h1 : ∀ p ∈ l1, ¬ (p.1 = x ∨ p.1 = y) := fun p hp => h p (List.mem_append_left _ (List.mem_append_left _ hp))
  have h2 : ∀ p ∈ l2, ¬ (p.1 = x ∨ p.1 = y) := fun p hp => h p (List.mem_append_left _ (List.mem_append_right _ hp))
  have h3 : ∀ p ∈ l3, ¬ (p.1 = x ∨ p.1 = y) := fun p hp => h p (List.mem_append_right _ hp)
  rw [flat_append]
  show two x y (flat l1 ++ (List.replicate a x ++ flat (l2 ++ (y, b) :: l3))) = _
  rw [flat_append]
  show two x y (flat l1 ++ (List.replicate a x ++ (flat l2 ++ (List.replicate b y ++ flat l3)))) = _
  rw [two_append, two_append, two_append, two_append, flat_none h1, flat_none h2, flat_none h3, two_rep x (.inl rfl), two_rep y (.inr rfl)]
  simp
theorem two_most {x y : Str} {a b M : Nat} {l1 l2 l3 : List (Str × Nat)} (h : ∀ p ∈ l1 ++ l2 ++ l3, ¬ (p.1 = x ∨ p.1 = y)) : two x y ((mostT (l1 ++ (x, a) :: (l2 ++ (y, b) :: l3)) M).map (·.2)) = wrd x y a b M := by
  have h1 : ∀ p ∈ l1, ¬ (p.1 = x ∨ p.1 = y) := fun p hp => h p (List.mem_append_left _ (List.mem_append_left _ hp))
  have h2 : ∀ p ∈ l2, ¬ (p.1 = x ∨ p.1 = y) := fun p hp => h p (List.mem_append_left _ (List.mem_append_right _ hp))
  have h3 : ∀ p ∈ l3, ¬ (p.1 = x ∨ p.1 = y) := fun p hp => h p (List.mem_append_right _ hp)
  unfold mostT wrd
  rw [List.map_flatMap]
  unfold two
  rw [List.filter_flatMap]
  congr 1
  funext t
  show two x y ((roundM (l1 ++ (x, a) :: (l2 ++ (y, b) :: l3)) t).map (·.2)) = _
  rw [round_app, round_cons, round_app, round_cons, List.map_append, List.map_append, List.map_append, List.map_append, two_append, two_append, two_append, two_append, round_none h1, round_none h2, round_none h3]
  have one : ∀ (c : Prop) [Decidable c] (z : Str), (z = x ∨ z = y) → two x y ((if c then [(t, z)] else []).map (·.2)) = if c then [z] else [] := fun c _ z hz => by
    by_cases hc : c
    · rw [if_pos hc, if_pos hc]
      exact two_in hz []
    · rw [if_neg hc, if_neg hc]
      rfl
  rw [one _ x (.inl rfl), one _ y (.inr rfl)]
  simp
theorem least_cyc {ws : List (Str × Nat)} {x y : Str} {a b : Nat} (nd : (wnames ws).Nodup) (hx : (x, a) ∈ ws) (hy : (y, b) ∈ ws) (ne : x ≠ y) (ha : 0 < a) (hb : 0 < b) : cyc (two x y (flat ws)) = 2 := by
  rcases two_at nd hx hy ne with ⟨l1, l2, l3, rfl, h⟩ | ⟨l1, l2, l3, rfl, h⟩
  · rw [two_flat h, cyc_two ne ha hb]
  · rw [two_comm, two_flat fun p hp z => h p hp z.symm, cyc_two ne.symm hb ha]
theorem most_cyc {ws : List (Str × Nat)} {x y : Str} {a b : Nat} (nd : (wnames ws).Nodup) (hx : (x, a) ∈ ws) (hy : (y, b) ∈ ws) (ne : x ≠ y) (ha : 0 < a) (hb : 0 < b) : cyc (two x y (mostM ws)) = 2 * min a b := by
  have la : a ≤ topW ws := le_top hx
  have lb : b ≤ topW ws := le_top hy
  unfold mostM
  rcases two_at nd hx hy ne with ⟨l1, l2, l3, e, h⟩ | ⟨l1, l2, l3, e, h⟩
  · generalize topW ws = M at la lb
    rw [e, two_most h, cyc_wrd ne ha hb la lb]
  · generalize topW ws = M at la lb
    rw [e, two_comm, two_most fun p hp z => h p hp z.symm, cyc_wrd ne.symm hb ha lb la, Nat.min_comm]
end Lt

set_option Elab.async false
set_option linter.all false
set_option maxRecDepth 100000
set_option maxHeartbeats 4000000
namespace Lt
open PySem PySem.Spec PyProof.Rows L2
/-! ### tables that grow -/
def Tabs (H : Hp) (Ps : List Addr) : Prop := ∀ P ∈ Ps, GxR.TabG H P
theorem Tabs.same {H H' : Hp} {Ps : List Addr} (t : Tabs H Ps) (s : Same H H') : Tabs H' Ps := fun P h => tabG_same (t P h) s
theorem Tabs.but {T : Addr} {H H' : Hp} {Ps : List Addr} (t : Tabs H Ps) (s : SameT T H H') (h : ∃ xs, H T = some (.lst xs)) : Tabs H' Ps := fun P hp => tabG_but (t P hp) s h
theorem Tabs.tab {P : Addr} {H H' : Hp} {Ps : List Addr} (t : Tabs H Ps) (s : GxR.Tabbed P H H') : Tabs H' Ps := fun P' hp => tabG_tab (t P' hp) s
theorem WL.moveN {H H' : Hp} {ts : List Addr} {ws : List (Str × Nat)} (h : WL H ts ws) (s : SameN H H') : WL H' ts ws := h.move fun t xs e => s.tupH e
theorem WAt.sameN {H H' : Hp} {W : Addr} {ws : List (Str × Nat)} (h : WAt H W ws) (s : SameN H H') : WAt H' W ws := by
  obtain ⟨ts, h1, h2⟩ := h
  exact ⟨ts, h1.sameN s, h2.moveN s⟩
theorem TpS.sameN {K : PySem.W.Frag} {H H' : Hp} {a : Addr} {xs : List V} (h : TpS K H a xs) (s : SameN H H') : TpS K H' a xs := s.tup h
/-! ### wants in order -/
theorem pw_rising : ∀ (p : Str) (l : List Str), (p :: l).Pairwise ltS → risingS p l = true
  | _, [], _ => rfl
  | p, x :: r, h => by
    obtain ⟨h1, h2⟩ := List.pairwise_cons.mp h
    show (!ltCps x.cps.toList p.cps.toList && risingS x r) = true
    rw [pw_rising x r h2, Bool.and_true, ltCps_eq, decide_eq_false (ltS_asymm (h1 x List.mem_cons_self))]
    rfl
theorem pw_sorted {l : List Str} (h : l.Pairwise ltS) : sortedS l = true := by
  cases l with
  | nil => rfl
  | cons x r => exact pw_rising x r h
structure WOk (ws : List (Str × Nat)) : Prop where
  up : (wnames ws).Pairwise ltS
  pos : ∀ p ∈ ws, 0 < p.2
  len : ws.length ≤ 7
  few : topW ws ≤ 60
  ok : ∀ b ∈ wnames ws, PyData.strOk b = true
theorem WOk.nd {ws : List (Str × Nat)} (h : WOk ws) : (wnames ws).Nodup := h.up.imp fun {a b} (l : ltS a b) (e : a = b) => ltS_irrefl a (by rw [← e] at l; exact l)
theorem WOk.so {ws : List (Str × Nat)} (h : WOk ws) : sortedS (wnames ws) = true := pw_sorted h.up
theorem WOk.mostIn {ws : List (Str × Nat)} (h : WOk ws) : ∀ b ∈ mostM ws, b ∈ wnames ws := fun b hb => flat_mem ((most_flat ws).mem_iff.mp hb)
theorem WOk.mostAll {ws : List (Str × Nat)} (h : WOk ws) : ∀ b ∈ wnames ws, b ∈ mostM ws := fun b hb => (most_flat ws).mem_iff.mpr (mem_flat h.pos hb)
theorem top_flat (ws : List (Str × Nat)) : (flat ws).length = topW ws := flat_len ws
theorem WOk.mostLen {ws : List (Str × Nat)} (h : WOk ws) : (mostM ws).length ≤ 60 := by
  rw [(most_flat ws).length_eq, top_flat]
  exact h.few
theorem WOk.flatLen {ws : List (Str × Nat)} (h : WOk ws) : (flat ws).length ≤ 60 := by
  rw [top_flat]
  exact h.few
/-! ### promises -/
def spSettledN (K : PySem.W.Frag) (Ps : List Addr) : Sp := fun vs H Q _ => ∃ (W r : Addr) (ws : List (Str × Nat)) (rs : List Str), vs = [.ref W, .ref r] ∧ WAt H W ws ∧ TpS K H r (rs.map V.str) ∧ ws.length ≤ 7 ∧ (∀ b ∈ rs, b ∈ wnames ws) ∧ Tabs H Ps ∧
  ∀ (q : Addr) (H' : Hp), SameN H H' → Tabs H' Ps → TpO H' q ((behindM (wnames ws) rs).map V.str) → Q (.ref q) H'
/-- what each day asks -/
def eachV (ns rs : List Str) : Nat := (liftedM (behindM ns rs) rs).sum
def spEachN (K : PySem.W.Frag) (Ps : List Addr) : Sp := fun vs H Q _ => ∃ (W r : Addr) (ws : List (Str × Nat)) (rs : List Str), vs = [.ref W, .ref r] ∧ WAt H W ws ∧ TpS K H r (rs.map V.str) ∧ ws.length ≤ 7 ∧ rs.length ≤ 60 ∧ (∀ b ∈ rs, b ∈ wnames ws) ∧ Tabs H Ps ∧
  ∀ H' : Hp, SameN H H' → Tabs H' Ps → Q (.int (eachV (wnames ws) rs : Int)) H'
abbrev dayD (ns rs : List Str) : List PyData := (prs ns ns.length).map (tri (rowsM (behindM ns rs) rs))
def spDayPN (K : PySem.W.Frag) (Ps : List Addr) : Sp := fun vs H Q _ => ∃ (W r : Addr) (ws : List (Str × Nat)) (rs : List Str), vs = [.ref W, .ref r] ∧ WAt H W ws ∧ TpS K H r (rs.map V.str) ∧ WOk ws ∧ rs.length ≤ 60 ∧ (∀ b ∈ rs, b ∈ wnames ws) ∧ Tabs H Ps ∧
  ∀ (l : Addr) (H' : Hp) (xs : List V), SameN H H' → Tabs H' Ps → H' l = some (.lst xs) → DpAll K H' xs (dayD (wnames ws) rs) → Q (.ref l) H'
def spMostDay (Ps : List Addr) : Sp := fun vs H Q _ => ∃ (W : Addr) (ws : List (Str × Nat)), vs = [.ref W] ∧ WAt H W ws ∧ WOk ws ∧ Tabs H Ps ∧ ∀ (D : Addr) (H' : Hp), SameN H H' → Tabs H' Ps → TpO H' D ((mostM ws).map V.str) → Q (.ref D) H'
def spLeastDay (Ps : List Addr) : Sp := fun vs H Q _ => ∃ (W : Addr) (ws : List (Str × Nat)), vs = [.ref W] ∧ WAt H W ws ∧ WOk ws ∧ Tabs H Ps ∧ ∀ (D : Addr) (H' : Hp), SameN H H' → Tabs H' Ps → TpO H' D ((flat ws).map V.str) → Q (.ref D) H'
def spMost (Ps : List Addr) : Sp := fun vs H Q _ => ∃ (W : Addr) (ws : List (Str × Nat)), vs = [.ref W] ∧ WAt H W ws ∧ WOk ws ∧ Tabs H Ps ∧ ∀ (H' : Hp), SameN H H' → Tabs H' Ps → Q (.int (eachV (wnames ws) (mostM ws) : Int)) H'
def spLeast (Ps : List Addr) : Sp := fun vs H Q _ => ∃ (W : Addr) (ws : List (Str × Nat)), vs = [.ref W] ∧ WAt H W ws ∧ WOk ws ∧ Tabs H Ps ∧ ∀ (H' : Hp), SameN H H' → Tabs H' Ps → Q (.int (eachV (wnames ws) (flat ws) : Int)) H'
def spMostP (K : PySem.W.Frag) (Ps : List Addr) : Sp := fun vs H Q _ => ∃ (W : Addr) (ws : List (Str × Nat)), vs = [.ref W] ∧ WAt H W ws ∧ WOk ws ∧ Tabs H Ps ∧
  ∀ (l : Addr) (H' : Hp) (xs : List V), SameN H H' → Tabs H' Ps → H' l = some (.lst xs) → DpAll K H' xs (dayD (wnames ws) (mostM ws)) → Q (.ref l) H'
end Lt

set_option Elab.async false
set_option linter.all false
set_option maxRecDepth 100000
set_option maxHeartbeats 4000000
namespace Lt
open PySem PySem.Spec PyProof.Rows L2
/-! ### lists of tuples -/
def RowsL {α : Type} (f : α → List V) (H : Hp) (ts : List Addr) (qs : List α) : Prop := ts.length = qs.length ∧ ∀ (i : Nat) (t : Addr) (q : α), ts[i]? = some t → qs[i]? = some q → H t = some (.tup (f q))
theorem RowsL.nil {α : Type} {f : α → List V} (H : Hp) : RowsL f H [] [] := ⟨rfl, fun i t q h => by simp at h⟩
theorem RowsL.move {α : Type} {f : α → List V} {H H' : Hp} {ts : List Addr} {qs : List α} (h : RowsL f H ts qs) (k : KeepT H H') : RowsL f H' ts qs := ⟨h.1, fun i t q a b => k _ _ (h.2 i t q a b)⟩
theorem RowsL.snoc {α : Type} {f : α → List V} {H : Hp} {ts : List Addr} {qs : List α} {t : Addr} {q : α} (h : RowsL f H ts qs) (ht : H t = some (.tup (f q))) : RowsL f H (ts ++ [t]) (qs ++ [q]) := by
  obtain ⟨h1, h2⟩ := h
  refine ⟨by rw [List.length_append, List.length_append, h1]; rfl, fun i u r a b => ?_⟩
  by_cases hi : i < ts.length
  · rw [List.getElem?_append_left hi] at a
    rw [List.getElem?_append_left (by omega)] at b
    exact h2 i u r a b
  · rw [List.getElem?_append_right (by omega)] at a
    rw [List.getElem?_append_right (by omega), ← h1] at b
    cases e : i - ts.length with
    | zero =>
      rw [e] at a b
      cases a
      cases b
      exact ht
    | succ n =>
      rw [e] at a
      cases a
theorem RowsL.mem {α : Type} {f : α → List V} {H : Hp} {ts : List Addr} {qs : List α} (h : RowsL f H ts qs) {t : Addr} (ht : t ∈ ts) : ∃ q ∈ qs, H t = some (.tup (f q)) := by
  obtain ⟨i, hi, rfl⟩ := List.mem_iff_getElem.mp ht
  have hq : i < qs.length := by
    rw [← h.1]
    exact hi
  exact ⟨qs[i], List.getElem_mem hq, h.2 i _ _ (List.getElem?_eq_getElem hi) (List.getElem?_eq_getElem hq)⟩
abbrev turnV (q : Nat × Str) : List V := [natV q.1, .str q.2]
/-- the pair that stands there -/
def pairAt (H : Hp) (t : Addr) : Nat × Str := match H t with
  | some (.tup [.int i, .str b]) => (i.toNat, b)
  | _ => (0, Str.empty)
theorem pairAt_eq {H : Hp} {t : Addr} {q : Nat × Str} (h : H t = some (.tup (turnV q))) : pairAt H t = q := by
  unfold pairAt
  rw [h]
  show (((q.1 : Nat) : Int).toNat, q.2) = q
  rw [Int.toNat_natCast]
theorem rows_pairs {H : Hp} : ∀ {ts : List Addr} {qs : List (Nat × Str)}, RowsL turnV H ts qs → ts.map (pairAt H) = qs := by
  intro ts qs h
  refine List.ext_getElem (by rw [List.length_map]; exact h.1) fun i h1 h2 => ?_
  rw [List.getElem_map]
  exact pairAt_eq (h.2 i _ _ (List.getElem?_eq_getElem _) (List.getElem?_eq_getElem _))
theorem turns_take {ws : List (Str × Nat)} {i : Nat} {p : Str × Nat} (h : ws[i]? = some p) : turnsM (ws.take (i + 1)) = turnsM (ws.take i) ++ (List.range p.2).map fun t => (t, p.1) := by
  rw [List.take_add_one, h]
  unfold turnsM
  rw [List.flatMap_append]
  show _ ++ ((List.range p.2).map _ ++ []) = _
  rw [List.append_nil]
theorem turns_len (ws : List (Str × Nat)) : (turnsM ws).length = topW ws := by
  rw [← top_flat, ← turns_flat, List.length_map]
theorem top_take (ws : List (Str × Nat)) (i : Nat) : topW (ws.take i) ≤ topW ws := by
  rw [← top_flat, ← top_flat]
  exact flat_take i
end Lt

set_option Elab.async false
set_option linter.all false
set_option maxRecDepth 100000
set_option maxHeartbeats 4000000
/-! list(range(i, j, 2)) -/
namespace Lt
open PySem PySem.Spec PyProof.Rows L2
section
variable {X : Cx}
/-- i, i + 2, .. below j -/
def nEv (i j : Nat) : Nat := if i < j then (j - i - 1) / 2 + 1 else 0
theorem nEv_le (i j : Nat) : nEv i j ≤ j := by
  unfold nEv
  split <;> omega
def evens (i j : Nat) : List Nat := (List.range (nEv i j)).map fun t => i + 2 * t
theorem size_two (i j : Nat) : Builtin.Range.rangeSize (i : Int) (j : Int) 2 = (nEv i j : Int) := by
  unfold Builtin.Range.rangeSize nEv
  rw [if_pos (show (2 : Int) > 0 by decide)]
  by_cases h : i < j
  · rw [if_pos h, if_pos (show (i : Int) < j by omega)]
    omega
  · rw [if_neg h, if_neg (show ¬ (i : Int) < j by omega)]
    rfl
theorem fits {i : Int} (h1 : 0 ≤ i) (h2 : i ≤ 1000000) : Builtin.Range.rangeFitsLong i = true := by
  unfold Builtin.Range.rangeFitsLong
  rw [decide_eq_true (show -(2 ^ 63) ≤ i by omega), decide_eq_true (show i < 2 ^ 63 by omega)]
  rfl
theorem rg_two {i j : Nat} (hi : i ≤ 1000) (hj : j ≤ 1000) : RgC (i : Int) (j : Int) 2 (nEv i j) := by
  refine ⟨by decide, by decide, ?_, size_two i j⟩
  unfold Builtin.Range.small
  have hn := nEv_le i j
  rw [size_two, if_pos (show (2 : Int) > 0 by decide), fits (i := (i : Int)) (by omega) (by omega), fits (i := (j : Int)) (by omega) (by omega), fits (i := 2) (by omega) (by omega), fits (i := (nEv i j : Int)) (by omega) (by omega), fits (i := (j : Int) + (2 - 1)) (by omega) (by omega), Bool.or_true]
  rfl
def tLR3 (ta : TA) : TE := fun σ H Q => ta σ H fun vs H1 => ∃ i j : Nat, vs = [natV i, natV j, .int 2] ∧ i ≤ 1000 ∧ j ≤ 1000 ∧ ∀ q, H1 q = none → Q (.ref q) (upd H1 q (.lst ((evens i j).map natV)))
theorem pe_listR3 {a b c : Expr} {ta : TA} {p pos p2 pos2 : Pos} (hc : X.calm = true) (hg : Gl X "list") (hm : X.mg "list" = none) (hg2 : Gl X "range") (hm2 : X.mg "range" = none) (ha : PA X [a, b, c] ta)
    (hs : starEach [a, b, c] X.env = (false, eval a X.env) :: starEach [b, c] X.env := by rfl) (hpl : (backTo pos2 (starEach [b, c] X.env)).any (·.1) = false := by rfl)
    (na : starEach [.Call (.Name "range" p2) [a, b, c] [] pos2] X.env = (false, eval (.Call (.Name "range" p2) [a, b, c] [] pos2) X.env) :: starEach [] X.env := by rfl) :
    PE X (.Call (.Name "list" p) [.Call (.Name "range" p2) [a, b, c] [] pos2] [] pos) (tLR3 ta) := by
  refine ⟨fun pins s σ H Q I h => ?_⟩
  refine Call_ (ld_blt I hg hm boot_list (PyProof.Rows.callWith_type1 (args_cons (Call_ (ld_blt I hg2 hm2 boot_range (PyProof.Rows.callWith_type1 (thn (ha.run pos2 pins s σ H _ I h) fun us s1 ⟨vs, H1, I1, r1, q1⟩ => ?_) hs hpl))) na) na))
  obtain ⟨i, j, e, hi, hj, q⟩ := q1
  subst e
  cases r1 with
  | cons r rr =>
    cases rr with
    | cons r' rr =>
      cases rr with
      | cons r'' rr =>
        cases rr
        obtain ⟨t, rfl⟩ := r
        obtain ⟨t', rfl⟩ := r'
        obtain ⟨t'', rfl⟩ := r''
        obtain ⟨c0, c1, c2, c3⟩ := rg_two hi hj
        refine call_range_3 c0 ?_ (.inl (PyProof.noPylong_small c1))
        have I2 : Inv X pins σ H1 { s1 with heap := s1.heap.push { cls := .type "range", data := .fields #[.int (i : Int) t, .int (j : Int) t', .int 2 t''] } } := I1.kept (t' := s1.toks) fun b o e => Heap.get?_push_of_some _ e
        refine args_nil ?_
        refine call_list_range (n := nEv i j) (I2.ok.hd hc) (IsRange.new ..) c2 c3 (by have := nEv_le i j; omega) fun h' tk acc c' hk e' it => ?_
        have vals : Vals ((evens i j).map natV) acc.toList := by
          have el : acc.toList.length = nEv i j := by rw [Array.length_toList]; exact it.1
          unfold evens
          rw [← el, List.map_map]
          refine vals_of_get acc.toList _ fun k u hk => ?_
          obtain ⟨tt, rfl⟩ := it.2 k u (by rw [← hk, Array.getElem?_toList])
          refine ⟨tt, ?_⟩
          have e1 : (i : Int) + (k : Nat) * 2 = ((i + 2 * k : Nat) : Int) := by omega
          rw [e1]
        refine ⟨.ref _, _, I2.laid hk (Nat.le_refl _) (show ObjOk X.prog X.w _ _ _ (.lst ((evens i j).map natV)) from ⟨?_, acc.toList, c', vals, ?_⟩), rfl, q _ (I2.hok.fresh (Nat.le_refl _))⟩
        · rw [List.length_map]
          unfold evens
          rw [List.length_map, List.length_range]
          exact Nat.le_of_lt (small1000 (Nat.le_trans (nEv_le i j) hj))
        · rw [Array.toArray_toList]
          exact e'
end
end Lt

set_option Elab.async false
set_option linter.all false
set_option maxRecDepth 100000
set_option maxHeartbeats 4000000
namespace Lt
open PySem PySem.Spec PyProof.Rows L2
/-! ### what a day lifts, by its pairs -/
def eachS (ns rs : List Str) : Nat := ((prs ns ns.length).map fun q => cyc (two q.1 q.2 rs)).sum
theorem day_at {ns rs : List Str} (nd : ns.Nodup) (so : sortedS ns = true) (h : ∀ b ∈ rs, b ∈ ns) (all : ∀ b ∈ ns, b ∈ rs) {q : Str × Str} (hq : q ∈ prs ns ns.length) : cnt (rowsM (behindM ns rs) rs) q = cyc (two q.1 q.2 rs) := by
  obtain ⟨e, ne, h1, h2⟩ := prs_pair nd so hq
  have z := day_cyc nd h (all _ h1) h2 ne
  rw [e] at z
  exact z
theorem each_eq {ns rs : List Str} (nd : ns.Nodup) (so : sortedS ns = true) (h : ∀ b ∈ rs, b ∈ ns) (all : ∀ b ∈ ns, b ∈ rs) : eachV ns rs = eachS ns rs := by
  have pm := behindM_perm rs h
  unfold eachV eachS
  rw [day_sum (pm.nodup_iff.mpr nd) (fun b hb => pm.mem_iff.mpr (h b hb)) pm.symm so]
  congr 1
  exact List.map_congr_left fun q hq => day_at nd so h all hq
theorem sum_le {α : Type} {f g : α → Nat} : ∀ {l : List α}, (∀ x ∈ l, f x ≤ g x) → (l.map f).sum ≤ (l.map g).sum
  | [], _ => Nat.le_refl _
  | x :: r, h => by
    rw [List.map_cons, List.map_cons, List.sum_cons, List.sum_cons]
    have a := h x List.mem_cons_self
    have b := sum_le (l := r) fun y hy => h y (List.mem_cons_of_mem _ hy)
    omega
theorem sum_eq {α : Type} {f g : α → Nat} {l : List α} (h : ∀ x ∈ l, f x = g x) : (l.map f).sum = (l.map g).sum := by
  rw [List.map_congr_left h]
theorem sum_two {α : Type} {f : α → Nat} : ∀ {l : List α}, (∀ x ∈ l, f x = 2) → (l.map f).sum = 2 * l.length
  | [], _ => rfl
  | x :: r, h => by
    rw [List.map_cons, List.sum_cons, List.length_cons, h x List.mem_cons_self, sum_two (l := r) fun y hy => h y (List.mem_cons_of_mem _ hy)]
    omega
/-- one book more at the end -/
theorem prs_grow (f : Str × Str → Nat) {ys : List Str} {z : Str} : ∀ n, n ≤ ys.length → ((prs (ys ++ [z]) n).map f).sum = ((prs ys n).map f).sum + ((ys.take n).map fun x => f (x, z)).sum
  | 0, _ => rfl
  | n + 1, h => by
    have e : ys[n]? = some (ys[n]'(by omega)) := List.getElem?_eq_getElem _
    have e2 : (ys ++ [z])[n]? = some (ys[n]'(by omega)) := by rw [List.getElem?_append_left (by omega)]; exact e
    generalize ys[n]'(by omega) = a at e e2
    rw [prs_succ e, prs_succ e2, List.map_append, List.map_append, List.sum_append_nat, List.sum_append_nat, prs_grow f n (by omega), List.take_add_one, e, List.map_append, List.sum_append_nat, List.drop_append_of_le_length (by omega), List.map_append, List.map_append, List.sum_append_nat]
    show _ + _ + (_ + (f (a, z) + 0)) = _ + _ + (_ + (f (a, z) + 0))
    omega
theorem prs_more (f : Str × Str → Nat) (ys : List Str) (z : Str) : ((prs (ys ++ [z]) (ys ++ [z]).length).map f).sum = ((prs ys ys.length).map f).sum + (ys.map fun x => f (x, z)).sum := by
  rw [List.length_append]
  show ((prs (ys ++ [z]) (ys.length + 1)).map f).sum = _
  rw [prs_succ (a := z) (by rw [List.getElem?_append_right (Nat.le_refl _), Nat.sub_self]; rfl), List.drop_of_length_le (by rw [List.length_append]; exact Nat.le_refl _), List.map_nil, List.append_nil, prs_grow f _ (Nat.le_refl _), List.take_length]
/-! ### most, least -/
theorem want_of {ws : List (Str × Nat)} {x : Str} (h : x ∈ wnames ws) : ∃ a, (x, a) ∈ ws := by
  obtain ⟨p, hp, rfl⟩ := List.mem_map.mp h
  exact ⟨p.2, hp⟩
theorem WOk.flatAll {ws : List (Str × Nat)} (h : WOk ws) : ∀ b ∈ wnames ws, b ∈ flat ws := fun b hb => mem_flat h.pos hb
theorem mostV_eq {ws : List (Str × Nat)} (h : WOk ws) : eachV (wnames ws) (mostM ws) = eachS (wnames ws) (mostM ws) := each_eq h.nd h.so h.mostIn h.mostAll
theorem leastV_eq {ws : List (Str × Nat)} (h : WOk ws) : eachV (wnames ws) (flat ws) = eachS (wnames ws) (flat ws) := each_eq h.nd h.so (fun b hb => flat_mem hb) h.flatAll
theorem WOk.mostC {ws : List (Str × Nat)} (h : WOk ws) {q : Str × Str} (hq : q ∈ prs (wnames ws) (wnames ws).length) : ∃ a b, (q.1, a) ∈ ws ∧ (q.2, b) ∈ ws ∧ q.1 ≠ q.2 ∧ cyc (two q.1 q.2 (mostM ws)) = 2 * min a b := by
  obtain ⟨_, ne, h1, h2⟩ := prs_pair h.nd h.so hq
  obtain ⟨a, ha⟩ := want_of h1
  obtain ⟨b, hb⟩ := want_of h2
  exact ⟨a, b, ha, hb, ne, most_cyc h.nd ha hb ne (h.pos _ ha) (h.pos _ hb)⟩
theorem WOk.leastC {ws : List (Str × Nat)} (h : WOk ws) {q : Str × Str} (hq : q ∈ prs (wnames ws) (wnames ws).length) : cyc (two q.1 q.2 (flat ws)) = 2 := by
  obtain ⟨_, ne, h1, h2⟩ := prs_pair h.nd h.so hq
  obtain ⟨a, ha⟩ := want_of h1
  obtain ⟨b, hb⟩ := want_of h2
  exact least_cyc h.nd ha hb ne (h.pos _ ha) (h.pos _ hb)
theorem least_is {ws : List (Str × Nat)} (h : WOk ws) : eachV (wnames ws) (flat ws) = 2 * (prs (wnames ws) (wnames ws).length).length := by
  rw [leastV_eq h]
  exact sum_two fun q hq => h.leastC hq
theorem least_most {ws : List (Str × Nat)} (h : WOk ws) : eachV (wnames ws) (flat ws) ≤ eachV (wnames ws) (mostM ws) := by
  rw [leastV_eq h, mostV_eq h]
  refine sum_le fun q hq => ?_
  obtain ⟨a, b, ha, hb, _, e⟩ := h.mostC hq
  have a0 := h.pos _ ha
  have b0 := h.pos _ hb
  rw [h.leastC hq, e]
  have a1 : 0 < a := a0
  have b1 : 0 < b := b0
  omega
/-- as many or more of each book -/
def Grow (ws vs : List (Str × Nat)) : Prop := wnames vs = wnames ws ∧ ∀ x a, (x, a) ∈ ws → ∃ b, (x, b) ∈ vs ∧ a ≤ b
theorem grow_most {ws vs : List (Str × Nat)} (h : WOk ws) (h2 : WOk vs) (g : Grow ws vs) {q : Str × Str} (hq : q ∈ prs (wnames ws) (wnames ws).length) : cyc (two q.1 q.2 (mostM ws)) ≤ cyc (two q.1 q.2 (mostM vs)) := by
  obtain ⟨a, b, ha, hb, ne, e⟩ := h.mostC hq
  obtain ⟨a', ha', la⟩ := g.2 _ _ ha
  obtain ⟨b', hb', lb⟩ := g.2 _ _ hb
  rw [e, most_cyc h2.nd ha' hb' ne (h2.pos _ ha') (h2.pos _ hb')]
  omega
theorem most_grows {ws vs : List (Str × Nat)} (h : WOk ws) (h2 : WOk vs) (g : Grow ws vs) : eachV (wnames ws) (mostM ws) ≤ eachV (wnames vs) (mostM vs) := by
  rw [mostV_eq h, mostV_eq h2]
  unfold eachS
  rw [g.1]
  exact sum_le fun q hq => grow_most h h2 g hq
theorem least_stays {ws vs : List (Str × Nat)} (h : WOk ws) (h2 : WOk vs) (g : Grow ws vs) : eachV (wnames vs) (flat vs) = eachV (wnames ws) (flat ws) := by
  rw [least_is h, least_is h2, g.1]
theorem wn_snoc (ws : List (Str × Nat)) (z : Str) (n : Nat) : wnames (ws ++ [(z, n)]) = wnames ws ++ [z] := List.map_append ..
theorem most_wide {ws : List (Str × Nat)} {z : Str} (h : WOk ws) (h2 : WOk (ws ++ [(z, 1)])) : eachV (wnames (ws ++ [(z, 1)])) (mostM (ws ++ [(z, 1)])) = eachV (wnames ws) (mostM ws) + 2 * ws.length := by
  rw [mostV_eq h, mostV_eq h2]
  unfold eachS
  rw [wn_snoc, prs_more]
  have nd := h2.nd
  rw [wn_snoc] at nd
  have hz : (z, 1) ∈ ws ++ [(z, 1)] := List.mem_append_right _ List.mem_cons_self
  have e1 : ((wnames ws).map fun x => cyc (two x z (mostM (ws ++ [(z, 1)])))).sum = 2 * ws.length := (sum_two fun x hx => by
    obtain ⟨a, ha⟩ := want_of hx
    have ne : x ≠ z := fun e => (List.nodup_append.mp nd).2.2 x hx z List.mem_cons_self e
    rw [most_cyc h2.nd (List.mem_append_left _ ha) hz ne (h.pos _ ha) (by decide)]
    have a0 : 0 < a := h.pos _ ha
    omega).trans (by rw [wn_len])
  rw [e1]
  congr 1
  refine sum_eq fun q hq => ?_
  obtain ⟨a, b, ha, hb, ne, e⟩ := h.mostC hq
  rw [e, most_cyc h2.nd (List.mem_append_left _ ha) (List.mem_append_left _ hb) ne (h.pos _ ha) (h.pos _ hb)]
theorem least_wide {ws : List (Str × Nat)} {z : Str} (h : WOk ws) (h2 : WOk (ws ++ [(z, 1)])) : eachV (wnames (ws ++ [(z, 1)])) (flat (ws ++ [(z, 1)])) = eachV (wnames ws) (flat ws) + 2 * ws.length := by
  have e := prs_more (fun _ => 2) (wnames ws) z
  have t : ∀ l : List (Str × Str), (l.map fun _ => 2).sum = 2 * l.length := fun l => sum_two fun _ _ => rfl
  have t2 : ((wnames ws).map fun _ => 2).sum = 2 * ws.length := (sum_two fun _ _ => rfl).trans (by rw [wn_len])
  rw [t, t, t2] at e
  rw [least_is h, least_is h2, wn_snoc, e]
/-! ### other names -/
theorem idx_map {f : Str → Str} (inj : ∀ a b, f a = f b → a = b) (b : Str) : ∀ l : List Str, (l.map f).idxOf (f b) = l.idxOf b
  | [] => rfl
  | x :: r => by
    rw [List.map_cons, List.idxOf_cons, List.idxOf_cons, idx_map inj b r]
    have e : (f x == f b) = (x == b) := by
      rw [Bool.eq_iff_iff, beq_iff_eq, beq_iff_eq]
      exact ⟨inj _ _, fun e => by rw [e]⟩
    rw [e]
theorem lay_ren {f : Str → Str} (inj : ∀ a b, f a = f b → a = b) (l : List Str) (b : Str) : lay (l.map f) (f b) = (lay l b).map f := by
  unfold lay
  rw [idx_map inj, List.map_cons, erase_map]
theorem over_ren {f : Str → Str} (inj : ∀ a b, f a = f b → a = b) (l : List Str) (b : Str) : over (l.map f) (f b) = (over l b).map f := by
  unfold over
  rw [idx_map inj, List.map_take]
theorem behind_ren {f : Str → Str} (inj : ∀ a b, f a = f b → a = b) : ∀ (rs l : List Str), behindM (l.map f) (rs.map f) = (behindM l rs).map f
  | [], l => rfl
  | b :: r, l => by
    show behindM (lay (l.map f) (f b)) (r.map f) = _
    rw [lay_ren inj, behind_ren inj r]
    rfl
theorem lifted_ren {f : Str → Str} (inj : ∀ a b, f a = f b → a = b) : ∀ (rs l : List Str), liftedM (l.map f) (rs.map f) = liftedM l rs
  | [], l => rfl
  | b :: r, l => by
    show (l.map f).idxOf (f b) :: liftedM (lay (l.map f) (f b)) (r.map f) = _
    rw [lay_ren inj, lifted_ren inj r, idx_map inj]
    rfl
def both (f : Str → Str) (q : Str × Str) : Str × Str := (f q.1, f q.2)
theorem rows_ren {f : Str → Str} (inj : ∀ a b, f a = f b → a = b) : ∀ (rs l : List Str), rowsM (l.map f) (rs.map f) = (rowsM l rs).map (both f)
  | [], l => rfl
  | b :: r, l => by
    show (over (l.map f) (f b)).map (fun o => (f b, o)) ++ rowsM (lay (l.map f) (f b)) (r.map f) = ((over l b).map (fun o => (b, o)) ++ rowsM (lay l b) r).map (both f)
    rw [lay_ren inj, rows_ren inj r, over_ren inj, List.map_append, List.map_map, List.map_map]
    rfl
theorem each_ren {f : Str → Str} (inj : ∀ a b, f a = f b → a = b) (ns rs : List Str) : eachV (ns.map f) (rs.map f) = eachV ns rs := by
  unfold eachV
  rw [behind_ren inj, lifted_ren inj]
theorem pair_ren {f : Str → Str} (mono : ∀ a b, ltS (f a) (f b) ↔ ltS a b) (q : Str × Str) : asPair (both f q) = both f (asPair q) := by
  unfold asPair both
  by_cases h : ltS q.1 q.2
  · rw [if_pos h, if_pos ((mono _ _).mpr h)]
  · rw [if_neg h, if_neg fun z => h ((mono _ _).mp z)]
theorem both_inj {f : Str → Str} (inj : ∀ a b, f a = f b → a = b) {q r : Str × Str} (h : both f q = both f r) : q = r := by
  obtain ⟨h1, h2⟩ := Prod.mk.inj h
  exact Prod.ext (inj _ _ h1) (inj _ _ h2)
theorem cnt_ren {f : Str → Str} (inj : ∀ a b, f a = f b → a = b) (mono : ∀ a b, ltS (f a) (f b) ↔ ltS a b) (rows : List (Str × Str)) (q : Str × Str) : cnt (rows.map (both f)) (both f q) = cnt rows q := by
  unfold cnt
  rw [List.filter_map, List.length_map]
  congr 1
  apply List.filter_congr
  intro r _
  show decide (asPair (both f r) = both f q) = decide (asPair r = q)
  rw [pair_ren mono, decide_eq_decide]
  exact ⟨both_inj inj, fun e => by rw [e]⟩
theorem prs_out {ys : List Str} {i : Nat} (h : ys[i]? = none) : prs ys (i + 1) = prs ys i := by
  show prs ys i ++ (match ys[i]? with | some a => (ys.drop (i + 1)).map fun b => (a, b) | none => []) = _
  rw [h]
  exact List.append_nil _
theorem prs_ren (f : Str → Str) (ys : List Str) : ∀ n, prs (ys.map f) n = (prs ys n).map (both f)
  | 0 => rfl
  | n + 1 => by
    cases e : ys[n]? with
    | none =>
      have e2 : (ys.map f)[n]? = none := by rw [List.getElem?_map, e]; rfl
      rw [prs_out e, prs_out e2, prs_ren f ys n]
    | some a =>
      rw [prs_succ e, prs_succ (a := f a) (by rw [List.getElem?_map, e]; rfl), prs_ren f ys n, List.map_append, List.map_map, ← List.map_drop, List.map_map]
      rfl
/-! the names with an x ahead -/
def xs_ (b : Str) : Str := ("x" : Str) ++ b
theorem xs_cps (b : Str) : (xs_ b).cps.toList = 120 :: b.cps.toList := by
  show ((("x" : Str).cps ++ b.cps)).toList = _
  rw [Array.toList_append]
  rfl
theorem xs_inj (a b : Str) (h : xs_ a = xs_ b) : a = b := by
  apply str_ext
  have e := congrArg (fun z : Str => z.cps.toList) h
  simp only [xs_cps] at e
  exact (List.cons.inj e).2
theorem xs_mono (a b : Str) : ltS (xs_ a) (xs_ b) ↔ ltS a b := by
  unfold ltS
  rw [xs_cps, xs_cps, List.cons_lt_cons_iff]
  constructor
  · rintro (h | h)
    · exact absurd h (Nat.lt_irrefl _)
    · exact h.2
  · exact fun h => .inr ⟨rfl, h⟩
def xw (ws : List (Str × Nat)) : List (Str × Nat) := ws.map fun p => (xs_ p.1, p.2)
theorem xw_names (ws : List (Str × Nat)) : wnames (xw ws) = (wnames ws).map xs_ := by
  unfold xw wnames
  rw [List.map_map, List.map_map]
  rfl
theorem xw_flat : ∀ ws : List (Str × Nat), flat (xw ws) = (flat ws).map xs_
  | [] => rfl
  | p :: r => by
    show List.replicate p.2 (xs_ p.1) ++ flat (xw r) = (List.replicate p.2 p.1 ++ flat r).map xs_
    rw [xw_flat r, List.map_append, List.map_replicate]
theorem xw_top (ws : List (Str × Nat)) : topW (xw ws) = topW ws := by
  unfold topW xw
  rw [List.map_map]
  rfl
theorem xw_most (ws : List (Str × Nat)) : mostM (xw ws) = (mostM ws).map xs_ := by
  unfold mostM mostT
  rw [xw_top, List.map_map, List.map_flatMap, List.map_flatMap]
  congr 1
  funext t
  unfold roundM xw
  rw [List.filter_map, List.map_map, List.map_map, List.map_map]
  rfl
theorem xw_len (ws : List (Str × Nat)) : (xw ws).length = ws.length := List.length_map ..
/-- the rows of the renamed day -/
def xtri (rows : List (Str × Str)) (q : Str × Str) : PyData := .tuple [.str (xs_ q.1), .str (xs_ q.2), .int (cnt rows q : Nat)]
theorem day_ren (ns rs : List Str) : dayD (ns.map xs_) (rs.map xs_) = (prs ns ns.length).map (xtri (rowsM (behindM ns rs) rs)) := by
  show (prs (ns.map xs_) (ns.map xs_).length).map _ = _
  rw [prs_ren, List.length_map, List.map_map, behind_ren xs_inj, rows_ren xs_inj]
  apply List.map_congr_left
  intro q _
  show PyData.tuple [.str (xs_ q.1), .str (xs_ q.2), .int (cnt _ (both xs_ q) : Nat)] = _
  rw [cnt_ren xs_inj xs_mono]
  rfl
/-! books that nobody wants -/
theorem rows_low (rest : List Str) : ∀ (rs : List Str) {l : List Str}, (∀ b ∈ rs, b ∈ l) → rowsM (l ++ rest) rs = rowsM l rs
  | [], l, _ => rfl
  | b :: r, l, h => by
    have hb := h b List.mem_cons_self
    have i : (l ++ rest).idxOf b = l.idxOf b := by rw [List.idxOf_append, if_pos hb]
    have il := idx_lt hb
    have e1 : over (l ++ rest) b = over l b := by
      unfold over
      rw [i, List.take_append_of_le_length (by omega)]
    have e2 : lay (l ++ rest) b = lay l b ++ rest := by
      unfold lay
      rw [i, List.eraseIdx_append_of_lt_length il]
      rfl
    show (over (l ++ rest) b).map _ ++ rowsM (lay (l ++ rest) b) r = (over l b).map _ ++ rowsM (lay l b) r
    rw [e1, e2, rows_low rest r fun c hc => (lay_perm hb).mem_iff.mpr (h c (List.mem_cons_of_mem _ hc))]
theorem cnt_zero {rows : List (Str × Str)} {q : Str × Str} {l : List Str} (h : ∀ z ∈ rows, z.1 ∈ l ∧ z.2 ∈ l) (n : q.1 ∉ l ∨ q.2 ∉ l) : cnt rows q = 0 := by
  unfold cnt
  rw [List.length_eq_zero_iff, List.filter_eq_nil_iff]
  intro z hz
  obtain ⟨h1, h2⟩ := h z hz
  rw [decide_eq_true_iff]
  intro e
  unfold asPair at e
  split at e
  · rw [← e] at n
    exact n.elim (fun n => n h1) fun n => n h2
  · rw [← e] at n
    exact n.elim (fun n => n h2) fun n => n h1
theorem day_split {bs ns rs : List Str} (nd : bs.Nodup) (nn : ns.Nodup) (h : ∀ b ∈ rs, b ∈ bs) (h2 : ∀ b ∈ rs, b ∈ ns) (all : ∀ b ∈ ns, b ∈ rs) :
    ∃ l, l.Perm ns ∧ behindM bs rs = l ++ bs.filter fun z => decide (z ∉ ns) := by
  refine ⟨nub rs.reverse, ?_, ?_⟩
  · refine (List.perm_ext_iff_of_nodup (nub_nodup _) nn).mpr fun z => ?_
    rw [nub_mem, List.mem_reverse]
    exact ⟨h2 z, all z⟩
  · rw [behind_is nd rs h]
    congr 1
    apply List.filter_congr
    intro z _
    rw [decide_eq_decide]
    exact ⟨fun n m => n (all z m), fun n m => n (h2 z m)⟩
theorem evens_last {i j : Nat} (h : i < j) : (evens i j).getLast? = some (i + 2 * ((j - i - 1) / 2)) := by
  unfold evens nEv
  rw [if_pos h, List.range_succ, List.map_append]
  exact List.getLast?_concat
end Lt

set_option Elab.async false
set_option linter.all false
set_option maxRecDepth 100000
set_option maxHeartbeats 4000000
/-! list(d.values()) -/
namespace Lt
open PySem PySem.Spec PyProof.Rows L2
section
variable {X : Cx} {e : Expr} {te : TE} {p pos apos cpos : Pos}
def tVals (te : TE) : TE := fun σ H Q => te σ H fun x H1 => ∃ (d : Addr) (kvs : List (Key × V)), x = .ref d ∧ H1 d = some (.dK kvs) ∧ ∀ l, H1 l = none → Q (.ref l) (upd H1 l (.lst (kvs.map fun z => z.2)))
theorem pe_listVals (hc : X.calm = true) (hg : Gl X "list") (hm : X.mg "list" = none) (he : PE X e te) (hbase : attributeBase e "values" X.env (eval e X.env) = eval e X.env := by rfl) (hline : (apos.endLine == cpos.line) = true := by rfl)
    (hs : starEach [.Call (.Attribute e "values" apos) [] [] cpos] X.env = (false, eval (.Call (.Attribute e "values" apos) [] [] cpos) X.env) :: starEach [] X.env := by rfl) :
    PE X (.Call (.Name "list" p) [.Call (.Attribute e "values" apos) [] [] cpos] [] pos) (tVals te) := by
  refine ⟨fun pins s σ H Q I h => ?_⟩
  refine Call_ (ld_blt I hg hm boot_list (PyProof.Rows.callWith_type1 (args_cons ?_ hs) hs))
  refine wpAny_Call_method (T := "dict") (id := "dict.values") hbase rfl hline F.plainAttrs_dict F.slot_dict_values F.type_dict_values (thn (he.run pins s σ H _ I h) fun u s1 ⟨x, H1, I1, rx, d, kvs, ex, hd, q⟩ => ?_)
  subst ex
  obtain rfl : u = Value.ref d := rx
  obtain ⟨fit, low, vs, kv, dof⟩ := dk_of I1.hok hd
  obtain ⟨ep, at_⟩ := dof.dictAt
  have len : kvs.length = vs.length := KV.length kv
  have I2 : Inv X pins σ H1 { s1 with heap := s1.heap.push { cls := .type "dict_values", data := .fields #[.ref d] } } := I1.kept (t' := s1.toks) fun b ob q => Heap.get?_push_of_some _ q
  refine ⟨dof.typeIs, dof.mapOf.noDict, ?_⟩
  show wpAny _ _ (callWith cpos (.builtin "dict.values") [.ref d] [] []) _ X.xe s1
  refine method_meetsIn F.slot_dict_values F.entry_dict_values rfl (PySem.evalArgs_none ⟨rfl, dof.typeIs, F.args_dict_values_1 _, _, meets_dict_values (mixKind X.prog X.w) d low, ⟨vs, dof⟩, ?_⟩)
  refine args_nil ?_
  refine PySem.W.kdl_call (PySem.W.kdl_values (knd := mixKind X.prog X.w) (r := s1.heap.objs.size) (kvs := vs) (ep := ep)) (I1.ok.hd hc) ⟨⟨_, Heap.get?_push_size _ rfl, rfl, rfl⟩, at_.push _⟩ (by rw [← len]; exact fit) fun h' tk acc c' hk hS it => ?_
  have vals : Vals (kvs.map fun z => z.2) acc.toList := by
    refine vals_of_at (by rw [List.length_map, len, ← it.1]; exact (Array.length_toList ..).symm) fun j y v h1 h2 => ?_
    obtain ⟨k, hkj⟩ := it.2 j v (by rw [← Array.getElem?_toList]; exact h2)
    obtain ⟨x, hx, rel⟩ := KV.at' kv hkj
    rw [List.getElem?_map, hx] at h1
    cases h1
    exact rel
  refine ⟨.ref _, _, I2.laid hk (Nat.le_refl _) (show ObjOk X.prog X.w _ _ _ (.lst (kvs.map fun z => z.2)) from ⟨?_, acc.toList, c', vals, ?_⟩), rfl, q _ (I2.hok.fresh (Nat.le_refl _))⟩
  · rw [List.length_map]
    exact fit
  · rw [Array.toArray_toList]
    exact hS
end
end Lt

set_option Elab.async false
set_option linter.all false
set_option maxRecDepth 100000
set_option maxHeartbeats 4000000
namespace Lt
open PySem PySem.Spec PyProof.Rows L2
section
variable {P : Program} {w : World} {K : PySem.W.Frag} {mg : Str → Option Value} {base : Heap} {X : Cx}
def TupL (H : Hp) (ts : List Addr) (rws : List (List Str)) : Prop := ts.length = rws.length ∧ ∀ (i : Nat) (t : Addr) (r : List Str), ts[i]? = some t → rws[i]? = some r → TpO H t (r.map V.str)
theorem TupL.nil (H : Hp) : TupL H [] [] := ⟨rfl, fun i t q h => by simp at h⟩
theorem TupL.move {H H' : Hp} {ts : List Addr} {rws : List (List Str)} (h : TupL H ts rws) (k : Same H H') : TupL H' ts rws := ⟨h.1, fun i t q a b => (h.2 i t q a b).same k⟩
theorem TupL.put {H : Hp} {D : Addr} {xs : List V} {o : HO} {ts : List Addr} {rws : List (List Str)} (h : TupL H ts rws) (hD : H D = some (.lst xs)) : TupL (upd H D o) ts rws := by
  refine ⟨h.1, fun i t r a b => ?_⟩
  have z := h.2 i t r a b
  exact z.move fun u hu => by
    rw [upd_ne (z.ne hD fun o z => nomatch z)]
    exact hu
theorem TupL.app {H : Hp} {ts us : List Addr} {rws sws : List (List Str)} (a : TupL H ts rws) (b : TupL H us sws) : TupL H (ts ++ us) (rws ++ sws) := by
  refine ⟨by rw [List.length_append, List.length_append, a.1, b.1], fun k t z h1 h2 => ?_⟩
  by_cases hk : k < ts.length
  · rw [List.getElem?_append_left hk] at h1
    rw [List.getElem?_append_left (by rw [← a.1]; exact hk)] at h2
    exact a.2 k t z h1 h2
  · rw [List.getElem?_append_right (by omega)] at h1
    rw [List.getElem?_append_right (by rw [← a.1]; omega), ← a.1] at h2
    exact b.2 _ t z h1 h2
theorem TupL.one {H : Hp} {t : Addr} {r : List Str} (h : TpO H t (r.map V.str)) : TupL H [t] [r] := by
  refine ⟨rfl, fun i u z a b => ?_⟩
  cases i with
  | zero =>
    cases a
    cases b
    exact h
  | succ i => simp at a
theorem TupL.dp {K : PySem.W.Frag} {H : Hp} : ∀ {ts : List Addr} {rws : List (List Str)}, TupL H ts rws → DpAll K H (ts.map V.ref) (rws.map fun r => .tuple (r.map PyData.str))
  | [], [], _ => .nil
  | [], r :: rs, h => nomatch h.1
  | t :: ts, [], h => nomatch h.1
  | t :: ts, r :: rs, h => .cons (.tup (h.2 0 t r rfl rfl).sqt (dpAll_strs r)) (TupL.dp ⟨Nat.succ.inj h.1, fun i t q a b => h.2 (i + 1) t q a b⟩)
theorem TupL.get {H : Hp} {ts : List Addr} {rws : List (List Str)} (h : TupL H ts rws) {i : Nat} {x : V} (e : (ts.map V.ref)[i]? = some x) : ∃ (t : Addr) (r : List Str), x = .ref t ∧ ts[i]? = some t ∧ rws[i]? = some r ∧ TpO H t (r.map V.str) := by
  rw [List.getElem?_map] at e
  cases e1 : ts[i]? with
  | none =>
    rw [e1] at e
    cases e
  | some t =>
    rw [e1] at e
    cases e
    have hi := (List.getElem?_eq_some_iff.mp e1).1
    have hi2 : i < rws.length := by rw [← h.1]; exact hi
    exact ⟨t, rws[i], rfl, rfl, List.getElem?_eq_getElem hi2, h.2 i t _ e1 (List.getElem?_eq_getElem hi2)⟩
end
end Lt

set_option Elab.async false
set_option linter.all false
set_option maxRecDepth 100000
set_option maxHeartbeats 4000000
namespace Lt
open PySem PySem.Spec PyProof.Rows L2
/-! ### wants as a dict -/
def decW (ls : List (Str × Nat)) (b : Str) : List (Str × Nat) := ls.map fun p => if p.1 = b then (p.1, p.2 - 1) else p
theorem dec_names (ls : List (Str × Nat)) (b : Str) : wnames (decW ls b) = wnames ls := by
  unfold decW wnames
  rw [List.map_map]
  apply List.map_congr_left
  intro p _
  show (if p.1 = b then (p.1, p.2 - 1) else p).1 = p.1
  split <;> rfl
theorem dec_len (ls : List (Str × Nat)) (b : Str) : (decW ls b).length = ls.length := List.length_map ..
theorem dec_out {ls : List (Str × Nat)} {b : Str} (h : b ∉ wnames ls) : decW ls b = ls := by
  unfold decW
  conv => rhs; rw [← List.map_id ls]
  apply List.map_congr_left
  intro p hp
  show (if p.1 = b then (p.1, p.2 - 1) else p) = p
  rw [if_neg fun e : p.1 = b => h (by rw [← e]; exact List.mem_map.mpr ⟨p, hp, rfl⟩)]
theorem dec_flat : ∀ {ls : List (Str × Nat)} {b : Str} {k : Nat}, (wnames ls).Nodup → (b, k) ∈ ls → 0 < k → (flat ls).Perm (b :: flat (decW ls b))
  | [], b, k, _, h, _ => nomatch h
  | p :: r, b, k, nd, h, k0 => by
    obtain ⟨n1, n2⟩ := List.nodup_cons.mp nd
    rcases List.mem_cons.mp h with e | h
    · subst e
      have o : decW r b = r := dec_out n1
      have e : decW ((b, k) :: r) b = (b, k - 1) :: r := by
        show (if b = b then (b, k - 1) else (b, k)) :: decW r b = _
        rw [if_pos rfl, o]
      rw [e]
      show (List.replicate k b ++ flat r).Perm (b :: (List.replicate (k - 1) b ++ flat r))
      obtain ⟨j, rfl⟩ : ∃ j, k = j + 1 := ⟨k - 1, by omega⟩
      exact List.Perm.refl _
    · have ne : p.1 ≠ b := fun e => n1 (by show p.1 ∈ wnames r; rw [e]; exact List.mem_map.mpr ⟨(b, k), h, rfl⟩)
      have e : decW (p :: r) b = p :: decW r b := by
        show (if p.1 = b then _ else p) :: decW r b = _
        rw [if_neg ne]
      rw [e]
      show (List.replicate p.2 p.1 ++ flat r).Perm (b :: (List.replicate p.2 p.1 ++ flat (decW r b)))
      exact ((dec_flat n2 h k0).append_left _).trans List.perm_middle
theorem dec_top {ls : List (Str × Nat)} {b : Str} {k : Nat} (nd : (wnames ls).Nodup) (h : (b, k) ∈ ls) (k0 : 0 < k) : topW ls = topW (decW ls b) + 1 := by
  rw [← top_flat, ← top_flat, (dec_flat nd h k0).length_eq]
  rfl
theorem wkvs_val : ∀ {ls : List (Str × Nat)} {b : Str} {k : Nat}, (wnames ls).Nodup → (b, k) ∈ ls → valV (wkvs ls) (Sum.inr b) = some (natV k)
  | p :: r, b, k, nd, h => by
    obtain ⟨n1, n2⟩ := List.nodup_cons.mp nd
    unfold wkvs valV
    rw [List.map_cons]
    rcases List.mem_cons.mp h with e | h
    · subst e
      rw [List.find?_cons_of_pos (by simp)]
      rfl
    · have ne : p.1 ≠ b := fun e => n1 (by show p.1 ∈ wnames r; rw [e]; exact List.mem_map.mpr ⟨(b, k), h, rfl⟩)
      rw [List.find?_cons_of_neg (by simpa using ne)]
      exact wkvs_val n2 h
theorem wkvs_put {ls : List (Str × Nat)} {b : Str} {k : Nat} (nd : (wnames ls).Nodup) (h : (b, k) ∈ ls) (k0 : 0 < k) : putK (wkvs ls) (Sum.inr b) (.int ((k : Int) - 1)) = wkvs (decW ls b) := by
  unfold putK
  have e : ((wkvs ls).any fun kv => decide (kv.1 = Sum.inr b)) = true := List.any_eq_true.mpr ⟨(Sum.inr b, natV k), List.mem_map.mpr ⟨(b, k), h, rfl⟩, by simp⟩
  rw [if_pos e]
  unfold wkvs decW
  rw [List.map_map, List.map_map]
  apply List.map_congr_left
  intro p hp
  show (if (Sum.inr p.1 : Key) = Sum.inr b then ((Sum.inr p.1 : Key), V.int ((k : Int) - 1)) else (Sum.inr p.1, natV p.2)) = (Sum.inr (if p.1 = b then (p.1, p.2 - 1) else p).1, natV (if p.1 = b then (p.1, p.2 - 1) else p).2)
  by_cases c : p.1 = b
  · have ek : p.2 = k := by
      have hp' : (b, p.2) ∈ ls := by
        rw [← c]
        exact hp
      have z := (wkvs_val nd hp').symm.trans (wkvs_val nd h)
      injection z with z
      injection z with z
      omega
    rw [if_pos (by rw [c]), if_pos c, ek]
    show (_, V.int ((k : Int) - 1)) = (_, V.int ((k - 1 : Nat) : Int))
    congr 2
    omega
  · rw [if_neg fun z => c (Sum.inr.inj z), if_neg c]
theorem merge_new : ∀ (ws acc : List (Str × Nat)), (wnames (acc ++ ws)).Nodup → mergeK (wkvs acc) (wkvs ws) = wkvs (acc ++ ws)
  | [], acc, _ => by
    rw [List.append_nil]
    rfl
  | p :: r, acc, nd => by
    have e1 : putK (wkvs acc) (Sum.inr p.1) (natV p.2) = wkvs (acc ++ [p]) := by
      unfold putK
      rw [if_neg]
      · unfold wkvs
        rw [List.map_append]
        rfl
      · intro z
        obtain ⟨kv, h1, h2⟩ := List.any_eq_true.mp z
        obtain ⟨q, hq, rfl⟩ := List.mem_map.mp h1
        have e := Sum.inr.inj (of_decide_eq_true h2)
        have nd2 : (wnames acc ++ wnames (p :: r)).Nodup := by
          rw [← List.map_append]
          exact nd
        exact (List.nodup_append.mp nd2).2.2 q.1 (List.mem_map.mpr ⟨q, hq, rfl⟩) p.1 List.mem_cons_self e
    show mergeK (putK (wkvs acc) (Sum.inr p.1) (natV p.2)) (wkvs r) = _
    rw [e1, merge_new r (acc ++ [p]) (by rw [List.append_assoc]; exact nd), List.append_assoc]
    rfl
theorem merge_wk {ws : List (Str × Nat)} (nd : (wnames ws).Nodup) : mergeK [] (wkvs ws) = wkvs ws := merge_new ws [] nd
theorem wkvs_keys (ls : List (Str × Nat)) : (wkvs ls).map (·.1) = (wnames ls).map Sum.inr := by
  unfold wkvs wnames
  rw [List.map_map, List.map_map]
  rfl
theorem wkvs_vals (ls : List (Str × Nat)) : ((wkvs ls).map fun z => z.2) = (ls.map fun p => p.2).map natV := by
  unfold wkvs
  rw [List.map_map, List.map_map]
  rfl
theorem flat_zero : ∀ {ls : List (Str × Nat)}, (∀ p ∈ ls, p.2 = 0) → flat ls = []
  | [], _ => rfl
  | p :: r, h => by
    show List.replicate p.2 p.1 ++ flat r = []
    rw [h p List.mem_cons_self, flat_zero fun q hq => h q (List.mem_cons_of_mem _ hq)]
    rfl
theorem flat_want : ∀ {ls : List (Str × Nat)} {b : Str}, b ∈ flat ls → ∃ k, (b, k) ∈ ls ∧ 0 < k
  | p :: r, b, h => by
    rcases List.mem_append.mp h with h | h
    · obtain ⟨h1, h2⟩ := List.mem_replicate.mp h
      exact ⟨p.2, by rw [h2]; exact List.mem_cons_self, by omega⟩
    · obtain ⟨k, hk, k0⟩ := flat_want h
      exact ⟨k, List.mem_cons_of_mem _ hk, k0⟩
/-- the rows that begin with one of these books -/
def Begins (ls : List (Str × Nat)) (bs : List Str) (rws : List (List Str)) : Prop := ∀ r, r ∈ rws ↔ ∃ b t k, b ∈ bs ∧ (b, k) ∈ ls ∧ 0 < k ∧ r = b :: t ∧ t.Perm (flat (decW ls b))
def AllRows (ls : List (Str × Nat)) (rws : List (List Str)) : Prop := ∀ r, r ∈ rws ↔ r.Perm (flat ls)
theorem begins_all {ls : List (Str × Nat)} {bs : List Str} {rws : List (List Str)} (nd : (wnames ls).Nodup) (pb : bs.Perm (wnames ls)) (ne : flat ls ≠ []) (h : Begins ls bs rws) : AllRows ls rws := fun r => by
  rw [h r]
  constructor
  · rintro ⟨b, t, k, _, hk, k0, rfl, p⟩
    exact (p.cons b).trans (dec_flat nd hk k0).symm
  · intro p
    cases r with
    | nil => exact absurd p.symm.eq_nil ne
    | cons b t =>
      obtain ⟨k, hk, k0⟩ := flat_want (p.mem_iff.mp (List.mem_cons_self (a := b) (l := t)))
      exact ⟨b, t, k, pb.mem_iff.mpr (List.mem_map.mpr ⟨(b, k), hk, rfl⟩), hk, k0, rfl, (p.trans (dec_flat nd hk k0)).cons_inv⟩
theorem begins_nil (ls : List (Str × Nat)) : Begins ls [] [] := fun r => ⟨(fun h => nomatch h), (fun ⟨_, _, _, h, _⟩ => nomatch h)⟩
theorem begins_skip {ls : List (Str × Nat)} {bs : List Str} {rws : List (List Str)} {b : Str} (nd : (wnames ls).Nodup) (h : Begins ls bs rws) (z : (b, 0) ∈ ls) : Begins ls (bs ++ [b]) rws := fun r => by
  rw [h r]
  constructor
  · rintro ⟨c, t, k, hc, x⟩
    exact ⟨c, t, k, List.mem_append_left _ hc, x⟩
  · rintro ⟨c, t, k, hc, hk, k0, x⟩
    rcases List.mem_append.mp hc with hc | hc
    · exact ⟨c, t, k, hc, hk, k0, x⟩
    · rw [List.mem_singleton.mp hc] at hk
      have y := (wkvs_val nd z).symm.trans (wkvs_val nd hk)
      injection y with y
      injection y with y
      omega
theorem begins_more {ls : List (Str × Nat)} {bs : List Str} {rws sws : List (List Str)} {b : Str} {k : Nat} (h : Begins ls bs rws) (hk : (b, k) ∈ ls) (k0 : 0 < k) (s : AllRows (decW ls b) sws) : Begins ls (bs ++ [b]) (rws ++ sws.map fun t => b :: t) := fun r => by
  rw [List.mem_append, h r, List.mem_map]
  constructor
  · rintro (⟨c, t, k, hc, x⟩ | ⟨t, ht, rfl⟩)
    · exact ⟨c, t, k, List.mem_append_left _ hc, x⟩
    · exact ⟨b, t, k, List.mem_append_right _ List.mem_cons_self, hk, k0, rfl, (s t).mp ht⟩
  · rintro ⟨c, t, k', hc, hk', k0', rfl, p⟩
    rcases List.mem_append.mp hc with hc | hc
    · exact .inl ⟨c, t, k', hc, hk', k0', rfl, p⟩
    · have e := List.mem_singleton.mp hc
      subst e
      exact .inr ⟨t, (s t).mpr p, rfl⟩
end Lt

set_option Elab.async false
set_option linter.all false
set_option maxRecDepth 100000
set_option maxHeartbeats 4000000
namespace Lt
open PySem PySem.Spec PyProof.Rows L2
/-! ### how often two books pass one another on any day -/
abbrev isB (x u : Str) : Nat := if u = x then 1 else 0
def lastW (u : Str) : List Str → Str
  | [] => u
  | v :: r => lastW v r
theorem lastW_snoc (z : Str) : ∀ (u : Str) (l : List Str), lastW u (l ++ [z]) = z
  | u, [] => rfl
  | u, v :: r => lastW_snoc z v r
theorem adj_most {x y : Str} (ne : x ≠ y) : ∀ (r : List Str) (u : Str), (∀ c ∈ u :: r, c = x ∨ c = y) → adj (u :: r) + isB x u + isB x (lastW u r) ≤ 2 * (u :: r).count x
  | [], u, h => by
    show 0 + isB x u + isB x u ≤ 2 * [u].count x
    rw [List.count_singleton]
    unfold isB
    by_cases e : u = x
    · rw [if_pos e, e, beq_self_eq_true, if_pos rfl]
      decide
    · rw [if_neg e]
      omega
  | v :: r, u, h => by
    have ih := adj_most ne r v fun c hc => h c (List.mem_cons_of_mem _ hc)
    have eA : adj (u :: v :: r) = (if u = v then 0 else 1) + adj (v :: r) := rfl
    have eL : lastW u (v :: r) = lastW v r := rfl
    have eC : (u :: v :: r).count x = (v :: r).count x + isB x u := by
      rw [List.count_cons]
      unfold isB
      by_cases e : u = x
      · rw [if_pos e, e, beq_self_eq_true, if_pos rfl]
      · rw [if_neg e, if_neg (by simpa using e)]
    rw [eA, eL, eC]
    have key : (if u = v then 0 else 1) + isB x u ≤ 2 * isB x u + isB x v := by
      unfold isB
      by_cases e : u = v
      · rw [if_pos e]
        split <;> omega
      · rw [if_neg e]
        by_cases ux : u = x
        · rw [if_pos ux]
          omega
        · have uy : u = y := (h u List.mem_cons_self).resolve_left ux
          have vx : v = x := (h v (List.mem_cons_of_mem _ List.mem_cons_self)).resolve_right fun z => e (uy.trans z.symm)
          rw [if_neg ux, if_pos vx]
          omega
    omega
theorem adj_even {x y : Str} : ∀ (r : List Str) (u : Str), (∀ c ∈ u :: r, c = x ∨ c = y) → adj (u :: r) % 2 = if u = lastW u r then 0 else 1
  | [], u, h => by
    show 0 % 2 = if u = u then 0 else 1
    rw [if_pos rfl]
  | v :: r, u, h => by
    have ih := adj_even r v fun c hc => h c (List.mem_cons_of_mem _ hc)
    have eA : adj (u :: v :: r) = (if u = v then 0 else 1) + adj (v :: r) := rfl
    have eL : lastW u (v :: r) = lastW v r := rfl
    have hl : lastW v r = x ∨ lastW v r = y := by
      have key : ∀ (l : List Str) (w : Str), lastW w l ∈ w :: l := by
        intro l
        induction l with
        | nil => exact fun w => List.mem_cons_self
        | cons z t ih => exact fun w => List.mem_cons_of_mem _ (ih z)
      exact h _ (List.mem_cons_of_mem _ (key r v))
    have hu := h u List.mem_cons_self
    have hv := h v (List.mem_cons_of_mem _ List.mem_cons_self)
    rw [eA, eL]
    by_cases e : u = v
    · rw [if_pos e, e, ← ih]
      omega
    · rw [if_neg e]
      by_cases c : v = lastW v r
      · rw [if_pos c] at ih
        rw [if_neg fun z => e (z.trans c.symm)]
        omega
      · rw [if_neg c] at ih
        have z : u = lastW v r := by
          rcases hu with a | a <;> rcases hv with b | b <;> rcases hl with d | d
          · exact absurd (a.trans b.symm) e
          · exact absurd (a.trans b.symm) e
          · exact a.trans d.symm
          · exact absurd (b.trans d.symm) c
          · exact absurd (b.trans d.symm) c
          · exact a.trans d.symm
          · exact absurd (a.trans b.symm) e
          · exact absurd (a.trans b.symm) e
        rw [if_pos z]
        omega
theorem adj_zero : ∀ (r : List Str) (u : Str), adj (u :: r) = 0 → ∀ c ∈ r, c = u
  | [], u, _, c, hc => nomatch hc
  | v :: r, u, h, c, hc => by
    have eA : adj (u :: v :: r) = (if u = v then 0 else 1) + adj (v :: r) := rfl
    rw [eA] at h
    by_cases e : u = v
    · rw [if_pos e] at h
      rcases List.mem_cons.mp hc with hc | hc
      · rw [hc, e]
      · rw [e]
        exact adj_zero r v (by omega) c hc
    · rw [if_neg e] at h
      omega
theorem cyc_any {x y : Str} (ne : x ≠ y) {l : List Str} (h : ∀ c ∈ l, c = x ∨ c = y) (hx : x ∈ l) (hy : y ∈ l) : 2 ≤ cyc l ∧ cyc l ≤ 2 * l.count x ∧ cyc l % 2 = 0 := by
  obtain ⟨m, z, rfl⟩ := snoc_of (List.ne_nil_of_mem hx)
  rw [cyc_snoc]
  have hz := h z (List.mem_append_right _ List.mem_cons_self)
  have h2 : ∀ c ∈ z :: (m ++ [z]), c = x ∨ c = y := fun c hc => (List.mem_cons.mp hc).elim (fun e => e ▸ hz) (h c)
  have ev := adj_even (m ++ [z]) z h2
  rw [lastW_snoc, if_pos rfl] at ev
  have mo := adj_most ne (m ++ [z]) z h2
  rw [lastW_snoc] at mo
  have eC : (z :: (m ++ [z])).count x = (m ++ [z]).count x + isB x z := by
    rw [List.count_cons]
    unfold isB
    by_cases e : z = x
    · rw [if_pos e, e, beq_self_eq_true, if_pos rfl]
    · rw [if_neg e, if_neg (by simpa using e)]
  rw [eC] at mo
  have nz : adj (z :: (m ++ [z])) ≠ 0 := fun e => by
    have a := adj_zero _ _ e
    exact ne ((a x hx).trans (a y hy).symm)
  omega
theorem flat_count : ∀ {ws : List (Str × Nat)} {x : Str} {a : Nat}, (wnames ws).Nodup → (x, a) ∈ ws → (flat ws).count x = a
  | p :: r, x, a, nd, h => by
    obtain ⟨n1, n2⟩ := List.nodup_cons.mp nd
    show (List.replicate p.2 p.1 ++ flat r).count x = a
    rw [List.count_append]
    rcases List.mem_cons.mp h with e | h
    · subst e
      rw [List.count_replicate_self, List.count_eq_zero.mpr fun z => n1 (flat_mem z)]
      rfl
    · have np : p.1 ≠ x := fun e => n1 (by show p.1 ∈ wnames r; rw [e]; exact List.mem_map.mpr ⟨(x, a), h, rfl⟩)
      rw [flat_count n2 h, List.count_replicate, if_neg (by simpa using np)]
      omega
theorem two_count {x y : Str} (l : List Str) : (two x y l).count x = l.count x := by
  unfold two
  rw [List.count_filter (by simp)]
/-- on any day: twice at least, evenly often, no more than told -/
theorem WOk.dayC {ws : List (Str × Nat)} (h : WOk ws) {rs : List Str} (p : rs.Perm (flat ws)) {q : Str × Str} (hq : q ∈ prs (wnames ws) (wnames ws).length) :
    2 ≤ cyc (two q.1 q.2 rs) ∧ cyc (two q.1 q.2 rs) ≤ cyc (two q.1 q.2 (mostM ws)) ∧ cyc (two q.1 q.2 rs) % 2 = 0 := by
  obtain ⟨a, b, ha, hb, ne, e⟩ := h.mostC hq
  have mx : q.1 ∈ rs := p.mem_iff.mpr (mem_flat h.pos (List.mem_map.mpr ⟨_, ha, rfl⟩))
  have my : q.2 ∈ rs := p.mem_iff.mpr (mem_flat h.pos (List.mem_map.mpr ⟨_, hb, rfl⟩))
  have i1 : ∀ c ∈ two q.1 q.2 rs, c = q.1 ∨ c = q.2 := fun c hc => (two_mem.mp hc).2
  have m1 : q.1 ∈ two q.1 q.2 rs := two_mem.mpr ⟨mx, Or.inl rfl⟩
  have m2 : q.2 ∈ two q.1 q.2 rs := two_mem.mpr ⟨my, Or.inr rfl⟩
  obtain ⟨c1, c2, c3⟩ := cyc_any ne i1 m1 m2
  obtain ⟨_, d2, _⟩ := cyc_any ne.symm (fun c hc => (i1 c hc).symm) m2 m1
  rw [two_count, p.count_eq, flat_count h.nd ha] at c2
  have e2 : (two q.1 q.2 rs).count q.2 = b := by rw [two_comm, two_count, p.count_eq, flat_count h.nd hb]
  rw [e2] at d2
  rw [e]
  refine ⟨c1, ?_, c3⟩
  omega
end Lt

set_option Elab.async false
set_option linter.all false
set_option maxRecDepth 100000
set_option maxHeartbeats 4000000
namespace Lt
open PySem PySem.Spec PyProof.Rows L2
/-! ### all even numbers between -/
theorem cyc_even {x y : Str} {l : List Str} (h : ∀ c ∈ l, c = x ∨ c = y) : cyc l % 2 = 0 := by
  by_cases e : l = []
  · rw [e]
    rfl
  · obtain ⟨m, z, rfl⟩ := snoc_of e
    rw [cyc_snoc]
    have hz := h z (List.mem_append_right _ List.mem_cons_self)
    have ev := adj_even (m ++ [z]) z (fun c hc => (List.mem_cons.mp hc).elim (fun e => e ▸ hz) (h c))
    rw [lastW_snoc, if_pos rfl] at ev
    exact ev
abbrev dif (a b : Str) : Nat := if a = b then 0 else 1
theorem dif_le (a b : Str) : dif a b ≤ 1 := by
  unfold dif
  split <;> omega
theorem adj_two (a b : Str) (r : List Str) : adj (a :: b :: r) = dif a b + adj (b :: r) := rfl
theorem cyc_swap (u w : List Str) (a b : Str) : cyc (u ++ a :: b :: w) ≤ cyc (u ++ b :: a :: w) + 2 := by
  rw [cyc_turn u (a :: b :: w), cyc_turn u (b :: a :: w)]
  show cyc (a :: b :: (w ++ u)) ≤ cyc (b :: a :: (w ++ u)) + 2
  by_cases e : w ++ u = []
  · rw [e]
    show dif b a + adj [a, b] ≤ _
    rw [adj_two]
    show dif b a + (dif a b + 0) ≤ _
    have := dif_le a b
    have := dif_le b a
    omega
  · obtain ⟨m, z, em⟩ := snoc_of e
    rw [em]
    have e1 : a :: b :: (m ++ [z]) = (a :: b :: m) ++ [z] := rfl
    have e2 : b :: a :: (m ++ [z]) = (b :: a :: m) ++ [z] := rfl
    rw [e1, e2, cyc_snoc, cyc_snoc]
    show adj (z :: a :: b :: (m ++ [z])) ≤ adj (z :: b :: a :: (m ++ [z])) + 2
    obtain ⟨s, t, es⟩ : ∃ s t, m ++ [z] = s :: t := by
      cases m with
      | nil => exact ⟨z, [], rfl⟩
      | cons s t => exact ⟨s, t ++ [z], rfl⟩
    rw [es, adj_two, adj_two, adj_two, adj_two, adj_two, adj_two]
    have h1 := dif_le z a
    have h2 := dif_le b s
    have h3 : dif a b = dif b a := by
      unfold dif
      by_cases c : a = b
      · rw [if_pos c, if_pos c.symm]
      · rw [if_neg c, if_neg fun z => c z.symm]
    omega
theorem two_swap {x y a b : Str} (n : ¬ (a = x ∨ a = y) ∨ ¬ (b = x ∨ b = y)) (u w : List Str) : two x y (u ++ a :: b :: w) = two x y (u ++ b :: a :: w) := by
  rw [two_append, two_append]
  congr 1
  rcases n with n | n
  · rw [two_out n]
    by_cases c : b = x ∨ b = y
    · rw [two_in c, two_in c, two_out n]
    · rw [two_out c, two_out c, two_out n]
  · by_cases c : a = x ∨ a = y
    · rw [two_in c, two_out n, two_out n, two_in c]
    · rw [two_out c, two_out n, two_out n, two_out c]
theorem sum_near {α : Type} {f g : α → Nat} {q0 : α} : ∀ {l : List α}, l.Nodup → (∀ q ∈ l, q ≠ q0 → f q = g q) → f q0 ≤ g q0 + 2 → (l.map f).sum ≤ (l.map g).sum + 2
  | [], _, _, _ => Nat.zero_le _
  | q :: r, nd, h, h0 => by
    obtain ⟨n1, n2⟩ := List.nodup_cons.mp nd
    rw [List.map_cons, List.map_cons, List.sum_cons, List.sum_cons]
    by_cases e : q = q0
    · subst e
      have z : (r.map f).sum = (r.map g).sum := sum_eq fun p hp => h p (List.mem_cons_of_mem _ hp) fun e => n1 (e ▸ hp)
      omega
    · have z := sum_near n2 (fun p hp => h p (List.mem_cons_of_mem _ hp)) h0
      have y := h q List.mem_cons_self e
      omega
theorem each_swap {ns : List Str} (nd : ns.Nodup) (so : sortedS ns = true) (u w : List Str) (a b : Str) : eachS ns (u ++ a :: b :: w) ≤ eachS ns (u ++ b :: a :: w) + 2 := by
  unfold eachS
  refine sum_near (q0 := asPair (a, b)) (prs_nodup nd _) (fun q hq ne => ?_) ?_
  · obtain ⟨e, nq, _, _⟩ := prs_pair nd so hq
    by_cases ab : a = b
    · rw [ab]
    · have n : ¬ (a = q.1 ∨ a = q.2) ∨ ¬ (b = q.1 ∨ b = q.2) := Classical.byContradiction fun z => by
        have z1 : a = q.1 ∨ a = q.2 := Classical.byContradiction fun y => z (.inl y)
        have z2 : b = q.1 ∨ b = q.2 := Classical.byContradiction fun y => z (.inr y)
        rcases z1 with z1 | z1 <;> rcases z2 with z2 | z2
        · exact ab (z1.trans z2.symm)
        · exact ne (by rw [z1, z2]; exact e.symm)
        · exact ne (by rw [z1, z2, asPair_swap]; exact e.symm)
        · exact ab (z1.trans z2.symm)
      rw [two_swap n]
  · have key : ∀ x y : Str, cyc (two x y (u ++ a :: b :: w)) ≤ cyc (two x y (u ++ b :: a :: w)) + 2 := fun x y => by
      by_cases n : ¬ (a = x ∨ a = y) ∨ ¬ (b = x ∨ b = y)
      · rw [two_swap n]
        omega
      · have z1 : a = x ∨ a = y := Classical.byContradiction fun z => n (.inl z)
        have z2 : b = x ∨ b = y := Classical.byContradiction fun z => n (.inr z)
        rw [two_append, two_append, two_in z1, two_in z2, two_in z2, two_in z1]
        exact cyc_swap _ _ _ _
    exact key _ _
theorem each_even (ns l : List Str) : eachS ns l % 2 = 0 := by
  have key : ∀ ps : List (Str × Str), (ps.map fun q => cyc (two q.1 q.2 l)).sum % 2 = 0 := by
    intro ps
    induction ps with
    | nil => rfl
    | cons q r ih =>
      rw [List.map_cons, List.sum_cons]
      have z := cyc_even (l := two q.1 q.2 l) fun c hc => (two_mem.mp hc).2
      omega
  exact key _
/-- from one row to another by swaps of neighbours: all even numbers between come -/
theorem between {ns : List Str} (nd : ns.Nodup) (so : sortedS ns = true) {t1 t2 : List Str} (p : t1.Perm t2) : ∀ pre : List Str, ∀ v : Nat, v % 2 = 0 →
    ((eachS ns (pre ++ t1) ≤ v ∧ v ≤ eachS ns (pre ++ t2)) ∨ (eachS ns (pre ++ t2) ≤ v ∧ v ≤ eachS ns (pre ++ t1))) → ∃ t, t.Perm t1 ∧ eachS ns (pre ++ t) = v := by
  induction p with
  | nil =>
    intro pre v _ h
    exact ⟨[], List.Perm.refl _, by omega⟩
  | cons x p ih =>
    intro pre v hv h
    have e : ∀ l : List Str, pre ++ x :: l = (pre ++ [x]) ++ l := fun l => by rw [List.append_assoc]; rfl
    rename_i l1 l2
    rw [e l1, e l2] at h
    obtain ⟨t, pt, et⟩ := ih (pre ++ [x]) v hv h
    exact ⟨x :: t, pt.cons x, by rw [e]; exact et⟩
  | swap x y l =>
    intro pre v hv h
    have a := each_swap nd so pre l y x
    have b := each_swap nd so pre l x y
    have c := each_even ns (pre ++ y :: x :: l)
    have d := each_even ns (pre ++ x :: y :: l)
    by_cases e : eachS ns (pre ++ y :: x :: l) = v
    · exact ⟨_, List.Perm.refl _, e⟩
    · exact ⟨x :: y :: l, List.Perm.swap y x l, by omega⟩
  | trans p1 p2 ih1 ih2 =>
    intro pre v hv h
    rename_i l1 l2 l3
    have z : ((eachS ns (pre ++ l1) ≤ v ∧ v ≤ eachS ns (pre ++ l2)) ∨ (eachS ns (pre ++ l2) ≤ v ∧ v ≤ eachS ns (pre ++ l1))) ∨
        ((eachS ns (pre ++ l2) ≤ v ∧ v ≤ eachS ns (pre ++ l3)) ∨ (eachS ns (pre ++ l3) ≤ v ∧ v ≤ eachS ns (pre ++ l2))) := by omega
    rcases z with z | z
    · exact ih1 pre v hv z
    · obtain ⟨t, pt, et⟩ := ih2 pre v hv z
      exact ⟨t, pt.trans p1.symm, et⟩
theorem flat_head (p : Str × Nat) (ps : List (Str × Nat)) (h : 0 < p.2) : ∃ t, flat (p :: ps) = p.1 :: t := by
  obtain ⟨k, e⟩ : ∃ k, p.2 = k + 1 := ⟨p.2 - 1, by omega⟩
  refine ⟨List.replicate k p.1 ++ flat ps, ?_⟩
  show List.replicate p.2 p.1 ++ flat ps = _
  rw [e]
  rfl
theorem most_head (p : Str × Nat) (ps : List (Str × Nat)) (h : 0 < p.2) : ∃ t, mostM (p :: ps) = p.1 :: t := by
  obtain ⟨k, e⟩ : ∃ k, topW (p :: ps) = k + 1 := ⟨topW (p :: ps) - 1, by have := le_top (ws := p :: ps) (p := p) List.mem_cons_self; omega⟩
  unfold mostM mostT
  rw [e, List.range_succ_eq_map, List.flatMap_cons, round_cons, if_pos h]
  exact ⟨_, rfl⟩
theorem mem_evens {i j v : Nat} : v ∈ evens i j ↔ ∃ t, v = i + 2 * t ∧ v < j := by
  unfold evens nEv
  rw [List.mem_map]
  constructor
  · rintro ⟨t, ht, rfl⟩
    rw [List.mem_range] at ht
    refine ⟨t, rfl, ?_⟩
    split at ht <;> omega
  · rintro ⟨t, rfl, h⟩
    refine ⟨t, List.mem_range.mpr ?_, rfl⟩
    rw [if_pos (by omega)]
    omega
/-- all days that begin with the first book: what they lift -/
theorem all_amounts {ws : List (Str × Nat)} (ok : WOk ws) {p : Str × Nat} {ps : List (Str × Nat)} (e : ws = p :: ps) (v : Nat) :
    (∃ r, r.Perm (flat ws) ∧ (∃ t, r = p.1 :: t) ∧ eachV (wnames ws) r = v) ↔ v ∈ evens (eachV (wnames ws) (flat ws)) (eachV (wnames ws) (mostM ws) + 1) := by
  have nd := ok.nd
  have so := ok.so
  have p0 : 0 < p.2 := ok.pos p (by rw [e]; exact List.mem_cons_self)
  have any : ∀ r : List Str, r.Perm (flat ws) → eachV (wnames ws) r = eachS (wnames ws) r := fun r pr => each_eq nd so (fun b hb => flat_mem (pr.mem_iff.mp hb)) (fun b hb => pr.mem_iff.mpr (mem_flat ok.pos hb))
  have ev := each_even (wnames ws) (flat ws)
  rw [mem_evens, any _ (List.Perm.refl _), any _ (most_flat ws)]
  constructor
  · rintro ⟨r, pr, _, rfl⟩
    rw [any r pr]
    have lo : eachS (wnames ws) (flat ws) ≤ eachS (wnames ws) r := sum_le fun q hq => by
      rw [ok.leastC hq]
      exact (ok.dayC pr hq).1
    have hi : eachS (wnames ws) r ≤ eachS (wnames ws) (mostM ws) := sum_le fun q hq => (ok.dayC pr hq).2.1
    have er := each_even (wnames ws) r
    exact ⟨(eachS (wnames ws) r - eachS (wnames ws) (flat ws)) / 2, by omega, by omega⟩
  · rintro ⟨t, rfl, ht⟩
    obtain ⟨t1, e1⟩ := flat_head p ps p0
    obtain ⟨t2, e2⟩ := most_head p ps p0
    rw [← e] at e1 e2
    have pt : t1.Perm t2 := by
      have z := (most_flat ws).symm
      rw [e1, e2] at z
      exact z.cons_inv
    obtain ⟨u, pu, eu⟩ := between nd so pt [p.1] (eachS (wnames ws) (flat ws) + 2 * t) (by omega) (.inl (by
      show eachS _ (p.1 :: t1) ≤ _ ∧ _ ≤ eachS _ (p.1 :: t2)
      rw [← e1, ← e2]
      omega))
    have pr : (p.1 :: u).Perm (flat ws) := by
      rw [e1]
      exact pu.cons _
    exact ⟨p.1 :: u, pr, ⟨u, rfl⟩, by rw [any _ pr]; exact eu⟩
theorem prs_count : ∀ ys : List Str, 2 * (prs ys ys.length).length + ys.length = ys.length * ys.length := by
  have key : ∀ zs : List Str, 2 * (prs zs.reverse zs.reverse.length).length + zs.reverse.length = zs.reverse.length * zs.reverse.length := by
    intro zs
    induction zs with
    | nil => rfl
    | cons z r ih =>
      rw [List.reverse_cons]
      have e := prs_more (fun _ => 1) r.reverse z
      have c : ∀ l : List (Str × Str), (l.map fun _ => 1).sum = l.length := fun l => by
        induction l with
        | nil => rfl
        | cons x t ih =>
          rw [List.map_cons, List.sum_cons, ih, List.length_cons]
          omega
      have c2 : ∀ l : List Str, (l.map fun _ => 1).sum = l.length := fun l => by
        induction l with
        | nil => rfl
        | cons x t ih =>
          rw [List.map_cons, List.sum_cons, ih, List.length_cons]
          omega
      rw [c, c, c2] at e
      rw [e, List.length_append]
      show 2 * (_ + _) + (_ + 1) = (_ + 1) * (_ + 1)
      rw [Nat.mul_add, Nat.add_mul, Nat.mul_add (r.reverse.length), Nat.mul_one, Nat.one_mul]
      generalize r.reverse.length * r.reverse.length = s at ih ⊢
      omega
  intro ys
  have z := key ys.reverse
  rw [List.reverse_reverse] at z
  exact z
end Lt

set_option Elab.async false
set_option linter.all false
set_option maxRecDepth 100000
set_option maxHeartbeats 4000000
/-! max(d), the keys of d whole numbers -/
namespace Lt
open PySem PySem.Spec PyProof.Rows L2
section
variable {X : Cx}
def rMaxK : List V → Hp → VK → Prop := fun xs H Q => ∃ (d : Addr) (kvs : List (Key × V)) (js : List Int), xs = [.ref d] ∧ H d = some (.dK kvs) ∧ kvs.map (fun z => z.1) = js.map Sum.inl ∧ 0 < js.length ∧ ∀ m : Int, m ∈ js → (∀ j ∈ js, j ≤ m) → Q (.int m) H
theorem cr_maxK (calm : X.calm = true) : CallR X (.builtin "max") rMaxK := by
  rintro pins s σ H xs us Q I rel ⟨d, kvs, js, rfl, hd, keys, some_, q⟩
  rw [Vals.ref1 rel]
  obtain ⟨_, low, es, kv, dof⟩ := dk_of I.hok hd
  obtain ⟨ep, at_⟩ := dof.dictAt
  have here : d < s.heap.objs.size := at_.lt_size
  have same : es.map (fun z => z.1) = js.map Sum.inl := Eq.trans (Eq.symm (KV.keys kv)) keys
  have many : es.length = js.length := by
    have z := congrArg List.length same
    rwa [List.length_map, List.length_map] at z
  have nth : ∀ (i : Nat) (u : Value), (∃ k x, es[i]? = some (k, x) ∧ (mixKind X.prog X.w).is k u = true) → ∃ t, u = .int (js.getD i 0) t := by
    rintro i u ⟨k, x, e, isK⟩
    have z : (es.map fun z => z.1)[i]? = some k := by
      rw [List.getElem?_map, e]
      rfl
    rw [same, List.getElem?_map] at z
    cases ej : js[i]? with
    | none =>
      rw [ej] at z
      cases z
    | some j =>
      rw [ej] at z
      cases z
      obtain ⟨t, rfl⟩ := Value.isInt_shape (show Value.isInt j u = true from isK)
      refine ⟨t, ?_⟩
      rw [List.getD_eq_getElem?_getD, ej]
      rfl
  have best := argBest_gt (fun i => js.getD i 0) (es.length - 1)
  refine call_max_walk (wpAny_pyIter_dict (knd := mixKind X.prog X.w) low at_ ⟨_, _, _, _, _, _, _, rfl, Walks.dictKeys (A := X.A.in1) (knd := mixKind X.prog X.w) (I.ok.hd calm) _ d (Nat.ne_of_lt here) es ep, ⟨⟨_, Heap.get?_push_size _ rfl, rfl, rfl⟩, at_.push _⟩,
    ?_, by omega, CmpOf.ints_gt (fun i => js.getD i 0) nth, ?_⟩)
  · intro b hb
    show b < (s.heap.push _).objs.size
    have z := Heap.size_push s.heap
    rw [z]
    rcases List.mem_cons.mp hb with hb | hb
    · subst hb
      exact Nat.lt_succ_self _
    · obtain rfl := List.mem_singleton.mp hb
      exact Nat.lt_trans here (Nat.lt_succ_self _)
  · intro u h' tk hu stay
    obtain ⟨t, rfl⟩ := nth _ u hu
    refine ⟨.int _, H, I.kept (t' := tk) (fun b o e => stay b o (fun z => ?_) (Heap.get?_push_of_some _ e)), ⟨t, rfl⟩, q _ ?_ fun j hj => ?_⟩
    · obtain rfl := List.mem_singleton.mp z
      exact Nat.lt_irrefl _ (Heap.lt_size e)
    · have lt : argBest (fun i j => decide (js.getD i 0 > js.getD j 0)) (es.length - 1) < js.length := by
        have := best.1
        omega
      rw [List.getD_eq_getElem?_getD, List.getElem?_eq_getElem lt]
      exact List.getElem_mem lt
    · obtain ⟨i, hi, rfl⟩ := List.mem_iff_getElem.mp hj
      have z := best.2 i (by omega)
      rwa [List.getD_eq_getElem?_getD, List.getElem?_eq_getElem hi] at z
end
end Lt

set_option Elab.async false
set_option linter.all false
set_option maxRecDepth 100000
set_option maxHeartbeats 4000000
namespace Lt
open PySem PySem.Spec PyProof.Rows L2
section
variable {P : Program} {w : World} {K : PySem.W.Frag} {mg : Str → Option Value} {base : Heap} {X : Cx}
def top (i : Nat) : Stmt := PySem.Challenge.pw_laidontop_k06_whole_the_least_and_all_be.main.body.getD i (.Pass ⟨0, 0, 0, 0⟩)
abbrev sBehind : Stmt := top 1
abbrev sLifted : Stmt := top 2
abbrev sLaid : Stmt := top 3
abbrev sEach : Stmt := top 5
abbrev sSettled : Stmt := top 6
abbrev sMost : Stmt := top 8
abbrev sLeast : Stmt := top 9
abbrev sAmounts : Stmt := top 10
abbrev sMostDay : Stmt := top 11
abbrev sLeastDay : Stmt := top 12
abbrev sDraw : Stmt := top 14
abbrev sLike : Stmt := top 15
abbrev sOrder : Stmt := top 16
abbrev sBooks : Stmt := top 17
abbrev sWants : Stmt := top 18
abbrev sDay : Stmt := top 19
abbrev sRead : Stmt := top 20
abbrev sTwo : Stmt := top 21
abbrev sLater : Stmt := top 22
abbrev sDays : Stmt := top 23
abbrev sRows : Stmt := top 24
abbrev sLaw : Stmt := top 25
theorem scDraw : FnScope ["tape", "many", "prime", "cell", "found"] ["tape", "many"] (defScope sDraw) := ⟨rfl, rfl, rfl, by decide +kernel, rfl, by decide +kernel, by decide +kernel⟩
theorem ok_draw {f : Addr} {fd : FuncData} (F : Fun K "_law_draw" "_law_draw" sDraw f fd) (ml : mg "len" = none) : FnOk P w K mg base CX0 1 f fd ["tape", "many"] spDraw := by
  refine F.ok scDraw (fun vs H Q E h => ?_) (fun cdv A outer s H vs Q E hr h => ?_)
  · obtain ⟨T, S, ns, m, rfl, _⟩ := h
    rfl
  obtain ⟨T, S, ns, m, rfl, tp, m0, m1, q⟩ := h
  obtain ⟨i, c, hT⟩ := tp.at_
  have hS := tp.scr
  refine ⟨_, pss_cons (ps_set (i := 2) scDraw.nd rfl (.inl rfl) pe_int)
    (Evl.pss_cut (ps_if (pt_cmpR op_lt (pe_ix ix_list (pv 0) pe_int (fun _ _ => rfl)) (pv 1) (nomark _))
      (pss_cons (ps_set (i := 3) scDraw.nd rfl (.inl rfl) pe_int)
      (Evl.pss_cut (ps_if (pt_cmpR op_gt (pe_callB call_len_seq (by rfl) ml PySem.boot_len (pa_cons (pe_ix ix_list (pv 0) pe_int (fun _ _ => rfl)) pa_nil)) pe_int (nomark _))
        (pss_one (ps_set (i := 3) scDraw.nd rfl (.inl rfl) (pe_ix ix_list (pe_ix ix_list (pv 0) pe_int (fun _ _ => rfl))
          (pe_op op_mod (pe_ix ix_list (pv 0) pe_int (fun _ _ => rfl)) (pe_callB call_len_seq (by rfl) ml PySem.boot_len (pa_cons (pe_ix ix_list (pv 0) pe_int (fun _ _ => rfl)) pa_nil))) (fun _ _ => rfl)))) pss_nil)
      (Evl.pss_cut (ps_if (PW.pt (pw_or (pt_cmpR op_ge (pe_ix ix_list (pv 0) pe_int (fun _ _ => rfl)) (pe_callB call_len_seq (by rfl) ml PySem.boot_len (pa_cons (pe_ix ix_list (pv 0) pe_int (fun _ _ => rfl)) pa_nil)) (nomark _))
          (pw_or1 (pt_cmpR op_lt (pv 3) (pe_op op_pow pe_int pe_int) (nomark _)))))
        (pss_cons (ps_set (i := 3) scDraw.nd rfl (.inl rfl) (pe_op op_mod (pe_op op_add (pv 3) (pe_op op_mul pe_int (pe_ix ix_list (pv 0) pe_int (fun _ _ => rfl)))) (pv 2)))
        (pss_cons (ps_set (i := 3) scDraw.nd rfl (.inl rfl) (pe_op op_mod (pe_op op_add (pe_op op_add (pe_op op_mul (pv 3) (pv 3)) (pe_op op_mul pe_int (pv 3))) pe_int) (pv 2)))
        (pss_one (ps_set (i := 3) scDraw.nd rfl (.inl rfl) (pe_op op_mod (pe_op op_add (pe_op op_mul (pv 3) (pv 3)) pe_int) (pv 2)))))) pss_nil)
      (pss_cons (ps_asg (pe_op op_add (pe_ix ix_list (pv 0) pe_int (fun _ _ => rfl)) pe_int) (pg_sub (pv 0) pe_int set_list))
      (pss_one (ps_asg (pv 3) (pg_sub (pv 0) pe_int set_list))))))) pss_nil)
    (pss_cons (ps_set (i := 4) scDraw.nd rfl (.inl rfl) (pe_op op_mod (pe_ix ix_list (pv 0) pe_int (fun _ _ => rfl)) (pv 1)))
    (pss_cons (ps_asg (pe_op op_fdivW (pe_ix ix_list (pv 0) pe_int (fun _ _ => rfl)) (pv 1)) (pg_sub (pv 0) pe_int set_list))
    (pss_one (ps_ret (pv 4)))))), ?_⟩
  have lenE : ((ns.map V.int).length : Int) = ns.length := by rw [List.length_map]
  refine ⟨fun σ H' => ∃ (y3 : Option V) (i' c' : Int), σ = [some (.ref T), some (.int m), some (.int 2305843009213693951), y3, none] ∧ H' = upd H T (.lst [.ref S, .int i', .int c']), ?_, ?_⟩
  · refine ⟨_, rfl, T, _, 2, _, rfl, rfl, sql hT, rfl, _, rfl, _, _, rfl, rfl, _, rfl, ite2 (fun _ => ?_) (fun _ => ?_)⟩
    · -- the cell
      refine ⟨fun σ H' => ∃ c0 : Int, σ = [some (.ref T), some (.int m), some (.int 2305843009213693951), some (.int c0), none] ∧ H' = H, ?_, ?_⟩
      · refine ⟨_, rfl, T, _, 0, _, rfl, rfl, sql hT, rfl, S, _, rfl, .inl (sql hS), _, _, rfl, rfl, _, rfl, ite2 (fun g => ?_) (fun _ => ?_)⟩
        · have g1 : (0 : Int) < ((ns.map V.int).length : Int) := of_decide_eq_true g
          rw [lenE] at g1
          have e0 : 0 ≤ i % (ns.length : Int) := Int.emod_nonneg _ (by omega)
          have e1 : i % (ns.length : Int) < (ns.length : Int) := Int.emod_lt_of_pos _ g1
          have hk : (i % (ns.length : Int)).toNat < ns.length := by omega
          refine ⟨_, rfl, T, _, 0, _, rfl, rfl, sql hT, rfl, _, rfl, T, _, 1, _, rfl, rfl, sql hT, rfl, _, rfl, T, _, 0, _, rfl, rfl, sql hT, rfl, S, _, rfl, .inl (sql hS), _, _, rfl, rfl, ?_, S, _, _, .int ns[(i % (ns.length : Int)).toNat], rfl, rfl, sql hS, ?_, ?_⟩
          · show (0 : Int) < ((ns.map V.int).length : Int)
            rw [lenE]
            exact g1
          · show atI (ns.map V.int) (i % ((ns.map V.int).length : Int)) = _
            rw [lenE]
            exact at_of (j := (i % (ns.length : Int)).toNat) (by omega) (by rw [List.getElem?_map, List.getElem?_eq_getElem hk]; rfl)
          · exact ⟨_, rfl, rfl⟩
        · exact ⟨_, rfl, rfl⟩
      · rintro σ' H' ⟨c0, rfl, rfl⟩
        refine ⟨fun σ H2 => ∃ c1 : Int, σ = [some (.ref T), some (.int m), some (.int 2305843009213693951), some (.int c1), none] ∧ H2 = H', ?_, ?_⟩
        · refine ⟨_, rfl, T, _, 1, _, rfl, rfl, sql hT, rfl, _, rfl, T, _, 0, _, rfl, rfl, sql hT, rfl, S, _, rfl, .inl (sql hS), _, _, rfl, rfl, _, rfl, ?_⟩
          have near : ∀ x : Int, -(2 ^ 64) < x % 2305843009213693951 ∧ x % 2305843009213693951 < 2 ^ 64 := fun x => by
            have a1 := Int.emod_nonneg x (b := 2305843009213693951) (by decide)
            have a2 := Int.emod_lt_of_pos x (b := 2305843009213693951) (by decide)
            omega
          refine ite2 (fun _ => ?_) (fun _ => ⟨_, rfl, _, _, rfl, rfl, ⟨by decide, by decide, by decide⟩, _, _, rfl, rfl, _, rfl, ite2 (fun _ => ?_) (fun _ => ?_)⟩)
          · refine iteT ⟨_, rfl, _, rfl, T, _, 1, _, rfl, rfl, sql hT, rfl, _, _, rfl, rfl, .inl ⟨by decide, by decide⟩, _, _, rfl, rfl, _, rfl, _, _, rfl, rfl, (by decide : (0 : Int) < 2305843009213693951), ?_⟩
            refine ⟨_, rfl, _, rfl, _, _, rfl, rfl, .inl (near _), _, rfl, _, _, rfl, rfl, .inl ⟨by decide, by decide⟩, _, _, rfl, rfl, _, _, rfl, rfl, _, rfl, _, _, rfl, rfl, (by decide : (0 : Int) < 2305843009213693951), ?_⟩
            refine ⟨_, rfl, _, rfl, _, _, rfl, rfl, .inl (near _), _, _, rfl, rfl, _, rfl, _, _, rfl, rfl, (by decide : (0 : Int) < 2305843009213693951), ?_⟩
            exact ⟨_, rfl, rfl⟩
          · refine ⟨_, rfl, _, rfl, T, _, 1, _, rfl, rfl, sql hT, rfl, _, _, rfl, rfl, .inl ⟨by decide, by decide⟩, _, _, rfl, rfl, _, rfl, _, _, rfl, rfl, (by decide : (0 : Int) < 2305843009213693951), ?_⟩
            refine ⟨_, rfl, _, rfl, _, _, rfl, rfl, .inl (near _), _, rfl, _, _, rfl, rfl, .inl ⟨by decide, by decide⟩, _, _, rfl, rfl, _, _, rfl, rfl, _, rfl, _, _, rfl, rfl, (by decide : (0 : Int) < 2305843009213693951), ?_⟩
            refine ⟨_, rfl, _, rfl, _, _, rfl, rfl, .inl (near _), _, _, rfl, rfl, _, rfl, _, _, rfl, rfl, (by decide : (0 : Int) < 2305843009213693951), ?_⟩
            exact ⟨_, rfl, rfl⟩
          · exact ⟨_, rfl, rfl⟩
        · rintro σ' H2 ⟨c1, rfl, rfl⟩
          refine ⟨_, rfl, T, _, 1, _, rfl, rfl, sql hT, rfl, _, _, rfl, rfl, _, rfl, T, _, 1, 1, rfl, rfl, hT, rfl, ?_⟩
          refine ⟨_, rfl, _, rfl, T, _, 2, 2, rfl, rfl, upd_same, rfl, ?_⟩
          exact ⟨_, _, _, rfl, by rw [upd_upd]; rfl⟩
    · exact ⟨none, i, c, rfl, (upd_self hT).symm⟩
  · rintro σ' H' ⟨y3, i', c', rfl, rfl⟩
    refine ⟨_, rfl, T, _, 2, _, rfl, rfl, sql upd_same, rfl, _, rfl, _, _, rfl, rfl, m0, ?_⟩
    refine ⟨_, rfl, T, _, 2, _, rfl, rfl, sql upd_same, rfl, _, rfl, _, _, rfl, rfl, ⟨by omega, log_of m0 m1⟩, _, rfl, T, _, 2, 2, rfl, rfl, upd_same, rfl, ?_⟩
    refine ⟨_, rfl, ?_⟩
    rw [upd_upd]
    exact q _ _ _ (Int.emod_nonneg _ (by omega)) (Int.emod_lt_of_pos _ m0)
theorem scOrder : FnScope ["tape", "many", "found", "k"] ["tape", "many"] (defScope sOrder) := ⟨rfl, rfl, rfl, by decide +kernel, rfl, by decide +kernel, by decide +kernel⟩
theorem ok_order {f : Addr} {fd : FuncData} (F : Fun K "_law_any_order" "_law_any_order" sOrder f fd) (B : Bi mg) (cD : Has P w K mg base 1 "_law_draw" ["tape", "many"] spDraw) :
    FnOk P w K mg base CX0 2 f fd ["tape", "many"] spOrder := by
  refine F.ok scOrder (fun vs H Q E h => ?_) (fun cdv A outer s H vs Q E hr h => ?_)
  · obtain ⟨T, S, ns, m, rfl, _⟩ := h
    rfl
  obtain ⟨T, S, ns, n, rfl, tp, n1, q⟩ := h
  refine ⟨_, pss_cons (ps_set (i := 2) scOrder.nd rfl (.inl rfl) (pe_lst pa_nil))
    (pss_cons (ps_for PassesOwn.never rfl (pi_range1 (by rfl) B.range (pa_cons (pv 1) pa_nil)) (pg_name (i := 3) scOrder.nd rfl (.inl rfl))
      (pss_one (ps_expr (pe_bm PySem.F.plainAttrs_list PySem.F.slot_list_insert PySem.F.type_list_insert mt_insert (pv 2)
        (pa_cons (pe_go cD hr (Nat.le_refl _) rfl (pa_cons (pv 0) (pa_cons (pe_op op_add (pv 3) pe_int) pa_nil))) (pa_cons (pv 3) pa_nil))))))
    (pss_one (ps_ret (pe_callTy call_tuple_of (by rfl) B.tuple (by decide +kernel) (pa_cons (pv 2) pa_nil))))), ?_⟩
  refine ⟨Nat.zero_le _, fun L hL => ?_⟩
  obtain ⟨oT, hT⟩ := tp.taken
  have nLT : L ≠ T := new_ne hT hL
  refine ⟨_, rfl, (n : Int), rfl, by omega, by omega, for_range (lo := 0) (n := (n : Int).toNat) (fun i σ H' => ∃ (y3 : Option V) (qs : List Nat), σ = [some (.ref T), some (.int n), some (.ref L), y3] ∧ SameT T H H' ∧ Tape H' T S ns ∧ H' L = some (.lst (qs.map natV)) ∧ qs.Perm (List.range i))
    ⟨none, [], rfl, SameT.of (same_new hL _), tp.same (same_new hL _), upd_same, List.Perm.refl _⟩ ?_ ?_⟩
  · rintro i σ H' hi ⟨y3, qs, rfl, sm, tp', hL', pm⟩
    have lq : qs.length = i := by rw [pm.length_eq, List.length_range]
    have hi' : i < n := by omega
    refine ⟨_, rfl, .inl ⟨rfl, _, sql hL'⟩, _, rfl, _, rfl, _, _, rfl, rfl, T, S, ns, _, rfl, tp', by omega, by omega, fun r a c r0 r1 => ?_⟩
    have hL2 : upd H' T (.lst [.ref S, .int a, .int c]) L = some (.lst (qs.map natV)) := by
      rw [upd_ne nLT]
      exact hL'
    refine ⟨_, rfl, L, _, r, _, rfl, rfl, hL2, ?_, r0, by omega, ?_⟩
    · rw [List.length_map, lq]
      exact small1000 (by omega)
    · refine ⟨_, qs.take r.toNat ++ [i] ++ qs.drop r.toNat, rfl, fun b o nb hb => ?_, ?_, ?_, ?_⟩
      · rw [upd_ne (ne_of_none hb hL)]
        exact sameT_put _ b o nb (sm b o nb hb)
      · have t2 := tp'.put a c
        obtain ⟨x1, x2, t3⟩ := t2.at_
        refine ⟨⟨x1, x2, by rw [upd_ne nLT.symm]; exact t3⟩, ?_⟩
        rw [upd_ne (ne_of_none tp.scr hL)]
        exact t2.scr
      · rw [upd_same, List.map_append, List.map_append, List.map_take, List.map_drop, List.map_singleton]
        rw [show natV i = V.int (0 + (i : Int)) by rw [Int.zero_add]]
      · rw [List.range_succ]
        have e : (qs.take r.toNat ++ [i] ++ qs.drop r.toNat).Perm (qs.take r.toNat ++ qs.drop r.toNat ++ [i]) := by
          rw [List.append_assoc, List.append_assoc]
          exact List.Perm.append_left _ List.perm_append_comm
        rw [List.take_append_drop] at e
        exact e.trans (pm.append_right _)
  · rintro σ H' ⟨y3, qs, rfl, sm, tp', hL', pm⟩
    refine ⟨_, rfl, L, _, rfl, .inl ⟨sql hL', fun p hp => ?_⟩⟩
    have np : H p = none := by
      refine sm.free ?_ hp
      obtain ⟨o2, h2⟩ := tp'.taken
      exact new_ne h2 hp
    rw [Int.toNat_natCast] at pm
    exact q p _ qs (sm.trans (SameT.of (same_new hp _))) (tp'.same (same_new hp _)) np upd_same pm
theorem scBooks : FnScope [] [] (defScope sBooks) := ⟨rfl, rfl, rfl, by decide +kernel, rfl, by decide +kernel, by decide +kernel⟩
theorem ok_books {f : Addr} {fd : FuncData} (F : Fun K "_law_books" "_law_books" sBooks f fd) : FnOk P w K mg base CX0 1 f fd [] spBooks := by
  refine F.ok scBooks (fun vs H Q E h => ?_) (fun cdv A outer s H vs Q E hr h => ?_)
  · obtain ⟨rfl, _⟩ := h
    rfl
  obtain ⟨rfl, q⟩ := h
  refine ⟨_, pss_one (ps_ret (pe_lst (pa_cons pe_str (pa_cons pe_str (pa_cons pe_str (pa_cons pe_str (pa_cons pe_str (pa_cons pe_str (pa_cons pe_str pa_nil))))))))), ?_⟩
  exact ⟨(by show 7 ≤ sizeLine; decide), fun p hp => q p hp⟩
theorem scLike : FnScope ["one", "two", "k"] ["one", "two"] (defScope sLike) := ⟨rfl, rfl, rfl, by decide +kernel, rfl, by decide +kernel, by decide +kernel⟩
theorem like_step {f : Addr} {fd : FuncData} {n : Nat} (F : Fun K "_law_like" "_law_like" sLike f fd) (B : Bi mg) (cI : Has P w K mg base n "_law_like" ["one", "two"] (spLike K n)) :
    FnOk P w K mg base CX0 (n + 1) f fd ["one", "two"] (spLike K (n + 1)) := by
  refine F.ok scLike (fun vs H Q E h => ?_) (fun cdv A outer s H vs Q E hr h => ?_)
  · obtain ⟨v1, v2, d, m, _, rfl, _⟩ := h
    rfl
  obtain ⟨v1, v2, d, m, hn, rfl, h1, h2, fine, q⟩ := h
  cases hn
  refine ⟨_, pss_cons (ps_if (pt_val (pe_callB call_isiT (by rfl) B.isinstance (by decide +kernel) (pa_cons (pv 0) (pa_cons (pe_tup (pa_cons (pe_bltn (v := .ty "list") (by rfl) B.list (by decide +kernel) rfl) (pa_cons (pe_bltn (v := .ty "tuple") (by rfl) B.tuple (by decide +kernel) rfl) pa_nil))) pa_nil))))
      (pss_cons (ps_if (PW.pt (pw_or (pt_cmpR op_ne (pe_callB call_isi (by rfl) B.isinstance (by decide +kernel) (pa_cons (pv 0) (pa_cons (pe_bltn (v := .ty "list") (by rfl) B.list (by decide +kernel) rfl) pa_nil)))
            (pe_callB call_isi (by rfl) B.isinstance (by decide +kernel) (pa_cons (pv 1) (pa_cons (pe_bltn (v := .ty "list") (by rfl) B.list (by decide +kernel) rfl) pa_nil))) (nomark _))
          (pw_or1 (pt_cmpR op_ne (pe_callB call_isi (by rfl) B.isinstance (by decide +kernel) (pa_cons (pv 0) (pa_cons (pe_bltn (v := .ty "tuple") (by rfl) B.tuple (by decide +kernel) rfl) pa_nil)))
            (pe_callB call_isi (by rfl) B.isinstance (by decide +kernel) (pa_cons (pv 1) (pa_cons (pe_bltn (v := .ty "tuple") (by rfl) B.tuple (by decide +kernel) rfl) pa_nil))) (nomark _))))) (pss_one (ps_ret pe_bl)) pss_nil)
      (pss_cons (ps_if (pt_cmpR op_ne (pe_callB call_len_seq (by rfl) B.len PySem.boot_len (pa_cons (pv 0) pa_nil)) (pe_callB call_len_seq (by rfl) B.len PySem.boot_len (pa_cons (pv 1) pa_nil)) (nomark _)) (pss_one (ps_ret pe_bl)) pss_nil)
      (pss_one (ps_ret (pe_cmpR (op_eqD hr.units) (pe_lc (own := [("k", 2)]) (g := gName 2) (tt := tNot (tB (tCall (spLike K n) [] E0 (tCons (tOp (rIx K) (tVar 0) (tVar 2)) (tCons (tOp (rIx K) (tVar 1) (tVar 2)) tNil)))))
          (by rfl) scLike.nd (pi_range1 (by rfl) B.range (pa_cons (pe_callB call_len_seq (by rfl) B.len PySem.boot_len (pa_cons (pv 0) pa_nil)) pa_nil)) (blkOk_by (own := [("k", 2)]) (N := ["one", "two", "k"]) (sc := defScope sLike) (by decide +kernel))
          (fun _ _ _ _ _ => pg_name (i := 2) scLike.nd rfl (.inl rfl))
          (fun _ _ _ _ _ => pts_one (pt_not (pt_val (pe_go cI hr (Nat.le_refl _) rfl (pa_cons (pe_ix (ixS (K := K) rfl) (pv 0) (pv 2) (fun _ _ => rfl)) (pa_cons (pe_ix (ixS (K := K) rfl) (pv 1) (pv 2) (fun _ _ => rfl)) pa_nil))))))
          (fun _ _ _ _ _ => pv 2)) (pe_lst pa_nil) (nomark _)))))) pss_nil)
    (pss_cons (ps_if (pt_val (pe_callB call_isiT (by rfl) B.isinstance (by decide +kernel) (pa_cons (pv 1) (pa_cons (pe_tup (pa_cons (pe_bltn (v := .ty "list") (by rfl) B.list (by decide +kernel) rfl) (pa_cons (pe_bltn (v := .ty "tuple") (by rfl) B.tuple (by decide +kernel) rfl) pa_nil))) pa_nil)))) (pss_one (ps_ret pe_bl)) pss_nil)
    (pss_one (ps_ret (pe_and (pe_cmpR op_eq (pe_callB call_isi (by rfl) B.isinstance (by decide +kernel) (pa_cons (pv 0) (pa_cons (pe_bltn (v := .ty "bool") (by rfl) B.bool (by decide +kernel) rfl) pa_nil)))
        (pe_callB call_isi (by rfl) B.isinstance (by decide +kernel) (pa_cons (pv 1) (pa_cons (pe_bltn (v := .ty "bool") (by rfl) B.bool (by decide +kernel) rfl) pa_nil))) (nomark _)) (pe_one (pe_cmpR (op_eqD hr.units) (pv 0) (pv 1) (nomark _))))))), ?_⟩
  have cls2 : Paired ClsV [V.ty "list", V.ty "tuple"] [Value.type "list", Value.type "tuple"] := .cons (.ty _) (.cons (.ty _) .nil)
  have kinds : (∃ (T : String) (bl : Bool), (∀ H', Same H H' → TyX K H' v1 (.type T) ∧ TyX K H' v2 (.type T)) ∧ kitB T "list" = some false ∧ kitB T "tuple" = some false ∧ kitB T "bool" = some bl ∧ SeqAt.shaped d = true ∧ PyData.eqv d d = true) ∨
      ∃ (T : String) (l : Bool) (a b : Addr) (xs ys : List V) (ds : List PyData) (m : Nat), (∀ H', Same H H' → TyX K H' v1 (.type T) ∧ TyX K H' v2 (.type T)) ∧ kitB T "list" = some l ∧ kitB T "tuple" = some (!l) ∧ v1 = .ref a ∧ v2 = .ref b ∧
        (∀ H', Same H H' → SqL K H' a xs ∨ SqT K H' a xs) ∧ (∀ H', Same H H' → SqL K H' b ys ∨ SqT K H' b ys) ∧ DpAll K H xs ds ∧ DpAll K H ys ds ∧ ds.length ≤ 1000 ∧ n = m + 1 ∧ ∀ d ∈ ds, Fine m d := by
    have both : ∀ H', Same H H' → TyX K H' v1 (.type (kindName d)) ∧ TyX K H' v2 (.type (kindName d)) := fun H' s' => ⟨ty_dp (dp_same s' h1), ty_dp (dp_same s' h2)⟩
    cases d with
    | none => exact .inl ⟨"NoneType", false, both, by decide +kernel, by decide +kernel, by decide +kernel, by decide +kernel, by simp [PyData.eqv]⟩
    | bool b => exact .inl ⟨"bool", true, both, by decide +kernel, by decide +kernel, by decide +kernel, shaped_of (by simp [PyData.canLay0]) (by simp [PyData.depth]), by simp [PyData.eqv]⟩
    | int i => exact .inl ⟨"int", false, both, by decide +kernel, by decide +kernel, by decide +kernel, shaped_of (by simp [PyData.canLay0]) (by simp [PyData.depth]), by simp [PyData.eqv]⟩
    | str x =>
      have fx : PyData.strOk x = true := by
        cases n <;> exact fine
      exact .inl ⟨"str", false, both, by decide +kernel, by decide +kernel, by decide +kernel, shaped_of (by simp [PyData.canLay0, fx]) (by simp [PyData.depth]), by simp [PyData.eqv]⟩
    | dict kvs => cases h1
    | list ds =>
      cases n with
      | zero => exact fine.elim
      | succ m =>
        cases h1 with
        | lst g1 a1 =>
          cases h2 with
          | lst g2 a2 => exact .inr ⟨"list", true, _, _, _, _, ds, m, both, by decide +kernel, by decide +kernel, rfl, rfl, fun H' s' => .inl (s'.seq g1), fun H' s' => .inl (s'.seq g2), a1, a2, fine.1, rfl, fine.2⟩
    | tuple ds =>
      cases n with
      | zero => exact fine.elim
      | succ m =>
        cases h1 with
        | tup g1 a1 =>
          cases h2 with
          | tup g2 a2 => exact .inr ⟨"tuple", false, _, _, _, _, ds, m, both, by decide +kernel, by decide +kernel, rfl, rfl, fun H' s' => .inr (same_tup s' g1), fun H' s' => .inr (same_tup s' g2), a1, a2, fine.1, rfl, fine.2⟩
  rcases kinds with ⟨T, bl, ty, k1, k2, kb, sh, ev⟩ | ⟨T, l, a, b, xs, ys, ds, m, ty, k1, k2, rfl, rfl, sa, sb, da, db, hl, rfl, fd'⟩
  · refine ⟨_, rfl, (by show 2 ≤ sizeLine; decide), fun tp htp => ?_⟩
    have s1 := same_new htp (.tup [V.ty "list", V.ty "tuple"])
    refine ⟨v1, tp, _, _, _, false, rfl, upd_same, cls2, (ty _ s1).1, kit_no k1 (kit_no k2 rfl), _, rfl, ?_⟩
    refine ⟨_, rfl, (by show 2 ≤ sizeLine; decide), fun tp2 htp2 => ?_⟩
    have s2 := s1.trans (same_new htp2 (.tup [V.ty "list", V.ty "tuple"]))
    refine ⟨v2, tp2, _, _, _, false, rfl, upd_same, cls2, (ty _ s2).2, kit_no k1 (kit_no k2 rfl), _, rfl, ?_⟩
    refine ⟨_, rfl, v1, _, _, _, bl, rfl, .ty _, (ty _ s2).1, kit_ty kb, _, rfl, v2, _, _, _, bl, rfl, .ty _, (ty _ s2).2, kit_ty kb, rfl, true, ?_, ?_⟩
    · rw [decide_eq_true rfl]
    · refine ⟨_, rfl, _, rfl, d, d, dp_same s2 h1, dp_same s2 h2, sh, sh, ?_⟩
      rw [ev]
      exact q _ s2
  · have lx := dpAll_len da
    have ly := dpAll_len db
    refine ⟨_, rfl, (by show 2 ≤ sizeLine; decide), fun tp htp => ?_⟩
    have s1 := same_new htp (.tup [V.ty "list", V.ty "tuple"])
    have anyT : PySem.W.kitAny K (.type T) [Value.type "list", Value.type "tuple"] = some true := by
      cases l with
      | true => exact kit_yes k1
      | false => exact kit_no k1 (kit_yes k2)
    refine ⟨.ref a, tp, _, _, _, true, rfl, upd_same, cls2, (ty _ s1).1, anyT, _, rfl, ?_⟩
    refine ⟨_, rfl, .ref a, _, _, _, l, rfl, .ty _, (ty _ s1).1, kit_ty k1, _, rfl, .ref b, _, _, _, l, rfl, .ty _, (ty _ s1).2, kit_ty k1, rfl, false, ?_, ?_⟩
    · rw [decide_eq_true rfl]
      rfl
    refine ⟨_, rfl, .ref a, _, _, _, !l, rfl, .ty _, (ty _ s1).1, kit_ty k2, _, rfl, .ref b, _, _, _, !l, rfl, .ty _, (ty _ s1).2, kit_ty k2, rfl, false, ?_, ?_⟩
    · rw [decide_eq_true rfl]
      rfl
    refine ⟨_, rfl, a, xs, rfl, sa _ s1, _, rfl, b, ys, rfl, sb _ s1, rfl, false, ?_, ?_⟩
    · rw [lx, ly, decide_eq_true rfl]
      rfl
    refine ⟨_, rfl, a, xs, rfl, sa _ s1, _, rfl, by omega, by omega, fun D hD => lc_range (lo := 0) (n := (xs.length : Int).toNat) (fun i H' => Same H H' ∧ H' D = some (.lst [])) ⟨s1.trans (same_new hD _), upd_same⟩ ?_ ?_⟩
    · rintro i H' hi ⟨s', hD'⟩
      have hi' : i < xs.length := by omega
      have gx : xs[i]? = some xs[i] := List.getElem?_eq_getElem hi'
      have gy : ys[i]? = some (ys[i]'(by omega)) := List.getElem?_eq_getElem (by omega)
      obtain ⟨d1, e1, p1⟩ := dpAll_get da gx
      obtain ⟨d2, e2, p2⟩ := dpAll_get db gy
      rw [e1] at e2
      cases e2
      have ea : atI xs (0 + (i : Int)) = some xs[i] := at_of (j := i) (by omega) gx
      have eb : atI ys (0 + (i : Int)) = some (ys[i]'(by omega)) := at_of (j := i) (by omega) gy
      rcases sa _ s' with za | za <;> rcases sb _ s' with zb | zb
      · refine ⟨rfl, _, rfl, _, rfl, .inl ⟨a, xs, _, _, rfl, rfl, za, ea, _, rfl, _, rfl, .inl ⟨b, ys, _, _, rfl, rfl, zb, eb, ?_⟩⟩⟩
        exact ⟨_, _, d1, m, rfl, rfl, dp_same s' p1, dp_same s' p2, fd' d1 (List.mem_of_getElem? e1), fun H2 s2 => ⟨true, rfl, s'.trans s2, s2 _ _ hD'⟩⟩
      · refine ⟨rfl, _, rfl, _, rfl, .inl ⟨a, xs, _, _, rfl, rfl, za, ea, _, rfl, _, rfl, .inr (.inl ⟨b, ys, _, _, rfl, rfl, zb, eb, ?_⟩)⟩⟩
        exact ⟨_, _, d1, m, rfl, rfl, dp_same s' p1, dp_same s' p2, fd' d1 (List.mem_of_getElem? e1), fun H2 s2 => ⟨true, rfl, s'.trans s2, s2 _ _ hD'⟩⟩
      · refine ⟨rfl, _, rfl, _, rfl, .inr (.inl ⟨a, xs, _, _, rfl, rfl, za, ea, _, rfl, _, rfl, .inl ⟨b, ys, _, _, rfl, rfl, zb, eb, ?_⟩⟩)⟩
        exact ⟨_, _, d1, m, rfl, rfl, dp_same s' p1, dp_same s' p2, fd' d1 (List.mem_of_getElem? e1), fun H2 s2 => ⟨true, rfl, s'.trans s2, s2 _ _ hD'⟩⟩
      · refine ⟨rfl, _, rfl, _, rfl, .inr (.inl ⟨a, xs, _, _, rfl, rfl, za, ea, _, rfl, _, rfl, .inr (.inl ⟨b, ys, _, _, rfl, rfl, zb, eb, ?_⟩)⟩)⟩
        exact ⟨_, _, d1, m, rfl, rfl, dp_same s' p1, dp_same s' p2, fd' d1 (List.mem_of_getElem? e1), fun H2 s2 => ⟨true, rfl, s'.trans s2, s2 _ _ hD'⟩⟩
    · rintro H' ⟨s', hD'⟩
      refine ⟨Nat.zero_le _, fun e he => ?_⟩
      have s5 := same_new he (.lst [])
      refine ⟨.list [], .list [], .lst (sql (s5 _ _ hD')) .nil, .lst (sql upd_same) .nil, by decide +kernel, by decide +kernel, ?_⟩
      have ev : PyData.eqv (.list []) (.list []) = true := by simp [PyData.eqv, PyData.eqvAll]
      rw [ev]
      exact q _ (s'.trans s5)
theorem like_all {f : Addr} {fd : FuncData} (F : Fun K "_law_like" "_law_like" sLike f fd) (B : Bi mg) (m : mg "_law_like" = some (.ref f)) (b : Binds K fd ["one", "two"] []) :
    ∀ n : Nat, FnOk P w K mg base CX0 n f fd ["one", "two"] (spLike K n)
  | 0 => by
    have no : ∀ vs H Q E, ¬ spLike K 0 vs H Q E := fun vs H Q E h => by
      obtain ⟨_, _, _, m, h, _⟩ := h
      cases h
    exact ⟨fun vs H Q E h => absurd h (no vs H Q E), fun A outer s H args us vs Q E _ _ _ _ h => absurd h (no vs H Q E)⟩
  | n + 1 => like_step F B ⟨f, fd, like_all F B m b n, m, F.kp, b⟩
abbrev nWants : List Str := ["tape", "books", "readers", "found", "left", "at", "book", "many"]
theorem scWants : FnScope nWants ["tape", "books", "readers"] (defScope sWants) := ⟨rfl, rfl, rfl, by decide +kernel, rfl, by decide +kernel, by decide +kernel⟩
theorem ok_wants {f : Addr} {fd : FuncData} (F : Fun K "_law_wants" "_law_wants" sWants f fd) (B : Bi mg) (cD : Has P w K mg base 1 "_law_draw" ["tape", "many"] spDraw) (cB : Has P w K mg base 1 "_law_books" [] spBooks) :
    FnOk P w K mg base CX0 2 f fd ["tape", "books", "readers"] spWants := by
  refine F.ok scWants (fun vs H Q E h => ?_) (fun cdv A outer s H vs Q E hr h => ?_)
  · obtain ⟨T, S, ns, m, n, rfl, _⟩ := h
    rfl
  obtain ⟨T, S, ns, m, n, rfl, tp, m0, m7, n0, n1, q⟩ := h
  refine ⟨_, pss_cons (ps_par (i := 3) (j := 4) (by rfl) scWants.nd rfl rfl (by decide) rfl rfl (pa_cons (pe_lst pa_nil) (pa_cons (pv 2) pa_nil)) (by rfl))
    (pss_cons (ps_for PassesOwn.never rfl (pi_enum (by rfl) B.enumerate (pa_cons (pe_slice sl_list (pe_go0 cB hr (by decide) rfl) po_none (po_some (pv 1))) pa_nil)) (pg_tup rfl (pgs_cons (pg_name (i := 5) scWants.nd rfl (.inl rfl)) (pgs_cons (pg_name (i := 6) scWants.nd rfl (.inl rfl)) pgs_nil)))
      (pss_cons (ps_set (i := 7) scWants.nd rfl (.inl rfl) (pe_op op_add pe_int (pe_go cD hr (by decide) rfl (pa_cons (pv 0) (pa_cons pe_int pa_nil)))))
      (pss_one (ps_if (PW.pt (pw_and (pt_cmpR op_gt (pv 4) pe_int (nomark _)) (pw_and1 (PW.pt (pw_or (pt_cmpR op_gt (pe_go cD hr (by decide) rfl (pa_cons (pv 0) (pa_cons pe_int pa_nil))) pe_int (nomark _)) (pw_or1 (pt_cmpR op_eq (pv 5) pe_int (nomark _))))))))
        (pss_cons (ps_expr (pe_bm PySem.F.plainAttrs_list PySem.F.slot_list_append PySem.F.type_list_append mt_append (pv 3) (pa_cons (pe_tup (pa_cons (pv 6) (pa_cons (pe_callB (call_min2 rfl) (by rfl) B.min (by decide +kernel) (pa_cons (pv 7) (pa_cons (pv 4) pa_nil))) pa_nil))) pa_nil)))
        (pss_one (ps_set (i := 4) scWants.nd rfl (.inl rfl) (pe_op op_sub (pv 4) (pe_ix ix_tup (pe_ix ix_list (pv 3) (pe_un un_neg pe_int) (fun _ _ => rfl)) pe_int (fun _ _ => rfl)))))) pss_nil))))
    (pss_one (ps_ret (pe_callTy call_tupleZ (by rfl) B.tuple (by decide +kernel) (pa_cons (pv 3) pa_nil))))), ?_⟩
  refine ⟨Nat.zero_le _, fun Fd hF => ⟨_, rfl, ⟨_, _, rfl, ?_⟩⟩⟩
  have s1 := same_new hF (.lst [])
  have nFT : Fd ≠ T := by
    obtain ⟨o, ho⟩ := tp.taken
    exact new_ne ho hF
  refine ⟨rfl, fun b hb => ⟨_, rfl, _, rfl, b, _, rfl, sql upd_same, fun y hy => ?_⟩⟩
  have s2 := same_new hb (.lst (books.map V.str))
  have ecut : cutV (books.map V.str) none (some (m : Int)) = (books.take m).map V.str := by rw [cut_to (by show m ≤ 7; exact m7), List.map_take]
  rw [ecut]
  have s3 := same_new hy (.lst ((books.take m).map V.str))
  have sm0 := s1.trans (s2.trans s3)
  have hF0 := s3 _ _ (s2 _ _ (upd_same (H := H) (a := Fd) (o := .lst [])))
  have nyF : y ≠ Fd := (ne_of_none (s2 _ _ (upd_same (H := H) (a := Fd) (o := .lst []))) hy).symm
  have ny0 : H y = none := (s1.trans s2).free hy
  have hy0 : upd (upd (upd H Fd (.lst [])) b (.lst (books.map V.str))) y (.lst ((books.take m).map V.str)) y = some (.lst ((books.take m).map V.str)) := upd_same
  generalize upd (upd (upd H Fd (.lst [])) b (.lst (books.map V.str))) y (.lst ((books.take m).map V.str)) = H0 at sm0 hF0 hy0 ⊢
  have nyT : y ≠ T := by
    obtain ⟨o, ho⟩ := tp.taken
    exact new_ne ho ny0
  have lbm : (books.take m).length = m := by
    rw [List.length_take]
    show min m 7 = m
    omega
  refine ⟨y, _, rfl, sql hy0, for_it (walk_enum (K := K) (a := y) (xs := (books.take m).map V.str))
    (fun i σ H' => ∃ (y5 y6 y7 : Option V) (ts : List Addr) (ws : List (Str × Nat)) (l : Nat), σ = [some (.ref T), some (.int m), some (.int n), some (.ref Fd), some (.int l), y5, y6, y7] ∧ SameT T H H' ∧ Tape H' T S ns ∧ H' Fd = some (.lst (ts.map V.ref)) ∧ H' y = some (.lst ((books.take m).map V.str)) ∧
      WL H' ts ws ∧ (ws.map (·.1)).Sublist ((books.take m).take i) ∧ (∀ p ∈ ws, 0 < p.2) ∧ (ws.map (·.2)).sum + l = n ∧ (0 < i → ws ≠ []))
    ⟨none, none, none, [], [], n, rfl, SameT.of sm0, tp.same sm0, hF0, hy0, ⟨rfl, fun i t p h => by simp at h⟩, List.nil_sublist _, fun p h => (nomatch h), by simp, fun z => absurd z (Nat.lt_irrefl _)⟩ (fun i σ H' _ ⟨_, _, _, _, _, _, _, _, _, _, h, _⟩ => sql h) ?_ ?_⟩
  · rintro i x σ H3 H4 hi ⟨y5, y6, y7, ts, ws, l, rfl, sm, tp3, hF3, hy3, wl, sub, pos, sum, some1⟩ ⟨t, x1, x2, rfl, nt, rfl, e1, e2⟩
    rw [List.length_map, lbm] at hi
    cases e1
    obtain ⟨a, ha, rfl⟩ := strs_get e2
    have s4 := same_new nt (.tup [natV i, .str a])
    have sm4 := sm.trans (SameT.of s4)
    have tp4 := tp3.same s4
    have hF4 := s4 _ _ hF3
    have hy4 := s4 _ _ hy3
    have wl4 := wl.move fun t xs e => s4 _ _ e
    have ht4 : upd H3 t (.tup [natV i, .str a]) t = some (.tup [natV i, .str a]) := upd_same
    generalize upd H3 t (.tup [natV i, .str a]) = H4 at sm4 tp4 hF4 hy4 wl4 ht4 ⊢
    refine ⟨t, _, rfl, sqt ht4, rfl, _, _, rfl, _, _, rfl, rfl, ?_⟩
    refine ⟨_, rfl, T, S, ns, 4, rfl, tp4, by decide, by decide, fun r i1 c1 r0 r1 => ⟨_, _, rfl, rfl, ?_⟩⟩
    have sm5 := sm4.trans (sameT_put (T := T) (H := H4) (.lst [.ref S, .int i1, .int c1]))
    have tp5 := tp4.put i1 c1
    have hF5 : upd H4 T (.lst [.ref S, .int i1, .int c1]) Fd = some (.lst (ts.map V.ref)) := by rw [upd_ne nFT]; exact hF4
    have hy5 : upd H4 T (.lst [.ref S, .int i1, .int c1]) y = some (.lst ((books.take m).map V.str)) := by rw [upd_ne nyT]; exact hy4
    have wl5 : WL (upd H4 T (.lst [.ref S, .int i1, .int c1])) ts ws := wl4.move fun t' xs e => by
      rw [upd_ne]
      · exact e
      · obtain ⟨i', c', hT⟩ := tp4.at_
        exact ne_of e hT fun z => nomatch z
    generalize upd H4 T (.lst [.ref S, .int i1, .int c1]) = H5 at sm5 tp5 hF5 hy5 wl5 ⊢
    have sub' : (ws.map (·.1)).Sublist ((books.take m).take (i + 1)) := sub.trans (List.take_sublist_take_left (Nat.le_succ i))
    refine ⟨_, rfl, _, _, rfl, rfl, _, rfl, ite2 (fun g => ?_) (fun g => ?none)⟩
    case none =>
      refine iteF ⟨_, _, _, ts, ws, l, rfl, sm5, tp5, hF5, hy5, wl5, sub', pos, sum, fun _ e => ?_⟩
      have l0 : ¬ (0 : Int) < (l : Int) := fun z => g (decide_eq_true z)
      rw [e] at sum
      have z : ([].map fun x : Str × Nat => x.2).sum = 0 := rfl
      rw [z] at sum
      omega
    have l0 : (0 : Int) < (l : Int) := of_decide_eq_true g
    have hai : ((books.take m).take (i + 1)) = (books.take m).take i ++ [a] := take_step ha
    refine ⟨_, rfl, T, S, ns, 4, rfl, tp5, by decide, by decide, fun r2 i2 c2 r20 r21 => ⟨_, _, rfl, rfl, _, rfl, ?_⟩⟩
    have sm6 := sm5.trans (sameT_put (T := T) (H := H5) (.lst [.ref S, .int i2, .int c2]))
    have tp6 := tp5.put i2 c2
    have hF6 : upd H5 T (.lst [.ref S, .int i2, .int c2]) Fd = some (.lst (ts.map V.ref)) := by rw [upd_ne nFT]; exact hF5
    have hy6 : upd H5 T (.lst [.ref S, .int i2, .int c2]) y = some (.lst ((books.take m).map V.str)) := by rw [upd_ne nyT]; exact hy5
    have wl6 : WL (upd H5 T (.lst [.ref S, .int i2, .int c2])) ts ws := wl5.move fun t' xs e => by
      rw [upd_ne]
      · exact e
      · obtain ⟨i', c', hT⟩ := tp5.at_
        exact ne_of e hT fun z => nomatch z
    generalize upd H5 T (.lst [.ref S, .int i2, .int c2]) = H6 at sm6 tp6 hF6 hy6 wl6 ⊢
    obtain ⟨v, ev, v0, vl⟩ : ∃ v : Nat, (if (l : Int) < 1 + r then (l : Int) else 1 + r) = (v : Int) ∧ 0 < v ∧ v ≤ l := by
      by_cases c : (l : Int) < 1 + r
      · exact ⟨l, if_pos c, by omega, Nat.le_refl _⟩
      · exact ⟨(1 + r).toNat, by rw [if_neg c]; omega, by omega, by omega⟩
    have lts : ts.length ≤ 7 := by
      rw [wl.1, ← List.length_map (f := (·.1))]
      refine Nat.le_trans sub.length_le ?_
      rw [List.length_take, lbm]
      omega
    refine ite2 (fun g2 => ?yes) (fun g2 => ⟨_, rfl, rfl, _, rfl, ite2 (fun g3 => ?yes2) (fun g3 => ?no)⟩)
    case no =>
      refine ⟨_, _, _, ts, ws, l, rfl, sm6, tp6, hF6, hy6, wl6, sub', pos, sum, fun _ => some1 ?_⟩
      have ne : ¬ V.int ((i : Nat) : Int) = V.int 0 := fun z => g3 (decide_eq_true z)
      rcases Nat.eq_zero_or_pos i with z | z
      · exact absurd (by rw [z]; rfl) ne
      · exact z
    case yes | yes2 =>
      refine ⟨_, rfl, .inl ⟨rfl, _, sql hF6⟩, _, rfl, _, rfl, _, rfl, _, _, rfl, (by show 2 ≤ sizeLine; decide), fun pr hpr => ?_⟩
      rw [ev]
      have s7 := same_new hpr (.tup [.str a, natV v])
      have sm7 := sm6.trans (SameT.of s7)
      have tp7 := tp6.same s7
      have hF7 := s7 _ _ hF6
      have hy7 := s7 _ _ hy6
      have wl7 := (wl6.move fun t xs e => s7 _ _ e).snoc (p := (a, v)) (t := pr) (upd_same (H := H6))
      have npF : pr ≠ Fd := (ne_of_none hF6 hpr).symm
      have hp7 : upd H6 pr (.tup [.str a, natV v]) pr = some (.tup [.str a, natV v]) := upd_same
      generalize upd H6 pr (.tup [.str a, natV v]) = H7 at sm7 tp7 hF7 hy7 wl7 hp7 ⊢
      refine ⟨Fd, _, _, rfl, rfl, hF7, by rw [List.length_map]; exact small1000 (by omega), ?_⟩
      have e8 : ts.map V.ref ++ [V.ref pr] = (ts ++ [pr]).map V.ref := by rw [List.map_append]; rfl
      rw [e8]
      have sm8 : SameT T H (upd H7 Fd (.lst ((ts ++ [pr]).map V.ref))) := sameT_new sm7 hF
      have tp8 : Tape (upd H7 Fd (.lst ((ts ++ [pr]).map V.ref))) T S ns := by
        obtain ⟨i', c', hT⟩ := tp7.at_
        refine ⟨⟨i', c', by rw [upd_ne nFT.symm]; exact hT⟩, ?_⟩
        rw [upd_ne (ne_of_none tp.scr hF)]
        exact tp7.scr
      have hy8 : upd H7 Fd (.lst ((ts ++ [pr]).map V.ref)) y = some (.lst ((books.take m).map V.str)) := by rw [upd_ne nyF]; exact hy7
      have wl8 : WL (upd H7 Fd (.lst ((ts ++ [pr]).map V.ref))) (ts ++ [pr]) (ws ++ [(a, v)]) := wl7.move fun t' xs e => by
        rw [upd_ne (ne_of e hF7 fun z => nomatch z)]
        exact e
      have hp8 : upd H7 Fd (.lst ((ts ++ [pr]).map V.ref)) pr = some (.tup [.str a, natV v]) := by rw [upd_ne npF]; exact hp7
      have hF8 : upd H7 Fd (.lst ((ts ++ [pr]).map V.ref)) Fd = some (.lst ((ts ++ [pr]).map V.ref)) := upd_same
      generalize upd H7 Fd (.lst ((ts ++ [pr]).map V.ref)) = H8 at sm8 tp8 hy8 wl8 hp8 hF8 ⊢
      refine ⟨_, rfl, _, rfl, _, rfl, Fd, _, _, .ref pr, rfl, rfl, sql hF8, by rw [List.map_append]; exact atI_last _ _, pr, _, 1, natV v, rfl, rfl, sqt hp8, rfl, _, _, rfl, rfl, ?_⟩
      refine ⟨some (natV i), some (.str a), some (.int (1 + r)), ts ++ [pr], ws ++ [(a, v)], l - v, ?_, sm8, tp8, hF8, hy8, wl8, ?_, ?_, ?_, fun _ z => ?_⟩
      · rw [show (((l - v : Nat)) : Int) = (l : Int) - (v : Int) by omega]
        rfl
      · rw [hai, List.map_append]
        exact sub.append (List.Sublist.refl _)
      · intro p hp
        rcases List.mem_append.mp hp with hp | hp
        · exact pos p hp
        · rw [List.mem_singleton.mp hp]
          exact v0
      · rw [List.map_append, List.sum_append]
        show _ + (v + 0) + (l - v) = n
        omega
      · cases ws <;> cases z
  · rintro σ H' ⟨y5, y6, y7, ts, ws, l, rfl, sm, tp3, hF3, hy3, wl, sub, pos, sum, some1⟩
    rw [List.length_map, lbm] at sub some1
    refine ⟨_, rfl, Fd, _, rfl, sql hF3, fun W u hW hu => ?_⟩
    have s4 := same_new hW u
    have nW : H W = none := by
      refine sm.free ?_ hW
      obtain ⟨o, ho⟩ := tp3.taken
      exact new_ne ho hW
    refine q W _ ws (sm.trans (SameT.of s4)) (tp3.same s4) nW ⟨ts, TpO.new hu, wl.move fun t xs e => s4 _ _ e⟩ ⟨?_, pos, some1 m0, by omega⟩
    rw [List.take_of_length_le (by rw [lbm]; exact Nat.le_refl _)] at sub
    exact sub
abbrev nDay : List Str := ["tape", "wants", "rows", "book", "many", "at"]
theorem scDay : FnScope nDay ["tape", "wants"] (defScope sDay) := ⟨rfl, rfl, rfl, by decide +kernel, rfl, by decide +kernel, by decide +kernel⟩
theorem ok_day {f : Addr} {fd : FuncData} (F : Fun K "_law_day" "_law_day" sDay f fd) (B : Bi mg) (cO : Has P w K mg base 2 "_law_any_order" ["tape", "many"] spOrder) :
    FnOk P w K mg base CX0 3 f fd ["tape", "wants"] spDay := by
  refine F.ok scDay (fun vs H Q E h => ?_) (fun cdv A outer s H vs Q E hr h => ?_)
  · obtain ⟨T, S, W, ns, ws, rfl, _⟩ := h
    rfl
  obtain ⟨T, S, W, ns, ws, rfl, tp, ⟨ts, hW, wl⟩, l7, l100, q⟩ := h
  refine ⟨_, pss_cons (ps_set (i := 2) scDay.nd rfl (.inr rfl) (pe_lst pa_nil))
    (pss_cons (ps_for PassesOwn.never rfl (pi_tup (pv 1)) (pg_tup rfl (pgs_cons (pg_name (i := 3) scDay.nd rfl (.inl rfl)) (pgs_cons (pg_name (i := 4) scDay.nd rfl (.inl rfl)) pgs_nil)))
      (pss_one (ps_set (i := 2) scDay.nd rfl (.inr rfl) (pe_op op_cat (pv 2) (pe_op op_rep (pe_lst (pa_cons (pv 3) pa_nil)) (pv 4))))))
    (pss_one (ps_ret (pe_callTy call_tupleZ (by rfl) B.tuple (by decide +kernel) (pa_cons
      (pe_lc (own := [("at", 5)]) (g := gName 5) (tt := tYes) (by rfl) scDay.nd (pi_tup (pe_go cO hr (by decide) rfl (pa_cons (pv 0) (pa_cons (pe_callB call_len_seq (by rfl) B.len PySem.boot_len (pa_cons (pv 2) pa_nil)) pa_nil))))
        (blkOk_by (own := [("at", 5)]) (N := nDay) (sc := defScope sDay) (by decide +kernel))
        (fun _ _ _ _ _ => pg_name (i := 5) scDay.nd rfl (Or.inl rfl)) (fun _ _ _ _ _ => pts_nil) (fun _ _ _ _ _ => pe_ix (ixL (K := K) rfl) (pv 2) (pv 5) (fun _ _ => rfl))) pa_nil))))), ?_⟩
  refine ⟨Nat.zero_le _, fun R0 hR0 => ?_⟩
  have s1 := same_new hR0 (.lst [])
  refine ⟨_, rfl, W, rfl, ⟨_, (hW.same s1).sqt⟩, for_tup (K := K) (a := W) (xs := ts.map V.ref) (fun i σ H' => ∃ (R : Addr) (y3 y4 : Option V), σ = [some (.ref T), some (.ref W), some (.ref R), y3, y4, none] ∧ Same H H' ∧ H R = none ∧ H' R = some (.lst ((flat (ws.take i)).map V.str)))
    ⟨R0, none, none, rfl, s1, hR0, upd_same⟩ (fun i σ H' _ ⟨_, _, _, _, sm, _⟩ => (hW.same sm).sqt) ?_ ?_⟩
  · rintro i x σ H' hx ⟨R, y3, y4, rfl, sm, nR, hR⟩
    obtain ⟨t, ht, rfl⟩ := refs_get hx
    have hi : i < ts.length := (List.getElem?_eq_some_iff.mp ht).1
    have hp : ws[i]? = some (ws[i]'(by rw [← wl.1]; exact hi)) := List.getElem?_eq_getElem _
    generalize ws[i]'(by rw [← wl.1]; exact hi) = p at hp
    have hT := sm _ _ (wl.2 i t p ht hp)
    have ts1 : ws.take (i + 1) = ws.take i ++ [p] := by
      rw [List.take_add_one, hp]
      rfl
    have fl : flat (ws.take (i + 1)) = flat (ws.take i) ++ List.replicate p.2 p.1 := by
      rw [ts1, flat_append]
      show _ ++ (_ ++ []) = _
      rw [List.append_nil]
    have lf := flat_take (ws := ws) (i + 1)
    rw [fl, List.length_append, List.length_replicate] at lf
    refine ⟨t, _, rfl, sqt hT, rfl, _, _, rfl, _, _, rfl, rfl, ?_⟩
    refine ⟨_, rfl, _, rfl, (by show 1 ≤ sizeLine; decide), fun b hb => ⟨_, rfl, b, _, _, rfl, rfl, upd_same, by omega, by omega, ?_, fun d hd => ?_⟩⟩
    · show 1 * ((p.2 : Int)).toNat ≤ sizeLine
      exact Nat.le_of_lt (small1000 (by omega))
    · have s2 := same_new hb (.lst [V.str p.1])
      have s3 := same_new hd (.lst (List.replicate ((p.2 : Int)).toNat [V.str p.1]).flatten)
      have ez : (List.replicate ((p.2 : Int)).toNat [V.str p.1]).flatten = (List.replicate p.2 p.1).map V.str := by
        rw [Int.toNat_natCast, List.map_replicate]
        generalize p.2 = k
        induction k with
        | zero => rfl
        | succ k ih => rw [List.replicate_succ, List.flatten_cons, ih, List.replicate_succ]; rfl
      rw [ez] at s3 ⊢
      refine ⟨R, d, _, _, rfl, rfl, s3 _ _ (s2 _ _ hR), upd_same, by rw [List.length_map, List.length_map, List.length_replicate]; exact Nat.le_of_lt (small1000 (by omega)), fun R2 hR2 => ?_⟩
      refine ⟨R2, _, _, rfl, sm.trans (s2.trans (s3.trans (same_new hR2 _))), (sm.trans (s2.trans s3)).free hR2, ?_⟩
      rw [upd_same, fl, List.map_append]
  · rintro σ H3 ⟨R, y3, y4, rfl, sm1, nR, hR⟩
    rw [List.length_map, wl.1, List.take_length] at hR
    have tp3 := tp.same sm1
    have sm3 : SameT T H H3 := SameT.of sm1
    have nRT : R ≠ T := by
      obtain ⟨o, ho⟩ := tp.taken
      exact new_ne ho nR
    refine ⟨_, rfl, _, rfl, R, _, rfl, .inl (sql hR), T, S, ns, ((flat ws).map V.str).length, rfl, tp3, by rw [List.length_map]; omega, fun t H4 qs sm4 tp4 nt ht pm => ?_⟩
    rw [List.length_map] at pm
    have lq : qs.length = (flat ws).length := by rw [pm.length_eq, List.length_range]
    have hy4 : H4 R = some (.lst ((flat ws).map V.str)) := sm4 _ _ nRT hR
    have pp := pick_perm pm
    have lp : (pick (flat ws) qs).length = qs.length := by
      unfold pick
      rw [List.length_map]
    refine ⟨t, rfl, ⟨_, sqt ht⟩, fun D hD => lc_tup (K := K) (a := t) (xs := qs.map natV) (fun i H' => SameT D H4 H' ∧ H' D = some (.lst (((pick (flat ws) qs).take i).map V.str)))
      ⟨SameT.of (same_new hD _), upd_same⟩ (fun i H' _ h' => sqt (h'.1 _ _ (ne_of_none ht hD) ht)) ?_ ?_⟩
    · rintro i x H' hx ⟨smD, hD'⟩
      rw [List.getElem?_map] at hx
      cases e : qs[i]? with
      | none =>
        rw [e] at hx
        cases hx
      | some k =>
        rw [e] at hx
        cases hx
        have hk : k < (flat ws).length := List.mem_range.mp (pm.mem_iff.mp (List.mem_of_getElem? e))
        refine ⟨rfl, _, rfl, _, rfl, R, _, _, .str (flat ws)[k], rfl, rfl, sql (smD _ _ (ne_of_none hy4 hD) hy4), at_of rfl (by rw [List.getElem?_map, List.getElem?_eq_getElem hk]; rfl), _, hD', ?_, ?_⟩
        · rw [List.length_map, List.length_take]
          exact small1000 (by omega)
        · refine ⟨fun b' o nb h => by rw [upd_ne nb]; exact smD b' o nb h, ?_⟩
          have ep : (pick (flat ws) qs)[i]? = some (flat ws)[k] := by
            unfold pick
            rw [List.getElem?_map, e]
            show some (((flat ws)[k]?).getD Str.empty) = _
            rw [List.getElem?_eq_getElem hk]
            rfl
          rw [upd_same, List.take_add_one, ep, List.map_append]
          rfl
    · rintro H' ⟨smD, hD'⟩
      rw [List.length_map, List.take_of_length_le (by omega)] at hD'
      refine ⟨D, _, rfl, sql hD', fun p u hp hu => ?_⟩
      have s5 : Same H4 H' := fun b' o h => smD b' o (ne_of_none h hD) h
      have tp5 := tp4.same (s5.trans (same_new hp u))
      have np : H p = none := by
        refine (sm3.trans (sm4.trans (SameT.of s5))).free ?_ hp
        obtain ⟨o2, h2⟩ := (tp4.same s5).taken
        exact new_ne h2 hp
      exact q p _ (pick (flat ws) qs) (sm3.trans (sm4.trans (SameT.of (s5.trans (same_new hp _))))) tp5 np (TpO.new hu) pp
abbrev nRead : List Str := ["pile", "readings", "left", "numbers", "rows", "book", "above", "other"]
theorem scRead : FnScope nRead ["pile", "readings"] (defScope sRead) := ⟨rfl, rfl, rfl, by decide +kernel, rfl, by decide +kernel, by decide +kernel⟩
theorem ok_readT {f : Addr} {fd : FuncData} (F : Fun K "_law_read" "_law_read" sRead f fd) (B : Bi mg) : FnOk P w K mg base CX0 1 f fd ["pile", "readings"] (spReadT K) := by
  refine F.ok scRead (fun vs H Q E h => ?_) (fun cdv A outer s H vs Q E hr h => ?_)
  · obtain ⟨p, r, bs, rs, rfl, _⟩ := h
    rfl
  obtain ⟨p, r, bs, rs, rfl, hp, hrr, hl, hl2, hm, q⟩ := h
  refine ⟨_, pss_cons (ps_par3 (i := 2) (j := 3) (l := 4) (by rfl) scRead.nd rfl rfl rfl (by decide) (by decide) (by decide) rfl rfl rfl
      (pa_cons (pe_callTy call_list_of (by rfl) B.list (by decide +kernel) (pa_cons (pv 0) pa_nil)) (pa_cons (pe_lst pa_nil) (pa_cons (pe_lst pa_nil) pa_nil))) (by rfl))
    (pss_cons (ps_for PassesOwn.never rfl (pi_tup (pv 1)) (pg_name (i := 5) scRead.nd rfl (.inr rfl))
      (pss_cons (ps_set (i := 6) scRead.nd rfl (.inl rfl) (pe_slice sl_list (pv 2) po_none (po_some (pe_bm PySem.F.plainAttrs_list PySem.F.slot_list_index PySem.F.type_list_index mt_index (pv 2) (pa_cons (pv 5) pa_nil)))))
      (pss_cons (ps_expr (pe_bm PySem.F.plainAttrs_list PySem.F.slot_list_append PySem.F.type_list_append mt_append (pv 3) (pa_cons (pe_callB call_len_seq (by rfl) B.len PySem.boot_len (pa_cons (pv 6) pa_nil)) pa_nil)))
      (pss_cons (ps_set (i := 4) scRead.nd rfl (.inl rfl) (pe_op op_cat (pv 4) (pe_lc (own := [("other", 7)]) (g := gName 7) (tt := tYes) (by rfl) scRead.nd (pi_list (pv 6))
          (blkOk_by (own := [("other", 7)]) (N := nRead) (sc := defScope sRead) (by decide +kernel)) (fun _ _ _ _ _ => pg_name (i := 7) scRead.nd rfl (.inl rfl)) (fun _ _ _ _ _ => pts_nil)
          (fun _ _ _ _ _ => pe_tup (pa_cons (pv 5) (pa_cons (pv 7) pa_nil))))))
      (pss_cons (ps_expr (pe_bm PySem.F.plainAttrs_list PySem.F.slot_list_remove PySem.F.type_list_remove (mt_removeS (hu_of hr)) (pv 2) (pa_cons (pv 5) pa_nil)))
      (pss_one (ps_expr (pe_bm PySem.F.plainAttrs_list PySem.F.slot_list_insert PySem.F.type_list_insert mt_insert (pv 2) (pa_cons pe_int (pa_cons (pv 5) pa_nil))))))))))
    (pss_one (ps_ret (pe_tup (pa_cons (pe_callTy call_tuple_of (by rfl) B.tuple (by decide +kernel) (pa_cons (pv 2) pa_nil)) (pa_cons (pv 3) (pa_cons (pv 4) pa_nil))))))), ?_⟩
  refine ⟨_, rfl, p, _, rfl, hp, fun L hL => ⟨Nat.zero_le _, fun N hN => ⟨Nat.zero_le _, fun R hR => ⟨_, _, _, rfl, ?_⟩⟩⟩⟩
  have s1 := same_new hL (.lst (bs.map V.str))
  have s2 := same_new hN (.lst [])
  have s3 := same_new hR (.lst [])
  have sm0 : Same H (upd (upd (upd H L (.lst (bs.map V.str))) N (.lst [])) R (.lst [])) := s1.trans (s2.trans s3)
  have nLN : L ≠ N := ne_of_none upd_same hN
  have nLR : L ≠ R := ne_of_none (s2 _ _ upd_same) hR
  have nNR : N ≠ R := ne_of_none upd_same hR
  have nN0 : H N = none := s1.free hN
  have hL3 : upd (upd (upd H L (.lst (bs.map V.str))) N (.lst [])) R (.lst []) L = some (.lst (bs.map V.str)) := s3 _ _ (s2 _ _ upd_same)
  have hN3 : upd (upd (upd H L (.lst (bs.map V.str))) N (.lst [])) R (.lst []) N = some (.lst []) := s3 _ _ upd_same
  have hR3 : upd (upd (upd H L (.lst (bs.map V.str))) N (.lst [])) R (.lst []) R = some (.lst []) := upd_same
  generalize upd (upd (upd H L (.lst (bs.map V.str))) N (.lst [])) R (.lst []) = H3 at sm0 hL3 hN3 hR3 ⊢
  refine ⟨_, rfl, r, rfl, ⟨_, (hrr.same sm0).sqt⟩, for_tup (K := K) (a := r) (xs := rs.map V.str)
    (fun i σ H' => ∃ (R : Addr) (y5 y6 : Option V) (ts : List Addr), σ = [some (.ref p), some (.ref r), some (.ref L), some (.ref N), some (.ref R), y5, y6, none] ∧ Same H H' ∧ L ≠ R ∧ N ≠ R ∧
      H' L = some (.lst ((behindM bs (rs.take i)).map V.str)) ∧ H' N = some (.lst ((liftedM bs (rs.take i)).map natV)) ∧ H' R = some (.lst (ts.map V.ref)) ∧ PairsL H' ts (rowsM bs (rs.take i)))
    ⟨R, none, none, [], rfl, sm0, nLR, nNR, hL3, hN3, hR3, PairsL.nil _⟩ (fun i σ H' _ ⟨_, _, _, _, _, sm, _⟩ => (hrr.same sm).sqt) ?_ ?_⟩
  · rintro i x σ H' hx ⟨R, y5, y6, ts, rfl, sm, nLR, nNR, hL', hN', hR', pl⟩
    obtain ⟨b, hb, rfl⟩ := strs_get hx
    have hi : i < rs.length := (List.getElem?_eq_some_iff.mp hb).1
    have pmi := behindM_perm (rs.take i) (take_sub hm i)
    have hbm := pmi.mem_iff.mpr (hm b (List.mem_of_getElem? hb))
    have rl : (rowsM bs (rs.take i)).length ≤ 420 := by
      have z := rowsM_len (rs.take i) (take_sub hm i)
      have z2 : (rs.take i).length * bs.length ≤ 60 * 7 := Nat.mul_le_mul (by rw [List.length_take]; omega) hl
      omega
    have e1 : lay (behindM bs (rs.take i)) b = behindM bs (rs.take (i + 1)) := by rw [take_step hb, behindM_snoc]
    have e2 : liftedM bs (rs.take i) ++ [(behindM bs (rs.take i)).idxOf b] = liftedM bs (rs.take (i + 1)) := by rw [take_step hb, liftedM_snoc]
    have e3 : rowsM bs (rs.take i) ++ (over (behindM bs (rs.take i)) b).map (fun o => (b, o)) = rowsM bs (rs.take (i + 1)) := by rw [take_step hb, rowsM_snoc]
    rw [← e1, ← e2, ← e3]
    have lnum : (liftedM bs (rs.take i)).length ≤ 60 := by rw [liftedM_len, List.length_take]; omega
    generalize behindM bs (rs.take i) = cur at hL' pmi hbm ⊢
    generalize rowsM bs (rs.take i) = rows at pl rl ⊢
    generalize liftedM bs (rs.take i) = nums at hN' lnum ⊢
    have lc : cur.length ≤ 7 := by rw [pmi.length_eq]; exact hl
    have ib := idx_lt hbm
    have lm : (cur.map V.str).length = cur.length := List.length_map _
    -- above
    refine ⟨_, rfl, _, rfl, .inl ⟨rfl, _, sql hL'⟩, _, rfl, L, _, _, cur.idxOf b, .str b, rfl, rfl, sql hL', rfl, flat_map _, by rw [List.getElem?_map, idx_get hbm]; rfl, by show (b == b) = true; exact beq_self_eq_true b, fun m z hm' hz => ?_, _, rfl, L, _, rfl, sql hL', fun A' hA => ?_⟩
    · obtain ⟨c, hc, rfl⟩ := strs_get hz
      show (c == b) = false
      exact beq_eq_false_iff_ne.mpr fun e => idx_first m hm' (by rw [hc, e])
    rw [cut_to (by rw [lm]; omega), ← List.map_take]
    have sA := same_new hA (.lst ((cur.take (cur.idxOf b)).map V.str))
    have hA' : upd H' A' (.lst ((cur.take (cur.idxOf b)).map V.str)) A' = some (.lst ((over cur b).map V.str)) := upd_same
    have hLA := sA _ _ hL'
    have hNA := sA _ _ hN'
    have hRA := sA _ _ hR'
    have plA := pl.move (KeepT.of sA)
    have smA := sm.trans sA
    have nAN : A' ≠ N := (ne_of_none hN' hA).symm
    have nAL : A' ≠ L := (ne_of_none hL' hA).symm
    have nAR : A' ≠ R := (ne_of_none hR' hA).symm
    generalize upd H' A' (.lst ((cur.take (cur.idxOf b)).map V.str)) = HA at hA' hLA hNA hRA plA smA ⊢
    have ol : (over cur b).length = cur.idxOf b := by
      unfold over
      rw [List.length_take]
      omega
    -- numbers
    refine ⟨_, rfl, .inl ⟨rfl, _, sql hNA⟩, _, rfl, A', _, rfl, .inl (sql hA'), N, _, _, rfl, rfl, hNA, by rw [List.length_map]; exact small1000 (by omega), ?_⟩
    have en : nums.map natV ++ [V.int (((over cur b).map V.str).length : Int)] = (nums ++ [cur.idxOf b]).map natV := by rw [List.map_append, List.length_map, ol]; rfl
    rw [en]
    have smN : Same H (upd HA N (.lst ((nums ++ [cur.idxOf b]).map natV))) := same_put smA nN0
    have plN := plA.move (KeepT.put (D := N) (o := .lst ((nums ++ [cur.idxOf b]).map natV)) hNA (fun xs z => nomatch z))
    have hAN : upd HA N (.lst ((nums ++ [cur.idxOf b]).map natV)) A' = some (.lst ((over cur b).map V.str)) := by rw [upd_ne nAN]; exact hA'
    have hLN : upd HA N (.lst ((nums ++ [cur.idxOf b]).map natV)) L = some (.lst (cur.map V.str)) := by rw [upd_ne nLN]; exact hLA
    have hRN : upd HA N (.lst ((nums ++ [cur.idxOf b]).map natV)) R = some (.lst (ts.map V.ref)) := by rw [upd_ne nNR.symm]; exact hRA
    have hNN : upd HA N (.lst ((nums ++ [cur.idxOf b]).map natV)) N = some (.lst ((nums ++ [cur.idxOf b]).map natV)) := upd_same
    generalize upd HA N (.lst ((nums ++ [cur.idxOf b]).map natV)) = HN at smN plN hAN hLN hRN hNN ⊢
    -- rows
    refine ⟨_, rfl, _, rfl, A', rfl, ⟨_, sql hAN⟩, fun D hD => lc_list (K := K) (a := A') (xs := (over cur b).map V.str)
      (fun j H2 => ∃ us : List Addr, Same HN H2 ∧ H2 D = some (.lst (us.map V.ref)) ∧ PairsL H2 us (((over cur b).take j).map fun o => (b, o)))
      ⟨[], same_new hD _, upd_same, PairsL.nil _⟩ (fun j H2 _ ⟨_, s2, _⟩ => s2.seq (sql hAN)) ?_ ?_⟩
    · rintro j x H2 hx2 ⟨us, s2, hD2, pl2⟩
      obtain ⟨o, ho, rfl⟩ := strs_get hx2
      refine ⟨rfl, _, rfl, _, rfl, (by show 2 ≤ sizeLine; decide), fun t ht => ?_⟩
      have s5 := same_new ht (.tup [.str b, .str o])
      refine ⟨_, s5 _ _ hD2, ?_, us ++ [t], same_put (s2.trans s5) hD, by rw [upd_same, List.map_append]; rfl, ?_⟩
      · have z := pl2.1
        rw [List.length_map, List.length_take] at z
        rw [List.length_map]
        exact small1000 (by omega)
      · rw [List.take_add_one, ho, List.map_append]
        exact ((pl2.move (KeepT.of s5)).snoc (t := t) (q := (b, o)) upd_same).move (KeepT.put (s5 _ _ hD2) (fun xs z => nomatch z))
    · rintro H2 ⟨us, s2, hD2, pl2⟩
      rw [List.length_map, List.take_length] at pl2
      have lus : us.length ≤ 7 := by rw [pl2.1, List.length_map]; omega
      have lts : ts.length ≤ 420 := by rw [plN.1]; exact rl
      refine ⟨R, D, _, _, rfl, rfl, s2 _ _ hRN, hD2, by rw [List.length_map, List.length_map]; exact Nat.le_of_lt (small1000 (by omega)), fun R2 hR2 => ?_⟩
      have s6 := same_new hR2 (.lst (ts.map V.ref ++ us.map V.ref))
      have hR6 : upd H2 R2 (.lst (ts.map V.ref ++ us.map V.ref)) R2 = some (.lst ((ts ++ us).map V.ref)) := by rw [upd_same, List.map_append]
      have sm6 : Same H (upd H2 R2 (.lst (ts.map V.ref ++ us.map V.ref))) := smN.trans (s2.trans s6)
      have hL6 := s6 _ _ (s2 _ _ hLN)
      have hN6 := s6 _ _ (s2 _ _ hNN)
      have nLR2 : L ≠ R2 := ne_of_none (s2 _ _ hLN) hR2
      have nNR2 : N ≠ R2 := ne_of_none (s2 _ _ hNN) hR2
      have pl6 : PairsL (upd H2 R2 (.lst (ts.map V.ref ++ us.map V.ref))) (ts ++ us) (rows ++ (over cur b).map fun o => (b, o)) := by
        have a1 := (plN.move (KeepT.of s2)).move (KeepT.of s6)
        have a2 := pl2.move (KeepT.of s6)
        refine ⟨by rw [List.length_append, List.length_append, a1.1, a2.1], fun k t z h1 h2 => ?_⟩
        by_cases hk : k < ts.length
        · rw [List.getElem?_append_left hk] at h1
          rw [List.getElem?_append_left (by rw [← a1.1]; exact hk)] at h2
          exact a1.2 k t z h1 h2
        · rw [List.getElem?_append_right (by omega)] at h1
          rw [List.getElem?_append_right (by rw [← a1.1]; omega), ← a1.1] at h2
          exact a2.2 _ t z h1 h2
      generalize upd H2 R2 (.lst (ts.map V.ref ++ us.map V.ref)) = H6 at hR6 sm6 hL6 hN6 pl6 ⊢
      -- remove, insert
      refine ⟨_, rfl, .inl ⟨rfl, _, sql hL6⟩, _, rfl, L, cur, b, cur.idxOf b, rfl, rfl, hL6, idx_get hbm, idx_first, ?_⟩
      refine ⟨_, rfl, .inl ⟨rfl, _, sql upd_same⟩, _, rfl, L, _, 0, _, rfl, rfl, upd_same, ?_, by decide, by decide, ?_⟩
      · rw [List.length_map]
        have z := List.length_eraseIdx_le cur (cur.idxOf b)
        exact small1000 (by omega)
      · rw [upd_upd]
        have el : ((cur.eraseIdx (cur.idxOf b)).map V.str).take (0 : Int).toNat ++ [V.str b] ++ ((cur.eraseIdx (cur.idxOf b)).map V.str).drop (0 : Int).toNat = (lay cur b).map V.str := rfl
        rw [el]
        refine ⟨R2, _, _, ts ++ us, rfl, same_put sm6 hL, nLR2, nNR2, upd_same, ?_, ?_, ?_⟩
        · rw [upd_ne nLN.symm]
          exact hN6
        · rw [upd_ne nLR2.symm]
          exact hR6
        · exact pl6.move (KeepT.put hL6 (fun xs z => nomatch z))
  · rintro σ H' ⟨R, y5, y6, ts, rfl, sm, nLR, nNR, hL', hN', hR', pl⟩
    rw [List.length_map, List.take_length] at hL' hN' pl
    refine ⟨_, rfl, L, _, rfl, .inl ⟨sql hL', fun a ha => ?_⟩⟩
    have s4 := same_new ha (.tup ((behindM bs rs).map V.str))
    refine ⟨_, rfl, _, rfl, (by show 3 ≤ sizeLine; decide), fun t ht => ?_⟩
    have s5 := same_new ht (.tup [.ref a, .ref N, .ref R])
    exact q t a N R _ ts (sm.trans (s4.trans s5)) upd_same (s5 _ _ upd_same) (s5 _ _ (s4 _ _ hN')) (s5 _ _ (s4 _ _ hR')) ((pl.move (KeepT.of s4)).move (KeepT.of s5))
abbrev nTwo : List Str := ["books", "rows", "found", "some", "at", "one", "other", "row"]
theorem scTwo : FnScope nTwo ["books", "rows"] (defScope sTwo) := ⟨rfl, rfl, rfl, by decide +kernel, rfl, by decide +kernel, by decide +kernel⟩
theorem ok_twoT {f : Addr} {fd : FuncData} (F : Fun K "_law_two" "_law_two" sTwo f fd) (B : Bi mg) : FnOk P w K mg base CX0 1 f fd ["books", "rows"] (spTwoT K) := by
  refine F.ok scTwo (fun vs H Q E h => ?_) (fun cdv A outer s H vs Q E hr h => ?_)
  · obtain ⟨p, r, bs, ts, rows, rfl, _⟩ := h
    rfl
  obtain ⟨p, r, bs, ts, rows, rfl, hp, hl, okB, hrr, pl, hl2, okR, q⟩ := h
  refine ⟨_, pss_cons (ps_par (i := 2) (j := 3) (by rfl) scTwo.nd rfl rfl (by decide) rfl rfl (pa_cons (pe_lst pa_nil) (pa_cons (pe_callB cr_sortedS (by rfl) B.sorted (by decide +kernel) (pa_cons (pv 0) pa_nil)) pa_nil)) (by rfl))
    (pss_cons (ps_for PassesOwn.never rfl (pi_enum (by rfl) B.enumerate (pa_cons (pv 3) pa_nil)) (pg_tup rfl (pgs_cons (pg_name (i := 4) scTwo.nd rfl (.inl rfl)) (pgs_cons (pg_name (i := 5) scTwo.nd rfl (.inr rfl)) pgs_nil)))
      (pss_one (ps_for PassesOwn.never rfl (pi_list (pe_slice sl_list (pv 3) (po_some (pe_op op_add (pv 4) pe_int)) po_none)) (pg_name (i := 6) scTwo.nd rfl (.inr rfl))
        (pss_one (ps_expr (pe_bm PySem.F.plainAttrs_list PySem.F.slot_list_append PySem.F.type_list_append mt_append (pv 2) (pa_cons (pe_tup (pa_cons (pv 5) (pa_cons (pv 6) (pa_cons
          (pe_callB call_len_seq (by rfl) B.len PySem.boot_len (pa_cons (pe_lc (own := [("row", 7)]) (g := gName 7) (tt := tTest (tOp (rEqD K) (tCB (rSortedT K) (tCons (tVar 7) tNil)) (tLst (tCons (tVar 5) (tCons (tVar 6) tNil)))))
            (by rfl) scTwo.nd (pi_list (pv 1)) (blkOk_by (own := [("row", 7)]) (N := nTwo) (sc := defScope sTwo) (by decide +kernel)) (fun _ _ _ _ _ => pg_name (i := 7) scTwo.nd rfl (.inl rfl))
            (fun _ _ _ _ _ => pts_one (pt_cmpR (oEqD (K := K) hr.units rfl) (pe_callB (cSortT (K := K) rfl) (by rfl) B.sorted (by decide +kernel) (pa_cons (pv 7) pa_nil)) (pe_lst (pa_cons (pv 5) (pa_cons (pv 6) pa_nil))) (nomark _)))
            (fun _ _ _ _ _ => pe_int)) pa_nil)) pa_nil)))) pa_nil)))))))
    (pss_one (ps_ret (pv 2)))), ?_⟩
  refine ⟨Nat.zero_le _, fun Fd hF => ⟨_, rfl, p, bs, rfl, (same_new hF _).seq hp, by omega, fun ys So pm so hSo => ⟨_, _, rfl, ?_⟩⟩⟩
  have ly : ys.length = bs.length := pm.length_eq
  have s1 := same_new hF (.lst [])
  have s2 := same_new hSo (.lst (ys.map V.str))
  have sm0 : Same H (upd (upd H Fd (.lst [])) So (.lst (ys.map V.str))) := s1.trans s2
  have nFS : Fd ≠ So := ne_of_none upd_same hSo
  have hF2 : upd (upd H Fd (.lst [])) So (.lst (ys.map V.str)) Fd = some (.lst []) := s2 _ _ upd_same
  have hS2 : upd (upd H Fd (.lst [])) So (.lst (ys.map V.str)) So = some (.lst (ys.map V.str)) := upd_same
  generalize upd (upd H Fd (.lst [])) So (.lst (ys.map V.str)) = H2 at sm0 hF2 hS2 ⊢
  have okY : ∀ b ∈ ys, PyData.strOk b = true := fun b hb => okB b (pm.mem_iff.mp hb)
  have plen : ∀ n, n ≤ ys.length → (prs ys n).length ≤ 49 := fun n hn => by
    have z := prs_len ys n
    have z2 : n * ys.length ≤ 7 * 7 := Nat.mul_le_mul (by omega) (by omega)
    omega
  refine ⟨_, rfl, So, _, rfl, sql hS2, for_it (walk_enum (K := K) (a := So) (xs := ys.map V.str))
    (fun i σ H' => ∃ (y4 y5 y6 : Option V) (us : List Addr), σ = [some (.ref p), some (.ref r), some (.ref Fd), some (.ref So), y4, y5, y6, none] ∧ Same H H' ∧ H' Fd = some (.lst (us.map V.ref)) ∧ H' So = some (.lst (ys.map V.str)) ∧ TriL rows H' us (prs ys i))
    ⟨none, none, none, [], rfl, sm0, hF2, hS2, rfl, fun i t q h => by simp at h⟩ (fun i σ H' _ ⟨_, _, _, _, _, _, _, h, _⟩ => sql h) ?_ ?_⟩
  · rintro i x σ H3 H4 hi ⟨y4, y5, y6, us, rfl, sm, hF3, hS3, tl⟩ ⟨T, x1, x2, rfl, nT, rfl, e1, e2⟩
    rw [List.length_map] at hi
    cases e1
    obtain ⟨a, ha, rfl⟩ := strs_get e2
    have s4 := same_new nT (.tup [natV i, .str a])
    have sm4 := sm.trans s4
    have hF4 := s4 _ _ hF3
    have hS4 := s4 _ _ hS3
    have tl4 := tl.move (KeepT.of s4)
    have hT4 : upd H3 T (.tup [natV i, .str a]) T = some (.tup [natV i, .str a]) := upd_same
    generalize upd H3 T (.tup [natV i, .str a]) = H4 at sm4 hF4 hS4 tl4 hT4 ⊢
    refine ⟨T, _, rfl, sqt hT4, rfl, _, _, rfl, _, _, rfl, rfl, ?_⟩
    refine ⟨_, rfl, _, rfl, _, _, rfl, rfl, _, rfl, So, _, rfl, sql hS4, fun c hc => ?_⟩
    have ecut : cutV (ys.map V.str) (some ((i : Int) + 1)) none = (ys.drop (i + 1)).map V.str := by
      rw [show ((i : Int) + 1) = ((i + 1 : Nat) : Int) by omega, cut_from (by rw [List.length_map]; omega), List.map_drop]
    rw [ecut]
    have s5 := same_new hc (.lst ((ys.drop (i + 1)).map V.str))
    have sm5 := sm4.trans s5
    have hF5 := s5 _ _ hF4
    have hS5 := s5 _ _ hS4
    have tl5 := tl4.move (KeepT.of s5)
    have hc5 : upd H4 c (.lst ((ys.drop (i + 1)).map V.str)) c = some (.lst ((ys.drop (i + 1)).map V.str)) := upd_same
    have ncF : c ≠ Fd := (ne_of_none hF4 hc).symm
    generalize upd H4 c (.lst ((ys.drop (i + 1)).map V.str)) = H5 at sm5 hF5 hS5 tl5 hc5 ⊢
    refine ⟨c, rfl, ⟨_, sql hc5⟩, for_list (K := K) (a := c) (xs := (ys.drop (i + 1)).map V.str)
      (fun j σ H' => ∃ (y6 : Option V) (us : List Addr), σ = [some (.ref p), some (.ref r), some (.ref Fd), some (.ref So), some (natV i), some (.str a), y6, none] ∧ Same H H' ∧ H' Fd = some (.lst (us.map V.ref)) ∧ H' So = some (.lst (ys.map V.str)) ∧
        H' c = some (.lst ((ys.drop (i + 1)).map V.str)) ∧ TriL rows H' us (prs ys i ++ ((ys.drop (i + 1)).take j).map fun b => (a, b)))
      ⟨y6, us, rfl, sm5, hF5, hS5, hc5, by rw [List.take_zero, List.map_nil, List.append_nil]; exact tl5⟩ (fun j σ H' _ ⟨_, _, _, _, _, _, h, _⟩ => sql h) ?_ ?_⟩
    · rintro j x σ H6 hx ⟨y6, us6, rfl, sm6, hF6, hS6, hc6, tl6⟩
      obtain ⟨b, hb, rfl⟩ := strs_get hx
      have okab : SeqAt.shaped (.list [.str a, .str b]) = true := shaped_two (okY a (List.mem_of_getElem? ha)) (okY b (List.mem_of_mem_drop (List.mem_of_getElem? hb)))
      refine ⟨_, rfl, .inl ⟨rfl, _, sql hF6⟩, _, rfl, _, rfl, _, rfl, r, rfl, ⟨_, sm6.seq (sql hrr)⟩, fun D hD => lc_list (K := K) (a := r) (xs := ts.map V.ref)
        (fun k H' => Same H6 H' ∧ H' D = some (.lst (List.replicate (cnt (rows.take k) (a, b)) (V.int 1))))
        ⟨same_new hD _, upd_same⟩ (fun k H' _ ⟨s', _⟩ => s'.seq (sm6.seq (sql hrr))) ?_ ?_⟩
      · rintro k x H7 hx7 ⟨s7, hD7⟩
        have hk : k < ts.length := by
          have z := (List.getElem?_eq_some_iff.mp hx7).1
          rw [List.length_map] at z
          exact z
        rw [List.getElem?_map, List.getElem?_eq_getElem hk] at hx7
        cases hx7
        have hk2 : k < rows.length := by rw [← pl.1]; exact hk
        have ht : H7 ts[k] = some (.tup [.str rows[k].1, .str rows[k].2]) := s7 _ _ (sm6 _ _ (pl.2 k _ _ (List.getElem?_eq_getElem hk) (List.getElem?_eq_getElem hk2)))
        have okr := okR rows[k] (List.getElem_mem hk2)
        refine ⟨rfl, _, rfl, ts[k], [rows[k].1, rows[k].2], rfl, sqt ht, by show 2 < 64; decide, fun zs l pz sz hl' => ?_⟩
        have ez : zs = [(asPair rows[k]).1, (asPair rows[k]).2] := sorted_two pz sz
        subst ez
        have okp : PyData.strOk (asPair rows[k]).1 = true ∧ PyData.strOk (asPair rows[k]).2 = true := by
          unfold asPair
          by_cases c : ltS rows[k].1 rows[k].2
          · rw [if_pos c]
            exact okr
          · rw [if_neg c]
            exact ⟨okr.2, okr.1⟩
        have s8 := same_new hl' (.lst ([(asPair rows[k]).1, (asPair rows[k]).2].map V.str))
        refine ⟨_, rfl, _, rfl, (by show 2 ≤ sizeLine; decide), fun m hm' => ?_⟩
        have s9 := same_new hm' (.lst [V.str a, V.str b])
        refine ⟨.list [.str (asPair rows[k]).1, .str (asPair rows[k]).2], .list [.str a, .str b], .lst (sql (s9 _ _ upd_same)) (.cons (.str _) (.cons (.str _) .nil)), .lst (sql upd_same) (.cons (.str _) (.cons (.str _) .nil)), shaped_two okp.1 okp.2, okab, _, rfl, ?_⟩
        rw [eqv_two]
        have es : cnt (rows.take (k + 1)) (a, b) = cnt (rows.take k) (a, b) + if asPair rows[k] = (a, b) then 1 else 0 := by
          rw [List.take_add_one, List.getElem?_eq_getElem hk2]
          exact cnt_snoc _ _ _
        have lcnt : cnt (rows.take k) (a, b) ≤ 900 := by
          unfold cnt
          have z := List.length_filter_le (fun r => decide (asPair r = (a, b))) (rows.take k)
          rw [List.length_take] at z
          omega
        refine ite2 (fun c => ?_) (fun c => ?_)
        · have c' : asPair rows[k] = (a, b) := of_decide_eq_true c
          refine ⟨_, s9 _ _ (s8 _ _ hD7), by rw [List.length_replicate]; exact small1000 (by omega), same_put (s7.trans (s8.trans s9)) hD, ?_⟩
          rw [upd_same, es, if_pos c', List.replicate_succ']
        · have c' : ¬ asPair rows[k] = (a, b) := of_decide_eq_false (Bool.eq_false_iff.mpr c)
          refine ⟨s7.trans (s8.trans s9), ?_⟩
          rw [es, if_neg c', Nat.add_zero]
          exact s9 _ _ (s8 _ _ hD7)
      · rintro H7 ⟨s7, hD7⟩
        rw [List.length_map, pl.1, List.take_length] at hD7
        refine ⟨D, _, rfl, .inl (sql hD7), (by show 3 ≤ sizeLine; decide), fun t ht => ?_⟩
        rw [List.length_replicate]
        have s8 := same_new ht (.tup [.str a, .str b, natV (cnt rows (a, b))])
        have hF8 := s8 _ _ (s7 _ _ hF6)
        have lus : us6.length ≤ 60 := by
          rw [tl6.1, List.length_append, List.length_map, List.length_take, List.length_drop]
          have z := plen i (by omega)
          omega
        refine ⟨Fd, _, _, rfl, rfl, hF8, by rw [List.length_map]; exact small1000 (by omega), ?_⟩
        refine ⟨_, us6 ++ [t], rfl, same_put (sm6.trans (s7.trans s8)) hF, by rw [upd_same, List.map_append]; rfl, ?_, ?_, ?_⟩
        · rw [upd_ne nFS.symm]
          exact s8 _ _ (s7 _ _ hS6)
        · rw [upd_ne ncF]
          exact s8 _ _ (s7 _ _ hc6)
        · rw [List.take_add_one, hb, List.map_append, ← List.append_assoc]
          exact ((tl6.move (KeepT.of (s7.trans s8))).snoc (t := t) (q := (a, b)) upd_same).move (KeepT.put hF8 (fun xs z => nomatch z))
    · rintro σ H6 ⟨y6, us6, rfl, sm6, hF6, hS6, hc6, tl6⟩
      rw [List.length_map, List.take_length] at tl6
      refine ⟨_, _, y6, us6, rfl, sm6, hF6, hS6, ?_⟩
      rw [prs_succ ha]
      exact tl6
  · rintro σ H3 ⟨y4, y5, y6, us, rfl, sm, hF3, hS3, tl⟩
    rw [List.length_map] at tl
    exact ⟨_, rfl, q Fd H3 ys _ sm hF pm so hF3 tl.dp⟩
abbrev nLater : List Str := ["wants", "day", "pile", "book", "many"]
theorem scLater : FnScope nLater ["wants", "day"] (defScope sLater) := ⟨rfl, rfl, rfl, by decide +kernel, rfl, by decide +kernel, by decide +kernel⟩
theorem ok_later {f : Addr} {fd : FuncData} (F : Fun K "_law_later_day" "_law_later_day" sLater f fd) (cRd : Has P w K mg base 1 "_law_read" ["pile", "readings"] (spReadT K)) : FnOk P w K mg base CX0 2 f fd ["wants", "day"] (spLater K) := by
  refine F.ok scLater (fun vs H Q E h => ?_) (fun cdv A outer s H vs Q E hr h => ?_)
  · obtain ⟨W, r, ws, rs, rfl, _⟩ := h
    rfl
  obtain ⟨W, r, ws, rs, rfl, ⟨ts, hW, wl⟩, hrr, hl, hl2, hm, q⟩ := h
  refine ⟨_, pss_cons (ps_set (i := 2) scLater.nd rfl (.inl rfl) (pe_ix ix_tup (pe_go cRd hr (by decide) rfl (pa_cons
      (pe_lc (own := [("book", 3), ("many", 4)]) (g := gTup K 2 (gCons (gName 3) (gCons (gName 4) gNil))) (tt := tYes) (by rfl) scLater.nd (pi_tup (pv 0))
        (blkOk_by (own := [("book", 3), ("many", 4)]) (N := nLater) (sc := defScope sLater) (by decide +kernel))
        (fun _ _ _ _ _ => pg_tup rfl (pgs_cons (pg_name (i := 3) scLater.nd rfl (.inl rfl)) (pgs_cons (pg_name (i := 4) scLater.nd rfl (.inl rfl)) pgs_nil))) (fun _ _ _ _ _ => pts_nil) (fun _ _ _ _ _ => pv 3))
      (pa_cons (pv 1) pa_nil))) pe_int (fun _ _ => rfl)))
    (pss_one (ps_ret (pe_go cRd hr (by decide) rfl (pa_cons (pv 2) (pa_cons (pv 1) pa_nil))))), ?_⟩
  have pm := behindM_perm rs hm
  refine ⟨_, rfl, W, rfl, ⟨_, hW.sqt⟩, fun D hD => lc_tup (K := K) (a := W) (xs := ts.map V.ref) (fun i H' => SameT D H H' ∧ H' D = some (.lst ((wnames (ws.take i)).map V.str)))
    ⟨SameT.of (same_new hD _), upd_same⟩ (fun i H' _ h' => (hW.sameT h'.1 (hW.taken hD)).sqt) ?_ ?_⟩
  · rintro i x H' hx ⟨sD, hD'⟩
    obtain ⟨t, ht, rfl⟩ := refs_get hx
    have hi : i < ts.length := (List.getElem?_eq_some_iff.mp ht).1
    have hp : ws[i]? = some (ws[i]'(by rw [← wl.1]; exact hi)) := List.getElem?_eq_getElem _
    generalize ws[i]'(by rw [← wl.1]; exact hi) = p at hp
    have e2 := wl.2 i t p ht hp
    have hT := sD _ _ (ne_of_none e2 hD) e2
    refine ⟨t, _, rfl, sqt hT, rfl, _, _, rfl, _, _, rfl, rfl, rfl, _, rfl, _, hD', ?_, fun b' o n h => ?_, ?_⟩
    · rw [List.length_map, wn_len, List.length_take]
      exact small1000 (by omega)
    · rw [upd_ne n]
      exact sD b' o n h
    · rw [upd_same, List.take_add_one, hp]
      show some (HO.lst (_ ++ [V.str p.1])) = some (.lst (((ws.take i ++ [p]).map _).map V.str))
      rw [List.map_append, List.map_append]
      rfl
  · rintro H1 ⟨sD, hD1⟩
    rw [List.length_map, wl.1, List.take_length] at hD1
    have s1 : Same H H1 := fun b' o h => sD b' o (ne_of_none h hD) h
    refine ⟨_, rfl, D, r, wnames ws, rs, rfl, .inl (sql hD1), hrr.same s1, by rw [wn_len]; exact hl, hl2, hm, fun t a n o H2 us s2 ht ha hn ho pl => ?_⟩
    refine ⟨t, _, 0, .ref a, rfl, rfl, sqt ht, rfl, ?_⟩
    refine ⟨_, rfl, _, rfl, a, r, behindM (wnames ws) rs, rs, rfl, .inr (sqt ha), (hrr.same s1).same s2, by rw [pm.length_eq, wn_len]; exact hl, hl2, fun b hb => pm.mem_iff.mpr (hm b hb), fun t2 a2 n2 o2 H3 us2 s3 ht2 ha2 hn2 ho2 pl2 => ?_⟩
    exact q t2 a2 n2 o2 H3 us2 (s1.trans (s2.trans s3)) ht2 ha2 hn2 ho2 pl2
theorem scLaid : FnScope ["pile", "book", "at"] ["pile", "book"] (defScope sLaid) := ⟨rfl, rfl, rfl, by decide +kernel, rfl, by decide +kernel, by decide +kernel⟩
theorem ok_laid {f : Addr} {fd : FuncData} (F : Fun K "laid_on_top" "laid_on_top" sLaid f fd) : FnOk P w K mg base CX0 1 f fd ["pile", "book"] spLaid := by
  refine F.ok scLaid (fun vs H Q E h => ?_) (fun cdv A outer s H vs Q E hr h => ?_)
  · obtain ⟨p, bs, b, rfl, _⟩ := h
    rfl
  obtain ⟨p, bs, b, rfl, hp, hb, hl, q⟩ := h
  refine ⟨_, pss_cons (ps_set (i := 2) scLaid.nd rfl (.inl rfl) (pe_tm PySem.F.slot_tuple_index PySem.F.type_tuple_index mt_tup_index (pv 0) (pa_cons (pv 1) pa_nil)))
    (pss_one (ps_ret (pe_op op_catZ (pe_op op_catZ (pe_tupZ (pa_cons (pv 1) pa_nil)) (pe_slice sl_tupA (pv 0) po_none (po_some (pv 2))))
      (pe_slice sl_tupA (pv 0) (po_some (pe_op op_add (pv 2) pe_int)) po_none)))), ?_⟩
  have ib := idx_lt hb
  have lm : (bs.map V.str).length = bs.length := List.length_map _
  refine ⟨_, rfl, ⟨p, _, rfl, hp⟩, _, rfl, p, bs, b, bs.idxOf b, rfl, rfl, hp.sqt, idx_get hb, idx_first, ?_⟩
  refine ⟨_, rfl, (by show 1 ≤ sizeLine; decide), fun t u ht hu => ?_⟩
  have s1 : Same H (upd H t u) := same_new ht _
  have g1 : ¬ (HT.sIx (bs.map V.str).length 0 none = 0 ∧ HT.sIx (bs.map V.str).length (bs.map V.str).length (some ((bs.idxOf b : Nat) : Int)) = (bs.map V.str).length) := by
    rw [HT.sIx_nat, lm]
    omega
  refine ⟨_, rfl, _, rfl, _, rfl, p, _, rfl, (hp.same s1).sqt, fun z => absurd z g1, fun _ a ha => ?_⟩
  rw [cut_to (by rw [lm]; omega), ← List.map_take]
  have s2 := same_new ha (.tup ((bs.take (bs.idxOf b)).map V.str))
  have t2 : TpO (upd (upd H t u) a (.tup ((bs.take (bs.idxOf b)).map V.str))) t [V.str b] := (TpO.new hu).same s2
  have ha2 : upd (upd H t u) a (.tup ((bs.take (bs.idxOf b)).map V.str)) a = some (.tup ((bs.take (bs.idxOf b)).map V.str)) := upd_same
  have s12 := s1.trans s2
  generalize upd (upd H t u) a (.tup ((bs.take (bs.idxOf b)).map V.str)) = H2 at s12 t2 ha2 ⊢
  have fin : ∀ (c : Addr) (H3 : Hp), Same H H3 → TpO H3 c ([V.str b] ++ (bs.take (bs.idxOf b)).map V.str) → ∀ σ : L2.St, σ = [some (.ref p), some (.str b), some (.int ((bs.idxOf b : Nat) : Int))] →
      tSl (rSlA K) (tVar 0) (tPart (tOp (rI0 fun i j => .int (i + j)) (tVar 2) (tC (.int 1)))) tNoPart σ H3 fun y H4 => rCatZ K (.ref c) y H4 Q := by
    rintro c H3 s3 hc σ rfl
    have g2 : ¬ (HT.sIx (bs.map V.str).length 0 (some (((bs.idxOf b : Nat) : Int) + 1)) = 0 ∧ HT.sIx (bs.map V.str).length (bs.map V.str).length none = (bs.map V.str).length) := by
      have e : (((bs.idxOf b : Nat) : Int) + 1) = ((bs.idxOf b + 1 : Nat) : Int) := by omega
      rw [e, HT.sIx_nat, lm]
      omega
    refine ⟨_, rfl, _, rfl, _, _, rfl, rfl, _, rfl, p, _, rfl, (hp.same s3).sqt, fun z => absurd z g2, fun _ d hd => ?_⟩
    have ecut : cutV (bs.map V.str) (some (((bs.idxOf b : Nat) : Int) + 1)) none = (bs.drop (bs.idxOf b + 1)).map V.str := by
      have e : (((bs.idxOf b : Nat) : Int) + 1) = ((bs.idxOf b + 1 : Nat) : Int) := by omega
      rw [e, cut_from (by rw [lm]; omega), List.map_drop]
    rw [ecut]
    have s4 := same_new hd (.tup ((bs.drop (bs.idxOf b + 1)).map V.str))
    refine ⟨c, d, _, _, rfl, rfl, (hc.same s4).sqt, sqt upd_same, by simp, ?_, fun z => ?_, fun _ r v hr' hv => ?_⟩
    · rw [List.length_append, List.length_map, List.length_map, List.length_take, List.length_drop, List.length_singleton]
      exact Nat.le_of_lt (small1000 (by omega))
    · refine q c _ (s3.trans s4) ?_
      have e : (lay bs b).map V.str = [V.str b] ++ (bs.take (bs.idxOf b)).map V.str := by rw [lay_map, z, List.append_nil]
      rw [e]
      exact hc.same s4
    · refine q r _ (s3.trans (s4.trans (same_new hr' _))) ?_
      rw [lay_map, ← List.append_assoc]
      exact TpO.new hv
  refine ⟨t, a, _, _, rfl, rfl, t2.sqt, sqt ha2, by simp, ?_, fun z => ?_, fun _ c v hc hv => ?_⟩
  · rw [List.length_map, List.length_take, List.length_singleton]
    exact Nat.le_of_lt (small1000 (by omega))
  · refine fin t H2 s12 ?_ _ rfl
    rw [z, List.append_nil]
    exact t2
  · exact fin c _ (s12.trans (same_new hc _)) (TpO.new hv) _ rfl
theorem scBehind : FnScope ["pile", "readings", "order", "book"] ["pile", "readings"] (defScope sBehind) := ⟨rfl, rfl, rfl, by decide +kernel, rfl, by decide +kernel, by decide +kernel⟩
theorem ok_behindT {f : Addr} {fd : FuncData} (F : Fun K "behind" "behind" sBehind f fd) (cL : Has P w K mg base 1 "laid_on_top" ["pile", "book"] spLaid) : FnOk P w K mg base CX0 2 f fd ["pile", "readings"] (spBehindT K) := by
  refine F.ok scBehind (fun vs H Q E h => ?_) (fun cdv A outer s H vs Q E hr h => ?_)
  · obtain ⟨p, r, bs, rs, rfl, _⟩ := h
    rfl
  obtain ⟨p, r, bs, rs, rfl, hp, hrr, hl, hm, q⟩ := h
  refine ⟨_, pss_cons (ps_set (i := 2) scBehind.nd rfl (.inl rfl) (pv 0))
    (pss_cons (ps_for PassesOwn.never rfl (pi_tup (pv 1)) (pg_name (i := 3) scBehind.nd rfl (.inl rfl))
      (pss_one (ps_set (i := 2) scBehind.nd rfl (.inl rfl) (pe_go cL hr (by decide) rfl (pa_cons (pv 2) (pa_cons (pv 3) pa_nil))))))
    (pss_one (ps_ret (pv 2)))), ?_⟩
  refine ⟨_, rfl, _, rfl, r, rfl, ⟨_, hrr.sqt⟩, for_tup (K := K) (a := r) (xs := rs.map V.str) (fun i σ H' => ∃ (o : Addr) (y3 : Option V), σ = [some (.ref p), some (.ref r), some (.ref o), y3] ∧ Same H H' ∧ TpO H' o ((behindM bs (rs.take i)).map V.str))
    ⟨p, none, rfl, Same.refl _, hp⟩ (fun i σ H' _ ⟨_, _, _, sm, _⟩ => (hrr.same sm).sqt) ?_ ?_⟩
  · rintro i x σ H' hx ⟨o, y3, rfl, sm, ho⟩
    obtain ⟨b, hb, rfl⟩ := strs_get hx
    have pm := behindM_perm (rs.take i) (take_sub hm i)
    refine ⟨_, rfl, _, rfl, o, _, b, rfl, ho, pm.mem_iff.mpr (hm b (List.mem_of_getElem? hb)), by rw [pm.length_eq]; exact hl, fun o2 H2 s2 h2 => ?_⟩
    refine ⟨o2, _, rfl, sm.trans s2, ?_⟩
    rw [take_step hb, behindM_snoc]
    exact h2
  · rintro σ H' ⟨o, y3, rfl, sm, ho⟩
    rw [List.length_map, List.take_length] at ho
    exact ⟨_, rfl, q o H' sm ho⟩
theorem scLifted : FnScope ["pile", "readings", "numbers", "order", "book"] ["pile", "readings"] (defScope sLifted) := ⟨rfl, rfl, rfl, by decide +kernel, rfl, by decide +kernel, by decide +kernel⟩
theorem ok_liftedT {f : Addr} {fd : FuncData} (F : Fun K "lifted" "lifted" sLifted f fd) (cL : Has P w K mg base 1 "laid_on_top" ["pile", "book"] spLaid) : FnOk P w K mg base CX0 2 f fd ["pile", "readings"] (spLiftedT K) := by
  refine F.ok scLifted (fun vs H Q E h => ?_) (fun cdv A outer s H vs Q E hr h => ?_)
  · obtain ⟨p, r, bs, rs, rfl, _⟩ := h
    rfl
  obtain ⟨p, r, bs, rs, rfl, hp, hrr, hl, hl2, hm, q⟩ := h
  refine ⟨_, pss_cons (ps_set (i := 2) scLifted.nd rfl (.inl rfl) (pe_lst pa_nil))
    (pss_cons (ps_set (i := 3) scLifted.nd rfl (.inl rfl) (pv 0))
    (pss_cons (ps_for PassesOwn.never rfl (pi_tup (pv 1)) (pg_name (i := 4) scLifted.nd rfl (.inl rfl))
      (pss_cons (ps_expr (pe_bm PySem.F.plainAttrs_list PySem.F.slot_list_append PySem.F.type_list_append mt_append (pv 2) (pa_cons (pe_tm PySem.F.slot_tuple_index PySem.F.type_tuple_index mt_tup_index (pv 3) (pa_cons (pv 4) pa_nil)) pa_nil)))
      (pss_one (ps_set (i := 3) scLifted.nd rfl (.inl rfl) (pe_go cL hr (by decide) rfl (pa_cons (pv 3) (pa_cons (pv 4) pa_nil)))))))
    (pss_one (ps_ret (pv 2))))), ?_⟩
  refine ⟨Nat.zero_le _, fun L hL => ?_⟩
  have s1 : Same H (upd H L (.lst [])) := same_new hL _
  refine ⟨_, rfl, _, rfl, r, rfl, ⟨_, (hrr.same s1).sqt⟩, for_tup (K := K) (a := r) (xs := rs.map V.str) (fun i σ H' => ∃ (o : Addr) (y4 : Option V), σ = [some (.ref p), some (.ref r), some (.ref L), some (.ref o), y4] ∧ Same H H' ∧ TpO H' o ((behindM bs (rs.take i)).map V.str) ∧ H' L = some (.lst ((liftedM bs (rs.take i)).map natV)))
    ⟨p, none, rfl, s1, hp.same s1, upd_same⟩ (fun i σ H' _ ⟨_, _, _, sm, _⟩ => (hrr.same sm).sqt) ?_ ?_⟩
  · rintro i x σ H' hx ⟨o, y4, rfl, sm, ho, hL'⟩
    obtain ⟨b, hb, rfl⟩ := strs_get hx
    have pm := behindM_perm (rs.take i) (take_sub hm i)
    have hbm := pm.mem_iff.mpr (hm b (List.mem_of_getElem? hb))
    have nLo : L ≠ o := fun e => by
      subst e
      obtain ⟨u, h1, o1, rfl, _⟩ := ho
      rw [hL'] at h1
      cases h1
    refine ⟨_, rfl, .inl ⟨rfl, _, sql hL'⟩, _, rfl, ⟨o, _, rfl, ho⟩, _, rfl, o, _, b, _, rfl, rfl, ho.sqt, idx_get hbm, idx_first, L, _, _, rfl, rfl, hL', ?_, ?_⟩
    · rw [List.length_map, liftedM_len, List.length_take]
      exact small1000 (by omega)
    · have ho2 : TpO (upd H' L (.lst ((liftedM bs (rs.take i)).map natV ++ [natV ((behindM bs (rs.take i)).idxOf b)]))) o ((behindM bs (rs.take i)).map V.str) := ho.move fun u h => by
        rw [upd_ne nLo.symm]
        exact h
      refine ⟨_, rfl, _, rfl, o, _, b, rfl, ho2, hbm, by rw [pm.length_eq]; exact hl, fun o2 H2 s2 h2 => ?_⟩
      refine ⟨o2, _, rfl, (same_put sm hL).trans s2, ?_, ?_⟩
      · rw [take_step hb, behindM_snoc]
        exact h2
      · rw [take_step hb, liftedM_snoc, List.map_append]
        exact s2 _ _ upd_same
  · rintro σ H' ⟨o, y4, rfl, sm, ho, hL'⟩
    rw [List.length_map, List.take_length] at hL'
    exact ⟨_, rfl, q L H' sm hL hL'⟩
end
end Lt

set_option Elab.async false
set_option linter.all false
set_option maxRecDepth 100000
set_option maxHeartbeats 4000000
namespace Lt
open PySem PySem.Spec PyProof.Rows L2
section
variable {P : Program} {w : World} {K : PySem.W.Frag} {mg : Str → Option Value} {base : Heap} {X : Cx}
theorem scSettled : FnScope ["wants", "day"] ["wants", "day"] (defScope sSettled) := ⟨rfl, rfl, rfl, by decide +kernel, rfl, by decide +kernel, by decide +kernel⟩
theorem ok_settledN {f c Pt : Addr} {Ps : List Addr} {fd : FuncData} (F : Fun K "settled_pile" "settled_pile" sSettled f fd) (hc : fd.code = .ref c) (TB : GxR.TabB base mg c Pt) (hPt : Pt ∈ Ps) (B : Bi mg) (cBe : Has P w K mg base 2 "behind" ["pile", "readings"] (spBehindT K)) :
    FnOk P w K mg base CX0 3 f fd ["wants", "day"] (spSettledN K Ps) := by
  obtain ⟨oc, od, kV, doc, pm, an, cdv, ct, osl, rfl, lk, hcd⟩ := F.ex
  refine fn_of lk hcd scSettled (fun vs H Q E h => ?_) fun A outer s H vs Q E hr h => ?_
  · obtain ⟨W, r, ws, rs, rfl, _⟩ := h
    rfl
  obtain ⟨W, r, ws, rs, rfl, ⟨ts, hW, wl⟩, hrr, hl, hm, tg, q⟩ := h
  have hc' : cdv = .ref c := hc
  subst hc'
  refine ⟨_, PSs.nox (pss_one (ps_ret (pe_go cBe hr (by decide) rfl (pa_cons (pe_tupG hr (by rfl) B.tuple TB rfl ⟨rfl, rfl, by decide +kernel, rfl, rfl, rfl, by decide⟩ (pv 0)) (pa_cons (pv 1) pa_nil))))), ?_⟩
  refine ⟨_, rfl, W, ts, ws.map fun p => (V.str p.1, natV p.2), rfl, hW.sqt, by rw [List.length_map]; exact wl.1, fun i t p e1 e2 => ?_, tg Pt hPt, fun H2 a u tb ha hu => ?_⟩
  · rw [List.getElem?_map] at e2
    cases e3 : ws[i]? with
    | none =>
      rw [e3] at e2
      cases e2
    | some z =>
      rw [e3] at e2
      cases e2
      exact sqt (wl.2 i t z e1 e3)
  · have s2 : SameN H (upd H2 a u) := (SameN.tab (tg Pt hPt) tb).trans (SameN.of (same_new ha u))
    have e : (ws.map fun p => (V.str p.1, natV p.2)).map (·.1) = (wnames ws).map V.str := by
      show _ = (ws.map _).map _
      rw [List.map_map, List.map_map]
      rfl
    rw [e] at hu
    refine ⟨_, rfl, a, r, wnames ws, rs, rfl, TpO.new hu, hrr.sameN s2, ?_, hm, fun o H3 s3 ho => q o H3 (s2.trans (SameN.of s3)) (((tg.tab tb).same (same_new ha u)).same s3) ho⟩
    show (ws.map _).length ≤ 1000
    rw [List.length_map]
    omega
theorem scEach : FnScope ["wants", "day"] ["wants", "day"] (defScope sEach) := ⟨rfl, rfl, rfl, by decide +kernel, rfl, by decide +kernel, by decide +kernel⟩
theorem ok_eachN {f : Addr} {Ps : List Addr} {fd : FuncData} (F : Fun K "each_day" "each_day" sEach f fd) (B : Bi mg) (cSe : Has P w K mg base 3 "settled_pile" ["wants", "day"] (spSettledN K Ps)) (cLi : Has P w K mg base 2 "lifted" ["pile", "readings"] (spLiftedT K)) :
    FnOk P w K mg base CX0 4 f fd ["wants", "day"] (spEachN K Ps) := by
  refine F.ok scEach (fun vs H Q E h => ?_) (fun cdv A outer s H vs Q E hr h => ?_)
  · obtain ⟨W, r, ws, rs, rfl, _⟩ := h
    rfl
  obtain ⟨W, r, ws, rs, rfl, hW, hrr, hl, hl2, hm, tg, q⟩ := h
  refine ⟨_, pss_one (ps_ret (pe_callB (cr_sum rfl) (by rfl) B.sum (by decide +kernel) (pa_cons (pe_go cLi hr (by decide) rfl (pa_cons (pe_go cSe hr (by decide) rfl (pa_cons (pv 0) (pa_cons (pv 1) pa_nil))) (pa_cons (pv 1) pa_nil))) pa_nil))), ?_⟩
  refine ⟨_, rfl, _, rfl, W, r, ws, rs, rfl, hW, hrr, hl, hm, tg, fun o H1 s1 tg1 ho => ?_⟩
  have pm := behindM_perm rs hm
  refine ⟨_, rfl, o, r, _, rs, rfl, ho, hrr.sameN s1, by rw [pm.length_eq, wn_len]; omega, by omega, fun b hb => pm.mem_iff.mpr (hm b hb), fun l H2 s2 n2 h2 => ?_⟩
  rw [natV_map] at h2
  refine ⟨l, _, rfl, sql h2, ?_⟩
  rw [sum_nat]
  exact q H2 (s1.trans (SameN.of s2)) (tg1.same s2)
theorem scMost : FnScope ["wants"] ["wants"] (defScope sMost) := ⟨rfl, rfl, rfl, by decide +kernel, rfl, by decide +kernel, by decide +kernel⟩
theorem ok_most {f : Addr} {Ps : List Addr} {fd : FuncData} (F : Fun K "most" "most" sMost f fd) (cDy : Has P w K mg base 3 "most_day" ["wants"] (spMostDay Ps)) (cEa : Has P w K mg base 4 "each_day" ["wants", "day"] (spEachN K Ps)) :
    FnOk P w K mg base CX0 5 f fd ["wants"] (spMost Ps) := by
  refine F.ok scMost (fun vs H Q E h => ?_) (fun cdv A outer s H vs Q E hr h => ?_)
  · obtain ⟨W, ws, rfl, _⟩ := h
    rfl
  obtain ⟨W, ws, rfl, hW, wok, tg, q⟩ := h
  refine ⟨_, pss_one (ps_ret (pe_go cEa hr (by decide) rfl (pa_cons (pv 0) (pa_cons (pe_go cDy hr (by decide) rfl (pa_cons (pv 0) pa_nil)) pa_nil)))), ?_⟩
  refine ⟨_, rfl, _, rfl, W, ws, rfl, hW, wok, tg, fun D H1 s1 tg1 hD => ?_⟩
  exact ⟨W, D, ws, mostM ws, rfl, hW.sameN s1, hD.tps, wok.len, wok.mostLen, wok.mostIn, tg1, fun H2 s2 tg2 => q H2 (s1.trans s2) tg2⟩
theorem scLeast : FnScope ["wants"] ["wants"] (defScope sLeast) := ⟨rfl, rfl, rfl, by decide +kernel, rfl, by decide +kernel, by decide +kernel⟩
theorem ok_least {f : Addr} {Ps : List Addr} {fd : FuncData} (F : Fun K "least" "least" sLeast f fd) (cDy : Has P w K mg base 3 "least_day" ["wants"] (spLeastDay Ps)) (cEa : Has P w K mg base 4 "each_day" ["wants", "day"] (spEachN K Ps)) :
    FnOk P w K mg base CX0 5 f fd ["wants"] (spLeast Ps) := by
  refine F.ok scLeast (fun vs H Q E h => ?_) (fun cdv A outer s H vs Q E hr h => ?_)
  · obtain ⟨W, ws, rfl, _⟩ := h
    rfl
  obtain ⟨W, ws, rfl, hW, wok, tg, q⟩ := h
  refine ⟨_, pss_one (ps_ret (pe_go cEa hr (by decide) rfl (pa_cons (pv 0) (pa_cons (pe_go cDy hr (by decide) rfl (pa_cons (pv 0) pa_nil)) pa_nil)))), ?_⟩
  refine ⟨_, rfl, _, rfl, W, ws, rfl, hW, wok, tg, fun D H1 s1 tg1 hD => ?_⟩
  exact ⟨W, D, ws, flat ws, rfl, hW.sameN s1, hD.tps, wok.len, wok.flatLen, fun b hb => flat_mem hb, tg1, fun H2 s2 tg2 => q H2 (s1.trans s2) tg2⟩
theorem nd_turn : ([".0", "turn", "book"] : List Str).Nodup := by decide +kernel
abbrev nMostDay : List Str := ["wants", "turns", "book", "many", "turn"]
theorem scMostDay : FnScope nMostDay ["wants"] (defScope sMostDay) := ⟨rfl, rfl, rfl, by decide +kernel, rfl, by decide +kernel, by decide +kernel⟩
theorem ok_mostDay {f c Pm : Addr} {Ps : List Addr} {fd : FuncData} (F : Fun K "most_day" "most_day" sMostDay f fd) (hc : fd.code = .ref c) (TB : GxR.TabB base mg c Pm) (hPm : Pm ∈ Ps) (B : Bi mg) : FnOk P w K mg base CX0 3 f fd ["wants"] (spMostDay Ps) := by
  obtain ⟨oc, od, kv0, doc, pm, an, cdv, ct, osl, rfl, lk, hcd⟩ := F.ex
  refine fn_of lk hcd scMostDay (fun vs H Q E h => ?_) fun A outer s H vs Q E hr h => ?_
  · obtain ⟨W, ws, rfl, _⟩ := h
    rfl
  obtain ⟨W, ws, rfl, ⟨ts, hW, wl⟩, wok, tg, q⟩ := h
  have hc' : cdv = .ref c := hc
  subst hc'
  refine ⟨_, PSs.nox (pss_cons (ps_setLc2 (i := 1) (own := [("book", 2), ("many", 3), ("turn", 4)]) (vs1 := [4]) (g := gTup K 2 (gCons (gName 2) (gCons (gName 3) gNil))) (tt := tYes) (g1 := gName 4) (tt1 := tYes) (wi1 := iRng1 (tCons (tVar 3) tNil))
        (by rfl) scMostDay.nd rfl rfl (sw_true rfl rfl rfl (by decide +kernel)) (pi_tup (pv 0)) (blkOk_by (own := [("book", 2), ("many", 3), ("turn", 4)]) (N := nMostDay) (sc := defScope sMostDay) (by decide +kernel)) (by decide)
        (fun _ _ _ _ _ => pg_tup rfl (pgs_cons (pg_name (i := 2) scMostDay.nd rfl (.inl rfl)) (pgs_cons (pg_name (i := 3) scMostDay.nd rfl (.inl rfl)) pgs_nil)))
        (fun _ _ _ _ _ => pts_nil) (fun _ _ _ _ _ => pi_range1 (by rfl) B.range (pa_cons (pv 3) pa_nil))
        (fun _ _ _ _ _ => pg_name (i := 4) scMostDay.nd rfl (.inl rfl)) (fun _ _ _ _ _ => pts_nil)
        (fun _ _ _ _ _ => pe_tup (pa_cons (pv 4) (pa_cons (pv 2) pa_nil))))
    (pss_one (ps_ret (pe_tupM (pgen_exp (xs := ["turn", "book"]) (k := 0) (g := gTup K 2 (gCons (gName 1) (gCons (gName 2) gNil))) (tb := tEmit (tVar 2)) (body := emitS _) hr TB rfl ⟨rfl, rfl, by decide +kernel, rfl⟩
        (pi_list (pe_callB cr_sortK (by rfl) B.sorted (by decide +kernel) (pa_cons (pv 1) pa_nil))) (fun _ _ => den_one)
        (fun _ _ _ _ _ _ _ => pg_tup rfl (pgs_cons (pg_name (i := 1) nd_turn rfl (.inl rfl) (.inl rfl)) (pgs_cons (pg_name (i := 2) nd_turn rfl (.inl rfl) (.inl rfl)) pgs_nil)))
        (fun _ _ _ _ _ _ _ _ => gb_emit (fun _ _ z => z) (pv 2) rfl)) hr (by rfl) B.tuple)))), ?_⟩
  refine ⟨_, rfl, W, rfl, ⟨_, hW.sqt⟩, fun D hD => ?_⟩
  refine in_it (walk_tup (K := K) (a := W) (xs := ts.map V.ref)) (fun i H' => ∃ us : List Addr, Same H H' ∧ H' D = some (.lst (us.map V.ref)) ∧ RowsL turnV H' us (turnsM (ws.take i)))
    ⟨[], same_new hD _, upd_same, RowsL.nil _⟩ (fun i H' _ ⟨_, sm, _⟩ => (hW.same sm).sqt) ?_ ?_
  · rintro i x H2 H3 hi ⟨us, sm, hD2, rl⟩ ⟨rfl, ex⟩
    obtain ⟨t, ht, rfl⟩ := refs_get ex
    have hi' : i < ts.length := (List.getElem?_eq_some_iff.mp ht).1
    have hp : ws[i]? = some (ws[i]'(by rw [← wl.1]; exact hi')) := List.getElem?_eq_getElem _
    generalize ws[i]'(by rw [← wl.1]; exact hi') = p at hp
    have hT := sm _ _ (wl.2 i t p ht hp)
    have few : topW (ws.take i) + p.2 ≤ 60 := by
      have z := top_take ws (i + 1)
      have y := wok.few
      have e := congrArg List.length (turns_take hp)
      rw [List.length_append, turns_len, turns_len, List.length_map, List.length_range] at e
      omega
    refine ⟨t, _, rfl, sqt hT, rfl, _, _, rfl, _, _, rfl, rfl, rfl, ?_⟩
    refine ⟨_, rfl, (p.2 : Int), rfl, by omega, by omega, ?_⟩
    rw [Int.toNat_natCast]
    refine in_it (walk_range (lo := 0) (n := p.2)) (fun j H' => ∃ us : List Addr, Same H H' ∧ H' D = some (.lst (us.map V.ref)) ∧ RowsL turnV H' us (turnsM (ws.take i) ++ (List.range j).map fun t => (t, p.1)))
      ⟨us, sm, hD2, by rw [List.range_zero, List.map_nil, List.append_nil]; exact rl⟩ (fun _ _ _ _ => trivial) ?_ ?_
    · rintro j x H4 H5 hj ⟨us4, sm4, hD4, rl4⟩ ⟨rfl, rfl⟩
      refine ⟨rfl, _, rfl, _, rfl, (by show 2 ≤ sizeLine; decide), fun a ha => ?_⟩
      have s6 := same_new ha (.tup [.int (0 + (j : Int)), .str p.1])
      have hD6 := s6 _ _ hD4
      have lus : us4.length ≤ 60 := by
        rw [rl4.1, List.length_append, turns_len, List.length_map, List.length_range]
        omega
      refine ⟨_, hD6, ?_, us4 ++ [a], ?_, ?_, ?_⟩
      · rw [List.length_map]
        exact small1000 (by omega)
      · exact same_put (sm4.trans s6) hD
      · rw [upd_same, List.map_append]
        rfl
      · rw [List.range_succ, List.map_append, ← List.append_assoc]
        refine ((rl4.move (KeepT.of s6)).snoc (t := a) (q := (j, p.1)) ?_).move (KeepT.put (D := D) (o := .lst (us4.map V.ref ++ [.ref a])) hD6 (fun xs z => nomatch z))
        rw [upd_same, Int.zero_add]
    · rintro H4 ⟨us4, sm4, hD4, rl4⟩
      exact ⟨us4, sm4, hD4, by rw [turns_take hp]; exact rl4⟩
  · rintro H1 ⟨us, sm, hD1, rl⟩
    rw [List.length_map, wl.1, List.take_length] at rl
    have tg1 := tg.same sm
    have ptu : us.map (pairAt H1) = turnsM ws := rows_pairs rl
    have key : ∀ t ∈ us, SqT K H1 t ((tk2 (pairAt H1 t)).map kV) ∧ tk2 (pairAt H1 t) ≠ [] := fun t ht => by
      obtain ⟨qq, _, e⟩ := rl.mem ht
      rw [pairAt_eq e]
      exact ⟨sqt e, fun z => nomatch z⟩
    refine ⟨_, rfl, D, us, fun t => tk2 (pairAt H1 t), rfl, sql hD1, key, fun t _ u _ => ⟨⟨rfl, rfl, trivial⟩, rfl⟩, fun zs p pz pw hp => ?_⟩
    have mz : ∀ t ∈ zs, H1 t = some (.tup (turnV (pairAt H1 t))) := fun t ht => by
      obtain ⟨qq, _, e⟩ := rl.mem (pz.mem_iff.mp ht)
      rw [pairAt_eq e]
      exact e
    have ends : (zs.map fun t => V.str (pairAt H1 t).2) = (mostM ws).map V.str := by
      have z := turns_one wok.up (us := zs.map (pairAt H1)) (by rw [← ptu]; exact pz.map _) (List.pairwise_map.mpr pw)
      rw [← z, List.map_map, List.map_map]
      rfl
    have s2 := same_new hp (.lst (zs.map V.ref))
    refine ⟨p, rfl, ⟨_, sql upd_same⟩, (tg1.same s2) Pm hPm, fun I H3 tb => ?_⟩
    have n3 : SameN (upd H1 p (.lst (zs.map V.ref))) H3 := SameN.tab ((tg1.same s2) Pm hPm) tb
    have hp3 : H3 p = some (.lst (zs.map V.ref)) := n3.lstH upd_same
    have tg3 : Tabs H3 Ps := (tg1.same s2).tab tb
    have n13 : SameN H1 H3 := (SameN.of s2).trans n3
    refine ⟨zs.length, fun i ys σ H' => H' = H3 ∧ ys = (zs.take i).map (fun t => V.str (pairAt H1 t).2) ∧ ∃ a b, σ = [some (.ref I), a, b], ⟨rfl, rfl, none, none, rfl⟩, ?_, ?_⟩
    · rintro i ys σ H' hi ⟨rfl, rfl, a, b, rfl⟩
      have eg : (zs.map V.ref)[i]? = some (.ref zs[i]) := by rw [List.getElem?_map, List.getElem?_eq_getElem hi]; rfl
      refine ⟨⟨_, _, sql hp3, eg⟩, fun x H' y => ?_⟩
      obtain ⟨rfl, y2⟩ := y
      have y3 := y2 _ (sql hp3)
      rw [eg] at y3
      cases y3
      refine ⟨zs[i], _, rfl, sqt (n13.tupH (mz _ (List.getElem_mem hi))), rfl, _, _, rfl, _, _, rfl, rfl, ⟨?_, _, rfl, rfl, ?_, _, _, rfl⟩⟩
      · rw [List.length_map, List.length_take]
        have l1 := pz.length_eq
        have l2 := rl.1
        rw [turns_len] at l2
        have l3 := wok.few
        exact small1000 (by omega)
      · rw [List.take_add_one, List.getElem?_eq_getElem hi, List.map_append]
        rfl
    · rintro ys σ H' ⟨rfl, rfl, a, b, rfl⟩
      refine ⟨⟨_, sql hp3, by rw [List.length_map]; exact Nat.le_refl _⟩, fun d u hd hu => ?_⟩
      rw [List.take_length, ends] at hu
      exact q d _ (((SameN.of sm).trans n13).trans (SameN.of (same_new hd u))) (tg3.same (same_new hd u)) (TpO.new hu)
theorem nd_reader : ([".0", "book", "many", "reader"] : List Str).Nodup := by decide +kernel
theorem flat_step {ws : List (Str × Nat)} {i : Nat} {p : Str × Nat} (h : ws[i]? = some p) : flat (ws.take (i + 1)) = flat (ws.take i) ++ List.replicate p.2 p.1 := by
  rw [List.take_add_one, h, flat_append]
  show _ ++ (List.replicate p.2 p.1 ++ []) = _
  rw [List.append_nil]
theorem scLeastDay : FnScope ["wants"] ["wants"] (defScope sLeastDay) := ⟨rfl, rfl, rfl, by decide +kernel, rfl, by decide +kernel, by decide +kernel⟩
theorem ok_leastDay {f c Pm : Addr} {Ps : List Addr} {fd : FuncData} (F : Fun K "least_day" "least_day" sLeastDay f fd) (hc : fd.code = .ref c) (TB : GxR.TabB base mg c Pm) (hPm : Pm ∈ Ps) (B : Bi mg) : FnOk P w K mg base CX0 3 f fd ["wants"] (spLeastDay Ps) := by
  obtain ⟨oc, od, kv0, doc, pm, an, cdv, ct, osl, rfl, lk, hcd⟩ := F.ex
  refine fn_of lk hcd scLeastDay (fun vs H Q E h => ?_) fun A outer s H vs Q E hr h => ?_
  · obtain ⟨W, ws, rfl, _⟩ := h
    rfl
  obtain ⟨W, ws, rfl, ⟨ts, hW, wl⟩, wok, tg, q⟩ := h
  have hc' : cdv = .ref c := hc
  subst hc'
  refine ⟨_, PSs.nox (pss_one (ps_ret (pe_tupM (pgen_exp (xs := ["book", "many", "reader"]) (k := 0) (g := gTup K 2 (gCons (gName 1) (gCons (gName 2) gNil))) (tb := tIn (iRng1 (tCons (tVar 2) tNil)) (gName 3) (tEmit (tVar 1)))
        (body := fun env => inS _ _ env) hr TB rfl ⟨rfl, rfl, by decide +kernel, rfl⟩
        (pi_tup (pv 0)) (fun _ _ => den_out)
        (fun _ _ _ _ _ _ _ => pg_tup rfl (pgs_cons (pg_name (i := 1) nd_reader rfl (.inl rfl) (.inl rfl)) (pgs_cons (pg_name (i := 2) nd_reader rfl (.inl rfl) (.inl rfl)) pgs_nil)))
        (fun _ _ _ _ _ _ _ _ => gb_in (fun _ _ z => z) rfl (pi_range1 (by rfl) B.range (pa_cons (pv 2) pa_nil)) (pg_name (i := 3) nd_reader rfl (.inl rfl) (.inl rfl)) (gb_emit (fun _ _ z => z) (pv 1) rfl) (fun _ => rfl))) hr (by rfl) B.tuple))), ?_⟩
  refine ⟨_, rfl, W, rfl, ⟨_, hW.sqt⟩, tg Pm hPm, fun I H2 tb => ?_⟩
  have n2 : SameN H H2 := SameN.tab (tg Pm hPm) tb
  have hW2 := hW.sameN n2
  have wl2 := wl.moveN n2
  have tg2 : Tabs H2 Ps := tg.tab tb
  refine ⟨ts.length, fun i ys σ H' => H' = H2 ∧ ys = (flat (ws.take i)).map V.str ∧ ∃ a b d, σ = [some (.ref I), a, b, d], ⟨rfl, rfl, none, none, none, rfl⟩, ?_, ?_⟩
  · rintro i ys σ Hc hi ⟨e0, rfl, a, b, d, rfl⟩
    rw [e0]
    have eg : (ts.map V.ref)[i]? = some (.ref ts[i]) := by rw [List.getElem?_map, List.getElem?_eq_getElem hi]; rfl
    refine ⟨⟨_, _, hW2.sqt, eg⟩, fun x H' y => ?_⟩
    obtain ⟨e1, y2⟩ := y
    rw [e1]
    have y3 := y2 _ hW2.sqt
    rw [eg] at y3
    cases y3
    have hp : ws[i]? = some (ws[i]'(by rw [← wl.1]; exact hi)) := List.getElem?_eq_getElem _
    generalize ws[i]'(by rw [← wl.1]; exact hi) = p at hp
    have hT := wl2.2 i _ p (List.getElem?_eq_getElem hi) hp
    have fl : (flat (ws.take i)).length + p.2 ≤ 60 := by
      have z := flat_take (ws := ws) (i + 1)
      have y := wok.flatLen
      rw [flat_step hp, List.length_append, List.length_replicate] at z
      omega
    refine ⟨ts[i], _, rfl, sqt hT, rfl, _, _, rfl, _, _, rfl, rfl, ?_⟩
    refine ⟨_, rfl, (p.2 : Int), rfl, by omega, by omega, ?_⟩
    rw [Int.toNat_natCast]
    refine ⟨p.2, fun j ys σ H' => H' = H2 ∧ ys = (flat (ws.take i) ++ List.replicate j p.1).map V.str ∧ ∃ d, σ = [some (.ref I), some (.str p.1), some (natV p.2), d], ⟨rfl, by rw [List.replicate_zero, List.append_nil], _, rfl⟩, ?_, ?_⟩
    · rintro j ys σ H' hj ⟨rfl, rfl, d, rfl⟩
      refine ⟨hj, fun x H' y => ?_⟩
      obtain ⟨rfl, rfl⟩ := y
      refine ⟨?_, _, rfl, rfl, ?_, _, rfl⟩
      · rw [List.length_map, List.length_append, List.length_replicate]
        exact small1000 (by omega)
      · simp [List.replicate_succ']
    · rintro ys σ H' ⟨rfl, rfl, d, rfl⟩
      exact ⟨Nat.le_refl _, rfl, by rw [flat_step hp], _, _, _, rfl⟩
  · rintro ys σ H' ⟨rfl, rfl, a, b, d, rfl⟩
    refine ⟨⟨_, hW2.sqt, by rw [List.length_map]; exact Nat.le_refl _⟩, fun e u he hu => ?_⟩
    rw [wl.1, List.take_length] at hu
    exact q e _ (n2.trans (SameN.of (same_new he u))) (tg2.same (same_new he u)) (TpO.new hu)
abbrev leastV (ws : List (Str × Nat)) : Nat := eachV (wnames ws) (flat ws)
abbrev mostV (ws : List (Str × Nat)) : Nat := eachV (wnames ws) (mostM ws)
theorem each_small {ns rs : List Str} (h : ∀ b ∈ rs, b ∈ ns) (h1 : rs.length ≤ 60) (h2 : ns.length ≤ 7) : eachV ns rs ≤ 420 := by
  have pm := behindM_perm rs h
  have z := lifted_small (bs := behindM ns rs) (rs := rs) fun b hb => pm.mem_iff.mpr (h b hb)
  rw [pm.length_eq] at z
  have z2 : rs.length * ns.length ≤ 60 * 7 := Nat.mul_le_mul h1 h2
  unfold eachV
  omega
theorem WOk.mostV_le {ws : List (Str × Nat)} (h : WOk ws) : mostV ws ≤ 420 := each_small h.mostIn h.mostLen (by rw [wn_len]; exact h.len)
theorem WOk.leastV_le {ws : List (Str × Nat)} (h : WOk ws) : leastV ws ≤ 420 := each_small (fun b hb => flat_mem hb) h.flatLen (by rw [wn_len]; exact h.len)
def spAmounts (Ps : List Addr) : Sp := fun vs H Q _ => ∃ (W : Addr) (ws : List (Str × Nat)), vs = [.ref W] ∧ WAt H W ws ∧ WOk ws ∧ Tabs H Ps ∧
  ∀ (l : Addr) (H' : Hp), SameN H H' → Tabs H' Ps → H' l = some (.lst ((evens (leastV ws) (mostV ws + 1)).map natV)) → Q (.ref l) H'
theorem scAmounts : FnScope ["wants"] ["wants"] (defScope sAmounts) := ⟨rfl, rfl, rfl, by decide +kernel, rfl, by decide +kernel, by decide +kernel⟩
theorem ok_amounts {f : Addr} {Ps : List Addr} {fd : FuncData} (F : Fun K "amounts" "amounts" sAmounts f fd) (B : Bi mg) (cMo : Has P w K mg base 5 "most" ["wants"] (spMost Ps)) (cLe : Has P w K mg base 5 "least" ["wants"] (spLeast Ps)) :
    FnOk P w K mg base CX0 6 f fd ["wants"] (spAmounts Ps) := by
  refine F.ok scAmounts (fun vs H Q E h => ?_) (fun cdv A outer s H vs Q E hr h => ?_)
  · obtain ⟨W, ws, rfl, _⟩ := h
    rfl
  obtain ⟨W, ws, rfl, hW, wok, tg, q⟩ := h
  refine ⟨_, pss_one (ps_ret (pe_listR3 rfl (by rfl) B.list (by rfl) B.range (pa_cons (pe_go cLe hr (by decide) rfl (pa_cons (pv 0) pa_nil)) (pa_cons (pe_op op_add (pe_go cMo hr (by decide) rfl (pa_cons (pv 0) pa_nil)) pe_int) (pa_cons pe_int pa_nil))))), ?_⟩
  refine ⟨_, rfl, W, ws, rfl, hW, wok, tg, fun H1 s1 tg1 => ?_⟩
  refine ⟨_, rfl, W, ws, rfl, hW.sameN s1, wok, tg1, fun H2 s2 tg2 => ?_⟩
  have m := wok.mostV_le
  have l := wok.leastV_le
  refine ⟨_, _, rfl, rfl, leastV ws, mostV ws + 1, ?_, by omega, by omega, fun a ha => ?_⟩
  · show [natV (leastV ws), V.int ((mostV ws : Nat) + 1 : Int), .int 2] = _
    rfl
  · exact q a _ ((s1.trans s2).trans (SameN.of (same_new ha _))) (tg2.same (same_new ha _)) upd_same
def spRows (n : Nat) : Sp := fun vs H Q _ => ∃ (d : Addr) (ls : List (Str × Nat)), vs = [.ref d] ∧ H d = some (.dK (wkvs ls)) ∧ (wnames ls).Nodup ∧ topW ls + 1 ≤ n ∧ topW ls ≤ 7 ∧ ls.length ≤ 5 ∧
  ∀ (p : Addr) (H' : Hp) (ts : List Addr) (rws : List (List Str)), Same H H' → H p = none → H' p = some (.lst (ts.map V.ref)) → TupL H' ts rws → AllRows ls rws → rws.length ≤ 5 ^ topW ls → Q (.ref p) H'
abbrev nRows : List Str := ["left", "found", "book", "rest", "row"]
theorem scRows : FnScope nRows ["left"] (defScope sRows) := ⟨rfl, rfl, rfl, by decide +kernel, rfl, by decide +kernel, by decide +kernel⟩
theorem rows_step {f : Addr} {fd : FuncData} {n : Nat} (F : Fun K "_law_rows" "_law_rows" sRows f fd) (B : Bi mg) (cI : Has P w K mg base n "_law_rows" ["left"] (spRows n)) : FnOk P w K mg base CX0 (n + 1) f fd ["left"] (spRows (n + 1)) := by
  refine F.ok scRows (fun vs H Q E h => ?_) (fun cdv A outer s H vs Q E hr h => ?_)
  · obtain ⟨d, ls, rfl, _⟩ := h
    rfl
  obtain ⟨d, ls, rfl, hd, nd, hn, h7, h5, q⟩ := h
  refine ⟨_, pss_cons (ps_if (pt_cmpR op_eq (pe_callB (cr_max rfl) (by rfl) B.max (by decide +kernel) (pa_cons (pe_op op_cat (pe_lst (pa_cons pe_int pa_nil)) (pe_listVals rfl (by rfl) B.list (pv 0))) pa_nil)) pe_int (nomark _)) (pss_one (ps_ret (pe_lst (pa_cons (pe_tupZ pa_nil) pa_nil)))) pss_nil)
    (pss_cons (ps_set (i := 1) scRows.nd rfl (.inl rfl) (pe_lst pa_nil))
    (pss_cons (ps_for PassesOwn.never rfl (pi_list (pe_callB (call_sortedD rfl) (by rfl) B.sorted (by decide +kernel) (pa_cons (pv 0) pa_nil))) (pg_name (i := 2) scRows.nd rfl (.inr rfl))
      (pss_one (ps_if (pt_cmpR op_gt (pe_dget (hu_of hr) (pv 0) (pv 2) (fun _ _ => rfl)) pe_int (nomark _))
        (pss_cons (ps_set (i := 3) scRows.nd rfl (.inl rfl) (pe_callTy call_dictD (by rfl) B.dict (by decide +kernel) (pa_cons (pv 0) pa_nil)))
        (pss_cons (ps_dput (hu_of hr) (pv 3) (pv 2) (pe_op op_sub (pe_dget (hu_of hr) (pv 3) (pv 2) (fun _ _ => rfl)) pe_int) rfl)
        (pss_one (ps_set (i := 1) scRows.nd rfl (.inl rfl) (pe_op op_cat (pv 1) (pe_lc (own := [("row", 4)]) (g := gName 4) (tt := tYes) (by rfl) scRows.nd
          (pi_list (pe_go cI hr (Nat.le_refl _) rfl (pa_cons (pv 3) pa_nil)))
          (blkOk_by (own := [("row", 4)]) (N := nRows) (sc := defScope sRows) (by decide +kernel)) (fun _ _ _ _ _ => pg_name (i := 4) scRows.nd rfl (.inl rfl)) (fun _ _ _ _ _ => pts_nil)
          (fun _ _ _ _ _ => pe_op op_catY (pe_tupZ (pa_cons (pv 2) pa_nil)) (pv 4)))))))) pss_nil)))
    (pss_one (ps_ret (pv 1))))), ?_⟩
  -- the greatest
  refine ⟨(by show 1 ≤ sizeLine; decide), fun Z hZ => ?_⟩
  have s1 := same_new hZ (.lst [V.int 0])
  refine ⟨_, rfl, d, _, rfl, s1 _ _ hd, fun V1 hV1 => ?_⟩
  have s2 := same_new hV1 (.lst ((wkvs ls).map fun z => z.2))
  refine ⟨Z, V1, _, _, rfl, rfl, s2 _ _ upd_same, upd_same, ?_, fun M hM => ?_⟩
  · rw [List.length_map]
    show 1 + (ls.map _).length ≤ _
    rw [List.length_map, sizeLine_eq]
    omega
  have s3 := same_new hM (.lst ([V.int 0] ++ (wkvs ls).map fun z => z.2))
  have eM : [V.int 0] ++ (wkvs ls).map (fun z => z.2) = (((0 : Nat) :: ls.map fun p => p.2).map fun k : Nat => (k : Int)).map V.int := by
    rw [wkvs_vals, natV_map]
    rfl
  have s03 := s1.trans (s2.trans s3)
  refine ⟨M, _, rfl, sql (by rw [upd_same, eM]), by rw [List.length_map]; exact Nat.succ_pos _, fun m hm top => ?_⟩
  generalize upd (upd (upd H Z (.lst [V.int 0])) V1 (.lst ((wkvs ls).map fun z => z.2))) M (.lst ([V.int 0] ++ (wkvs ls).map fun z => z.2)) = H3 at s03 ⊢
  refine ⟨rfl, _, rfl, ite2 (fun c => ?_) (fun c => ?_)⟩
  · -- none is left
    have m0 : m = 0 := by
      have c1 := of_decide_eq_true c
      injection c1
    have z : flat ls = [] := flat_zero fun p hp => by
      have t := top ((p.2 : Nat) : Int) (List.mem_map.mpr ⟨p.2, List.mem_cons_of_mem _ (List.mem_map.mpr ⟨p, hp, rfl⟩), rfl⟩)
      omega
    refine ⟨Nat.zero_le _, fun Y u hY hu => ⟨(by show 1 ≤ sizeLine; decide), fun L hL => ?_⟩⟩
    have s4 := same_new hY u
    have s5 := same_new hL (.lst [V.ref Y])
    refine q L _ [Y] [[]] (s03.trans (s4.trans s5)) ((s03.trans s4).free hL) upd_same (TupL.one (r := []) ((TpO.new hu).same s5)) (fun r => ?_) (Nat.pow_pos (by decide))
    rw [z, List.mem_singleton, List.perm_nil]
  · have ne : flat ls ≠ [] := fun z => c (by
      refine decide_eq_true (congrArg V.int ?_)
      rcases List.mem_map.mp hm with ⟨k, hk, e⟩
      rcases List.mem_cons.mp hk with hk | hk
      · omega
      · obtain ⟨p, hp, e2⟩ := List.mem_map.mp hk
        have tz : topW ls = 0 := by rw [← top_flat, z]; rfl
        have le := le_top hp
        omega)
    have t0 : 0 < topW ls := by
      rw [← top_flat]
      exact List.length_pos_iff.mpr ne
    obtain ⟨n', rfl⟩ : ∃ n', n = n' + 1 := ⟨n - 1, by omega⟩
    refine ⟨Nat.zero_le _, fun L hL => ?_⟩
    have s4 := same_new hL (.lst [])
    have sm1 := s03.trans s4
    have nL : H L = none := s03.free hL
    have hL1 : upd H3 L (.lst []) L = some (.lst (([] : List Addr).map V.ref)) := upd_same
    generalize upd H3 L (.lst []) = H4 at sm1 hL1 ⊢
    refine ⟨_, rfl, d, wkvs ls, wnames ls, rfl, .inl (sm1 _ _ hd), wkvs_keys ls, by rw [wn_len]; omega, fun ys S py so hS => ?_⟩
    have s5 := same_new hS (.lst (ys.map V.str))
    have ly : ys.length = ls.length := by rw [py.length_eq, wn_len]
    obtain ⟨t, et⟩ : ∃ t, topW ls = t + 1 := ⟨topW ls - 1, by omega⟩
    have hS5 : upd H4 S (.lst (ys.map V.str)) S = some (.lst (ys.map V.str)) := upd_same
    have sm5 := sm1.trans s5
    have hL5 := s5 _ _ hL1
    generalize upd H4 S (.lst (ys.map V.str)) = H5 at sm5 hS5 hL5 ⊢
    have p6 : 5 ^ t ≤ 5 ^ 6 := Nat.pow_le_pow_right (by decide) (by omega)
    refine ⟨S, rfl, ⟨_, sql hS5⟩, for_list (K := K) (a := S) (xs := ys.map V.str)
      (fun i σ H' => ∃ (L : Addr) (y2 y3 : Option V) (ts : List Addr) (rws : List (List Str)), σ = [some (.ref d), some (.ref L), y2, y3, none] ∧ Same H5 H' ∧ H L = none ∧ H' L = some (.lst (ts.map V.ref)) ∧ TupL H' ts rws ∧ Begins ls (ys.take i) rws ∧ rws.length ≤ i * 5 ^ t)
      ⟨L, none, none, [], [], rfl, fun _ _ h => h, nL, hL5, TupL.nil _, begins_nil ls, Nat.zero_le _⟩ (fun i σ H' _ ⟨_, _, _, _, _, _, s', _⟩ => sql (s' _ _ hS5)) ?_ ?_⟩
    · rintro i x σ H6 hx ⟨L, y2, y3, ts, rws, rfl, s6, nL, hL6, tl, bg, lr⟩
      obtain ⟨b, hb, rfl⟩ := strs_get hx
      have hi : i < ys.length := (List.getElem?_eq_some_iff.mp hb).1
      obtain ⟨k, hk⟩ := want_of (py.mem_iff.mp (List.mem_of_getElem? hb))
      have hd6 := s6 _ _ (sm5 _ _ hd)
      have val := wkvs_val nd hk
      have i5 : i * 5 ^ t ≤ 4 * 5 ^ 6 := Nat.mul_le_mul (by omega) p6
      have tk : ys.take (i + 1) = ys.take i ++ [b] := take_step hb
      refine ⟨_, rfl, _, rfl, d, _, rfl, val ▸ DGet.k (k := Sum.inr b) hd6, _, _, rfl, rfl, _, rfl, ite2 (fun c => ?_) (fun c => ?_)⟩
      · have k0 : 0 < k := by
          have c1 := of_decide_eq_true c
          omega
        refine ⟨_, rfl, d, wkvs ls, rfl, .inl hd6, fun R hR => ?_⟩
        have s7 := same_new hR (.dK (wkvs ls))
        refine ⟨_, rfl, _, rfl, R, _, rfl, val ▸ DGet.k (k := Sum.inr b) upd_same, _, _, rfl, rfl, _, rfl, _, rfl, R, _, rfl, DPut.k (k := Sum.inr b) upd_same ?_, ?_⟩
        · show (ls.map _).length < _
          rw [List.length_map]
          exact small1000 (by omega)
        have e7 : putK (wkvs ls) (Sum.inr b) (.int ((k : Int) - 1)) = wkvs (decW ls b) := wkvs_put nd hk k0
        have s8 : Same H6 (upd (upd H6 R (.dK (wkvs ls))) R (.dK (wkvs (decW ls b)))) := same_put s7 hR
        have hR8 : upd (upd H6 R (.dK (wkvs ls))) R (.dK (wkvs (decW ls b))) R = some (.dK (wkvs (decW ls b))) := upd_same
        have dt := dec_top nd hk k0
        refine ⟨_, rfl, _, rfl, R, decW ls b, rfl, (by rw [upd_same]; exact congrArg (fun z => some (HO.dK z)) e7), by rw [dec_names]; exact nd, by omega, by omega, by rw [dec_len]; exact h5, fun W H9 us sws s9 nW hW ul al lw => ?_⟩
        have e8 : upd (upd H6 R (.dK (wkvs ls))) R (.dK (putK (wkvs ls) (Sum.inr b) (.int ((k : Int) - 1)))) = upd (upd H6 R (.dK (wkvs ls))) R (.dK (wkvs (decW ls b))) := by rw [e7]
        have s9' : Same H6 H9 := s8.trans (by rw [← e8]; exact s9)
        have hL9 := s9' _ _ hL6
        have tl9 := tl.move s9'
        have lw2 : sws.length ≤ 5 ^ t := by
          have z : topW (decW ls b) = t := by omega
          rw [z] at lw
          exact lw
        have lrw : ∀ r ∈ sws, r.length ≤ 7 := fun r hr' => by
          rw [((al r).mp hr').length_eq, top_flat]
          omega
        refine ⟨W, rfl, ⟨_, sql hW⟩, fun D hD => lc_list (K := K) (a := W) (xs := us.map V.ref) (fun j H' => ∃ vs : List Addr, Same H9 H' ∧ H' D = some (.lst (vs.map V.ref)) ∧ TupL H' vs ((sws.take j).map fun r => b :: r))
          ⟨[], same_new hD _, upd_same, by rw [List.take_zero]; exact TupL.nil _⟩ (fun j H' _ ⟨_, s', _⟩ => s'.seq (sql hW)) ?_ ?_⟩
        · rintro j x H10 hx ⟨vs, s10, hD10, vl⟩
          obtain ⟨u, r, rfl, et, er, ht⟩ := ul.get hx
          have lr := lrw r (List.mem_of_getElem? er)
          refine ⟨rfl, _, rfl, (by show 1 ≤ sizeLine; decide), fun e v he hv => ?_⟩
          have s11 := same_new he v
          refine ⟨_, rfl, e, u, _, _, rfl, rfl, TpO.new hv, ht.same (s10.trans s11), by rw [List.length_map, sizeLine_eq]; show 1 + _ ≤ _; omega, fun g H12 s12 hg => ?_⟩
          have s13 := s11.trans s12
          have hD12 := s13 _ _ hD10
          refine ⟨_, hD12, ?_, vs ++ [g], same_put (s10.trans s13) hD, by rw [upd_same, List.map_append]; rfl, ?_⟩
          · rw [List.length_map, vl.1, List.length_map, List.length_take, sizeLine_eq]
            have z : min j sws.length ≤ sws.length := Nat.min_le_right _ _
            have z2 : (5 : Nat) ^ 6 = 15625 := by decide
            have z3 := Nat.le_trans (Nat.le_trans z lw2) p6
            rw [z2] at z3
            exact Nat.lt_of_le_of_lt z3 (by decide)
          · rw [List.take_add_one, er, List.map_append]
            exact ((vl.move s13).app (TupL.one (r := b :: r) hg)).put hD12
        · rintro H10 ⟨vs, s10, hD10, vl⟩
          rw [List.length_map, ul.1, List.take_length] at vl
          refine ⟨L, D, _, _, rfl, rfl, s10 _ _ hL9, hD10, ?_, fun G hG => ?_⟩
          · rw [List.length_map, List.length_map, vl.1, List.length_map, tl.1, sizeLine_eq]
            have z2 : (5 : Nat) ^ 6 = 15625 := by decide
            rw [z2] at p6 i5
            have a1 := Nat.le_trans lw2 p6
            have a2 := Nat.le_trans lr i5
            omega
          · have s11 := same_new hG (.lst (ts.map V.ref ++ vs.map V.ref))
            refine ⟨G, _, _, ts ++ vs, rws ++ sws.map fun r => b :: r, rfl, s6.trans (s9'.trans (s10.trans s11)), (sm5.trans (s6.trans (s9'.trans s10))).free hG, by rw [upd_same, List.map_append], ((tl9.move s10).move s11).app (vl.move s11), ?_, ?_⟩
            · rw [tk]
              exact begins_more bg hk k0 al
            · rw [List.length_append, List.length_map, Nat.succ_mul]
              exact Nat.add_le_add lr lw2
      · have k0 : k = 0 := by
          have c1 : ¬ ((0 : Int) < (k : Int)) := fun z => c (decide_eq_true z)
          omega
        subst k0
        refine ⟨L, _, _, ts, rws, rfl, s6, nL, hL6, tl, ?_, ?_⟩
        · rw [tk]
          exact begins_skip nd bg hk
        · rw [Nat.succ_mul]
          exact Nat.le_trans lr (Nat.le_add_right _ _)
    · rintro σ H6 ⟨L, y2, y3, ts, rws, rfl, s6, nL, hL6, tl, bg, lr⟩
      rw [List.length_map] at bg lr
      rw [List.take_length] at bg
      refine ⟨_, rfl, q L H6 ts rws (sm5.trans s6) nL hL6 tl (begins_all nd py ne bg) ?_⟩
      rw [et, Nat.pow_succ, Nat.mul_comm]
      exact Nat.le_trans lr (Nat.mul_le_mul (by omega) (Nat.le_refl _))
theorem rows_all {f : Addr} {fd : FuncData} (F : Fun K "_law_rows" "_law_rows" sRows f fd) (B : Bi mg) (m : mg "_law_rows" = some (.ref f)) (b : Binds K fd ["left"] []) : ∀ n : Nat, FnOk P w K mg base CX0 n f fd ["left"] (spRows n)
  | 0 => by
    have no : ∀ vs H Q E, ¬ spRows 0 vs H Q E := fun vs H Q E h => by
      obtain ⟨_, _, _, _, _, h, _⟩ := h
      omega
    exact ⟨fun vs H Q E h => absurd h (no vs H Q E), fun A outer s H args us vs Q E _ _ _ _ h => absurd h (no vs H Q E)⟩
  | n + 1 => rows_step F B ⟨f, fd, rows_all F B m b n, m, F.kp, b⟩
def AllDays (ws : List (Str × Nat)) (rws : List (List Str)) : Prop := ∀ r, r ∈ rws ↔ r.Perm (flat ws) ∧ ∃ p ps t, ws = p :: ps ∧ r = p.1 :: t
theorem days_of {p : Str × Nat} {ps : List (Str × Nat)} {sws : List (List Str)} (nd : (wnames (p :: ps)).Nodup) (p0 : 0 < p.2) (al : AllRows (decW (p :: ps) p.1) sws) : AllDays (p :: ps) (sws.map fun r => p.1 :: r) := fun r => by
  have fl := dec_flat nd (b := p.1) (k := p.2) List.mem_cons_self p0
  rw [List.mem_map]
  constructor
  · rintro ⟨t, ht, rfl⟩
    exact ⟨(((al t).mp ht).cons _).trans fl.symm, p, ps, t, rfl, rfl⟩
  · rintro ⟨h, q, qs, t, e, rfl⟩
    cases e
    exact ⟨t, (al t).mpr (h.trans fl).cons_inv, rfl⟩
def spDays : Sp := fun vs H Q _ => ∃ (W : Addr) (ws : List (Str × Nat)), vs = [.ref W] ∧ WAt H W ws ∧ (wnames ws).Nodup ∧ (∀ p ∈ ws, 0 < p.2) ∧ ws ≠ [] ∧ topW ws ≤ 7 ∧ ws.length ≤ 5 ∧
  ∀ (p : Addr) (H' : Hp) (ts : List Addr) (rws : List (List Str)), Same H H' → H' p = some (.lst (ts.map V.ref)) → TupL H' ts rws → AllDays ws rws → rws.length ≤ 5 ^ 7 → Q (.ref p) H'
abbrev nDays : List Str := ["wants", "left", "row"]
theorem scDays : FnScope nDays ["wants"] (defScope sDays) := ⟨rfl, rfl, rfl, by decide +kernel, rfl, by decide +kernel, by decide +kernel⟩
theorem ok_days {f : Addr} {fd : FuncData} (F : Fun K "_law_days" "_law_days" sDays f fd) (B : Bi mg) (cRw : Has P w K mg base 8 "_law_rows" ["left"] (spRows 8)) : FnOk P w K mg base CX0 9 f fd ["wants"] spDays := by
  refine F.ok scDays (fun vs H Q E h => ?_) (fun cdv A outer s H vs Q E hr h => ?_)
  · obtain ⟨W, ws, rfl, _⟩ := h
    rfl
  obtain ⟨W, ws, rfl, ⟨ts, hW, wl⟩, nd, pos, ne, h7, h5, q⟩ := h
  refine ⟨_, pss_cons (ps_set (i := 1) scDays.nd rfl (.inl rfl) (pe_callTy (cDictT (K := K) rfl rfl) (by rfl) B.dict (by decide +kernel) (pa_cons (pv 0) pa_nil)))
    (pss_cons (ps_dput (hu_of hr) (pv 1) (pe_ix ix_tup (pe_ix ix_tup (pv 0) pe_int (fun _ _ => rfl)) pe_int (fun _ _ => rfl)) (pe_op op_sub (pe_dget (hu_of hr) (pv 1) (pe_ix ix_tup (pe_ix ix_tup (pv 0) pe_int (fun _ _ => rfl)) pe_int (fun _ _ => rfl)) (fun _ _ => rfl)) pe_int) rfl)
    (pss_one (ps_ret (pe_lc (own := [("row", 2)]) (g := gName 2) (tt := tYes) (by rfl) scDays.nd
      (pi_list (pe_go cRw hr (by decide) rfl (pa_cons (pv 1) pa_nil)))
      (blkOk_by (own := [("row", 2)]) (N := nDays) (sc := defScope sDays) (by decide +kernel)) (fun _ _ _ _ _ => pg_name (i := 2) scDays.nd rfl (.inl rfl)) (fun _ _ _ _ _ => pts_nil)
      (fun _ _ _ _ _ => pe_op op_catY (pe_tupZ (pa_cons (pe_ix (ixT (K := K) rfl) (pe_ix (ixT (K := K) rfl) (pv 0) pe_int (fun _ _ => rfl)) pe_int (fun _ _ => rfl)) pa_nil)) (pv 2)))))), ?_⟩
  cases ws with
  | nil => exact absurd rfl ne
  | cons z zs =>
  cases ts with
  | nil => exact absurd wl.1 (by simp)
  | cons t ts' =>
  have hz := wl.2 0 t z rfl rfl
  have z0 := pos z List.mem_cons_self
  have hzm : (z.1, z.2) ∈ z :: zs := List.mem_cons_self
  refine ⟨_, rfl, W, _, wkvs (z :: zs), rfl, hW, wl.paired, fun d hd => ?_⟩
  rw [merge_wk nd]
  have s1 := same_new hd (.dK (wkvs (z :: zs)))
  have hW1 := hW.same s1
  have hz1 := s1 _ _ hz
  have val := wkvs_val nd hzm
  refine ⟨_, rfl, _, rfl, W, _, 0, .ref t, rfl, rfl, hW1.sqt, at_of (j := 0) rfl rfl, t, _, 0, _, rfl, rfl, sqt hz1, rfl, d, _, rfl, val ▸ DGet.k (k := Sum.inr z.1) upd_same, _, _, rfl, rfl, _, rfl, _, rfl, W, _, 0, .ref t, rfl, rfl, hW1.sqt, at_of (j := 0) rfl rfl, t, _, 0, _, rfl, rfl, sqt hz1, rfl, d, _, rfl, DPut.k (k := Sum.inr z.1) upd_same ?_, ?_⟩
  · show ((z :: zs).map _).length < _
    rw [List.length_map]
    exact small1000 (by omega)
  have e7 : putK (wkvs (z :: zs)) (Sum.inr z.1) (.int ((z.2 : Int) - 1)) = wkvs (decW (z :: zs) z.1) := wkvs_put nd hzm z0
  have s8 : Same H (upd (upd H d (.dK (wkvs (z :: zs)))) d (.dK (wkvs (decW (z :: zs) z.1)))) := same_put s1 hd
  have dt := dec_top nd hzm z0
  refine ⟨_, rfl, d, decW (z :: zs) z.1, rfl, (by rw [upd_same]; exact congrArg (fun z => some (HO.dK z)) e7), by rw [dec_names]; exact nd, by omega, by omega, by rw [dec_len]; exact h5, fun L H9 us sws s9 nL hL ul al lw => ?_⟩
  have e8 : upd (upd H d (.dK (wkvs (z :: zs)))) d (.dK (putK (wkvs (z :: zs)) (Sum.inr z.1) (.int ((z.2 : Int) - 1)))) = upd (upd H d (.dK (wkvs (z :: zs)))) d (.dK (wkvs (decW (z :: zs) z.1))) := by rw [e7]
  have s9' : Same H H9 := s8.trans (by rw [← e8]; exact s9)
  have lw2 : sws.length ≤ 5 ^ 7 := Nat.le_trans lw (Nat.pow_le_pow_right (by decide) (by omega))
  have lrw : ∀ r ∈ sws, r.length ≤ 7 := fun r hr' => by
    rw [((al r).mp hr').length_eq, top_flat]
    omega
  refine ⟨L, rfl, ⟨_, sql hL⟩, fun D hD => lc_list (K := K) (a := L) (xs := us.map V.ref) (fun j H' => ∃ vs : List Addr, Same H9 H' ∧ H' D = some (.lst (vs.map V.ref)) ∧ TupL H' vs ((sws.take j).map fun r => z.1 :: r))
    ⟨[], same_new hD _, upd_same, by rw [List.take_zero]; exact TupL.nil _⟩ (fun j H' _ ⟨_, s', _⟩ => s'.seq (sql hL)) ?_ ?_⟩
  · rintro j x H10 hx ⟨vs, s10, hD10, vl⟩
    obtain ⟨u, r, rfl, et, er, ht⟩ := ul.get hx
    have lr := lrw r (List.mem_of_getElem? er)
    have s910 := s9'.trans s10
    refine ⟨rfl, _, rfl, W, _, 0, .ref t, rfl, rfl, (hW.same s910).sqt, at_of (j := 0) rfl rfl, t, _, 0, _, rfl, rfl, sqt (s910 _ _ hz), rfl, (by show 1 ≤ sizeLine; decide), fun e v he hv => ?_⟩
    have s11 := same_new he v
    refine ⟨_, rfl, e, u, _, _, rfl, rfl, TpO.new hv, ht.same (s10.trans s11), by rw [List.length_map, sizeLine_eq]; show 1 + _ ≤ _; omega, fun g H12 s12 hg => ?_⟩
    have s13 := s11.trans s12
    have hD12 := s13 _ _ hD10
    refine ⟨_, hD12, ?_, vs ++ [g], same_put (s10.trans s13) hD, by rw [upd_same, List.map_append]; rfl, ?_⟩
    · rw [List.length_map, vl.1, List.length_map, List.length_take, sizeLine_eq]
      have z : min j sws.length ≤ sws.length := Nat.min_le_right _ _
      exact Nat.lt_of_le_of_lt (Nat.le_trans z lw2) (by decide)
    · rw [List.take_add_one, er, List.map_append]
      exact ((vl.move s13).app (TupL.one (r := z.1 :: r) hg)).put hD12
  · rintro H10 ⟨vs, s10, hD10, vl⟩
    rw [List.length_map, ul.1, List.take_length] at vl
    exact q D H10 vs _ (s9'.trans s10) hD10 vl (days_of nd z0 al) (by rw [List.length_map]; exact lw2)
theorem books_up : books.Pairwise ltS := by decide +kernel
theorem IsWants.subB {m n : Nat} {ws : List (Str × Nat)} (h : IsWants m n ws) : (wnames ws).Sublist books := h.sub.trans (List.take_sublist _ _)
theorem IsWants.len {m n : Nat} {ws : List (Str × Nat)} (h : IsWants m n ws) : ws.length ≤ m := by
  have z := h.sub.length_le
  rw [List.length_map, List.length_take] at z
  omega
theorem IsWants.wok {m n : Nat} {ws : List (Str × Nat)} (h : IsWants m n ws) (hm : m ≤ 7) (hn : n ≤ 60) : WOk ws :=
  ⟨books_up.sublist h.subB, h.pos, Nat.le_trans h.len hm, Nat.le_trans h.few hn, fun b hb => books_ok b (h.subB.subset hb)⟩
theorem bl_no {p : Prop} [Decidable p] (h : ¬ p) : V.bl (decide p) = V.bl false := congrArg V.bl (decide_eq_false h)
theorem bl_same {p : Prop} [Decidable p] (h : p) : V.bl (!decide p) = V.bl false := by
  rw [decide_eq_true h]
  rfl
theorem dp_tri {K : PySem.W.Frag} {H : Hp} {x : V} {a b : Str} {n : Nat} (h : Dp K H x (.tuple [.str a, .str b, .int (n : Nat)])) : ∃ t, x = .ref t ∧ SqT K H t [.str a, .str b, natV n] := by
  cases h with
  | tup h d =>
    cases d with
    | cons d1 d =>
      cases d with
      | cons d2 d =>
        cases d with
        | cons d3 d =>
          cases d
          cases d1
          cases d2
          cases d3
          exact ⟨_, rfl, h⟩
end
end Lt

set_option Elab.async false
set_option linter.all false
set_option maxRecDepth 100000
set_option maxHeartbeats 4000000
namespace Lt
open PySem PySem.Spec PyProof.Rows L2
section
variable {P : Program} {w : World} {K : PySem.W.Frag} {mg : Str → Option Value} {base : Heap}
abbrev nLaw : List Str := ["script", "tape", "readers", "wants", "books", "day", "row", "found", "book", "many"]
theorem scLaw : FnScope nLaw ["script"] (defScope sLaw) := ⟨rfl, rfl, rfl, by decide +kernel, rfl, by decide +kernel, by decide +kernel⟩
def spLawN (K : PySem.W.Frag) (Ps : List Addr) : Sp := fun vs H Q _ => ∃ (a : Addr) (ns : List Int), vs = [.ref a] ∧ SqL K H a (ns.map V.int) ∧ ns.length ≤ 63 ∧ Tabs H Ps ∧ ∀ H', Q (.bl true) H'
/-- what stands through a turn -/
structure W6 (H : Hp) (T S W : Addr) (Ps : List Addr) (ns : List Int) (ws : List (Str × Nat)) : Prop where
  tp : Tape H T S ns
  hW : WAt H W ws
  tg : Tabs H Ps
section
variable {H H' : Hp} {T S W : Addr} {Ps : List Addr} {ns : List Int} {ws : List (Str × Nat)}
theorem W6.sameN (h : W6 H T S W Ps ns ws) (s : SameN H H') (t : Tabs H' Ps) : W6 H' T S W Ps ns ws := ⟨h.tp.sameN s, h.hW.sameN s, t⟩
theorem W6.same (h : W6 H T S W Ps ns ws) (s : Same H H') : W6 H' T S W Ps ns ws := h.sameN (SameN.of s) (h.tg.same s)
theorem W6.but (h : W6 H T S W Ps ns ws) (s : SameT T H H') (t : Tape H' T S ns) : W6 H' T S W Ps ns ws := by
  obtain ⟨i', c', hT⟩ := h.tp.at_
  exact ⟨t, h.hW.sameT hT s, h.tg.but s ⟨_, hT⟩⟩
end
/-- a dict whose keys are these numbers -/
def kT (ks : List Nat) : List (Key × V) := ks.map fun k : Nat => (Sum.inl (k : Int), V.bl true)
theorem kT_put (ks : List Nat) (k : Nat) : putK (kT ks) (Sum.inl (k : Int)) (.bl true) = kT (if k ∈ ks then ks else ks ++ [k]) := by
  unfold putK
  by_cases c : k ∈ ks
  · have e : ((kT ks).any fun kv => decide (kv.1 = Sum.inl (k : Int))) = true := List.any_eq_true.mpr ⟨(Sum.inl (k : Int), V.bl true), List.mem_map.mpr ⟨k, c, rfl⟩, by simp⟩
    rw [if_pos e, if_pos c]
    unfold kT
    rw [List.map_map]
    apply List.map_congr_left
    intro j _
    show (if (Sum.inl (j : Int) : Key) = Sum.inl (k : Int) then ((Sum.inl (j : Int) : Key), V.bl true) else (Sum.inl (j : Int), V.bl true)) = _
    split <;> rfl
  · rw [if_neg c, if_neg]
    · unfold kT
      rw [List.map_append]
      rfl
    · intro z
      obtain ⟨kv, h1, h2⟩ := List.any_eq_true.mp z
      obtain ⟨j, hj, rfl⟩ := List.mem_map.mp h1
      have e : ((j : Nat) : Int) = (k : Int) := Sum.inl.inj (of_decide_eq_true h2)
      have e2 : j = k := by omega
      exact c (e2 ▸ hj)
theorem kT_keys (ks : List Nat) : (kT ks).map (fun z => z.1) = (ks.map fun k : Nat => (k : Int)).map Sum.inl := by
  unfold kT
  rw [List.map_map, List.map_map]
  rfl
theorem evens_pw (i j : Nat) : (evens i j).Pairwise (· < ·) := by
  unfold evens
  rw [List.pairwise_map]
  exact List.pairwise_lt_range.imp fun {a b} h => by omega
theorem evens_nd (i j : Nat) : (evens i j).Nodup := (evens_pw i j).imp fun {a b} (h : a < b) => Nat.ne_of_lt h
theorem sorted_ints {ys : List Int} {ks : List Nat} {i j : Nat} (p : ys.Perm (ks.map fun k : Nat => (k : Int))) (so : ys.Pairwise (· ≤ ·)) (nd : ks.Nodup) (m : ∀ v, v ∈ ks ↔ v ∈ evens i j) : ys = (evens i j).map fun k : Nat => (k : Int) := by
  have pk : ks.Perm (evens i j) := (List.perm_ext_iff_of_nodup nd (evens_nd i j)).mpr m
  refine List.Perm.eq_of_pairwise (fun a b _ _ h1 h2 => Int.le_antisymm h1 h2) so ?_ (p.trans (pk.map _))
  rw [List.pairwise_map]
  exact (evens_pw i j).imp fun {a b} (h : a < b) => by omega
theorem dpAll_nats {K : PySem.W.Frag} {H : Hp} : ∀ ns : List Nat, DpAll K H (ns.map natV) (ns.map fun k => PyData.int (k : Nat))
  | [] => .nil
  | x :: r => .cons (.int _) (dpAll_nats r)
theorem fineN {ns : List Nat} (hl : ns.length ≤ 1000) (n : Nat) : Fine (n + 1) (.list (ns.map fun k => PyData.int (k : Nat))) :=
  ⟨by rw [List.length_map]; exact hl, fun d hd => by
    obtain ⟨k, _, rfl⟩ := List.mem_map.mp hd
    cases n <;> trivial⟩
theorem evens_len (i j : Nat) : (evens i j).length ≤ j := by
  unfold evens
  rw [List.length_map, List.length_range]
  exact nEv_le i j
theorem nodupN_le : ∀ {l m : List Nat}, l.Nodup → (∀ z ∈ l, z ∈ m) → l.length ≤ m.length
  | [], m, _, _ => Nat.zero_le _
  | a :: l, m, nd, h => by
    obtain ⟨n1, n2⟩ := List.nodup_cons.mp nd
    have ha := h a List.mem_cons_self
    have z := nodupN_le (m := m.erase a) n2 fun z hz => (List.mem_erase_of_ne (a := z) (b := a) fun e : z = a => n1 (e ▸ hz)).mpr (h z (List.mem_cons_of_mem _ hz))
    have z2 := List.length_erase_of_mem ha
    have z3 := List.length_pos_of_mem ha
    rw [List.length_cons]
    omega
end
end Lt

set_option Elab.async false
set_option linter.all false
set_option maxRecDepth 100000
set_option maxHeartbeats 4000000
namespace Lt
open PySem PySem.Spec PyProof.Rows L2
section
variable {P : Program} {w : World} {K : PySem.W.Frag} {mg : Str → Option Value} {base : Heap}
theorem ok_law {f : Addr} {Ps : List Addr} {fd : FuncData} (F : Fun K "law" "law" sLaw f fd) (B : Bi mg) (cWa : Has P w K mg base 2 "_law_wants" ["tape", "books", "readers"] spWants)
    (cDy : Has P w K mg base 3 "_law_day" ["tape", "wants"] spDay) (cTw : Has P w K mg base 1 "_law_two" ["books", "rows"] (spTwoT K)) (cLk : Has P w K mg base 4 "_law_like" ["one", "two"] (spLike K 4)) (cLt : Has P w K mg base 2 "_law_later_day" ["wants", "day"] (spLater K))
    (cMo : Has P w K mg base 5 "most" ["wants"] (spMost Ps)) (cLe : Has P w K mg base 5 "least" ["wants"] (spLeast Ps)) (cAm : Has P w K mg base 6 "amounts" ["wants"] (spAmounts Ps)) (cLy : Has P w K mg base 3 "least_day" ["wants"] (spLeastDay Ps))
    (cEa : Has P w K mg base 4 "each_day" ["wants", "day"] (spEachN K Ps)) (cDs : Has P w K mg base 9 "_law_days" ["wants"] spDays) : FnOk P w K mg base CX0 10 f fd ["script"] (spLawN K Ps) := by
  refine F.ok scLaw (fun vs H Q E h => ?_) (fun cdv A outer s H vs Q E hr h => ?_)
  · obtain ⟨a, ns, rfl, _⟩ := h
    rfl
  obtain ⟨a, ns, rfl, hS, h63, tg0, q⟩ := h
  refine ⟨_, pss_cons (ps_set (i := 1) scLaw.nd rfl (.inl rfl) (pe_lst (pa_cons (pe_callTy call_list_of (by rfl) B.list (by decide +kernel) (pa_cons (pv 0) pa_nil)) (pa_cons pe_int (pa_cons pe_int pa_nil)))))
    (pss_cons (ps_for PassesOwn.never rfl (pi_list (pe_lst (pa_cons pe_int (pa_cons pe_int pa_nil)))) (pg_name (i := 2) scLaw.nd rfl (.inl rfl))
      (pss_cons (ps_set (i := 3) scLaw.nd rfl (.inl rfl) (pe_go cWa hr (by decide) rfl (pa_cons (pv 1) (pa_cons pe_int (pa_cons (pv 2) pa_nil)))))
      (pss_cons (ps_setLc (i := 4) (own := [("book", 8), ("many", 9)]) (g := gTup K 2 (gCons (gName 8) (gCons (gName 9) gNil))) (tt := tYes) (by rfl) scLaw.nd rfl rfl (sw_true rfl rfl rfl (by decide +kernel)) (pi_tup (pv 3))
          (blkOk_by (own := [("book", 8), ("many", 9)]) (N := nLaw) (sc := defScope sLaw) (by decide +kernel))
          (fun _ _ _ _ _ => pg_tup rfl (pgs_cons (pg_name (i := 8) scLaw.nd rfl (.inl rfl)) (pgs_cons (pg_name (i := 9) scLaw.nd rfl (.inl rfl)) pgs_nil))) (fun _ _ _ _ _ => pts_nil) (fun _ _ _ _ _ => pv 8))
      (pss_cons (ps_if (pt_not (pt_val (pe_go cLk hr (by decide) rfl (pa_cons (pe_go cLe hr (by decide) rfl (pa_cons (pv 3) pa_nil)) (pa_cons (pe_op op_mul (pe_callB call_len_seq (by rfl) B.len PySem.boot_len (pa_cons (pv 4) pa_nil)) (pe_op op_sub (pe_callB call_len_seq (by rfl) B.len PySem.boot_len (pa_cons (pv 4) pa_nil)) pe_int)) pa_nil))))) (pss_one (ps_ret pe_bl)) pss_nil)
      (pss_cons (ps_set (i := 5) scLaw.nd rfl (.inl rfl) (pe_go cLy hr (by decide) rfl (pa_cons (pv 3) pa_nil)))
      (pss_cons (ps_if (PW.pt (pw_or (pt_not (pt_val (pe_callB call_isi (by rfl) B.isinstance (by decide +kernel) (pa_cons (pv 5) (pa_cons (pe_bltn (v := .ty "tuple") (by rfl) B.tuple (by decide +kernel) rfl) pa_nil)))))
          (pw_or1 (pt_cmpR (op_neD hr.units) (pe_callB (cSortT (K := K) rfl) (by rfl) B.sorted (by decide +kernel) (pa_cons (pv 5) pa_nil)) (pe_callB (cSortT (K := K) rfl) (by rfl) B.sorted (by decide +kernel) (pa_cons (pe_go cDy hr (by decide) rfl (pa_cons (pv 1) (pa_cons (pv 3) pa_nil))) pa_nil)) (nomark _))))) (pss_one (ps_ret pe_bl)) pss_nil)
      (pss_cons (ps_if (pt_cmpR (op_neD hr.units) (pe_lc (own := [("row", 6)]) (g := gName 6) (tt := tTest (tOp rNe (tOp (rIxT K) (tVar 6) (tC (.int 2))) (tC (.int 2)))) (te := tC (.int 1)) (by rfl) scLaw.nd
          (pi_list (pe_go cTw hr (by decide) rfl (pa_cons (pv 4) (pa_cons (pe_ix ix_tup (pe_go cLt hr (by decide) rfl (pa_cons (pv 3) (pa_cons (pv 5) pa_nil))) pe_int (fun _ _ => rfl)) pa_nil))))
          (blkOk_by (own := [("row", 6)]) (N := nLaw) (sc := defScope sLaw) (by decide +kernel)) (fun _ _ _ _ _ => pg_name (i := 6) scLaw.nd rfl (.inl rfl))
          (fun _ _ _ _ _ => pts_one (pt_cmpR op_ne (pe_ix (ixT (K := K) rfl) (pv 6) pe_int (fun _ _ => rfl)) pe_int (nomark _))) (fun _ _ _ _ _ => pe_int)) (pe_lst pa_nil) (nomark _)) (pss_one (ps_ret pe_bl)) pss_nil)
      (pss_cons (ps_if (pt_cmpR op_ne (pe_go cEa hr (by decide) rfl (pa_cons (pv 3) (pa_cons (pv 5) pa_nil))) (pe_go cLe hr (by decide) rfl (pa_cons (pv 3) pa_nil)) (nomark _)) (pss_one (ps_ret pe_bl)) pss_nil)
      (pss_cons (ps_set (i := 7) scLaw.nd rfl (.inl rfl) pe_dnewK)
      (pss_cons (ps_for PassesOwn.never rfl (pi_list (pe_go cDs hr (by decide) rfl (pa_cons (pv 3) pa_nil))) (pg_name (i := 6) scLaw.nd rfl (.inl rfl))
        (pss_one (ps_dput (hu_of hr) (pv 7) (pe_callB (cr_sum rfl) (by rfl) B.sum (by decide +kernel) (pa_cons (pe_ix ix_tup (pe_go cLt hr (by decide) rfl (pa_cons (pv 3) (pa_cons (pv 6) pa_nil))) pe_int (fun _ _ => rfl)) pa_nil)) pe_bl rfl)))
      (pss_one (ps_if (PW.pt (pw_or (pt_not (pt_val (pe_go cLk hr (by decide) rfl (pa_cons (pe_go cAm hr (by decide) rfl (pa_cons (pv 3) pa_nil)) (pa_cons (pe_callB (call_sortedDI rfl) (by rfl) B.sorted (by decide +kernel) (pa_cons (pv 7) pa_nil)) pa_nil)))))
          (pw_or (pt_cmpR op_ne (pe_callB (cr_minK rfl) (by rfl) B.min (by decide +kernel) (pa_cons (pv 7) pa_nil)) (pe_go cLe hr (by decide) rfl (pa_cons (pv 3) pa_nil)) (nomark _))
          (pw_or1 (pt_cmpR op_ne (pe_callB (cr_maxK rfl) (by rfl) B.max (by decide +kernel) (pa_cons (pv 7) pa_nil)) (pe_go cMo hr (by decide) rfl (pa_cons (pv 3) pa_nil)) (nomark _)))))) (pss_one (ps_ret pe_bl)) pss_nil))))))))))))
    (pss_one (ps_ret pe_bl))), ?_⟩
  have sz : 2000 ≤ sizeLine := by decide
  refine ⟨_, rfl, a, _, rfl, .inl hS, fun S hS0 => ⟨(by show 3 ≤ sizeLine; decide), fun T hT0 => ?_⟩⟩
  have tp0 : Tape (upd (upd H S (.lst (ns.map V.int))) T (.lst [.ref S, .int 0, .int 0])) T S ns := ⟨⟨0, 0, upd_same⟩, by rw [upd_ne (ne_of_none upd_same hT0)]; exact upd_same⟩
  have tg1 := (tg0.same (same_new hS0 (.lst (ns.map V.int)))).same (same_new hT0 (.lst [.ref S, .int 0, .int 0]))
  generalize upd (upd H S (.lst (ns.map V.int))) T (.lst [.ref S, .int 0, .int 0]) = H0 at tp0 tg1 ⊢
  refine ⟨(by show 2 ≤ sizeLine; decide), fun J hJ => ?_⟩
  have s0 := same_new hJ (.lst [.int 6, .int 5])
  refine ⟨J, rfl, ⟨_, sql upd_same⟩, for_list (K := K) (a := J) (xs := [V.int 6, V.int 5]) (fun i σ H' => (∃ y2 y3 y4 y5 y6 y7 : Option V, σ = [some (.ref a), some (.ref T), y2, y3, y4, y5, y6, y7, none, none]) ∧ Tape H' T S ns ∧ Tabs H' Ps ∧ H' J = some (.lst [.int 6, .int 5]))
    ⟨⟨none, none, none, none, none, none, rfl⟩, tp0.same s0, tg1.same s0, upd_same⟩ (fun i σ H' _ h' => sql h'.2.2.2) ?_ (fun σ H1 _ => q _)⟩
  rintro i x σ H1 hx ⟨⟨y2, y3, y4, y5, y6, y7, rfl⟩, tp, tg, hJ1⟩
  obtain ⟨n, rfl, n0, n6⟩ : ∃ n : Nat, x = natV n ∧ 0 < n ∧ n ≤ 6 := by
    match i, hx with
    | 0, hx =>
      cases hx
      exact ⟨6, rfl, by decide, by decide⟩
    | 1, hx =>
      cases hx
      exact ⟨5, rfl, by decide, by decide⟩
  have nJ : J ≠ T := by
    obtain ⟨i', c', hT⟩ := tp.at_
    exact ne_of hJ1 hT fun z => by
      injection z with z
      cases z
  -- wants
  refine ⟨_, rfl, _, rfl, T, S, ns, 5, n, rfl, tp, by decide, by decide, n0, by omega, fun W H2 ws sm2 tp2 nW hW isW => ?_⟩
  obtain ⟨t1i, t1c, hT1⟩ := tp.at_
  have hJ2 := sm2 _ _ nJ hJ1
  have w2 : W6 H2 T S W Ps ns ws := ⟨tp2, hW, tg.but sm2 ⟨_, hT1⟩⟩
  have wok := isW.wok (by decide) (by omega)
  have few : topW ws ≤ 6 := Nat.le_trans isW.few n6
  have w5 := isW.len
  have lf : (flat ws).length ≤ 6 := by rw [top_flat]; exact few
  have ndW := wok.nd
  clear hW tp2 tg tp hJ1
  -- books
  obtain ⟨ts, hWt, wl⟩ := w2.hW
  refine ⟨_, rfl, W, rfl, ⟨_, hWt.sqt⟩, fun Bk hBk => lc_tup (K := K) (a := W) (xs := ts.map V.ref) (fun j H' => Same H2 H' ∧ H' Bk = some (.lst ((wnames (ws.take j)).map V.str)))
    ⟨same_new hBk _, upd_same⟩ (fun j H' _ h' => (hWt.same h'.1).sqt) ?_ ?_⟩
  · rintro j x H3 hx ⟨s3, hB3⟩
    obtain ⟨t, ht, rfl⟩ := refs_get hx
    have hj : j < ts.length := (List.getElem?_eq_some_iff.mp ht).1
    have hp : ws[j]? = some (ws[j]'(by rw [← wl.1]; exact hj)) := List.getElem?_eq_getElem _
    generalize ws[j]'(by rw [← wl.1]; exact hj) = z at hp
    refine ⟨t, _, rfl, sqt (s3 _ _ (wl.2 j t z ht hp)), rfl, _, _, rfl, _, _, rfl, rfl, rfl, _, rfl, _, hB3, ?_, same_put s3 hBk, ?_⟩
    · rw [List.length_map, wn_len, List.length_take]
      exact small1000 (by omega)
    · rw [upd_same, List.take_add_one, hp]
      show some (HO.lst (_ ++ [V.str z.1])) = some (.lst (((ws.take j ++ [z]).map _).map V.str))
      rw [List.map_append, List.map_append]
      rfl
  rintro H3 ⟨s3, hB3⟩
  rw [List.length_map, wl.1, List.take_length] at hB3
  have w3 := w2.same s3
  have hJ3 := s3 _ _ hJ2
  clear w2 hJ2 hWt wl
  have lB : ((wnames ws).map V.str).length = ws.length := by rw [List.length_map, wn_len]
  -- least
  refine ⟨_, rfl, W, ws, rfl, w3.hW, wok, w3.tg, fun H4 s4 tg4 => ?_⟩
  have w4 := w3.sameN s4 tg4
  have hB4 := s4.lstH hB3
  have hJ4 := s4.lstH hJ3
  refine ⟨_, rfl, Bk, _, rfl, .inl (sql hB4), _, rfl, Bk, _, rfl, .inl (sql hB4), _, _, rfl, rfl, _, _, rfl, rfl, .inl ⟨by rw [lB]; omega, by rw [lB]; omega⟩, ?_⟩
  have eL : ((((wnames ws).map V.str).length : Int) * ((((wnames ws).map V.str).length : Int) - 1)) = ((eachV (wnames ws) (flat ws) : Nat) : Int) := by
    rw [lB, least_is wok]
    have z := prs_count (wnames ws)
    rw [wn_len] at z
    have z2 : ((ws.length : Nat) : Int) * ((ws.length : Int) - 1) = ((ws.length * ws.length : Nat) : Int) - (ws.length : Int) := by
      rw [Int.mul_sub, Int.mul_one]
      rfl
    rw [z2, wn_len]
    omega
  have dL : Dp K H4 (V.int ((((wnames ws).map V.str).length : Int) * ((((wnames ws).map V.str).length : Int) - 1))) (.int ((eachV (wnames ws) (flat ws) : Nat) : Int)) := by
    rw [eL]
    exact .int _
  refine ⟨_, _, _, 3, rfl, rfl, .int _, dL, trivial, fun H5 s5 => ⟨true, rfl, ?_⟩⟩
  have w5' := w4.same s5
  have hB5 := s5 _ _ hB4
  have hJ5 := s5 _ _ hJ4
  clear w3 w4 hB3 hB4 hJ3 hJ4
  -- least_day
  refine ⟨_, rfl, W, ws, rfl, w5'.hW, wok, w5'.tg, fun D H6 s6 tg6 hD => ?_⟩
  have w6 := w5'.sameN s6 tg6
  have hB6 := s6.lstH hB5
  have hJ6 := s6.lstH hJ5
  have tyD : TyX K H6 (.ref D) (.type "tuple") := ty_dp (d := .tuple ((flat ws).map PyData.str)) (.tup hD.sqt (dpAll_strs _))
  refine ⟨_, rfl, _, _, _, _, true, rfl, .ty _, tyD, kit_ty (by decide +kernel), _, rfl, ?_⟩
  refine ⟨_, rfl, D, flat ws, rfl, hD.sqt, by omega, fun ys1 p1 py1 so1 np1 => ?_⟩
  have s7 := same_new np1 (.lst (ys1.map V.str))
  have w7 := w6.same s7
  have hD7 := hD.same s7
  have hp7 : upd H6 p1 (.lst (ys1.map V.str)) p1 = some (.lst (ys1.map V.str)) := upd_same
  have hB7 := s7 _ _ hB6
  have hJ7 := s7 _ _ hJ6
  have n1T : p1 ≠ T := by
    obtain ⟨o, ho⟩ := w6.tp.taken
    exact new_ne ho np1
  generalize upd H6 p1 (.lst (ys1.map V.str)) = H7 at w7 hD7 hp7 hB7 hJ7 ⊢
  clear w5' w6 hB5 hB6 hJ5 hJ6 hD tyD
  have nBT : Bk ≠ T := by
    obtain ⟨i', c', hT⟩ := w7.tp.at_
    refine ne_of hB7 hT fun z => ?_
    injection z with z
    cases e : wnames ws with
    | nil =>
      rw [e] at z
      cases z
    | cons b r =>
      rw [e] at z
      cases z
  refine ⟨_, rfl, _, rfl, T, S, W, ns, ws, rfl, w7.tp, w7.hW, by omega, by omega, fun D2 H8 rs sm8 tp8 nD2 hD2 pm => ?_⟩
  obtain ⟨i7, c7, hT7⟩ := w7.tp.at_
  have w8 := w7.but sm8 tp8
  have hD8 := hD7.sameT sm8 (hD7.ne hT7 fun o z => nomatch z)
  have hp8 := sm8 _ _ n1T hp7
  have hB8 := sm8 _ _ nBT hB7
  have hJ8 := sm8 _ _ nJ hJ7
  have lrs : rs.length ≤ 6 := by rw [pm.length_eq]; exact lf
  clear w7 hD7 hp7 hB7 hJ7
  refine ⟨D2, rs, rfl, hD2.sqt, by omega, fun ys2 p2 py2 so2 np2 => ?_⟩
  have s9 := same_new np2 (.lst (ys2.map V.str))
  obtain rfl : ys1 = ys2 := sorted_one so1 so2 (py1.trans (pm.symm.trans py2.symm))
  have w9 := w8.same s9
  have hD9 := hD8.same s9
  have hp9 := s9 _ _ hp8
  have h29 : upd H8 p2 (.lst (ys1.map V.str)) p2 = some (.lst (ys1.map V.str)) := upd_same
  have hB9 := s9 _ _ hB8
  have hJ9 := s9 _ _ hJ8
  generalize upd H8 p2 (.lst (ys1.map V.str)) = H9 at w9 hD9 hp9 h29 hB9 hJ9 ⊢
  have fY : Fine 1 (.list (ys1.map PyData.str)) := fine_strs (ss := ys1) (by rw [py1.length_eq]; omega) (fun b hb => wok.ok b (flat_mem (py1.mem_iff.mp hb))) 0
  refine ⟨_, _, .lst (sql hp9) (dpAll_strs _), .lst (sql h29) (dpAll_strs _), fine_shaped fY (by decide), fine_shaped fY (by decide), false, by rw [fine_eqv fY]; rfl, ?_⟩
  clear w8 hD8 hp8 hp9 h29 hB8 hJ8
  -- by hand
  have flIn : ∀ b ∈ flat ws, b ∈ wnames ws := fun b hb => flat_mem hb
  refine ⟨_, rfl, _, rfl, _, rfl, W, D, ws, flat ws, rfl, w9.hW, hD9.tps, by omega, by omega, flIn, fun t10 a10 n10 o10 H10 ts10 s10 ht10 ha10 hn10 ho10 pl10 => ?_⟩
  have pmB := behindM_perm (flat ws) flIn
  have rB : ∀ b ∈ flat ws, b ∈ behindM (wnames ws) (flat ws) := fun b hb => pmB.mem_iff.mpr (flIn b hb)
  have rI := rows_in (flat ws) rB
  have lR : (rowsM (behindM (wnames ws) (flat ws)) (flat ws)).length ≤ 6 * 5 := by
    have z := rowsM_len (flat ws) rB
    rw [pmB.length_eq, wn_len] at z
    exact Nat.le_trans z (Nat.mul_le_mul lf w5)
  have okR : ∀ z ∈ rowsM (behindM (wnames ws) (flat ws)) (flat ws), PyData.strOk z.1 = true ∧ PyData.strOk z.2 = true := fun z hz => ⟨wok.ok _ (pmB.mem_iff.mp (rI z hz).1), wok.ok _ (pmB.mem_iff.mp (rI z hz).2.1)⟩
  refine ⟨t10, _, 2, .ref o10, rfl, rfl, sqt ht10, rfl, Bk, o10, wnames ws, ts10, _, rfl, sql (s10 _ _ hB9), by rw [wn_len]; omega, wok.ok, ho10, pl10, by omega, okR, fun l11 H11 ys xs11 s11 n11 py so h11 d11 => ?_⟩
  obtain rfl : ys = wnames ws := sorted_one so wok.so py
  refine ⟨l11, rfl, ⟨_, sql h11⟩, fun Z hZ => lc_list (K := K) (a := l11) (xs := xs11) (fun j H' => Same H11 H' ∧ H' Z = some (.lst [])) ⟨same_new hZ _, upd_same⟩ (fun j H' _ h' => sql (h'.1 _ _ h11)) ?_ ?_⟩
  · rintro m x H12 hx ⟨s12, hZ12⟩
    obtain ⟨td, ed, dd⟩ := dpAll_get d11 hx
    rw [List.getElem?_map] at ed
    cases eq : (prs (wnames ws) (wnames ws).length)[m]? with
    | none =>
      rw [eq] at ed
      cases ed
    | some z =>
      rw [eq] at ed
      cases ed
      obtain ⟨a1, rfl, q1⟩ := dp_tri dd
      have hz := List.mem_of_getElem? eq
      have c1 := day_at ndW wok.so flIn wok.flatAll hz
      rw [wok.leastC hz] at c1
      refine ⟨rfl, _, rfl, a1, _, 2, _, rfl, rfl, same_tup s12 q1, rfl, rfl, false, bl_same (by rw [c1]; rfl), ?_⟩
      exact iteF ⟨s12, hZ12⟩
  rintro H12 ⟨s12, hZ12⟩
  refine ⟨Nat.zero_le _, fun e he => ?_⟩
  have s13 := (s10.trans s11).trans (s12.trans (same_new he (.lst [])))
  refine ⟨_, _, .lst (sql (same_new he (.lst []) _ _ hZ12)) .nil, .lst (sql upd_same) .nil, rfl, rfl, false, rfl, ?_⟩
  have w13 := w9.same s13
  have hD13 := hD9.same s13
  have hJ13 := s13 _ _ hJ9
  generalize upd H12 e (.lst []) = H13 at w13 hD13 hJ13 ⊢
  clear w9 hD9 hB9 hJ9 pl10 d11 s13 s12 hZ12 hZ
  -- each_day
  refine ⟨_, rfl, _, rfl, W, D, ws, flat ws, rfl, w13.hW, hD13.tps, by omega, by omega, flIn, w13.tg, fun H14 s14 tg14 => ?_⟩
  have w14 := w13.sameN s14 tg14
  have hJ14 := s14.lstH hJ13
  refine ⟨_, rfl, W, ws, rfl, w14.hW, wok, w14.tg, fun H15 s15 tg15 => ?_⟩
  have w15 := w14.sameN s15 tg15
  have hJ15 := s15.lstH hJ14
  refine ⟨rfl, false, bl_same rfl, ?_⟩
  clear w13 w14 hD13 hJ13 hJ14
  -- found
  intro Fd hFd
  have s16 := same_new hFd (.dK [])
  have w16 := w15.same s16
  have hJ16 := s16 _ _ hJ15
  have hF16 : upd H15 Fd (.dK []) Fd = some (.dK (kT [])) := upd_same
  generalize upd H15 Fd (.dK []) = H16 at w16 hJ16 hF16 ⊢
  clear w15 hJ15
  refine ⟨_, rfl, W, ws, rfl, w16.hW, ndW, wok.pos, isW.some_, by omega, w5, fun Rw H17 ts17 rws s17 hR17 tl17 al lrw => ?_⟩
  have w17 := w16.same s17
  have hJ17 := s17 _ _ hJ16
  have hF17 := s17 _ _ hF16
  clear w16 hJ16 hF16
  have dayIn : ∀ r ∈ rws, (∀ b ∈ r, b ∈ wnames ws) ∧ r.length ≤ 6 := fun r hr' => by
    have p := ((al r).mp hr').1
    exact ⟨fun b hb => flat_mem (p.mem_iff.mp hb), by rw [p.length_eq]; exact lf⟩
  obtain ⟨p0, ps, eW⟩ : ∃ p ps, ws = p :: ps := by
    cases e : ws with
    | nil => exact absurd e isW.some_
    | cons p ps => exact ⟨p, ps, rfl⟩
  have amounts : ∀ v : Nat, v ∈ rws.map (eachV (wnames ws)) ↔ v ∈ evens (leastV ws) (mostV ws + 1) := fun v => by
    rw [← all_amounts wok eW v, List.mem_map]
    constructor
    · rintro ⟨r, hr', e⟩
      obtain ⟨p, q, qs, t, e1, e2⟩ := (al r).mp hr'
      rw [eW] at e1
      cases e1
      exact ⟨r, p, ⟨t, e2⟩, e⟩
    · rintro ⟨r, p, ⟨t, e2⟩, e⟩
      exact ⟨r, (al r).mpr ⟨p, p0, ps, t, eW, e2⟩, e⟩
  have most30 : mostV ws ≤ 30 := by
    have p := behindM_perm (mostM ws) wok.mostIn
    have z := lifted_small (bs := behindM (wnames ws) (mostM ws)) (rs := mostM ws) fun b hb => p.mem_iff.mpr (wok.mostIn b hb)
    rw [p.length_eq, wn_len] at z
    have z2 : (mostM ws).length * ws.length ≤ 6 * 5 := Nat.mul_le_mul (by rw [(most_flat ws).length_eq]; exact lf) w5
    exact Nat.le_trans z z2
  have few2 : ∀ ks : List Nat, ks.Nodup → (∀ v, v ∈ ks → v ∈ rws.map (eachV (wnames ws))) → ks.length ≤ 31 := fun ks nd sub => by
    have z : ks.length ≤ (List.range 31).length := nodupN_le nd fun v hv => by
      have y := mem_evens.mp ((amounts v).mp (sub v hv))
      obtain ⟨t, _, lt⟩ := y
      exact List.mem_range.mpr (by omega)
    rw [List.length_range] at z
    exact z
  refine ⟨Rw, rfl, ⟨_, sql hR17⟩, for_list (K := K) (a := Rw) (xs := ts17.map V.ref) (fun j σ H' => (∃ y6 : Option V, σ = [some (.ref a), some (.ref T), some (natV n), some (.ref W), some (.ref Bk), some (.ref D), y6, some (.ref Fd), none, none]) ∧ SameT Fd H17 H' ∧ ∃ ks : List Nat, H' Fd = some (.dK (kT ks)) ∧ ks.Nodup ∧ ∀ v, v ∈ ks ↔ v ∈ (rws.take j).map (eachV (wnames ws)))
    ⟨⟨_, rfl⟩, SameT.refl _ _, [], hF17, List.nodup_nil, fun v => ⟨(fun h => nomatch h), (fun h => nomatch h)⟩⟩ (fun j σ H' _ h' => sql (h'.2.1 _ _ (ne_of hR17 hF17 fun z => nomatch z) hR17)) ?_ ?_⟩
  · rintro j x σ H18 hx ⟨⟨y6, rfl⟩, s18, ks, hF18, ndk, mk⟩
    obtain ⟨t, r, rfl, et, er, ht⟩ := tl17.get hx
    obtain ⟨rIn, r6⟩ := dayIn r (List.mem_of_getElem? er)
    obtain ⟨ts0, hW0, wl0⟩ := w17.hW
    have neF : ∀ {b : Addr} {o : HO}, H17 b = some o → (∀ q, o ≠ .dK q) → b ≠ Fd := fun h n => ne_of h hF17 fun z => n _ z
    have hW18 : WAt H18 W ws := ⟨ts0, hW0.sameT s18 (hW0.ne hF17 fun o z => nomatch z), wl0.move fun t xs e => s18 _ _ (neF e fun q z => nomatch z) e⟩
    have ht18 := ht.sameT s18 (ht.ne hF17 fun o z => nomatch z)
    refine ⟨_, rfl, _, rfl, _, rfl, W, t, ws, r, rfl, hW18, ht18.tps, by omega, by omega, rIn, fun t19 a19 n19 o19 H19 ts19 s19 ht19 ha19 hn19 ho19 pl19 => ?_⟩
    rw [natV_map] at hn19
    refine ⟨t19, _, 1, .ref n19, rfl, rfl, sqt ht19, rfl, n19, _, rfl, sql hn19, ?_⟩
    rw [sum_nat]
    have hF19 := s19 _ _ hF18
    have lk := few2 ks ndk fun v hv => by
      obtain ⟨z, hz, e⟩ := List.mem_map.mp ((mk v).mp hv)
      exact List.mem_map.mpr ⟨z, List.mem_of_mem_take hz, e⟩
    refine ⟨Fd, _, rfl, DPut.k (k := Sum.inl ((eachV (wnames ws) r : Nat) : Int)) hF19 ?_, ⟨_, rfl⟩, ?_, if eachV (wnames ws) r ∈ ks then ks else ks ++ [eachV (wnames ws) r], ?_, ?_, ?_⟩
    · unfold kT
      rw [List.length_map]
      exact small1000 (by omega)
    · intro b o nb hb
      rw [upd_ne nb]
      exact s19 _ _ (s18 _ _ nb hb)
    · rw [upd_same, kT_put]
    · split
      · exact ndk
      · rename_i c
        rw [List.nodup_append]
        exact ⟨ndk, List.nodup_cons.mpr ⟨(fun h => nomatch h), List.nodup_nil⟩, fun a ha b hb e => c (by rw [← List.mem_singleton.mp hb, ← e]; exact ha)⟩
    · intro v
      rw [List.take_add_one, er, List.map_append, List.mem_append, ← mk v]
      show _ ↔ v ∈ ks ∨ v ∈ [eachV (wnames ws) r]
      rw [List.mem_singleton]
      split
      · rename_i c
        exact ⟨.inl, fun h => h.elim id fun e => by rw [e]; exact c⟩
      · rw [List.mem_append, List.mem_singleton]
  rintro σ H18 ⟨⟨y6, rfl⟩, s18, ks, hF18, ndk, mk⟩
  rw [List.length_map, tl17.1, List.take_length] at mk
  have mE : ∀ v, v ∈ ks ↔ v ∈ evens (leastV ws) (mostV ws + 1) := fun v => (mk v).trans (amounts v)
  have w18 : W6 H18 T S W Ps ns ws := by
    obtain ⟨ts0, hW0, wl0⟩ := w17.hW
    obtain ⟨i', c', hT⟩ := w17.tp.at_
    have neF : ∀ {b : Addr} {o : HO}, H17 b = some o → (∀ q, o ≠ .dK q) → b ≠ Fd := fun h n => ne_of h hF17 fun z => n _ z
    refine ⟨⟨⟨i', c', s18 _ _ (neF hT fun q z => nomatch z) hT⟩, s18 _ _ (neF w17.tp.scr fun q z => nomatch z) w17.tp.scr⟩, ⟨ts0, hW0.sameT s18 (hW0.ne hF17 fun o z => nomatch z), wl0.move fun t xs e => s18 _ _ (neF e fun q z => nomatch z) e⟩, fun P hP => ?_⟩
    obtain ⟨ps, h1, h2⟩ := w17.tg P hP
    exact ⟨ps, s18 _ _ (neF h1 fun q z => nomatch z) h1, h2⟩
  have hJ18 := s18 _ _ (ne_of hJ17 hF17 fun z => nomatch z) hJ17
  clear w17 hJ17 s18
  have lk := few2 ks ndk fun v hv => (mk v).mp hv
  have lm := least_most wok
  have fE := fineN (ns := evens (leastV ws) (mostV ws + 1)) (Nat.le_trans (evens_len _ _) (by omega)) 2
  -- amounts
  refine ⟨_, rfl, W, ws, rfl, w18.hW, wok, w18.tg, fun l19 H19 s19 tg19 h19 => ?_⟩
  have w19 := w18.sameN s19 tg19
  have hJ19 := s19.lstH hJ18
  have hF19 : H19 Fd = some (.dK (kT ks)) := s19 _ _ hF18 fun q z => nomatch z
  refine ⟨_, rfl, Fd, kT ks, ks.map fun k : Nat => (k : Int), rfl, .inl hF19, kT_keys ks, by rw [List.length_map]; omega, fun ys p20 py so np => ?_⟩
  obtain rfl := sorted_ints py so ndk mE
  have s20 := same_new np (.lst (((evens (leastV ws) (mostV ws + 1)).map fun k : Nat => (k : Int)).map V.int))
  have hp20 : upd H19 p20 (.lst (((evens (leastV ws) (mostV ws + 1)).map fun k : Nat => (k : Int)).map V.int)) p20 = some (.lst ((evens (leastV ws) (mostV ws + 1)).map natV)) := by rw [upd_same, natV_map]
  have w20 := w19.same s20
  have hJ20 := s20 _ _ hJ19
  have hF20 := s20 _ _ hF19
  have h20 := s20 _ _ h19
  generalize upd H19 p20 (.lst (((evens (leastV ws) (mostV ws + 1)).map fun k : Nat => (k : Int)).map V.int)) = H20 at hp20 w20 hJ20 hF20 h20 ⊢
  refine ⟨_, _, _, 3, rfl, rfl, .lst (sql h20) (dpAll_nats _), .lst (sql hp20) (dpAll_nats _), fE, fun H21 s21 => ⟨true, rfl, ?_⟩⟩
  have w21 := w20.same s21
  have hJ21 := s21 _ _ hJ20
  have hF21 := s21 _ _ hF20
  clear w18 w19 w20 hJ18 hJ19 hJ20 hF18 hF19 hF20 h19 h20
  have inL : leastV ws ∈ ks := (mE _).mpr (mem_evens.mpr ⟨0, rfl, Nat.lt_succ_of_le lm⟩)
  have k0 : ks ≠ [] := List.ne_nil_of_mem inL
  -- the least and the most of them
  refine ⟨_, rfl, Fd, kT ks, ks.map fun k : Nat => (k : Int), rfl, hF21, kT_keys ks, fun z => k0 (List.map_eq_nil_iff.mp z), fun m hm lo => ?_⟩
  have em : m = ((leastV ws : Nat) : Int) := by
    obtain ⟨v, hv, rfl⟩ := List.mem_map.mp hm
    obtain ⟨t, e1, _⟩ := mem_evens.mp ((mE v).mp hv)
    have z := lo _ (List.mem_map.mpr ⟨_, inL, rfl⟩)
    omega
  refine ⟨_, rfl, W, ws, rfl, w21.hW, wok, w21.tg, fun H22 s22 tg22 => ?_⟩
  have w22 := w21.sameN s22 tg22
  have hJ22 := s22.lstH hJ21
  have hF22 : H22 Fd = some (.dK (kT ks)) := s22 _ _ hF21 fun q z => nomatch z
  refine ⟨rfl, false, bl_same (by rw [em]), ?_⟩
  refine ⟨_, rfl, Fd, kT ks, ks.map fun k : Nat => (k : Int), rfl, hF22, kT_keys ks, by rw [List.length_map]; exact List.length_pos_iff.mpr k0, fun m2 hm2 hi => ?_⟩
  have inM : mostV ws ∈ ks := by
    have e1 : leastV ws = eachS (wnames ws) (flat ws) := leastV_eq wok
    have e2 : mostV ws = eachS (wnames ws) (mostM ws) := mostV_eq wok
    have v1 := each_even (wnames ws) (flat ws)
    have v2 := each_even (wnames ws) (mostM ws)
    have lm2 : leastV ws ≤ mostV ws := lm
    exact (mE _).mpr (mem_evens.mpr ⟨(mostV ws - leastV ws) / 2, by omega, Nat.lt_succ_self _⟩)
  have em2 : m2 = ((mostV ws : Nat) : Int) := by
    obtain ⟨v, hv, rfl⟩ := List.mem_map.mp hm2
    obtain ⟨t, _, e1⟩ := mem_evens.mp ((mE v).mp hv)
    have z := hi _ (List.mem_map.mpr ⟨_, inM, rfl⟩)
    omega
  refine ⟨_, rfl, W, ws, rfl, w22.hW, wok, w22.tg, fun H23 s23 tg23 => ?_⟩
  have w23 := w22.sameN s23 tg23
  have hJ23 := s23.lstH hJ22
  refine ⟨rfl, false, bl_same (by rw [em2]), ?_⟩
  exact ⟨⟨_, _, _, _, _, _, rfl⟩, w23.tp, w23.tg, hJ23⟩
end
end Lt

set_option Elab.async false
set_option linter.all false
set_option maxRecDepth 100000
set_option maxHeartbeats 0
namespace Lt
open PySem PySem.Spec PyProof.Rows L2
def dd0 : He.DefD := ⟨("behind", none), "behind", "behind", defArgs sBehind, defBody sBehind, defScope sBehind, [], []⟩
def dd1 : He.DefD := ⟨("lifted", none), "lifted", "lifted", defArgs sLifted, defBody sLifted, defScope sLifted, [], []⟩
def dd2 : He.DefD := ⟨("laid_on_top", none), "laid_on_top", "laid_on_top", defArgs sLaid, defBody sLaid, defScope sLaid, [], []⟩
def dd3 : He.DefD := ⟨("each_day", none), "each_day", "each_day", defArgs sEach, defBody sEach, defScope sEach, [], []⟩
def dd4 : He.DefD := ⟨("settled_pile", none), "settled_pile", "settled_pile", defArgs sSettled, defBody sSettled, defScope sSettled, [], []⟩
def dd5 : He.DefD := ⟨("most", none), "most", "most", defArgs sMost, defBody sMost, defScope sMost, [], []⟩
def dd6 : He.DefD := ⟨("least", none), "least", "least", defArgs sLeast, defBody sLeast, defScope sLeast, [], []⟩
def dd7 : He.DefD := ⟨("amounts", none), "amounts", "amounts", defArgs sAmounts, defBody sAmounts, defScope sAmounts, [], []⟩
def dd8 : He.DefD := ⟨("most_day", none), "most_day", "most_day", defArgs sMostDay, defBody sMostDay, defScope sMostDay, [], []⟩
def dd9 : He.DefD := ⟨("least_day", none), "least_day", "least_day", defArgs sLeastDay, defBody sLeastDay, defScope sLeastDay, [], []⟩
def dd10 : He.DefD := ⟨("_law_draw", none), "_law_draw", "_law_draw", defArgs sDraw, defBody sDraw, defScope sDraw, [], []⟩
def dd11 : He.DefD := ⟨("_law_like", none), "_law_like", "_law_like", defArgs sLike, defBody sLike, defScope sLike, [], []⟩
def dd12 : He.DefD := ⟨("_law_any_order", none), "_law_any_order", "_law_any_order", defArgs sOrder, defBody sOrder, defScope sOrder, [], []⟩
def dd13 : He.DefD := ⟨("_law_books", none), "_law_books", "_law_books", defArgs sBooks, defBody sBooks, defScope sBooks, [], []⟩
def dd14 : He.DefD := ⟨("_law_wants", none), "_law_wants", "_law_wants", defArgs sWants, defBody sWants, defScope sWants, [], []⟩
def dd15 : He.DefD := ⟨("_law_day", none), "_law_day", "_law_day", defArgs sDay, defBody sDay, defScope sDay, [], []⟩
def dd16 : He.DefD := ⟨("_law_read", none), "_law_read", "_law_read", defArgs sRead, defBody sRead, defScope sRead, [], []⟩
def dd17 : He.DefD := ⟨("_law_two", none), "_law_two", "_law_two", defArgs sTwo, defBody sTwo, defScope sTwo, [], []⟩
def dd18 : He.DefD := ⟨("_law_later_day", none), "_law_later_day", "_law_later_day", defArgs sLater, defBody sLater, defScope sLater, [], []⟩
def dd19 : He.DefD := ⟨("_law_days", none), "_law_days", "_law_days", defArgs sDays, defBody sDays, defScope sDays, [], []⟩
def dd20 : He.DefD := ⟨("_law_rows", none), "_law_rows", "_law_rows", defArgs sRows, defBody sRows, defScope sRows, [], []⟩
def dd21 : He.DefD := ⟨("law", none), "law", "law", defArgs sLaw, defBody sLaw, defScope sLaw, [], []⟩
def defsAt : List He.DefD := [dd0, dd1, dd2, dd3, dd4, dd5, dd6, dd7, dd8, dd9, dd10, dd11, dd12, dd13, dd14, dd15, dd16, dd17, dd18, dd19, dd20, dd21]
def factsAt : List He.Fa := [.glo "behind", .glo "lifted", .glo "laid_on_top", .glo "each_day", .glo "settled_pile", .glo "most", .glo "least", .glo "amounts", .glo "most_day", .glo "least_day", .glo "_law_draw", .glo "_law_like", .glo "_law_any_order", .glo "_law_books", .glo "_law_wants", .glo "_law_day", .glo "_law_read", .glo "_law_two", .glo "_law_later_day", .glo "_law_days", .glo "_law_rows", .glo "law", .free "len", .free "range", .free "tuple", .free "list", .free "sorted", .free "enumerate", .free "isinstance", .free "bool", .free "set", .free "sum", .free "min", .free "max", .free "dict", .free "reversed", .free "all", .free "any", .free "int", .free "str", .free "zip"]
def tab0 : He.Defn := ("settled_pile", none)
def tab1 : He.Defn := ("most_day", none)
def tab2 : He.Defn := ("least_day", none)
def tabsAt : List He.Defn := [tab0, tab1, tab2]
abbrev rowX : PySem.W.OpenRow := PySem.W.OpenLaw.row PySem.Challenge.rw_laidontop_k06_whole_the_least_and_all_be
abbrev hookAt : PySem.W.Hook := He.hookX 4 factsAt defsAt [] tabsAt fun _ => true
def seenAt (s : PySem.W.SharedT) : He.AlX := He.obsX 4 factsAt defsAt [] tabsAt (fun _ => true) (HandSHeadRun.getT s)
theorem seenAt_eq (s : PySem.W.SharedT) : seenAt s = hookAt.obs s.abs := He.obsX_eq (HandSHeadRun.getT_eq s)
def namesAt : List Str := ["behind", "lifted", "laid_on_top", "each_day", "settled_pile", "most", "least", "amounts", "most_day", "least_day", "_law_draw", "_law_like", "_law_any_order", "_law_books", "_law_wants", "_law_day", "_law_read", "_law_two", "_law_later_day", "_law_days", "_law_rows"]
theorem runAt (w : World) : HandSHeadRun.RunEq rowX (PySem.W.view rowX.prog [25]) hookAt seenAt 2000 namesAt w := by
  intro os
  kernel_rfl
theorem tabs3 {H : Hp} {A B C : Addr} (a : GxR.TabG H A) (b : GxR.TabG H B) (c : GxR.TabG H C) : Tabs H [A, B, C] := fun P h => by
  rcases List.mem_cons.mp h with e | h
  · rw [e]
    exact a
  rcases List.mem_cons.mp h with e | h
  · rw [e]
    exact b
  rw [List.mem_singleton.mp h]
  exact c
theorem fun_of {K : PySem.W.Frag} {x y : Str} {st : Stmt} {f : Addr} {fd : FuncData} (F : FunD K x y (defArgs st) (defBody st) (defScope st) [] [] f fd) : Fun K x y st f fd := by
  obtain ⟨oc, od, dV, kV, doc, pm, an, cdv, ct, sl, e, lk, cd, dfl, _⟩ := F.ex
  rcases dfl with ⟨_, rfl⟩ | ⟨no, _⟩
  · exact ⟨⟨oc, od, kV, doc, pm, an, cdv, ct, sl, e, lk, cd⟩, F.kp⟩
  · exact absurd rfl no
theorem code_at {K : PySem.W.Frag} {x y : Str} {st : Stmt} {p : He.Defn} {fd : FuncData} (F : Fun K x y st (He.fAd K p) fd) : fd.code = .ref (He.cT K p).1 := by
  obtain ⟨oc, od, kV, doc, pm, an, cdv, ct, sl, rfl, lk, cd⟩ := F.ex
  obtain ⟨c, rfl⟩ := He.codeIn_ref cd
  have e := He.codeOf_eq (c := c) lk rfl
  show Value.ref c = .ref (He.codeOf K p)
  rw [e]
theorem lawAt {w : World} {K : PySem.W.Frag} {h : Heap} {mg : Str → Option Value} {fa : Addr} (X : K.In h) (G : h.Ns mainGlobals mg) (hfa : mg ("law" : Str) = some (.ref fa)) (c : He.SaysX factsAt defsAt [] tabsAt (fun _ => true) w h K) :
    LamX.LawAtS PySem.Challenge.rw_laidontop_k06_whole_the_least_and_all_be w K CX0 10 63 "script" mg fa h := by
  have d := c.t.d
  obtain ⟨fd0, D0⟩ := d.def_ 0 (d := dd0) rfl
  have F0 : Fun K "behind" "behind" sBehind (He.fAd K ("behind", none)) fd0 := fun_of D0
  have g0 : mg "behind" = some (.ref (He.fAd K ("behind", none))) := He.glo_ok X G (d.fact 0 (f := .glo "behind") rfl)
  have b0 := F0.binds (ps := ["pile", "readings"]) fun _ _ _ _ _ _ us hl => match us, hl with | [_, _], _ => rfl
  obtain ⟨fd1, D1⟩ := d.def_ 1 (d := dd1) rfl
  have F1 : Fun K "lifted" "lifted" sLifted (He.fAd K ("lifted", none)) fd1 := fun_of D1
  have g1 : mg "lifted" = some (.ref (He.fAd K ("lifted", none))) := He.glo_ok X G (d.fact 1 (f := .glo "lifted") rfl)
  have b1 := F1.binds (ps := ["pile", "readings"]) fun _ _ _ _ _ _ us hl => match us, hl with | [_, _], _ => rfl
  obtain ⟨fd2, D2⟩ := d.def_ 2 (d := dd2) rfl
  have F2 : Fun K "laid_on_top" "laid_on_top" sLaid (He.fAd K ("laid_on_top", none)) fd2 := fun_of D2
  have g2 : mg "laid_on_top" = some (.ref (He.fAd K ("laid_on_top", none))) := He.glo_ok X G (d.fact 2 (f := .glo "laid_on_top") rfl)
  have b2 := F2.binds (ps := ["pile", "book"]) fun _ _ _ _ _ _ us hl => match us, hl with | [_, _], _ => rfl
  obtain ⟨fd3, D3⟩ := d.def_ 3 (d := dd3) rfl
  have F3 : Fun K "each_day" "each_day" sEach (He.fAd K ("each_day", none)) fd3 := fun_of D3
  have g3 : mg "each_day" = some (.ref (He.fAd K ("each_day", none))) := He.glo_ok X G (d.fact 3 (f := .glo "each_day") rfl)
  have b3 := F3.binds (ps := ["wants", "day"]) fun _ _ _ _ _ _ us hl => match us, hl with | [_, _], _ => rfl
  obtain ⟨fd4, D4⟩ := d.def_ 4 (d := dd4) rfl
  have F4 : Fun K "settled_pile" "settled_pile" sSettled (He.fAd K ("settled_pile", none)) fd4 := fun_of D4
  have g4 : mg "settled_pile" = some (.ref (He.fAd K ("settled_pile", none))) := He.glo_ok X G (d.fact 4 (f := .glo "settled_pile") rfl)
  have b4 := F4.binds (ps := ["wants", "day"]) fun _ _ _ _ _ _ us hl => match us, hl with | [_, _], _ => rfl
  obtain ⟨fd5, D5⟩ := d.def_ 5 (d := dd5) rfl
  have F5 : Fun K "most" "most" sMost (He.fAd K ("most", none)) fd5 := fun_of D5
  have g5 : mg "most" = some (.ref (He.fAd K ("most", none))) := He.glo_ok X G (d.fact 5 (f := .glo "most") rfl)
  have b5 := F5.binds (ps := ["wants"]) fun _ _ _ _ _ _ us hl => match us, hl with | [_], _ => rfl
  obtain ⟨fd6, D6⟩ := d.def_ 6 (d := dd6) rfl
  have F6 : Fun K "least" "least" sLeast (He.fAd K ("least", none)) fd6 := fun_of D6
  have g6 : mg "least" = some (.ref (He.fAd K ("least", none))) := He.glo_ok X G (d.fact 6 (f := .glo "least") rfl)
  have b6 := F6.binds (ps := ["wants"]) fun _ _ _ _ _ _ us hl => match us, hl with | [_], _ => rfl
  obtain ⟨fd7, D7⟩ := d.def_ 7 (d := dd7) rfl
  have F7 : Fun K "amounts" "amounts" sAmounts (He.fAd K ("amounts", none)) fd7 := fun_of D7
  have g7 : mg "amounts" = some (.ref (He.fAd K ("amounts", none))) := He.glo_ok X G (d.fact 7 (f := .glo "amounts") rfl)
  have b7 := F7.binds (ps := ["wants"]) fun _ _ _ _ _ _ us hl => match us, hl with | [_], _ => rfl
  obtain ⟨fd8, D8⟩ := d.def_ 8 (d := dd8) rfl
  have F8 : Fun K "most_day" "most_day" sMostDay (He.fAd K ("most_day", none)) fd8 := fun_of D8
  have g8 : mg "most_day" = some (.ref (He.fAd K ("most_day", none))) := He.glo_ok X G (d.fact 8 (f := .glo "most_day") rfl)
  have b8 := F8.binds (ps := ["wants"]) fun _ _ _ _ _ _ us hl => match us, hl with | [_], _ => rfl
  obtain ⟨fd9, D9⟩ := d.def_ 9 (d := dd9) rfl
  have F9 : Fun K "least_day" "least_day" sLeastDay (He.fAd K ("least_day", none)) fd9 := fun_of D9
  have g9 : mg "least_day" = some (.ref (He.fAd K ("least_day", none))) := He.glo_ok X G (d.fact 9 (f := .glo "least_day") rfl)
  have b9 := F9.binds (ps := ["wants"]) fun _ _ _ _ _ _ us hl => match us, hl with | [_], _ => rfl
  obtain ⟨fd10, D10⟩ := d.def_ 10 (d := dd10) rfl
  have F10 : Fun K "_law_draw" "_law_draw" sDraw (He.fAd K ("_law_draw", none)) fd10 := fun_of D10
  have g10 : mg "_law_draw" = some (.ref (He.fAd K ("_law_draw", none))) := He.glo_ok X G (d.fact 10 (f := .glo "_law_draw") rfl)
  have b10 := F10.binds (ps := ["tape", "many"]) fun _ _ _ _ _ _ us hl => match us, hl with | [_, _], _ => rfl
  obtain ⟨fd11, D11⟩ := d.def_ 11 (d := dd11) rfl
  have F11 : Fun K "_law_like" "_law_like" sLike (He.fAd K ("_law_like", none)) fd11 := fun_of D11
  have g11 : mg "_law_like" = some (.ref (He.fAd K ("_law_like", none))) := He.glo_ok X G (d.fact 11 (f := .glo "_law_like") rfl)
  have b11 := F11.binds (ps := ["one", "two"]) fun _ _ _ _ _ _ us hl => match us, hl with | [_, _], _ => rfl
  obtain ⟨fd12, D12⟩ := d.def_ 12 (d := dd12) rfl
  have F12 : Fun K "_law_any_order" "_law_any_order" sOrder (He.fAd K ("_law_any_order", none)) fd12 := fun_of D12
  have g12 : mg "_law_any_order" = some (.ref (He.fAd K ("_law_any_order", none))) := He.glo_ok X G (d.fact 12 (f := .glo "_law_any_order") rfl)
  have b12 := F12.binds (ps := ["tape", "many"]) fun _ _ _ _ _ _ us hl => match us, hl with | [_, _], _ => rfl
  obtain ⟨fd13, D13⟩ := d.def_ 13 (d := dd13) rfl
  have F13 : Fun K "_law_books" "_law_books" sBooks (He.fAd K ("_law_books", none)) fd13 := fun_of D13
  have g13 : mg "_law_books" = some (.ref (He.fAd K ("_law_books", none))) := He.glo_ok X G (d.fact 13 (f := .glo "_law_books") rfl)
  have b13 := F13.binds (ps := []) fun _ _ _ _ _ _ us hl => match us, hl with | [], _ => rfl
  obtain ⟨fd14, D14⟩ := d.def_ 14 (d := dd14) rfl
  have F14 : Fun K "_law_wants" "_law_wants" sWants (He.fAd K ("_law_wants", none)) fd14 := fun_of D14
  have g14 : mg "_law_wants" = some (.ref (He.fAd K ("_law_wants", none))) := He.glo_ok X G (d.fact 14 (f := .glo "_law_wants") rfl)
  have b14 := F14.binds (ps := ["tape", "books", "readers"]) fun _ _ _ _ _ _ us hl => match us, hl with | [_, _, _], _ => rfl
  obtain ⟨fd15, D15⟩ := d.def_ 15 (d := dd15) rfl
  have F15 : Fun K "_law_day" "_law_day" sDay (He.fAd K ("_law_day", none)) fd15 := fun_of D15
  have g15 : mg "_law_day" = some (.ref (He.fAd K ("_law_day", none))) := He.glo_ok X G (d.fact 15 (f := .glo "_law_day") rfl)
  have b15 := F15.binds (ps := ["tape", "wants"]) fun _ _ _ _ _ _ us hl => match us, hl with | [_, _], _ => rfl
  obtain ⟨fd16, D16⟩ := d.def_ 16 (d := dd16) rfl
  have F16 : Fun K "_law_read" "_law_read" sRead (He.fAd K ("_law_read", none)) fd16 := fun_of D16
  have g16 : mg "_law_read" = some (.ref (He.fAd K ("_law_read", none))) := He.glo_ok X G (d.fact 16 (f := .glo "_law_read") rfl)
  have b16 := F16.binds (ps := ["pile", "readings"]) fun _ _ _ _ _ _ us hl => match us, hl with | [_, _], _ => rfl
  obtain ⟨fd17, D17⟩ := d.def_ 17 (d := dd17) rfl
  have F17 : Fun K "_law_two" "_law_two" sTwo (He.fAd K ("_law_two", none)) fd17 := fun_of D17
  have g17 : mg "_law_two" = some (.ref (He.fAd K ("_law_two", none))) := He.glo_ok X G (d.fact 17 (f := .glo "_law_two") rfl)
  have b17 := F17.binds (ps := ["books", "rows"]) fun _ _ _ _ _ _ us hl => match us, hl with | [_, _], _ => rfl
  obtain ⟨fd18, D18⟩ := d.def_ 18 (d := dd18) rfl
  have F18 : Fun K "_law_later_day" "_law_later_day" sLater (He.fAd K ("_law_later_day", none)) fd18 := fun_of D18
  have g18 : mg "_law_later_day" = some (.ref (He.fAd K ("_law_later_day", none))) := He.glo_ok X G (d.fact 18 (f := .glo "_law_later_day") rfl)
  have b18 := F18.binds (ps := ["wants", "day"]) fun _ _ _ _ _ _ us hl => match us, hl with | [_, _], _ => rfl
  obtain ⟨fd19, D19⟩ := d.def_ 19 (d := dd19) rfl
  have F19 : Fun K "_law_days" "_law_days" sDays (He.fAd K ("_law_days", none)) fd19 := fun_of D19
  have g19 : mg "_law_days" = some (.ref (He.fAd K ("_law_days", none))) := He.glo_ok X G (d.fact 19 (f := .glo "_law_days") rfl)
  have b19 := F19.binds (ps := ["wants"]) fun _ _ _ _ _ _ us hl => match us, hl with | [_], _ => rfl
  obtain ⟨fd20, D20⟩ := d.def_ 20 (d := dd20) rfl
  have F20 : Fun K "_law_rows" "_law_rows" sRows (He.fAd K ("_law_rows", none)) fd20 := fun_of D20
  have g20 : mg "_law_rows" = some (.ref (He.fAd K ("_law_rows", none))) := He.glo_ok X G (d.fact 20 (f := .glo "_law_rows") rfl)
  have b20 := F20.binds (ps := ["left"]) fun _ _ _ _ _ _ us hl => match us, hl with | [_], _ => rfl
  obtain ⟨fd21, D21⟩ := d.def_ 21 (d := dd21) rfl
  have F21 : Fun K "law" "law" sLaw (He.fAd K ("law", none)) fd21 := fun_of D21
  have g21 : mg "law" = some (.ref (He.fAd K ("law", none))) := He.glo_ok X G (d.fact 21 (f := .glo "law") rfl)
  have B : Bi mg := ⟨He.free_ok X G (d.fact 22 (f := .free "len") rfl), He.free_ok X G (d.fact 23 (f := .free "range") rfl), He.free_ok X G (d.fact 24 (f := .free "tuple") rfl), He.free_ok X G (d.fact 25 (f := .free "list") rfl), He.free_ok X G (d.fact 26 (f := .free "sorted") rfl), He.free_ok X G (d.fact 27 (f := .free "enumerate") rfl), He.free_ok X G (d.fact 28 (f := .free "isinstance") rfl), He.free_ok X G (d.fact 29 (f := .free "bool") rfl), He.free_ok X G (d.fact 30 (f := .free "set") rfl), He.free_ok X G (d.fact 31 (f := .free "sum") rfl), He.free_ok X G (d.fact 32 (f := .free "min") rfl), He.free_ok X G (d.fact 33 (f := .free "max") rfl), He.free_ok X G (d.fact 34 (f := .free "dict") rfl), He.free_ok X G (d.fact 35 (f := .free "reversed") rfl), He.free_ok X G (d.fact 36 (f := .free "all") rfl), He.free_ok X G (d.fact 37 (f := .free "any") rfl), He.free_ok X G (d.fact 38 (f := .free "int") rfl), He.free_ok X G (d.fact 39 (f := .free "str") rfl), He.free_ok X G (d.fact 40 (f := .free "zip") rfl)⟩
  have e := hfa.symm.trans g21
  cases e
  have bl := FunD.bindsA (ps := ["script"]) D21 fun _ _ _ _ _ _ us hl => match us, hl with | [_], _ => rfl
  have in0 : tab0 ∈ tabsAt := by simp [tabsAt]
  have im0 : He.cT K tab0 ∈ tabsAt.map (He.cT K) := List.mem_map.mpr ⟨_, in0, rfl⟩
  have in1 : tab1 ∈ tabsAt := by simp [tabsAt]
  have im1 : He.cT K tab1 ∈ tabsAt.map (He.cT K) := List.mem_map.mpr ⟨_, in1, rfl⟩
  have in2 : tab2 ∈ tabsAt := by simp [tabsAt]
  have im2 : He.cT K tab2 ∈ tabsAt.map (He.cT K) := List.mem_map.mpr ⟨_, in2, rfl⟩
  have one : ∀ p ∈ tabsAt.map (He.cT K), ∃ t ∈ tabsAt, p = He.cT K t := fun p hp => by
    obtain ⟨t, ht, e⟩ := List.mem_map.mp hp
    exact ⟨t, ht, e.symm⟩
  refine ⟨fd21, tabsAt.map (He.cT K), spLawN K [(He.cT K tab0).2, (He.cT K tab1).2, (He.cT K tab2).2], fun p hp => ?_, fun p hp => ?_, fun p hp => ?_, fun s v => bl s [v] rfl, fun H a ns hl _ hH hS => ?_, fun base _ _ TBs => ?_⟩
  · obtain ⟨t, ht, rfl⟩ := one p hp
    exact c.empty t ht
  · obtain ⟨t, ht, rfl⟩ := one p hp
    exact c.out t ht
  · obtain ⟨t, ht, rfl⟩ := one p hp
    exact PySem.W.codeHd_of_K X (c.hd t ht)
  · exact ⟨a, ns, rfl, hS, hl, tabs3 ⟨#[], hH _ im0, by first | trivial | exact rfl | simp [TriplesOk]⟩ ⟨#[], hH _ im1, by first | trivial | exact rfl | simp [TriplesOk]⟩ ⟨#[], hH _ im2, by first | trivial | exact rfl | simp [TriplesOk]⟩, fun _ => rfl⟩
  · have tb0 := TBs _ im0
    have TB0 : GxR.TabB base mg (He.cT K tab0).1 (He.cT K tab0).2 := ⟨tb0.code, tb0.bm, tb0.gP⟩
    have tb1 := TBs _ im1
    have TB1 : GxR.TabB base mg (He.cT K tab1).1 (He.cT K tab1).2 := ⟨tb1.code, tb1.bm, tb1.gP⟩
    have tb2 := TBs _ im2
    have TB2 : GxR.TabB base mg (He.cT K tab2).1 (He.cT K tab2).2 := ⟨tb2.code, tb2.bm, tb2.gP⟩
    have cD : Has PySem.Challenge.rw_laidontop_k06_whole_the_least_and_all_be.prog w K mg base 1 "_law_draw" ["tape", "many"] spDraw := ⟨_, _, ok_draw F10 B.len, g10, F10.kp, b10⟩
    have cO : Has PySem.Challenge.rw_laidontop_k06_whole_the_least_and_all_be.prog w K mg base 2 "_law_any_order" ["tape", "many"] spOrder := ⟨_, _, ok_order F12 B cD, g12, F12.kp, b12⟩
    have cB : Has PySem.Challenge.rw_laidontop_k06_whole_the_least_and_all_be.prog w K mg base 1 "_law_books" [] spBooks := ⟨_, _, ok_books F13, g13, F13.kp, b13⟩
    have cWa : Has PySem.Challenge.rw_laidontop_k06_whole_the_least_and_all_be.prog w K mg base 2 "_law_wants" ["tape", "books", "readers"] spWants := ⟨_, _, ok_wants F14 B cD cB, g14, F14.kp, b14⟩
    have cDy : Has PySem.Challenge.rw_laidontop_k06_whole_the_least_and_all_be.prog w K mg base 3 "_law_day" ["tape", "wants"] spDay := ⟨_, _, ok_day F15 B cO, g15, F15.kp, b15⟩
    have cRd : Has PySem.Challenge.rw_laidontop_k06_whole_the_least_and_all_be.prog w K mg base 1 "_law_read" ["pile", "readings"] (spReadT K) := ⟨_, _, ok_readT F16 B, g16, F16.kp, b16⟩
    have cTw : Has PySem.Challenge.rw_laidontop_k06_whole_the_least_and_all_be.prog w K mg base 1 "_law_two" ["books", "rows"] (spTwoT K) := ⟨_, _, ok_twoT F17 B, g17, F17.kp, b17⟩
    have cLk : Has PySem.Challenge.rw_laidontop_k06_whole_the_least_and_all_be.prog w K mg base 4 "_law_like" ["one", "two"] (spLike K 4) := ⟨_, _, like_all F11 B g11 b11 4, g11, F11.kp, b11⟩
    have cLt : Has PySem.Challenge.rw_laidontop_k06_whole_the_least_and_all_be.prog w K mg base 2 "_law_later_day" ["wants", "day"] (spLater K) := ⟨_, _, ok_later F18 cRd, g18, F18.kp, b18⟩
    have cRw : Has PySem.Challenge.rw_laidontop_k06_whole_the_least_and_all_be.prog w K mg base 8 "_law_rows" ["left"] (spRows 8) := ⟨_, _, rows_all F20 B g20 b20 8, g20, F20.kp, b20⟩
    have cDs : Has PySem.Challenge.rw_laidontop_k06_whole_the_least_and_all_be.prog w K mg base 9 "_law_days" ["wants"] spDays := ⟨_, _, ok_days F19 B cRw, g19, F19.kp, b19⟩
    have cLd : Has PySem.Challenge.rw_laidontop_k06_whole_the_least_and_all_be.prog w K mg base 1 "laid_on_top" ["pile", "book"] spLaid := ⟨_, _, ok_laid F2, g2, F2.kp, b2⟩
    have cBe : Has PySem.Challenge.rw_laidontop_k06_whole_the_least_and_all_be.prog w K mg base 2 "behind" ["pile", "readings"] (spBehindT K) := ⟨_, _, ok_behindT F0 cLd, g0, F0.kp, b0⟩
    have cLi : Has PySem.Challenge.rw_laidontop_k06_whole_the_least_and_all_be.prog w K mg base 2 "lifted" ["pile", "readings"] (spLiftedT K) := ⟨_, _, ok_liftedT F1 cLd, g1, F1.kp, b1⟩
    have cSe : Has PySem.Challenge.rw_laidontop_k06_whole_the_least_and_all_be.prog w K mg base 3 "settled_pile" ["wants", "day"] (spSettledN K [(He.cT K tab0).2, (He.cT K tab1).2, (He.cT K tab2).2]) := ⟨_, _, ok_settledN F4 (code_at (p := tab0) F4) TB0 (by simp) B cBe, g4, F4.kp, b4⟩
    have cEa : Has PySem.Challenge.rw_laidontop_k06_whole_the_least_and_all_be.prog w K mg base 4 "each_day" ["wants", "day"] (spEachN K [(He.cT K tab0).2, (He.cT K tab1).2, (He.cT K tab2).2]) := ⟨_, _, ok_eachN F3 B cSe cLi, g3, F3.kp, b3⟩
    have cMd : Has PySem.Challenge.rw_laidontop_k06_whole_the_least_and_all_be.prog w K mg base 3 "most_day" ["wants"] (spMostDay [(He.cT K tab0).2, (He.cT K tab1).2, (He.cT K tab2).2]) := ⟨_, _, ok_mostDay F8 (code_at (p := tab1) F8) TB1 (by simp) B, g8, F8.kp, b8⟩
    have cLy : Has PySem.Challenge.rw_laidontop_k06_whole_the_least_and_all_be.prog w K mg base 3 "least_day" ["wants"] (spLeastDay [(He.cT K tab0).2, (He.cT K tab1).2, (He.cT K tab2).2]) := ⟨_, _, ok_leastDay F9 (code_at (p := tab2) F9) TB2 (by simp) B, g9, F9.kp, b9⟩
    have cMo : Has PySem.Challenge.rw_laidontop_k06_whole_the_least_and_all_be.prog w K mg base 5 "most" ["wants"] (spMost [(He.cT K tab0).2, (He.cT K tab1).2, (He.cT K tab2).2]) := ⟨_, _, ok_most F5 cMd cEa, g5, F5.kp, b5⟩
    have cLe : Has PySem.Challenge.rw_laidontop_k06_whole_the_least_and_all_be.prog w K mg base 5 "least" ["wants"] (spLeast [(He.cT K tab0).2, (He.cT K tab1).2, (He.cT K tab2).2]) := ⟨_, _, ok_least F6 cLy cEa, g6, F6.kp, b6⟩
    have cAm : Has PySem.Challenge.rw_laidontop_k06_whole_the_least_and_all_be.prog w K mg base 6 "amounts" ["wants"] (spAmounts [(He.cT K tab0).2, (He.cT K tab1).2, (He.cT K tab2).2]) := ⟨_, _, ok_amounts F7 B cMo cLe, g7, F7.kp, b7⟩
    exact ok_law F21 B cWa cDy cTw cLk cLt cMo cLe cAm cLy cEa cDs
end Lt
open PySem PySem.W PySem.Calls PyProof.Rows in
set_option maxRecDepth 100000 in
set_option maxHeartbeats 0 in
theorem PySem.Challenge.cw_laidontop_k06_whole_the_least_and_all_be_holds : PySem.Challenge.rw_laidontop_k06_whole_the_least_and_all_be.Holds := by
  w_on; o_law
  refine HandSHeadRun.head_any (r := Lt.rowX) (q := view Lt.rowX.prog [25]) (H := Lt.hookAt) (ob := Lt.seenAt) (M := 2000) (loose := Lt.namesAt) (d := HandSHeadRun.topDef Lt.rowX.prog 25) (kwd := []) Lt.seenAt_eq (by kernel_rfl) (fun s => by kernel_rfl) Lt.runAt
    (by kernel_rfl) (by kernel_rfl) (by kernel_rfl) (by rfl) (by first | assumption | decide +kernel) (by decide +kernel) ⟨rfl, rfl, rfl, rfl, rfl, by decide +kernel⟩ ?hw ?hc
  case hw => w_witness2
  case hc =>
    refine LamX.walk_ofTsE (l := PySem.Challenge.rw_laidontop_k06_whole_the_least_and_all_be) (n := 63) (k := 10) (x := "script") (CX := fun _ => L2.CX0) rfl (by decide) (by kernel_rfl) ⟨rfl, by decide, by decide⟩ ?F (fun _ _ _ _ _ z => z)
    rintro w mg fa h ⟨K, KX, c⟩ G hm
    refine ⟨K, KX, Lt.lawAt KX G ?_ c⟩
    have e : (HandSHeadRun.topDef Lt.rowX.prog 25).name = ("law" : PySem.Str) := by kernel_rfl
    rw [← e]
    exact hm
