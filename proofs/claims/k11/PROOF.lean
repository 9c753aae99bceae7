import PyProof.Rows.All
import Wide.All
import OpenK.AllK
import Wide.FinOn
import HandS.Base
import HandS.Call
import HandS.List
import HandS.Comp
import HandS.Dict
import HandS.More
import HandS.Words
import HandS.Strs
import HandS.TupAny
import KE.DataFind
import KE.Datum
import KE.GoesMore
import KE.GoesComp
import HandS.ForMost
import HandS.IsInst
import HandS.Wide
import HandS.Style
import HandS.Walk
import HandS.Evl
import PyProof.Rows.SetFrom
import PyProof.GenCompT
import PyProof.TupleOfGen
import HandS.AnyAll
import HandS.GenOver
import KE.KDictPairs
import PyProof.Rows.Chain
import PyProof.FactsAll.subtypes_4
import HandS.Text
import HandS.GenList
import HandS.SortRule
import HandS.Conv
import HandS.Rev
import PyProof.ListRange
import PyProof.Rows.SumGenD
import HandS.SetFor
import HandS.Defaults
import HandS.TupMul
import HandS.Lambda
import HandS.Flow
import HandS.EndTab
import HandS.HeadWalk
import HandS.HeadHook4
import HandS.Head2
import HandS.HeadEnd
import PySem.Challenge.RW_laidontop_k11_written_cases_and_names
set_option Elab.async false
set_option linter.all false
set_option maxRecDepth 100000
set_option maxHeartbeats 4000000
/-! Rules for what this text needs beside the hand layer's: a text taken out of a list, a tuple of texts sorted, a dict of a constant over tuple keys, methods of tuples. -/
namespace Lt
open PySem PySem.Spec PyProof.Rows L2

theorem erase_map {a b : Type} (f : a → b) : ∀ (l : List a) (j : Nat), (l.map f).eraseIdx j = (l.eraseIdx j).map f
  | [], j => by simp
  | x :: r, 0 => by simp
  | x :: r, j + 1 => by simp [erase_map f r j]
theorem txts_data {K : PySem.W.Frag} {H : Hp} : ∀ ss : List Str, DpAll K H (ss.map V.str) (ss.map PySem.W.Datum.toD)
  | [] => .nil
  | x :: r => .cons (.str x) (txts_data r)
section
variable {X : Cx}
def rRemS : V → List V → Hp → VK → Prop := fun x xs H Q => ∃ (l : Addr) (ss : List Str) (z : Str) (j : Nat),
  x = .ref l ∧ xs = [.str z] ∧ H l = some (.lst (ss.map V.str)) ∧ ss[j]? = some z ∧ (∀ m : Nat, m < j → ss[m]? ≠ some z) ∧
  Q .non (upd H l (.lst ((ss.eraseIdx j).map V.str)))
/-- xs.remove(y), texts: the first place of y goes -/
theorem mt_removeS (hu : X.A.units + 1 < cLine) : MtM X "list.remove" rRemS := by
  rintro pins s σ H _ _ v us Q inv relx relxs ⟨l, ss, z, j, rfl, rfl, hH, hj, hno, q⟩
  cases relx
  obtain ⟨_, rfl, t, rfl⟩ := relxs.one
  obtain ⟨hz, its, n, vals, hl, ho⟩ := inv.lstM hH
  have isl : s.heap.IsList l its.toArray := ⟨_, ho, rfl, n, rfl⟩
  obtain ⟨as, rds⟩ := Dp.readsAll inv (ss.map PySem.W.Datum.toD) (ss.map V.str) its (txts_data ss) vals
  have gone := vals.eraseIdx j
  rw [erase_map] at gone
  rw [List.length_map] at hz hl
  refine PySem.W.remove_list_datum (xs := ss) (x := z) isl ⟨as, by simpa using rds⟩ ⟨_, Reads.str z t⟩ (show X.A.units + 1 + 0 < cLine from hu) hj hno (by rw [List.size_toArray]; omega)
    ⟨.non, _, inv.lset (its' := its.eraseIdx j) (t' := s.toks) hH ho (by simp) gone ?_, rfl, q⟩
  have le := List.length_eraseIdx_le ss j
  rw [List.length_map]
  omega
/-- sorted(t), t a tuple of fewer than 64 texts -/
def rSortedT (K : PySem.W.Frag) : List V → Hp → VK → Prop := fun vs H Q => ∃ (a : Addr) (xs : List Str), vs = [V.ref a] ∧ SqT K H a (xs.map V.str) ∧ xs.length < 64 ∧
  ∀ (ys : List Str) (p : Addr), ys.Perm xs → sortedS ys = true → H p = none →
    Q (.ref p) (upd H p (.lst (ys.map V.str)))
theorem cr_sortedT : CallR X (.builtin "sorted") (rSortedT X.K) := by
  rintro pins s σ H _ us Q inv rel ⟨a, xs, rfl, sq, few, q⟩
  rw [Vals.ref1 rel]
  obtain ⟨its, vals, ⟨o, ho, hc, n, hd⟩, _⟩ := inv.tuple sq
  have len : its.length = xs.length := by rw [← vals.length, List.length_map]
  have txt : StrsAre its xs := vals.strs
  have fits : its.length ≤ sizeLine := Nat.le_trans (Nat.le_of_lt (len ▸ few)) (by decide)
  refine Calls.call_function_entry kind_sorted plain_sorted entry_sorted (args_sorted1 _) (wpAny_bind (m := checkCount "sorted" 1 1 _) (wpAny_pure
    (wpAny_bind (wpAny_collect_seq a (.inr rfl) ho hc hd (fun h1 kept => ?_) (by rw [List.size_toArray]; exact fits)))))
  have back : its.toArray.toList = its := by simp
  rw [back]
  refine wpAny_bind (wpAny_newList ?_ fits)
  have lst : (h1.push (seqObj "list" its.toArray 0)).get? h1.objs.size = some (seqObj "list" its.toArray 0) := Heap.get?_push_size _ rfl
  have inv1 : Inv X pins σ H { s with heap := h1 } := inv.kept (t' := s.toks) kept
  show wpAny _ _ _ _ _ { s with heap := h1.push (seqObj "list" its.toArray 0) }
  refine wpAny_bind (wpAny_holding (wpAny_call_entry slot_list_sort ⟨_, lst, rfl⟩ entry_list_sort (list_sort_treeK strKind_oneLt (s := { s with heap := h1.push (seqObj "list" its.toArray 0) }) lst txt.keysOf
    (fun v1 v2 rest e => keyKind_strs (by rw [← e]; exact txt)) (len ▸ few) fun st perm ord => ⟨_, rfl, ?_⟩) (args_list_sort _)))
  obtain ⟨ys, are, permS, ordS⟩ := sorted_out_str txt perm ord
  obtain ⟨ep, at1⟩ := sortedHeap_at (vs := its) (out := (arrOf st).map (·.2)) lst
  have lys : (ys.map V.str).length ≤ sizeLine := by
    rw [List.length_map, permS.length_eq]
    exact small64 few
  refine wpAny_pure ⟨_, rfl, .ref h1.objs.size, _, inv1.laid (t' := s.toks) (fun b u e => ?_) (Nat.le_refl _) (show ObjOk X.prog X.w _ _ _ (.lst (ys.map V.str)) from ⟨lys, _, ep, vals_of_strs are, by rw [Array.toArray_toList]; exact at1⟩), rfl,
    q ys _ permS ordS (inv1.hok.fresh (Nat.le_refl _))⟩
  have lt : b < h1.objs.size := Heap.lt_size e
  rw [sortedHeap_old (Nat.ne_of_lt lt) (by rw [size_push']; exact Nat.lt_succ_of_lt lt)]
  exact Heap.get?_push_of_some _ e
end
/-! ### {x: c for x in rows}, the rows tuples of ints and texts: over the library's DictComp_goes -/
def consts (c : Int) (ks : List (List Key)) : List (List Key × V) := ks.foldl (fun acc k => putK acc k (.int c)) []
theorem consts_snoc (c : Int) (ks : List (List Key)) (k : List Key) : consts c (ks ++ [k]) = putK (consts c ks) k (.int c) := by
  unfold consts
  rw [List.foldl_append]
  rfl
theorem consts_len (c : Int) (ks : List (List Key)) : (consts c ks).length ≤ ks.length := by
  have key : ∀ (ks : List (List Key)) (acc : List (List Key × V)), (ks.foldl (fun acc k => putK acc k (V.int c)) acc).length ≤ acc.length + ks.length := by
    intro ks
    induction ks with
    | nil => intro acc; exact Nat.le_refl _
    | cons k r ih =>
      intro acc
      have z := ih (putK acc k (.int c))
      have z2 := length_putK acc k (V.int c)
      rw [List.foldl_cons, List.length_cons]
      omega
  have z := key ks []
  rw [List.length_nil, Nat.zero_add] at z
  exact z
theorem consts_val (c : Int) (ks : List (List Key)) : ∀ k ∈ ks, valV (consts c ks) k = some (.int c) := by
  have key : ∀ (ks : List (List Key)) (acc : List (List Key × V)) (k : List Key), (k ∈ ks ∨ valV acc k = some (V.int c)) → valV (ks.foldl (fun acc k => putK acc k (V.int c)) acc) k = some (V.int c) := by
    intro ks
    induction ks with
    | nil =>
      intro acc k h
      rcases h with h | h
      · cases h
      · exact h
    | cons x r ih =>
      intro acc k h
      rw [List.foldl_cons]
      refine ih _ k ?_
      rw [valV_put]
      by_cases e : k = x
      · exact .inr (if_pos e)
      · rw [if_neg e]
        rcases h with h | h
        · exact .inl ((List.mem_cons.mp h).resolve_left e)
        · exact .inr h
  exact fun k hk => key ks [] k (.inl hk)
theorem keys_all {H : Hp} : ∀ {ls : List (List Key × V)} {ms : List (List Key × Addr × Value)}, KT H ls ms → ∀ z ∈ ms, H z.2.1 = some (.tup (z.1.map kV))
  | _, _, .nil, z, hz => by cases hz
  | _, _, .cons h t, z, hz => by
    rcases List.mem_cons.mp hz with rfl | hz
    · rw [← h.1]
      exact h.2.1
    · exact keys_all t z hz
/-- a dict's entries as they stand at D -/
def Raw (P : Program) (w : World) (h : Heap) (D : Addr) (xs : List (List Key × Addr × Value)) : Prop :=
  ∃ o es ep, h.get? D = some o ∧ o.ExactDict ∧ o.data = .dict es ep ∧ es.toList = xs.map (entryOfKey (tupleKind (mixKind P w))) ∧ (xs.map (·.1)).Nodup
theorem Raw.at {P : Program} {w : World} {h h' : Heap} {D : Addr} {xs : List (List Key × Addr × Value)} (r : Raw P w h D xs) (k : ∀ o, h.get? D = some o → h'.get? D = some o) : Raw P w h' D xs := by
  obtain ⟨o, es, ep, a1, a2⟩ := r
  exact ⟨o, es, ep, k o a1, a2⟩
theorem Raw.dict {P : Program} {w : World} {h h0 : Heap} {H : Hp} {D : Addr} {ls : List (List Key × V)} {xs : List (List Key × Addr × Value)} (r : Raw P w h D xs) (ok : HOk P w H h0) (kp : ∀ b o, h0.get? b = some o → h.get? b = some o) (kt : KT H ls xs) :
    h.DictOfH (tupleKind (mixKind P w)) D xs := by
  obtain ⟨o, es, ep, a1, a2, a3, a4, a5⟩ := r
  refine ⟨o, es, ep, a1, a2, a3, a4, fun z hz => ?_, a5⟩
  obtain ⟨ob, its, n, b1, b2⟩ := key_of ok (keys_all kt z hz)
  exact ⟨ob, its, n, kp _ ob b1, b2⟩
theorem below {b N C : Nat} (hb : b < N) (hC : N + 1 ≤ C) : b ≠ C ∧ b ≠ N := by omega
section
variable {X : Cx}
def tDcK (K : PySem.W.Frag) (c : Int) (te : TE) : TE := fun σ H Q => te σ H fun v H1 => ∃ (l : Addr) (ts : List Addr) (ks : List (List Key)), v = .ref l ∧ SqL K H1 l (ts.map V.ref) ∧ ts.length = ks.length ∧
  (∀ (i : Nat) (t : Addr) (k : List Key), ts[i]? = some t → ks[i]? = some k → H1 t = some (.tup (k.map kV))) ∧ ks.length ≤ 1000 ∧ ∀ D, H1 D = none → Q (.ref D) (upd H1 D (.dT (consts c ks)))
theorem pe_dcK {x : Str} {c : Int} {jc : Nat} {px pk pc pos : Pos} {iter : Expr} {scope : Scope} {te : TE} (hu : X.A.units + 1 < cLine) (hcalm : X.calm = true) (he : PE X iter te)
    (names : scope.names.all (fun y => y.2 == .local) = true) (uniq : ∀ y ∈ scope.names, y.2 = .local → scope.names.lookup y.1 = some .local) (hx : scope.names.lookup x = some .local) (hkind : scope.kind = .function)
    (hdb : (x == ("__debug__" : Str)) = false := by decide) (hs : ∀ x, foldedSetIterable iter X.env x = pure x := by intro _; rfl) :
    PE X (.DictComp (.Name x pk) (.Constant (.int c) jc pc) [⟨.Name x px, iter, [], 0⟩] scope pos) (tDcK X.K c te) := by
  refine ⟨fun pins s σ H Q inv h => ?_⟩
  have loc : ∀ y ∈ scope.names, y.2 = .local := fun y hy => by simpa using List.all_eq_true.mp names y hy
  have calm := inv.ok.hd hcalm
  refine DictComp_goes (closure_ok fun y hy e => by rw [loc y hy] at e; cases e) (fun y hy e => by rw [loc y hy] at e; cases e) hkind uniq
    (thn (he.run pins s σ H _ inv h) fun xv s1 ⟨v, H1, inv1, rel, l, ts, ks, ev, sq, len, keys, small, q⟩ => ?_) hs
  subst ev
  cases rel
  obtain ⟨its, vals, pl, _⟩ := inv1.list sq
  have hlt : (l : Nat) < s1.heap.objs.size := by
    obtain ⟨o, ho, _⟩ := pl.isList
    exact Heap.lt_size ho
  refine wpAny_pyIter_list pl.isList ⟨_, _, _, _, _, _, rfl, Goes.list calm s1.heap.objs.size l (Nat.ne_of_lt hlt) its.toArray, ⟨⟨_, Heap.get?_push_size _ rfl, rfl, rfl⟩, pl.isList.push _⟩, fun D C s3 begins empty => ?_⟩
  obtain ⟨⟨h3, tk3, rfl⟩, old, newD, newC, ne, ns0⟩ := begins
  have gC : (s1.heap.objs.size + 1 : Nat) ≤ C := by
    have z : (s1.heap.push { cls := .type "list_iterator", data := .fields #[.ref l, .int 0 0] }).objs.size ≤ C := newC
    rwa [Heap.size_push] at z
  have gD : (s1.heap.objs.size + 1 : Nat) ≤ D := by
    have z : (s1.heap.push { cls := .type "list_iterator", data := .fields #[.ref l, .int 0 0] }).objs.size ≤ D := newD
    rwa [Heap.size_push] at z
  have gD' : s1.heap.objs.size ≤ D := Nat.le_trans (Nat.le_succ _) gD
  have freeD : H1 D = none := inv1.hok.fresh gD'
  have kx : ∀ cl, (compEnvC scope cl C X.env).kindOf x = some .local := fun cl => lookup_relabel_local hx
  have plain : ∀ cl, ((compEnvC scope cl C X.env).scope.kind == .class || ((compEnvC scope cl C X.env).scope.kind == .module && (compEnvC scope cl C X.env).locals != (compEnvC scope cl C X.env).globals)) = false := fun cl => by
    show (scope.kind == .class || (scope.kind == .module && _)) = false
    rw [hkind]
    rfl
  have lits : its.length = ts.length := by rw [← vals.length, List.length_map]
  have lit : ∀ (i : Nat) (u : Value), its.toArray[i]? = some u → ∃ t k, u = .ref t ∧ ks[i]? = some k ∧ H1 t = some (.tup (k.map kV)) := fun i u e => by
    have e' : its[i]? = some u := by simpa using e
    have hi : i < ts.length := by
      rw [← lits]
      exact (List.getElem?_eq_some_iff.mp e').1
    obtain ⟨u2, g1, g2⟩ := vals.get (i := i) (x := .ref ts[i]) (by simp [hi])
    rw [e'] at g1
    cases g1
    exact ⟨ts[i], ks[i]'(by omega), g2, List.getElem?_eq_getElem (by omega), keys i _ _ (List.getElem?_eq_getElem hi) (List.getElem?_eq_getElem (by omega))⟩
  have isz : its.toArray.size = ks.length := by rw [List.size_toArray, lits, len]
  refine ⟨fun i sv => ∃ (h' : Heap) (tk : Nat) (m : Str → Option Value) (xs : List (List Key × Addr × Value)), sv = { s1 with heap := h', toks := tk } ∧ h'.Ns C m ∧ Raw X.prog X.w h' D xs ∧ KT H1 (consts c (ks.take i)) xs ∧
      ∀ b o, s1.heap.get? b = some o → h'.get? b = some o,
    ⟨h3, tk3, _, [], rfl, ns0, ⟨_, #[], 0, empty, ⟨rfl, rfl, rfl⟩, rfl, rfl, List.nodup_nil⟩, .nil, fun b o e => old b o (Heap.get?_push_of_some _ e)⟩, ?_, ?_, ?_⟩
  · rintro i _ h' tk ⟨h4, tk4, m, xs, rfl, ns, dd, kt, kp⟩ keeps _
    have off : ∀ b : Addr, b ≠ s1.heap.objs.size → b ∉ [s1.heap.objs.size] := fun b hb hm => hb (by simpa using hm)
    have nC : C ≠ s1.heap.objs.size := Nat.ne_of_gt gC
    have nD : D ≠ s1.heap.objs.size := Nat.ne_of_gt gD
    exact ⟨h', tk, m, xs, rfl, ns.at' fun o e => keeps _ o (off _ nC) e, dd.at fun o e => keeps _ o (off _ nD) e, kt, fun b o e => keeps b o (off b (Nat.ne_of_lt (Heap.lt_size e))) (kp b o e)⟩
  · rintro i v _ hi hv st ⟨h4, tk4, m, xs, rfl, ns, dd, kt, kp⟩
    obtain ⟨t, k, rfl, ek, hk⟩ := lit i v hv
    refine wpAny_assign_Name (wpAny_storeName_local (kx _) ns (fun h5 ns5 same5 => ?_) (plain _))
    refine wpAny_tests_nil ?_
    show wpAny _ _ _ _ _ _
    rw [eval_Name _ _ _ hdb]
    refine wpAny_bind (wpAny_standAt (wpAny_loadName_local hkind (kx _) ns5 (v := .ref t) (if_pos rfl) (wpAny_Constant_int ?_)))
    have up5 : ∀ b o, b ≠ C → h4.get? b = some o → h5.get? b = some o := fun b o hb e => same5.extBut b o hb e
    have oldC : ∀ b o, s1.heap.get? b = some o → b ≠ C := fun b o e => (below (Heap.lt_size e) gC).1
    have kp5 : ∀ b o, s1.heap.get? b = some o → h5.get? b = some o := fun b o e => up5 b o (oldC b o e) (kp b o e)
    have dd5 := (dd.at fun o e => up5 D o ne e).dict inv1.hok kp5 kt
    have room : (tupleKind (mixKind X.prog X.w)).room X.A := Nat.lt_trans (Nat.lt_succ_self _) hu
    have isk : (tupleKind (mixKind X.prog X.w)).is h5 k t := by
      obtain ⟨ob, its2, n2, b1, b2⟩ := key_of inv1.hok hk
      exact ⟨ob, its2, n2, kp5 _ ob b1, b2⟩
    have lxs : xs.length ≤ sizeLine := by
      rw [← Paired.length kt]
      have z := consts_len c (ks.take i)
      rw [List.length_take] at z
      exact Nat.le_of_lt (small1000 (by omega))
    refine wpAny_dictSet_heap (hsz := lxs) room isk dd5 fun h6 dd6 same6 => ?_
    have step : consts c (ks.take (i + 1)) = putK (consts c (ks.take i)) k (.int c) := by
      rw [List.take_add_one, ek]
      exact consts_snoc c _ k
    have keep6 : ∀ b o, b ≠ D → h5.get? b = some o → h6.get? b = some o := fun b o hb e => (same6.2 b hb).trans e
    have oldD : ∀ b o, s1.heap.get? b = some o → b ≠ D := fun b o e => (below (Heap.lt_size e) gD).1
    obtain ⟨o6, es6, ep6, c1, c2, c3, c4, _, c6⟩ := dd6
    refine ⟨⟨h6, _, _, _, rfl, ns5.at' fun o e => keep6 _ o ne.symm e, ⟨o6, es6, ep6, c1, c2, c3, c4, c6⟩, ?_, fun b o e => keep6 b o (oldD b o e) (kp5 b o e)⟩, ?_⟩
    · rw [step]
      exact kt.put k hk ⟨_, rfl⟩
    · have nI : s1.heap.objs.size ≠ C := (Nat.ne_of_gt gC).symm
      have nI2 : s1.heap.objs.size ≠ D := (Nat.ne_of_gt gD).symm
      have nl := below hlt gC
      have nl2 := below hlt gD
      exact ⟨st.1.at fun o e => keep6 _ o nI2 (up5 _ o nI e), st.2.at fun o e => keep6 _ o nl2.1 (up5 _ o nl.1 e)⟩
  · rintro _ ⟨h4, tk4, m, xs, rfl, ns, dd, kt, kp⟩
    refine ⟨m, ns, fun h' same => ?_⟩
    have kp' : ∀ b o, s1.heap.get? b = some o → h'.get? b = some o := fun b o e => same.extBut b o (below (Heap.lt_size e) gC).1 (kp b o e)
    rw [isz, List.take_length] at kt
    have fit : (consts c ks).length ≤ sizeLine := Nat.le_of_lt (small1000 (Nat.le_trans (consts_len c ks) small))
    have sys : (D == sysModules) = false := beq_eq_false_iff_ne.mpr (Nat.ne_of_gt (Nat.lt_of_lt_of_le inv1.big gD'))
    obtain ⟨o, es, ep, a1, a2, a3, a4, a5⟩ := dd.at (h' := h') fun o e => same.extBut _ o ne e
    exact ⟨.ref D, _, inv1.laid (t' := tk4) kp' gD' (show ObjOk X.prog X.w _ h' D (.dT (consts c ks)) from ⟨fit, sys, xs, kt.keeps fun b ys e => by rw [upd_ne (ne_of_none e freeD)]; exact e, o, es, ep, a1, a2, a3, a4, a5⟩), rfl, q D freeD⟩
end
/-! ### tuples whose object is known to have no dict: their methods can be called -/
section
def IsFz (u : HO) (xs : List V) : Prop := ∃ o : Obj, u = .frz o (.tup xs) ∧ o.cls = .type "tuple" ∧ o.dict = none
def TpO (H : Hp) (a : Addr) (xs : List V) : Prop := ∃ u, H a = some u ∧ IsFz u xs
theorem TpO.sqt {K : PySem.W.Frag} {H : Hp} {a : Addr} {xs : List V} (h : TpO H a xs) : SqT K H a xs := by
  obtain ⟨u, h1, o, rfl, _⟩ := h
  exact .inl (.inr ⟨o, h1⟩)
theorem TpO.ne {H : Hp} {a b : Addr} {xs : List V} {v : HO} (h : TpO H a xs) (h' : H b = some v) (d : ∀ o : Obj, v ≠ .frz o (.tup xs)) : a ≠ b := by
  obtain ⟨u, h1, o, rfl, _⟩ := h
  exact ne_of h1 h' fun z => d o z.symm
theorem TpO.new {H : Hp} {a : Addr} {xs : List V} {u : HO} (h : IsFz u xs) : TpO (upd H a u) a xs := ⟨u, upd_same, h⟩
theorem TpO.taken {H : Hp} {a b : Addr} {xs : List V} (h : TpO H a xs) (n : H b = none) : a ≠ b := by
  obtain ⟨u, h1, _⟩ := h
  exact ne_of_none h1 n
theorem TpO.move {H H' : Hp} {a : Addr} {xs : List V} (h : TpO H a xs) (e : ∀ u, H a = some u → H' a = some u) : TpO H' a xs := by
  obtain ⟨u, h1, h2⟩ := h
  exact ⟨u, e u h1, h2⟩
variable {X : Cx}
/-- a new tuple is laid where nothing stood: what is known of it -/
theorem laid_fz {pins : List (Addr × Obj)} {σ : L2.St} {H : Hp} {s : Shared} {h' : Heap} {Q : VK} {xs : List V} {us : List Value} (inv : Inv X pins σ H { s with heap := h' }) (vals : Vals xs us) (fit : xs.length ≤ sizeLine)
    (q : ∀ p u, H p = none → IsFz u xs → Q (.ref p) (upd H p u)) : EP X pins σ Q (.ref h'.objs.size) { s with heap := h'.push { cls := .type "tuple", data := .seq us.toArray } } := by
  have at1 : (h'.push { cls := .type "tuple", data := .seq us.toArray }).get? h'.objs.size = some { cls := .type "tuple", data := .seq us.toArray } := Heap.get?_push_size _ rfl
  refine ⟨.ref h'.objs.size, _, inv.laid (t' := s.toks) (fun b u e => Heap.get?_push_of_some _ e) (Nat.le_refl _) ?_, rfl, q _ (.frz { cls := .type "tuple", data := .seq us.toArray } (.tup xs)) (inv.hok.fresh (Nat.le_refl _)) ⟨_, rfl, rfl, rfl⟩⟩
  exact ⟨at1, fit, us, vals, _, at1, rfl, _, rfl⟩
def tTupZ (t : TA) : TE := fun σ H Q => t σ H fun xs H1 => xs.length ≤ sizeLine ∧ ∀ p u, H1 p = none → IsFz u xs → Q (.ref p) (upd H1 p u)
theorem pe_tupZ {x1} {es : List Expr} {t : TA} {pos : Pos} (h : PA X es t) : PE X (.Tuple es x1 pos) (tTupZ t) :=
  ⟨fun pins s σ H Q inv hq => wpAny_Tuple_spliced (thn (h.run pos pins s σ H _ inv hq) fun us s1 ⟨xs, H1, inv1, vals, fit, q⟩ => ⟨vals.length ▸ fit, laid_fz (s := s1) inv1 vals fit q⟩)⟩
def rCatZ (K : PySem.W.Frag) : R2 := fun x y H Q => ∃ a b xs ys, x = .ref a ∧ y = .ref b ∧ SqT K H a xs ∧ SqT K H b ys ∧ xs ≠ [] ∧ xs.length + ys.length ≤ sizeLine ∧
  (ys = [] → Q (.ref a) H) ∧ (ys ≠ [] → ∀ p u, H p = none → IsFz u (xs ++ ys) → Q (.ref p) (upd H p u))
theorem op_catZ : OpR X (binaryOp .Add) (rCatZ X.K) := by
  rintro pins s σ H _ _ v u Q inv relx rely ⟨a, b, xs, ys, rfl, rfl, sa, sb, some1, fit, same, new⟩
  cases relx
  cases rely
  obtain ⟨us, valsA, tupA, _⟩ := inv.tuple sa
  obtain ⟨ws, valsB, tupB, _⟩ := inv.tuple sb
  exact HT.cat_tup tupA tupB (fun e => some1 (valsA.nil_iff.mp e)) (fun e => ⟨.ref a, H, inv, rfl, same (valsB.nil_iff.mp e)⟩)
    (fun e => laid_fz (s := s) inv (valsA.append valsB) (by rw [List.length_append]; exact fit) (new fun w => e (valsB.nil_iff.mpr w))) (by rw [← valsA.length, ← valsB.length]; exact fit)
def rTupZ (K : PySem.W.Frag) : List V → Hp → VK → Prop := fun xs H Q => ∃ p ys, xs = [.ref p] ∧ SqL K H p ys ∧ ∀ l u, H l = none → IsFz u ys → Q (.ref l) (upd H l u)
theorem call_tupleZ : CallR X (.type "tuple") (rTupZ X.K) := by
  rintro pins s σ H _ us Q inv rel ⟨p, ys, rfl, sq, q⟩
  rw [Vals.ref1 rel]
  obtain ⟨its, vals, pl, fit⟩ := inv.list sq
  exact call_tuple_list pl.isList (fun h' kp => laid_fz (s := s) (inv.kept (t' := s.toks) kp) vals fit q) (by rw [List.size_toArray, ← vals.length]; exact fit)
def tTM (r : V → List V → Hp → VK → Prop) (to : TE) (t : TA) : TE := fun σ H Q => to σ H fun x H1 => (∃ a xs, x = .ref a ∧ TpO H1 a xs) ∧ t σ H1 fun xs H2 => r x xs H2 Q
/-- t.m(e, ..), t such a tuple -/
theorem pe_tm {o e : Expr} {es : List Expr} {to : TE} {t : TA} {name : Str} {apos cpos : Pos} {id : String} {r : V → List V → Hp → VK → Prop} (slot : Slot "tuple" name id)
    (hty : typeOf (.builtin id) = pure (.type "method_descriptor")) (hm : MtR X id r) (ho : PE X o to) (ha : PA X (e :: es) t)
    (h1 : attributeBase o name X.env (eval o X.env) = eval o X.env := by rfl)
    (h2 : ((backTo cpos (starEach (e :: es) X.env)).all (fun x => !x.1) && (backToKw cpos (keywordEach [] X.env)).all (fun x => x.1.isSome) && decide ((e :: es).length + ([] : List Keyword).length + (if ([] : List Keyword).isEmpty then 0 else 1) < 30)) = true := by rfl)
    (h3 : (apos.endLine == cpos.line) = true := by rfl) (h4 : starEach (e :: es) X.env = (false, eval e X.env) :: starEach es X.env := by rfl)
    (h5 : (backTo cpos (starEach es X.env)).any (·.1) = false := by rfl) : PE X (.Call (.Attribute o name apos) (e :: es) [] cpos) (tTM r to t) := by
  refine ⟨fun pins s σ H Q inv h => wpAny_Call_method_late h1 h2 h3 rfl (thn (ho.run pins s σ H _ inv h) fun v s1 ⟨x, H1, inv1, rel, ty, q1⟩ => ?_)⟩
  obtain ⟨a, xs, rfl, _, hu, ob, rfl, hc, hd⟩ := ty
  cases rel
  have stands : s1.heap.get? a = some ob := (inv1.hok a _ hu).1
  have args := ha.run cpos pins s1 σ H1 _ inv1 q1
  rw [h4] at args
  refine ⟨"tuple", id, PySem.F.plainAttrs_tuple, slot, hty, ⟨ob, stands, hc⟩, fun b e => by cases e; exact ⟨ob, stands, hd⟩, ?_⟩
  rw [h4]
  have plain : ((false, eval e X.env) :: backTo cpos (starEach es X.env)).any (·.1) = false := by rw [List.any_cons, h5]; rfl
  exact Calls.callWith_builtin plain (Calls.evalArgs_plain (thn args fun us s2 ⟨vs, H2, inv2, rels, q2⟩ => hm pins s2 σ H2 (.ref a) vs _ us Q inv2 rfl rels q2))
end
end Lt

set_option Elab.async false
set_option linter.all false
set_option maxRecDepth 100000
set_option maxHeartbeats 4000000
namespace Lt
open PySem PySem.Spec PyProof.Rows L2
/-! ### heaps -/
theorem same_new {H : Hp} {p : Addr} (h : H p = none) (o : HO) : Same H (upd H p o) := fun b u q => by
  rw [upd_ne (ne_of_none q h)]
  exact q
theorem same_put {H H' : Hp} {p : Addr} {o : HO} (s : Same H H') (h : H p = none) : Same H (upd H' p o) := fun b u q => by
  rw [upd_ne (ne_of_none q h)]
  exact s _ _ q
theorem same_tup {K : PySem.W.Frag} {H H' : Hp} {a : Addr} {xs : List V} (e : Same H H') (h : SqT K H a xs) : SqT K H' a xs := by
  rcases h with (h | ⟨o, h⟩) | h
  · exact .inl (.inl (e _ _ h))
  · exact .inl (.inr ⟨o, e _ _ h⟩)
  · exact .inr h
theorem sqt {K : PySem.W.Frag} {H : Hp} {a : Addr} {xs : List V} (h : H a = some (.tup xs)) : SqT K H a xs := .inl (.inl h)
theorem sql {K : PySem.W.Frag} {H : Hp} {a : Addr} {xs : List V} (h : H a = some (.lst xs)) : SqL K H a xs := .inl (.inl h)
/-- all but what stands at T is as it was -/
def SameT (T : Addr) (H H' : Hp) : Prop := ∀ b o, b ≠ T → H b = some o → H' b = some o
theorem SameT.refl (T : Addr) (H : Hp) : SameT T H H := fun _ _ _ h => h
theorem SameT.trans {T : Addr} {H H1 H2 : Hp} (a : SameT T H H1) (b : SameT T H1 H2) : SameT T H H2 := fun c o n h => b c o n (a c o n h)
theorem SameT.of {T : Addr} {H H' : Hp} (s : Same H H') : SameT T H H' := fun c o _ h => s c o h
theorem SameT.free {T : Addr} {H H' : Hp} (e : SameT T H H') {l : Addr} (hl : l ≠ T) (h : H' l = none) : H l = none := by
  cases q : H l with
  | none => rfl
  | some o =>
    rw [e l o hl q] at h
    cases h
mutual
theorem dp_same {K : PySem.W.Frag} {H H' : Hp} (e : Same H H') : ∀ {v : V} {d : PyData}, Dp K H v d → Dp K H' v d
  | _, _, .non => .non
  | _, _, .bl b => .bl b
  | _, _, .int i => .int i
  | _, _, .str x => .str x
  | _, _, .lst h a => .lst (e.seq h) (dpAll_same e a)
  | _, _, .tup h a => .tup (same_tup e h) (dpAll_same e a)
theorem dpAll_same {K : PySem.W.Frag} {H H' : Hp} (e : Same H H') : ∀ {vs : List V} {ds : List PyData}, DpAll K H vs ds → DpAll K H' vs ds
  | _, _, .nil => .nil
  | _, _, .cons h t => .cons (dp_same e h) (dpAll_same e t)
end
theorem dpAll_strs {K : PySem.W.Frag} {H : Hp} : ∀ ss : List Str, DpAll K H (ss.map V.str) (ss.map PyData.str)
  | [] => .nil
  | x :: r => .cons (.str x) (dpAll_strs r)
theorem dpAll_ints {K : PySem.W.Frag} {H : Hp} : ∀ ns : List Int, DpAll K H (ns.map V.int) (ns.map PyData.int)
  | [] => .nil
  | x :: r => .cons (.int x) (dpAll_ints r)
theorem dpAll_snoc {K : PySem.W.Frag} {H : Hp} : ∀ {vs : List V} {ds : List PyData} {v : V} {d : PyData}, DpAll K H vs ds → Dp K H v d → DpAll K H (vs ++ [v]) (ds ++ [d])
  | _, _, _, _, .nil, h => .cons h .nil
  | _, _, _, _, .cons a t, h => .cons a (dpAll_snoc t h)
theorem dpAll_append {K : PySem.W.Frag} {H : Hp} : ∀ {vs ws : List V} {ds es : List PyData}, DpAll K H vs ds → DpAll K H ws es → DpAll K H (vs ++ ws) (ds ++ es)
  | _, _, _, _, .nil, h => h
  | _, _, _, _, .cons a t, h => .cons a (dpAll_append t h)
theorem dpAll_len {K : PySem.W.Frag} {H : Hp} : ∀ {vs : List V} {ds : List PyData}, DpAll K H vs ds → vs.length = ds.length
  | _, _, .nil => rfl
  | _, _, .cons _ t => congrArg (· + 1) (dpAll_len t)
theorem dpAll_get {K : PySem.W.Frag} {H : Hp} : ∀ {vs : List V} {ds : List PyData}, DpAll K H vs ds → ∀ {i : Nat} {v : V}, vs[i]? = some v → ∃ d, ds[i]? = some d ∧ Dp K H v d
  | _, _, .nil, i, v, h => by simp at h
  | _, _, .cons a t, 0, v, h => by
    simp only [List.getElem?_cons_zero, Option.some.injEq] at h
    exact ⟨_, rfl, h ▸ a⟩
  | _, _, .cons a t, i + 1, v, h => by
    simp only [List.getElem?_cons_succ] at h ⊢
    exact dpAll_get t h
theorem TpO.same {H H' : Hp} {a : Addr} {xs : List V} (h : TpO H a xs) (e : Same H H') : TpO H' a xs := h.move fun u q => e _ _ q
theorem TpO.sameT {T : Addr} {H H' : Hp} {a : Addr} {xs : List V} (h : TpO H a xs) (e : SameT T H H') (n : a ≠ T) : TpO H' a xs := h.move fun u q => e _ _ n q
/-! ### walks -/
theorem in_it {J : It} {n : Nat} {G : Hp → Prop} {Y : Nat → Hp → V → Hp → Prop} (w : Walk J n G Y) {Qd : Hp → Prop} {R : V → Hp → (Hp → Prop) → Prop} {H0 : Hp} (Pv : Nat → Hp → Prop) (h0 : Pv 0 H0)
    (hG : ∀ i H, i ≤ n → Pv i H → G H) (hs : ∀ i x H H', i < n → Pv i H → Y i H x H' → R x H' (Pv (i + 1))) (hd : ∀ H, Pv n H → Qd H) :
    ∃ W : Nat → Nat → Hp → Prop, (∃ m, W 0 m H0) ∧ ∀ i m H, W i m H → (J.stop i H ∧ Qd H) ∨
      (J.go i H ∧ ∃ Nx : Hp → Prop, (∀ H', Nx H' → ∃ m', m' < m ∧ W (i + 1) m' H') ∧ ∀ x H', J.yld i H x H' → R x H' Nx) := by
  refine ⟨fun i m H => m = n - i ∧ i ≤ n ∧ Pv i H, ⟨n, by simp, Nat.zero_le _, h0⟩, ?_⟩
  rintro i m H ⟨rfl, hi, p⟩
  by_cases hlt : i < n
  · exact .inr ⟨w.goes i H hlt (hG i H hi p), Pv (i + 1), fun H' p' => ⟨n - (i + 1), by omega, rfl, hlt, p'⟩, fun x H' y => hs i x H H' hlt p (w.yields i H x H' hlt (hG i H hi p) y)⟩
  · have e : i = n := by omega
    subst e
    exact .inl ⟨w.stops H (hG i H hi p), hd H p⟩
/-! ### the tape -/
structure Tape (H : Hp) (T S : Addr) (ns : List Int) : Prop where
  at_ : ∃ i c : Int, H T = some (.lst [.ref S, .int i, .int c])
  scr : H S = some (.lst (ns.map V.int))
theorem Tape.ne {H : Hp} {T S : Addr} {ns : List Int} (t : Tape H T S ns) : S ≠ T := by
  obtain ⟨i, c, h⟩ := t.at_
  refine ne_of t.scr h fun z => ?_
  injection z with z
  cases ns with
  | nil => cases z
  | cons a r => cases z
theorem Tape.same {H H' : Hp} {T S : Addr} {ns : List Int} (t : Tape H T S ns) (s : Same H H') : Tape H' T S ns := by
  obtain ⟨i, c, h⟩ := t.at_
  exact ⟨⟨i, c, s _ _ h⟩, s _ _ t.scr⟩
theorem Tape.put {H : Hp} {T S : Addr} {ns : List Int} (t : Tape H T S ns) (i c : Int) : Tape (upd H T (.lst [.ref S, .int i, .int c])) T S ns :=
  ⟨⟨i, c, upd_same⟩, by rw [upd_ne t.ne]; exact t.scr⟩
theorem Tape.taken {H : Hp} {T S : Addr} {ns : List Int} (t : Tape H T S ns) : ∃ o, H T = some o := by
  obtain ⟨i, c, h⟩ := t.at_
  exact ⟨_, h⟩
theorem sameT_put {T : Addr} {H : Hp} (o : HO) : SameT T H (upd H T o) := fun b u n q => by rw [upd_ne n]; exact q
theorem new_ne {H' : Hp} {T p : Addr} {o : HO} (h : H' T = some o) (n : H' p = none) : p ≠ T := fun e => by
  rw [e, h] at n
  cases n
/-! ### texts in order -/
abbrev ltS (a b : Str) : Prop := a.cps.toList < b.cps.toList
theorem str_ext {a b : Str} (h : a.cps.toList = b.cps.toList) : a = b := by
  cases a with
  | mk x =>
    cases b with
    | mk y =>
      have e : x = y := Array.toList_inj.mp h
      rw [e]
theorem ltS_tri {a b : Str} (h1 : ¬ ltS a b) (h2 : ¬ ltS b a) : a = b := by
  apply str_ext
  rw [List.not_lt] at h1 h2
  exact List.le_antisymm h2 h1
theorem ltS_asymm {a b : Str} (h : ltS a b) : ¬ ltS b a := List.lt_asymm h
theorem ltS_irrefl (a : Str) : ¬ ltS a a := List.lt_irrefl _
theorem rising_pw : ∀ (p : Str) (l : List Str), risingS p l = true → (p :: l).Pairwise fun a b => ¬ ltS b a
  | p, [], _ => List.pairwise_singleton _ _
  | p, x :: r, h => by
    have h' : (!ltCps x.cps.toList p.cps.toList && risingS x r) = true := h
    rw [Bool.and_eq_true] at h'
    have ih := rising_pw x r h'.2
    have hx : ¬ ltS x p := by
      have q := h'.1
      rw [ltCps_eq] at q
      simpa using q
    refine List.pairwise_cons.mpr ⟨fun y hy => ?_, ih⟩
    rcases List.mem_cons.mp hy with e | hy
    · rw [e]
      exact hx
    · have q := (List.pairwise_cons.mp ih).1 y hy
      intro z
      by_cases e : ltS p x
      · exact q (List.lt_trans z e)
      · rw [ltS_tri e hx] at z
        exact q z
theorem sorted_pw {l : List Str} (h : sortedS l = true) : l.Pairwise fun a b => ¬ ltS b a := by
  cases l with
  | nil => exact List.Pairwise.nil
  | cons x r => exact rising_pw x r h
theorem sorted_one {l m : List Str} (hl : sortedS l = true) (hm : sortedS m = true) (p : l.Perm m) : l = m :=
  List.Perm.eq_of_pairwise (fun a b _ _ h1 h2 => ltS_tri h2 h1) (sorted_pw hl) (sorted_pw hm) p
/-- both of a pair, the lesser first -/
def asPair (q : Str × Str) : Str × Str := if ltS q.1 q.2 then (q.1, q.2) else (q.2, q.1)
theorem sorted_two {a b : Str} {l : List Str} (p : l.Perm [a, b]) (h : sortedS l = true) : l = [(asPair (a, b)).1, (asPair (a, b)).2] := by
  refine sorted_one h ?_ (p.trans ?_)
  · unfold asPair
    by_cases c : ltS a b
    · rw [if_pos c]
      show (!ltCps b.cps.toList a.cps.toList && true) = true
      rw [ltCps_eq, decide_eq_false (ltS_asymm c)]
      rfl
    · rw [if_neg c]
      show (!ltCps a.cps.toList b.cps.toList && true) = true
      rw [ltCps_eq, decide_eq_false c]
      rfl
  · unfold asPair
    by_cases c : ltS a b
    · rw [if_pos c]
    · rw [if_neg c]
      exact List.Perm.swap b a []
/-- the pairs of a row of texts, by the place of the first -/
def prs (ys : List Str) : Nat → List (Str × Str)
  | 0 => []
  | i + 1 => prs ys i ++ match ys[i]? with
    | some a => (ys.drop (i + 1)).map fun b => (a, b)
    | none => []
theorem prs_succ {ys : List Str} {i : Nat} {a : Str} (h : ys[i]? = some a) : prs ys (i + 1) = prs ys i ++ (ys.drop (i + 1)).map fun b => (a, b) := by
  show prs ys i ++ (match ys[i]? with | some a => (ys.drop (i + 1)).map fun b => (a, b) | none => []) = _
  rw [h]
theorem prs_mem {ys : List Str} {i j : Nat} {a b : Str} (hi : ys[i]? = some a) (hj : ys[j]? = some b) (h : i < j) : ∀ n, i < n → (a, b) ∈ prs ys n
  | 0, z => by omega
  | n + 1, z => by
    by_cases e : i = n
    · subst e
      rw [prs_succ hi]
      refine List.mem_append_right _ (List.mem_map.mpr ⟨b, ?_, rfl⟩)
      have q : (ys.drop (i + 1))[j - (i + 1)]? = some b := by
        rw [List.getElem?_drop, show i + 1 + (j - (i + 1)) = j by omega]
        exact hj
      exact List.mem_of_getElem? q
    · exact List.mem_append_left _ (prs_mem hi hj h n (by omega))
theorem prs_len (ys : List Str) : ∀ n, (prs ys n).length ≤ n * ys.length
  | 0 => by simp [prs]
  | n + 1 => by
    have ih := prs_len ys n
    rw [Nat.succ_mul]
    cases h : ys[n]? with
    | none =>
      have e : prs ys (n + 1) = prs ys n ++ (match ys[n]? with | some a => (ys.drop (n + 1)).map fun b => (a, b) | none => []) := rfl
      rw [e, h, List.append_nil]
      omega
    | some a =>
      rw [prs_succ h, List.length_append, List.length_map, List.length_drop]
      omega
theorem pair_in {ys bs : List Str} {a b : Str} (p : ys.Perm bs) (hs : sortedS ys = true) (ha : a ∈ bs) (hb : b ∈ bs) (ne : a ≠ b) : asPair (a, b) ∈ prs ys ys.length := by
  have key : ∀ {c d : Str}, c ∈ bs → d ∈ bs → ltS c d → (c, d) ∈ prs ys ys.length := fun {c d} hc hd lt => by
    obtain ⟨i, hi⟩ := List.getElem?_of_mem (p.mem_iff.mpr hc)
    obtain ⟨j, hj⟩ := List.getElem?_of_mem (p.mem_iff.mpr hd)
    have li := (List.getElem?_eq_some_iff.mp hi).1
    have lj := (List.getElem?_eq_some_iff.mp hj).1
    refine prs_mem hi hj ?_ _ li
    by_cases h : i < j
    · exact h
    · exfalso
      by_cases e : i = j
      · subst e
        rw [hi] at hj
        cases hj
        exact ltS_irrefl _ lt
      · have pw := List.pairwise_iff_getElem.mp (sorted_pw hs) j i lj li (by omega)
        rw [(List.getElem?_eq_some_iff.mp hi).2, (List.getElem?_eq_some_iff.mp hj).2] at pw
        exact pw lt
  unfold asPair
  by_cases c : ltS a b
  · rw [if_pos c]
    exact key ha hb c
  · rw [if_neg c]
    refine key hb ha ?_
    by_cases d : ltS b a
    · exact d
    · exact absurd (ltS_tri c d) ne
/-! ### what readings do -/
/-- the pile behind one reading -/
def lay (bs : List Str) (b : Str) : List Str := b :: bs.eraseIdx (bs.idxOf b)
/-- the books above -/
def over (bs : List Str) (b : Str) : List Str := bs.take (bs.idxOf b)
def behindM : List Str → List Str → List Str
  | bs, [] => bs
  | bs, b :: r => behindM (lay bs b) r
def liftedM : List Str → List Str → List Nat
  | _, [] => []
  | bs, b :: r => bs.idxOf b :: liftedM (lay bs b) r
def rowsM : List Str → List Str → List (Str × Str)
  | _, [] => []
  | bs, b :: r => (over bs b).map (fun o => (b, o)) ++ rowsM (lay bs b) r
theorem behindM_snoc (bs : List Str) : ∀ (rs : List Str) (b : Str), behindM bs (rs ++ [b]) = lay (behindM bs rs) b := by
  intro rs
  induction rs generalizing bs with
  | nil => intro b; rfl
  | cons x r ih => intro b; exact ih (lay bs x) b
theorem liftedM_snoc (bs : List Str) : ∀ (rs : List Str) (b : Str), liftedM bs (rs ++ [b]) = liftedM bs rs ++ [(behindM bs rs).idxOf b] := by
  intro rs
  induction rs generalizing bs with
  | nil => intro b; rfl
  | cons x r ih =>
    intro b
    show bs.idxOf x :: liftedM (lay bs x) (r ++ [b]) = bs.idxOf x :: (liftedM (lay bs x) r ++ [(behindM (lay bs x) r).idxOf b])
    rw [ih]
theorem rowsM_snoc (bs : List Str) : ∀ (rs : List Str) (b : Str), rowsM bs (rs ++ [b]) = rowsM bs rs ++ (over (behindM bs rs) b).map fun o => (b, o) := by
  intro rs
  induction rs generalizing bs with
  | nil => intro b; exact List.append_nil _
  | cons x r ih =>
    intro b
    show (over bs x).map (fun o => (x, o)) ++ rowsM (lay bs x) (r ++ [b]) = ((over bs x).map (fun o => (x, o)) ++ rowsM (lay bs x) r) ++ (over (behindM (lay bs x) r) b).map fun o => (b, o)
    rw [ih, List.append_assoc]
theorem idx_lt {bs : List Str} {b : Str} (h : b ∈ bs) : bs.idxOf b < bs.length := List.idxOf_lt_length_iff.mpr h
theorem idx_get {bs : List Str} {b : Str} (h : b ∈ bs) : bs[bs.idxOf b]? = some b := by
  rw [List.getElem?_eq_getElem (idx_lt h), List.getElem_idxOf (idx_lt h)]
theorem idx_first {bs : List Str} {b : Str} : ∀ m, m < bs.idxOf b → bs[m]? ≠ some b := by
  induction bs with
  | nil => intro m h; simp at h
  | cons x r ih =>
    intro m h
    rw [List.idxOf_cons] at h
    by_cases e : x == b
    · rw [e] at h
      simp at h
    · have e' : (x == b) = false := by simpa using e
      rw [e'] at h
      simp only [cond_false] at h
      cases m with
      | zero =>
        intro z
        simp only [List.getElem?_cons_zero, Option.some.injEq] at z
        rw [z] at e'
        simp at e'
      | succ m =>
        simp only [List.getElem?_cons_succ]
        exact ih m (by omega)
theorem lay_perm {bs : List Str} {b : Str} (h : b ∈ bs) : (lay bs b).Perm bs := by
  have q := (List.perm_cons_erase h).symm
  rw [List.erase_eq_eraseIdx_of_idxOf rfl] at q
  exact q
theorem behindM_perm : ∀ {bs : List Str} (rs : List Str), (∀ b ∈ rs, b ∈ bs) → (behindM bs rs).Perm bs
  | bs, [], _ => List.Perm.refl _
  | bs, b :: r, h => by
    have hb := h b (List.mem_cons_self ..)
    have p := lay_perm hb
    exact (behindM_perm r fun c hc => p.mem_iff.mpr (h c (List.mem_cons_of_mem _ hc))).trans p
/-- a book above another is another -/
theorem over_ne {bs : List Str} {b o : Str} (h : o ∈ over bs b) : o ≠ b := by
  obtain ⟨m, hm⟩ := List.getElem?_of_mem h
  have l := (List.getElem?_eq_some_iff.mp hm).1
  unfold over at hm l
  rw [List.length_take] at l
  rw [List.getElem?_take_of_lt (by omega)] at hm
  intro e
  subst e
  exact idx_first m (by omega) hm
theorem over_mem {bs : List Str} {b o : Str} (h : o ∈ over bs b) : o ∈ bs := List.mem_of_mem_take h
/-- how often both passed one another -/
def cnt (rows : List (Str × Str)) (q : Str × Str) : Nat := (rows.filter fun r => decide (asPair r = q)).length
theorem cnt_nil (q : Str × Str) : cnt [] q = 0 := rfl
theorem cnt_snoc (rows : List (Str × Str)) (r q : Str × Str) : cnt (rows ++ [r]) q = cnt rows q + if asPair r = q then 1 else 0 := by
  unfold cnt
  rw [List.filter_append, List.length_append]
  by_cases h : asPair r = q
  · rw [if_pos h, List.filter_cons_of_pos (by simpa using h)]
    rfl
  · rw [if_neg h, List.filter_cons_of_neg (by simpa using h)]
    rfl
/-! ### slices -/
theorem cut_to {xs : List V} {j : Nat} (h : j ≤ xs.length) : cutV xs none (some (j : Int)) = xs.take j := by
  unfold cutV
  rw [HT.sIx_none, HT.sIx_nat, Nat.min_eq_left h]
  simp
theorem cut_from {xs : List V} {j : Nat} (h : j ≤ xs.length) : cutV xs (some (j : Int)) none = xs.drop j := by
  unfold cutV
  rw [HT.sIx_none, HT.sIx_nat, Nat.min_eq_left h]
  rw [List.take_of_length_le (by rw [List.length_drop]; omega)]
/-! ### shapes -/
theorem shaped_of {d : PyData} (h1 : d.canLay0 = true) (h2 : d.depth ≤ 64) : SeqAt.shaped d = true := by
  unfold SeqAt.shaped
  rw [h1, decide_eq_true h2]
  rfl
theorem canAll : ∀ ds : List PyData, (∀ d ∈ ds, d.canLay0 = true) → PyData.canLayAll0 ds = true
  | [], _ => by rw [PyData.canLayAll0]
  | d :: r, h => by
    rw [PyData.canLayAll0, h d (List.mem_cons_self ..), canAll r fun x hx => h x (List.mem_cons_of_mem _ hx)]
    rfl
theorem depthAll_le {n : Nat} : ∀ ds : List PyData, (∀ d ∈ ds, d.depth ≤ n) → PyData.depthAll ds ≤ n
  | [], _ => by rw [PyData.depthAll]; exact Nat.zero_le _
  | d :: r, h => by
    rw [PyData.depthAll]
    exact Nat.max_le.mpr ⟨h d (List.mem_cons_self ..), depthAll_le r fun x hx => h x (List.mem_cons_of_mem _ hx)⟩
/-! ### rules within a comprehension: the written part is named -/
section
variable {X : Cx} {K : PySem.W.Frag}
theorem ixL (e : X.K = K) : IxR X (rIxL K) := by
  subst e
  exact ix_list
theorem ixT (e : X.K = K) : IxR X (rIxT K) := by
  subst e
  exact ix_tup
theorem cLen (e : X.K = K) : CallR X (.builtin "len") (Evl.rLenS K) := by
  subst e
  exact call_len_seq
theorem cSortT (e : X.K = K) : CallR X (.builtin "sorted") (rSortedT K) := by
  subst e
  exact cr_sortedT
theorem oEqD (hu : X.A.units + 64 < cLine) (e : X.K = K) : OpR X (compareOp .Eq) (rEqD K) := by
  subst e
  exact op_eqD hu
end
end Lt

set_option Elab.async false
set_option linter.all false
set_option maxRecDepth 100000
set_option maxHeartbeats 4000000
/-! len(set(xs)) of texts, whatever stands in xs more than once. -/
namespace Lt
open PySem PySem.Spec PyProof.Rows L2
/-! ### how many unlike texts -/
def nub (l : List Str) : List Str := l.foldl (fun acc x => if x ∈ acc then acc else acc ++ [x]) []
theorem nub_snoc (l : List Str) (x : Str) : nub (l ++ [x]) = if x ∈ nub l then nub l else nub l ++ [x] := by
  unfold nub
  rw [List.foldl_append]
  rfl
theorem snoc_ind {p : List Str → Prop} (h0 : p []) (h1 : ∀ l x, p l → p (l ++ [x])) : ∀ l, p l := by
  intro l
  have z : ∀ r : List Str, p r.reverse := by
    intro r
    induction r with
    | nil => exact h0
    | cons a r ih =>
      rw [List.reverse_cons]
      exact h1 _ a ih
  have q := z l.reverse
  rwa [List.reverse_reverse] at q
theorem nub_mem (l : List Str) : ∀ z, z ∈ nub l ↔ z ∈ l := by
  refine snoc_ind (p := fun l => ∀ z, z ∈ nub l ↔ z ∈ l) (fun z => Iff.rfl) (fun l x ih z => ?_) l
  rw [nub_snoc]
  by_cases c : x ∈ nub l
  · rw [if_pos c, ih z, List.mem_append, List.mem_singleton]
    exact ⟨.inl, fun h => h.elim id fun e => by rw [e]; exact (ih x).mp c⟩
  · rw [if_neg c, List.mem_append, List.mem_append, ih z]
theorem nub_nodup (l : List Str) : (nub l).Nodup := by
  refine snoc_ind (p := fun l => (nub l).Nodup) List.nodup_nil (fun l x ih => ?_) l
  rw [nub_snoc]
  by_cases c : x ∈ nub l
  · rw [if_pos c]
    exact ih
  · rw [if_neg c]
    exact nd_snoc ih c
def dist (l : List Str) : Nat := (nub l).length
theorem dist_snoc (l : List Str) (x : Str) : dist (l ++ [x]) = if x ∈ l then dist l else dist l + 1 := by
  unfold dist
  rw [nub_snoc]
  by_cases c : x ∈ nub l
  · rw [if_pos c, if_pos ((nub_mem l x).mp c)]
  · rw [if_neg c, if_neg fun z => c ((nub_mem l x).mpr z), List.length_append]
    rfl
theorem dist_le (l : List Str) : dist l ≤ l.length := by
  refine snoc_ind (p := fun l => dist l ≤ l.length) (Nat.le_refl _) (fun l x ih => ?_) l
  rw [dist_snoc, List.length_append, List.length_singleton]
  split <;> omega
/-- unlike texts, the same ones: as many -/
theorem dist_of {l ys : List Str} (nd : ys.Nodup) (mem : ∀ z, z ∈ ys ↔ z ∈ l) : ys.length = dist l := by
  have p : ys.Perm (nub l) := by
    rw [List.perm_ext_iff_of_nodup nd (nub_nodup l)]
    exact fun z => (mem z).trans (nub_mem l z).symm
  exact p.length_eq
/-! ### the set -/
section
variable {prog : Program} {w : World} {A : Around} {R : Result → Shared → Prop} {I : Addr} {fp wr : List Addr} {G : Array GenState → Array GenState → Prop} {n : Nat} {P : Nat → Value → Prop} {St : Nat → Shared → Prop}
theorem txt_loop (W : WalksS prog w A.in1 I fp wr G n P St) (S : Addr) (off : S ∉ fp) (ss : List Str) (len : n = ss.length) (room : n + 1 < scanBound) (val : ∀ i v, P i v → ∃ z t, ss[i]? = some z ∧ v = .str z t) :
    ∀ (m i : Nat) (s : Shared), i + m = n → St i s → s.heap.SetOf (PySem.strKind prog w) S (fun z => decide (z ∈ ss.take i)) (dist (ss.take i)) →
      (∀ s', Moved (S :: wr) G s s' → s'.heap.SetOf (PySem.strKind prog w) S (fun z => decide (z ∈ ss)) (dist ss) → R (.ok (.ret .none)) s') →
      codeAny (model prog w) A (.builtin "set.update.loop" ⟨[.ref S, .ref I], []⟩) R s := by
  have offW : S ∉ wr := fun h => off (W.sub _ h)
  have more : ∀ b ∈ wr, b ∈ S :: wr := fun b hb => .tail _ hb
  have carry : ∀ {s1 s2 : Shared} {M : Str → Bool} {c : Nat}, Moved wr G s1 s2 → s1.heap.SetOf (PySem.strKind prog w) S M c → s2.heap.SetOf (PySem.strKind prog w) S M c := fun mv st => by
    obtain ⟨o, es, ep, tb, ho, rest⟩ := st
    exact ⟨o, es, ep, tb, mv.heap S _ offW ho, rest⟩
  intro m
  induction m with
  | zero =>
    intro i s him st set done
    have hin : i = n := by omega
    subst hin
    refine codeAny_builtin F.entry_set_update_loop ?_
    rw [Around.under_plainId F.plain_set_update_loop _]
    show wpAny _ A.in1 (pyNext (.ref I) >>= _) _ _ s
    refine wpAny_bind (W.done s _ _ st fun s2 mv => ?_)
    rw [List.take_of_length_le (Nat.le_of_eq len.symm)] at set
    exact wpAny_pure (done s2 (mv.mono more) (carry mv set))
  | succ m ih =>
    intro i s him st set done
    refine codeAny_builtin F.entry_set_update_loop ?_
    rw [Around.under_plainId F.plain_set_update_loop _]
    show wpAny _ A.in1 (pyNext (.ref I) >>= _) _ _ s
    refine wpAny_bind (W.item i s _ _ (by omega) st fun v s2 pv st2 mv => ?_)
    obtain ⟨z, t, hz, rfl⟩ := val i v pv
    have isz : (PySem.strKind prog w).is z (.str z t) = true := strKind_is _ _ _ _
    have few : dist (ss.take i) ≤ i := Nat.le_trans (dist_le _) (by rw [List.length_take]; omega)
    have set2 := carry mv set
    show wpAny _ A.in1 (holding [Value.str z t] (setAdd S (.str z t)) >>= _) _ _ s2
    refine wpAny_bind (wpAny_holding ?_)
    unfold setAdd
    refine wpAny_holding (wpAny_bind ((PySem.strKind prog w).pyHash (k := z) isz (wpAny_setAddHashed_of (knd := PySem.strKind prog w) (s := { s2 with toks := s2.toks + 1 }) isz rfl set2 (by omega) fun h3 same set3 => ?_)))
    have set4 : h3.SetOf (PySem.strKind prog w) S (fun y => decide (y ∈ ss.take (i + 1))) (dist (ss.take (i + 1))) := by
      have e1 : ss.take (i + 1) = ss.take i ++ [z] := by
        rw [List.take_add_one, hz]
        rfl
      refine SetOf_congr set3 (fun y => ?_) ?_
      · rw [e1]
        simp [List.mem_append]
      · rw [e1, dist_snoc]
        simp
    have keep : ∀ b o, b ≠ S → s2.heap.get? b = some o → h3.get? b = some o := fun b o hb e => (same.2 b hb).trans e
    refine wpAny_pure ⟨plainId_quiet F.plain_set_update_loop _, ih (i + 1) _ (by omega) (W.frame _ s2 _ _ st2 (Nat.le_succ _) fun b hb o e => keep b o (fun h => off (h ▸ hb)) e) set4 fun s5 mv5 set5 => ?_⟩
    exact done s5 (Moved.trans W.gtrans ((mv.mono more).then_heap (Nat.le_succ _) fun b o hb e => keep b o (fun h => hb (h ▸ List.mem_cons_self)) e) mv5) set5
end
section
variable {prog : Program} {w : World} {A : Around} {E : Value → Shared → Prop} {s : Shared}
/-- set(v): what is left is to fill the new set -/
theorem set_call {v : Value} {Q : Value → Shared → Prop} (fill : ∀ led : Bool, wpAny (model prog w) A.in1.in1 (Builtin.«set.__init__» ⟨[.ref s.heap.objs.size, v], []⟩)
      (fun fin s' => match fin with
        | .done f => wants (fun r s2 => r = .none ∧ Q (.ref s.heap.objs.size) s2) E (.ok f) s'
        | .again c => c.quiet = true ∧ codeAny (model prog w) A.in1 c (wants (fun r s2 => r = .none ∧ Q (.ref s.heap.objs.size) s2) E) s')
      (fun e s' => wants (fun r s2 => r = .none ∧ Q (.ref s.heap.objs.size) s2) E (.error e) s')
      { s with heap := s.heap.push { cls := .type "set", dict := none, data := .set #[] 0 (.fresh 0 0 led) } }) : wpAny (model prog w) A (call (.type "set") [v]) Q E s := by
  have ft := PySem.F.called_set
  obtain ⟨c, tl, mro⟩ := ft.mro
  have made := ft.made
  have sub := ft.sub
  have notT := ft.notType
  have can := ft.canCreate
  have okT := PySem.F.typeCall_set_1 v
  refine wpAny_call (codeAny_of_tree (show wpAny _ _ (callAny (.type "set") _) _ _ _ from wpAny_pure ⟨Code.quiet_builtin _ (by decide +kernel), codeAny_builtin PySem.F.entry_type_call ?_⟩))
  rw [Around.under_plain (weight_type_call_type "set" [v] []) rfl]
  repeat (any_goals (first | assumption | wp_step))
  refine codeAny_mono (code_set_new_1 v (E := E) (Q₁ := fun obj s1 => ∃ led : Bool, obj = .ref s.heap.objs.size ∧ s1 = { s with heap := s.heap.push { cls := .type "set", dict := none, data := .set #[] 0 (.fresh 0 0 led) } }) fun led => ⟨led, rfl, rfl⟩) fun r s1 got => ?_
  cases r with
  | error e => exact got
  | ok fl =>
    cases fl with
    | ret obj =>
      obtain ⟨led, rfl, rfl⟩ := got
      have isSet : Shared.TypeIs { s with heap := s.heap.push { cls := .type "set", dict := none, data := .set #[] 0 (.fresh 0 0 led) } } (.ref s.heap.objs.size) "set" := ⟨_, Heap.get?_push_size _ rfl, rfl⟩
      have look := ft.init.lookup
      have bound := ft.init.bind (.ref s.heap.objs.size)
      repeat (any_goals (first | assumption | wp_step))
      refine codeAny_mono (codeAny_call_builtin ft.init.plain PySem.F.entry_set_init (check_set_init_1 isSet (fill led))) fun r2 s2 got2 => ?_
      cases r2 with
      | error e => exact got2
      | ok fl2 =>
        cases fl2 with
        | ret r =>
          obtain ⟨rfl, q⟩ := got2
          repeat (any_goals (first | assumption | wp_step))
        | _ => exact got2.elim
    | _ => exact got.elim
theorem set_txts {l : Addr} {items : Array Value} {ss : List Str} {Q : Value → Shared → Prop} (calm : A.handled = none) (hl : s.heap.IsList l items) (val : ∀ (i : Nat) (v : Value), items[i]? = some v → ∃ z t, ss[i]? = some z ∧ v = .str z t)
    (len : items.size = ss.length) (room : items.size + 1 < scanBound)
    (h : ∀ (h' : Heap) (tk : Nat), h'.SetOf (PySem.strKind prog w) s.heap.objs.size (fun z => decide (z ∈ ss)) (dist ss) → (∀ b o, s.heap.get? b = some o → h'.get? b = some o) → Q (.ref s.heap.objs.size) { s with heap := h', toks := tk }) :
    wpAny (model prog w) A (call (.type "set") [.ref l]) Q E s := by
  refine set_call fun led => ?_
  have below : (l : Nat) < s.heap.objs.size := by
    obtain ⟨o, ho, _⟩ := hl
    exact Heap.lt_size ho
  have atS : (s.heap.push { cls := .type "set", dict := none, data := .set #[] 0 (.fresh 0 0 led) }).get? s.heap.objs.size = some { cls := .type "set", dict := none, data := .set #[] 0 (.fresh 0 0 led) } := Heap.get?_push_size _ rfl
  have hl1 : (s.heap.push { cls := .type "set", dict := none, data := .set #[] 0 (.fresh 0 0 led) }).IsList l items := hl.push _
  obtain ⟨⟨oc, od, odt, osl⟩, ho1, hc1, n1, hd1⟩ := id hl1
  simp only at hc1 hd1
  subst hc1 hd1
  have no1 := PySem.F.sub_list_set
  have no2 := PySem.F.sub_list_frozenset
  have no3 : (Value.type "list" == Value.type "dict") = false := by decide
  unfold Builtin.«set.__init__» noKeywords Builtin.Frozenset.updateFrom
  generalize hPI : pyIter = PI
  wp_walk
  subst hPI
  refine wpAny_pyIter_list hl1 (wpAny_bind (wpAny_runValue ?_))
  have top1 : (s.heap.push { cls := .type "set", dict := none, data := .set #[] 0 (.fresh 0 0 led) }).objs.size = s.heap.objs.size + 1 := Heap.size_push _ _
  have calm3 : A.in1.in1.in1.handled = none := by simp [calm]
  have neI : l ≠ (s.heap.push { cls := .type "set", dict := none, data := .set #[] 0 (.fresh 0 0 led) }).objs.size := by
    rw [top1]
    exact Nat.ne_of_lt (Nat.lt_succ_of_lt below)
  have offS : s.heap.objs.size ∉ [(s.heap.push { cls := .type "set", dict := none, data := .set #[] 0 (.fresh 0 0 led) }).objs.size, l] := by
    rw [top1]
    intro z
    rcases List.mem_cons.mp z with e | e
    · exact Nat.succ_ne_self _ e.symm
    · exact absurd (List.mem_singleton.mp e) (Nat.ne_of_gt below)
  refine txt_loop ((Walks.list calm3 _ l neI items).toS) s.heap.objs.size offS ss len room val items.size 0 _ (Nat.zero_add _) ⟨⟨_, Heap.get?_push_size _ rfl, rfl, rfl⟩, hl1.push _⟩ ?empty ?filled
  case empty =>
    refine SetOf_congr ((setObjOf_fresh (knd := PySem.strKind prog w) led).setOf (Heap.get?_push_of_some _ atS) (by unfold scanBound; omega)) (fun z => ?_) rfl
    simp
  case filled =>
    intro s5 mv set5
    obtain ⟨h5, g5, d5, tk5, os5⟩ := s5
    obtain rfl : g5 = s.gens := mv.gens
    obtain rfl : d5 = s.drawn := mv.drawn
    obtain rfl : os5 = s.os := mv.os
    show wpAny _ _ _ _ _ _
    refine wpAny_pure (show wpAny _ _ (ret Value.none) _ _ _ from wpAny_pure ⟨rfl, h h5 tk5 set5 fun b o e => ?_⟩)
    have lt : b < s.heap.objs.size := Heap.lt_size e
    refine mv.heap b o (fun z => ?_) (Heap.get?_push_of_some _ (Heap.get?_push_of_some _ e))
    rcases List.mem_cons.mp z with e2 | e2
    · exact absurd e2 (Nat.ne_of_lt lt)
    · rw [List.mem_singleton.mp e2, top1] at lt
      exact absurd lt (Nat.not_lt.mpr (Nat.le_succ _))
end
section
variable {X : Cx}
def tLenSetS (K : PySem.W.Frag) (ta : TE) : TE := fun σ H Q => ta σ H fun x H1 => ∃ (l : Addr) (ss : List Str), x = .ref l ∧ SqL K H1 l (ss.map V.str) ∧ ss.length ≤ 1000 ∧ Q (.int (dist ss : Nat)) H1
theorem pe_lenSetS {a : Expr} {ta : TE} {p p2 q pos : Pos} (hcalm : X.calm = true) (g1 : Gl X "len") (m1 : X.mg "len" = none) (g2 : Gl X "set") (m2 : X.mg "set" = none) (ha : PE X a ta)
    (one : starEach [a] X.env = (false, eval a X.env) :: starEach [] X.env := by rfl) : PE X (.Call (.Name "len" p) [.Call (.Name "set" p2) [a] [] q] [] pos) (tLenSetS X.K ta) := by
  refine ⟨fun pins s σ H Q inv h => Call_ (ld_blt inv g1 m1 boot_len (callWith_builtin1 (args_cons ?_ rfl) rfl rfl))⟩
  refine Call_ (ld_blt inv g2 m2 boot_set (callWith_type1 (args_cons (thn (ha.run pins s σ H _ inv h) fun v s1 ⟨x, H1, inv1, rel, l, ss, ev, sq, few, q1⟩ => args_nil ?_) one) one rfl))
  subst ev
  cases rel
  obtain ⟨its, vals, pl, _⟩ := inv1.list sq
  have len : its.toArray.size = ss.length := by rw [List.size_toArray, ← vals.length, List.length_map]
  refine set_txts (ss := ss) (inv1.ok.hd hcalm) pl.isList (fun i v e => ?_) len (by rw [len]; unfold scanBound; omega) fun h' tk set kept => args_nil ?_
  · have e' : its[i]? = some v := by simpa using e
    have hi : i < ss.length := by
      have z := (List.getElem?_eq_some_iff.mp e').1
      rw [← len, List.size_toArray]
      exact z
    obtain ⟨u, g3, t, g4⟩ := vals.get (i := i) (x := .str ss[i]) (by simp [hi])
    rw [e'] at g3
    cases g3
    exact ⟨ss[i], t, List.getElem?_eq_getElem hi, g4⟩
  · obtain ⟨o, es, ep, tb, ho, ex, hd, _, _, _, fits, num⟩ := set
    have small : dist ss ≤ 1000 := Nat.le_trans (dist_le ss) few
    have inv2 : Inv X pins σ H1 { s1 with heap := h', toks := tk } := inv1.kept kept
    exact call_len_set ho ex hd fits (by rw [num]; omega) ⟨.int (dist ss : Nat), H1, inv2.tok _, ⟨_, by rw [num]⟩, q1⟩
end
end Lt

set_option Elab.async false
set_option linter.all false
set_option maxRecDepth 100000
set_option maxHeartbeats 4000000
namespace Lt
open PySem PySem.Spec PyProof.Rows L2
/-! ### who lies above was wanted since -/
theorem nub_cons (b : Str) (l : List Str) : nub (b :: l) = b :: (nub l).filter (fun z => decide (z ≠ b)) := by
  refine snoc_ind (p := fun l => nub (b :: l) = b :: (nub l).filter fun z => decide (z ≠ b)) rfl (fun l x ih => ?_) l
  have e : b :: (l ++ [x]) = (b :: l) ++ [x] := rfl
  have m1 : x ∈ nub (b :: l) ↔ x = b ∨ x ∈ nub l := by rw [nub_mem, nub_mem, List.mem_cons]
  rw [e, nub_snoc, nub_snoc]
  by_cases c : x ∈ nub l
  · rw [if_pos c, if_pos (m1.mpr (.inr c)), ih]
  · rw [if_neg c, List.filter_append]
    by_cases d : x = b
    · rw [if_pos (m1.mpr (.inl d)), ih, List.filter_cons_of_neg (by simpa using d), List.filter_nil, List.append_nil]
    · rw [if_neg fun z => (m1.mp z).elim d c, ih, List.filter_cons_of_pos (by simpa using d), List.filter_nil]
      rfl
theorem lay_filter {cur : List Str} {b : Str} (nd : cur.Nodup) : lay cur b = b :: cur.filter (fun z => decide (z ≠ b)) := by
  unfold lay
  rw [← List.erase_eq_eraseIdx_of_idxOf rfl, nd.erase_eq_filter]
  congr 1
  apply List.filter_congr
  intro z _
  by_cases e : z = b
  · subst e
    simp
  · have z1 : (z != b) = true := by simpa using e
    rw [z1]
    simp [e]
theorem behind_is {bs : List Str} (nd : bs.Nodup) : ∀ rs : List Str, (∀ b ∈ rs, b ∈ bs) → behindM bs rs = nub rs.reverse ++ bs.filter fun z => decide (z ∉ rs) := by
  refine snoc_ind (p := fun rs => (∀ b ∈ rs, b ∈ bs) → behindM bs rs = nub rs.reverse ++ bs.filter fun z => decide (z ∉ rs)) (fun _ => ?_) (fun rs b ih h => ?_)
  · show bs = [] ++ bs.filter fun z => decide (z ∉ ([] : List Str))
    rw [List.nil_append, List.filter_eq_self.mpr fun z _ => by simp]
  · have h1 : ∀ c ∈ rs, c ∈ bs := fun c hc => h c (List.mem_append_left _ hc)
    have nd2 : (behindM bs rs).Nodup := (behindM_perm rs h1).nodup_iff.mpr nd
    rw [behindM_snoc, lay_filter nd2, ih h1, List.filter_append, List.reverse_append, List.reverse_singleton]
    show b :: _ = nub (b :: rs.reverse) ++ _
    rw [nub_cons, List.filter_filter]
    show b :: _ = b :: ((nub rs.reverse).filter (fun z => decide (z ≠ b)) ++ bs.filter fun z => decide (z ∉ rs ++ [b]))
    congr 2
    apply List.filter_congr
    intro z _
    by_cases c1 : z ∈ rs
    · simp [c1]
    · by_cases c2 : z = b
      · simp [c2]
      · simp [c1, c2]
theorem nub_prefix (l : List Str) : ∀ r : List Str, ∃ t, nub (l ++ r) = nub l ++ t := by
  refine snoc_ind (p := fun r => ∃ t, nub (l ++ r) = nub l ++ t) ⟨[], by rw [List.append_nil, List.append_nil]⟩ (fun r x ih => ?_)
  obtain ⟨t, e⟩ := ih
  rw [← List.append_assoc, nub_snoc, e]
  by_cases c : x ∈ nub l ++ t
  · rw [if_pos c]
    exact ⟨t, rfl⟩
  · rw [if_neg c]
    exact ⟨t ++ [x], by rw [List.append_assoc]⟩
theorem idx_mid {l r : List Str} {b : Str} (h : b ∉ l) : (l ++ b :: r).idxOf b = l.length := by
  rw [List.idxOf_append, if_neg h, List.idxOf_cons_self, Nat.zero_add]
theorem nub_idx {l r : List Str} {b : Str} (h : b ∉ l) : (nub (l ++ b :: r)).idxOf b = (nub l).length := by
  obtain ⟨t, e⟩ := nub_prefix (l ++ [b]) r
  rw [List.append_assoc] at e
  have e2 : l ++ ([b] ++ r) = l ++ b :: r := rfl
  have nb : b ∉ nub l := fun z => h ((nub_mem l b).mp z)
  rw [e2, nub_snoc, if_neg nb, List.append_assoc] at e
  rw [e]
  exact idx_mid nb
theorem split_at {l : List Str} {b : Str} (h : b ∈ l) : l = l.take (l.idxOf b) ++ b :: l.drop (l.idxOf b + 1) ∧ b ∉ l.take (l.idxOf b) := by
  refine ⟨?_, fun z => over_ne (bs := l) (b := b) (o := b) z rfl⟩
  have i := idx_lt h
  have e := List.take_append_drop (l.idxOf b) l
  rw [List.drop_eq_getElem_cons i, List.getElem_idxOf i] at e
  exact e.symm
theorem lifted_seen {bs a : List Str} {b : Str} (nd : bs.Nodup) (ha : ∀ c ∈ a, c ∈ bs) (hb : b ∈ a) : (behindM bs a).idxOf b = dist (a.drop (a.length - a.reverse.idxOf b)) := by
  have hr : b ∈ a.reverse := List.mem_reverse.mpr hb
  obtain ⟨e, no⟩ := split_at hr
  have hn : b ∈ nub a.reverse := (nub_mem _ b).mpr hr
  rw [behind_is nd a ha, List.idxOf_append, if_pos hn]
  have k := nub_idx (l := a.reverse.take (a.reverse.idxOf b)) (r := a.reverse.drop (a.reverse.idxOf b + 1)) no
  rw [← e] at k
  rw [k]
  refine dist_of (nub_nodup _) fun z => ?_
  rw [nub_mem, List.take_reverse, List.mem_reverse]
theorem lifted_new {bs a : List Str} {b : Str} (nd : bs.Nodup) (ha : ∀ c ∈ a, c ∈ bs) (hbs : b ∈ bs) (hb : b ∉ a) : (behindM bs a).idxOf b = dist (a ++ over bs b) := by
  have hr : b ∉ nub a.reverse := fun z => hb (List.mem_reverse.mp ((nub_mem _ b).mp z))
  obtain ⟨e, no⟩ := split_at hbs
  have ef : (bs.filter fun z => decide (z ∉ a)).idxOf b = ((over bs b).filter fun z => decide (z ∉ a)).length := by
    have e2 : bs.filter (fun z => decide (z ∉ a)) = ((over bs b).filter fun z => decide (z ∉ a)) ++ b :: (bs.drop (bs.idxOf b + 1)).filter fun z => decide (z ∉ a) := by
      conv =>
        lhs
        rw [e]
      rw [List.filter_append, List.filter_cons_of_pos (by simpa using hb)]
      rfl
    rw [e2]
    exact idx_mid fun z => no ((List.mem_filter.mp z).1)
  rw [behind_is nd a ha, List.idxOf_append, if_neg hr, ef, Nat.add_comm, ← List.length_append]
  refine dist_of ?_ fun z => ?_
  · rw [List.nodup_append]
    refine ⟨nub_nodup _, (nd.sublist (List.take_sublist _ _)).filter _, fun x hx y hy xy => ?_⟩
    subst xy
    have z1 := List.mem_reverse.mp ((nub_mem _ _).mp hx)
    have z2 := (List.mem_filter.mp hy).2
    simp [z1] at z2
  · rw [List.mem_append, List.mem_append, nub_mem, List.mem_reverse, List.mem_filter]
    by_cases c : z ∈ a
    · simp [c]
    · simp [c]
theorem behindM_append (bs : List Str) : ∀ one two : List Str, behindM bs (one ++ two) = behindM (behindM bs one) two := by
  intro one
  induction one generalizing bs with
  | nil => intro two; rfl
  | cons x r ih => intro two; exact ih (lay bs x) two
theorem liftedM_append (bs : List Str) : ∀ one two : List Str, liftedM bs (one ++ two) = liftedM bs one ++ liftedM (behindM bs one) two := by
  intro one
  induction one generalizing bs with
  | nil => intro two; rfl
  | cons x r ih =>
    intro two
    show bs.idxOf x :: liftedM (lay bs x) (r ++ two) = bs.idxOf x :: (liftedM (lay bs x) r ++ liftedM (behindM (lay bs x) r) two)
    rw [ih]
theorem liftedM_get (bs : List Str) : ∀ (rs : List Str) (i : Nat) (b : Str), rs[i]? = some b → (liftedM bs rs)[i]? = some ((behindM bs (rs.take i)).idxOf b) := by
  intro rs
  induction rs generalizing bs with
  | nil => intro i b h; simp at h
  | cons x r ih =>
    intro i b h
    cases i with
    | zero =>
      simp only [List.getElem?_cons_zero, Option.some.injEq] at h
      subst h
      rfl
    | succ i =>
      simp only [List.getElem?_cons_succ] at h
      exact ih (lay bs x) i b h
/-! ### all that were lifted are all passings -/
theorem rows_count : ∀ {bs : List Str} (rs : List Str), (∀ b ∈ rs, b ∈ bs) → (rowsM bs rs).length = (liftedM bs rs).sum
  | bs, [], _ => rfl
  | bs, b :: r, h => by
    have hb := h b (List.mem_cons_self ..)
    have p := lay_perm hb
    have ih := rows_count (bs := lay bs b) r fun c hc => p.mem_iff.mpr (h c (List.mem_cons_of_mem _ hc))
    show ((over bs b).map (fun o => (b, o)) ++ rowsM (lay bs b) r).length = (bs.idxOf b :: liftedM (lay bs b) r).sum
    have i := idx_lt hb
    rw [List.length_append, List.length_map, ih, List.sum_cons]
    unfold over
    rw [List.length_take, Nat.min_eq_left (Nat.le_of_lt i)]
theorem sum_one {ps : List (Str × Str)} {q : Str × Str} (nd : ps.Nodup) (h : q ∈ ps) : (ps.map fun z => if q = z then 1 else 0).sum = 1 := by
  induction ps with
  | nil => cases h
  | cons a r ih =>
    rw [List.map_cons, List.sum_cons]
    obtain ⟨n1, n2⟩ := List.nodup_cons.mp nd
    by_cases e : q = a
    · subst e
      have z : (r.map fun z => if q = z then 1 else 0).sum = 0 := by
        have all : ∀ z ∈ r, q ≠ z := fun z hz e => n1 (e ▸ hz)
        clear ih h nd n1 n2
        induction r with
        | nil => rfl
        | cons c r ih2 =>
          rw [List.map_cons, List.sum_cons, if_neg (all c (List.mem_cons_self ..)), ih2 fun z hz => all z (List.mem_cons_of_mem _ hz)]
      rw [if_pos rfl, z]
    · rw [if_neg e, Nat.zero_add]
      exact ih n2 ((List.mem_cons.mp h).resolve_left e)
theorem cnt_sum {ps : List (Str × Str)} (nd : ps.Nodup) : ∀ rows : List (Str × Str), (∀ r ∈ rows, asPair r ∈ ps) → (ps.map fun q => cnt rows q).sum = rows.length := by
  intro rows
  have key : ∀ l : List (Str × Str), (∀ r ∈ l.reverse, asPair r ∈ ps) → (ps.map fun q => cnt l.reverse q).sum = l.length := by
    intro l
    induction l with
    | nil =>
      intro _
      have z : ∀ ps : List (Str × Str), (ps.map fun q => cnt [] q).sum = 0 := by
        intro ps
        induction ps with
        | nil => rfl
        | cons a r ih => rw [List.map_cons, List.sum_cons, cnt_nil, ih]
      exact z ps
    | cons r l ih =>
      intro h
      rw [List.reverse_cons] at h ⊢
      have hr := h r (by simp)
      have e : (ps.map fun q => cnt (l.reverse ++ [r]) q) = ps.map fun q => cnt l.reverse q + if asPair r = q then 1 else 0 := by
        apply List.map_congr_left
        intro q _
        exact cnt_snoc _ _ _
      have add : ∀ (ps : List (Str × Str)) (f g : Str × Str → Nat), (ps.map fun q => f q + g q).sum = (ps.map f).sum + (ps.map g).sum := by
        intro ps f g
        induction ps with
        | nil => rfl
        | cons a r ih =>
          rw [List.map_cons, List.sum_cons, List.map_cons, List.sum_cons, List.map_cons, List.sum_cons, ih]
          omega
      rw [e, add, ih fun z hz => h z (List.mem_append_left _ hz), sum_one nd hr, List.length_cons]
  intro h
  have z := key rows.reverse (by rw [List.reverse_reverse]; exact h)
  rw [List.reverse_reverse, List.length_reverse] at z
  exact z
theorem prs_fst {ys : List Str} : ∀ {n : Nat} {q : Str × Str}, q ∈ prs ys n → ∃ k, k < n ∧ ys[k]? = some q.1
  | 0, q, h => by cases h
  | n + 1, q, h => by
    cases e : ys[n]? with
    | none =>
      have e2 : prs ys (n + 1) = prs ys n ++ (match ys[n]? with | some a => (ys.drop (n + 1)).map fun b => (a, b) | none => []) := rfl
      rw [e2, e, List.append_nil] at h
      obtain ⟨k, h1, h2⟩ := prs_fst h
      exact ⟨k, by omega, h2⟩
    | some a =>
      rw [prs_succ e] at h
      rcases List.mem_append.mp h with h | h
      · obtain ⟨k, h1, h2⟩ := prs_fst h
        exact ⟨k, by omega, h2⟩
      · obtain ⟨b, hb, rfl⟩ := List.mem_map.mp h
        exact ⟨n, by omega, e⟩
theorem prs_nodup {ys : List Str} (nd : ys.Nodup) : ∀ n, (prs ys n).Nodup
  | 0 => List.nodup_nil
  | n + 1 => by
    cases e : ys[n]? with
    | none =>
      have e2 : prs ys (n + 1) = prs ys n ++ (match ys[n]? with | some a => (ys.drop (n + 1)).map fun b => (a, b) | none => []) := rfl
      rw [e2, e, List.append_nil]
      exact prs_nodup nd n
    | some a =>
      rw [prs_succ e, List.nodup_append]
      refine ⟨prs_nodup nd n, ?_, fun x hx y hy xy => ?_⟩
      · have nd2 : (ys.drop (n + 1)).Nodup := nd.sublist (List.drop_sublist _ _)
        exact List.Pairwise.map _ (fun x y ne z => ne (Prod.mk.inj z).2) nd2
      · subst xy
        obtain ⟨k, h1, h2⟩ := prs_fst hx
        obtain ⟨b, hb, rfl⟩ := List.mem_map.mp hy
        have z := nd_ix nd h2 e
        omega
end Lt

set_option Elab.async false
set_option linter.all false
set_option maxRecDepth 100000
set_option maxHeartbeats 4000000
namespace Lt
open PySem PySem.Spec PyProof.Rows L2
section
variable {P : Program} {w : World} {K : PySem.W.Frag} {mg : Str → Option Value} {base : Heap} {X : Cx}
theorem log_of {m : Int} (h0 : 0 < m) (h1 : m ≤ 1000000000000000000) : m.natAbs.log2 < 9000 := by
  have z : m.natAbs.log2 < 60 := (Nat.log2_lt (by omega)).mpr (Nat.lt_of_le_of_lt (show m.natAbs ≤ 1000000000000000000 by omega) (by decide))
  omega
theorem upd_self {H : Hp} {a : Addr} {o : HO} (h : H a = some o) : upd H a o = H := by
  funext b
  unfold upd
  by_cases e : b = a
  · rw [if_pos e, e, h]
  · rw [if_neg e]
def spDraw : Sp := fun vs H Q _ => ∃ (T S : Addr) (ns : List Int) (m : Int), vs = [.ref T, .int m] ∧ Tape H T S ns ∧ 0 < m ∧ m ≤ 1000000000000000000 ∧
  ∀ r i c : Int, 0 ≤ r → r < m → Q (.int r) (upd H T (.lst [.ref S, .int i, .int c]))
def Has (P : Program) (w : World) (K : PySem.W.Frag) (mg : Str → Option Value) (base : Heap) (k : Nat) (x : Str) (ps : List Str) (sp : Sp) : Prop :=
  ∃ (f : Addr) (fd : FuncData), FnOk P w K mg base CX0 k f fd ps sp ∧ mg x = some (.ref f) ∧ PySem.W.keepIn K (.ref f) = true ∧ Binds K fd ps []
theorem pe_go {k j : Nat} {x : Str} {ps : List Str} {sp : Sp} {e : Expr} {es : List Expr} {p pos : Pos} {t : TA} (c : Has X.prog X.w X.K X.mg X.base k x ps sp) (hr : Room j X.A) (hk : k ≤ j) (hg : Gl X x) (h : PA X (e :: es) t)
    (h1 : (x == ("__debug__" : Str)) = false := by decide) (h2 : starEach (e :: es) X.env = (false, eval e X.env) :: starEach es X.env := by rfl)
    (h3 : (backTo pos (starEach es X.env)).any (·.1) = false := by rfl) : PE X (.Call (.Name x p) (e :: es) [] pos) (tCall sp [] E0 t) := by
  obtain ⟨f, fd, F, m, kp, b⟩ := c
  exact pe_call F (hr.mono hk) hg m kp b .nil pass0 h h1 h2 h3
theorem pe_go0 {k j : Nat} {x : Str} {ps : List Str} {sp : Sp} {p pos : Pos} (c : Has X.prog X.w X.K X.mg X.base k x ps sp) (hr : Room j X.A) (hk : k ≤ j) (hg : Gl X x)
    (h1 : (x == ("__debug__" : Str)) = false := by decide) : PE X (.Call (.Name x p) [] [] pos) (tCall sp [] E0 tNil) := by
  obtain ⟨f, fd, F, m, kp, b⟩ := c
  exact pe_call0 F (hr.mono hk) hg m kp b .nil pass0 h1
structure Bi (mg : Str → Option Value) : Prop where
  len : mg "len" = none
  range : mg "range" = none
  tuple : mg "tuple" = none
  list : mg "list" = none
  sorted : mg "sorted" = none
  enumerate : mg "enumerate" = none
  isinstance : mg "isinstance" = none
  bool : mg "bool" = none
  set : mg "set" = none
  sum : mg "sum" = none
  min : mg "min" = none
  max : mg "max" = none
  dict : mg "dict" = none
  reversed : mg "reversed" = none
  all : mg "all" = none
  any : mg "any" = none
  int : mg "int" = none
  str : mg "str" = none
  zip : mg "zip" = none
def books : List Str := ["atlas", "bible", "comics", "diary", "essays", "fables", "guide"]
theorem books_nd : books.Nodup := by decide +kernel
theorem books_ok : ∀ b ∈ books, PyData.strOk b = true := by decide +kernel
structure IsPile (bs : List Str) : Prop where
  nd : bs.Nodup
  pos : 0 < bs.length
  most : bs.length ≤ 7
  ok : ∀ b ∈ bs, b ∈ books
abbrev natV (k : Nat) : V := .int (k : Int)
def spOrder : Sp := fun vs H Q _ => ∃ (T S : Addr) (ns : List Int) (n : Nat), vs = [.ref T, .int n] ∧ Tape H T S ns ∧ n ≤ 1000 ∧
  ∀ (p : Addr) (H' : Hp) (qs : List Nat), SameT T H H' → Tape H' T S ns → H p = none → H' p = some (.tup (qs.map natV)) → qs.Perm (List.range n) → Q (.ref p) H'
def spBooks : Sp := fun vs H Q _ => vs = [] ∧ ∀ p, H p = none → Q (.ref p) (upd H p (.lst (books.map V.str)))
def pick (bs : List Str) (qs : List Nat) : List Str := qs.map fun k => (bs[k]?).getD Str.empty
theorem pick_range (bs : List Str) : pick bs (List.range bs.length) = bs := by
  apply List.ext_getElem?
  intro i
  unfold pick
  rw [List.getElem?_map]
  by_cases h : i < bs.length
  · rw [List.getElem?_range h, List.getElem?_eq_getElem h]
    show some ((bs[i]?).getD Str.empty) = some bs[i]
    rw [List.getElem?_eq_getElem h]
    rfl
  · rw [List.getElem?_eq_none (by rw [List.length_range]; omega), List.getElem?_eq_none (by omega)]
    rfl
theorem pick_perm {bs : List Str} {qs : List Nat} (h : qs.Perm (List.range bs.length)) : (pick bs qs).Perm bs := by
  have q := h.map fun k => (bs[k]?).getD Str.empty
  have e : (List.range bs.length).map (fun k => (bs[k]?).getD Str.empty) = bs := pick_range bs
  rw [e] at q
  exact q
theorem pile_of {n : Nat} {qs : List Nat} (h0 : 0 < n) (h7 : n ≤ 7) (h : qs.Perm (List.range n)) : IsPile (pick (books.take n) qs) := by
  have hl : (books.take n).length = n := by
    rw [List.length_take]
    show min n 7 = n
    omega
  have p : (pick (books.take n) qs).Perm (books.take n) := pick_perm (by rw [hl]; exact h)
  refine ⟨p.nodup_iff.mpr (books_nd.sublist (List.take_sublist _ _)), ?_, ?_, fun b hb => List.mem_of_mem_take (p.mem_iff.mp hb)⟩
  · rw [p.length_eq, hl]
    exact h0
  · rw [p.length_eq, hl]
    exact h7
def spPile : Sp := fun vs H Q _ => ∃ (T S : Addr) (ns : List Int) (m : Int), vs = [.ref T, .int m] ∧ Tape H T S ns ∧ 0 < m ∧ m ≤ 7 ∧
  ∀ (p : Addr) (H' : Hp) (bs : List Str), SameT T H H' → Tape H' T S ns → H p = none → TpO H' p (bs.map V.str) → IsPile bs → (bs.length : Int) ≤ m → Q (.ref p) H'
def spReadings : Sp := fun vs H Q _ => ∃ (T S p : Addr) (ns : List Int) (bs : List Str) (m : Int), vs = [.ref T, .ref p, .int m] ∧ Tape H T S ns ∧ TpO H p (bs.map V.str) ∧ 0 < bs.length ∧ bs.length ≤ 7 ∧ 0 ≤ m ∧ m ≤ 60 ∧
  ∀ (l : Addr) (H' : Hp) (rs : List Str), SameT T H H' → Tape H' T S ns → H l = none → H' l = some (.lst (rs.map V.str)) → (rs.length : Int) ≤ m → (∀ b ∈ rs, b ∈ bs) → Q (.ref l) H'
theorem lay_map (bs : List Str) (b : Str) : (lay bs b).map V.str = [V.str b] ++ ((bs.take (bs.idxOf b)).map V.str ++ (bs.drop (bs.idxOf b + 1)).map V.str) := by
  unfold lay
  rw [List.map_cons, List.eraseIdx_eq_take_drop_succ, List.map_append]
  rfl
def spLaid : Sp := fun vs H Q _ => ∃ (p : Addr) (bs : List Str) (b : Str), vs = [.ref p, .str b] ∧ TpO H p (bs.map V.str) ∧ b ∈ bs ∧ bs.length ≤ 1000 ∧
  ∀ (q : Addr) (H' : Hp), Same H H' → TpO H' q ((lay bs b).map V.str) → Q (.ref q) H'
def spAbove : Sp := fun vs H Q _ => ∃ (p : Addr) (bs : List Str) (b : Str), vs = [.ref p, .str b] ∧ TpO H p (bs.map V.str) ∧ b ∈ bs ∧
  ∀ (q : Addr) (H' : Hp), Same H H' → H' q = some (.tup ((over bs b).map V.str)) → Q (.ref q) H'
def spAsPair : Sp := fun vs H Q _ => ∃ a b : Str, vs = [.str a, .str b] ∧ ∀ q : Addr, H q = none → Q (.ref q) (upd H q (.tup [.str (asPair (a, b)).1, .str (asPair (a, b)).2]))
def spBehind : Sp := fun vs H Q _ => ∃ (p r : Addr) (bs rs : List Str), vs = [.ref p, .ref r] ∧ TpO H p (bs.map V.str) ∧ H r = some (.lst (rs.map V.str)) ∧ bs.length ≤ 1000 ∧ (∀ b ∈ rs, b ∈ bs) ∧
  ∀ (q : Addr) (H' : Hp), Same H H' → TpO H' q ((behindM bs rs).map V.str) → Q (.ref q) H'
theorem take_step {rs : List Str} {i : Nat} {b : Str} (h : rs[i]? = some b) : rs.take (i + 1) = rs.take i ++ [b] := by
  rw [List.take_add_one, h]
  rfl
theorem take_sub {bs rs : List Str} (h : ∀ b ∈ rs, b ∈ bs) (i : Nat) : ∀ b ∈ rs.take i, b ∈ bs := fun b hb => h b (List.mem_of_mem_take hb)
theorem strs_get {rs : List Str} {i : Nat} {x : V} (h : (rs.map V.str)[i]? = some x) : ∃ b, rs[i]? = some b ∧ x = .str b := by
  rw [List.getElem?_map] at h
  cases e : rs[i]? with
  | none =>
    rw [e] at h
    cases h
  | some b =>
    rw [e] at h
    cases h
    exact ⟨b, rfl, rfl⟩
def spLifted : Sp := fun vs H Q _ => ∃ (p r : Addr) (bs rs : List Str), vs = [.ref p, .ref r] ∧ TpO H p (bs.map V.str) ∧ H r = some (.lst (rs.map V.str)) ∧ bs.length ≤ 1000 ∧ rs.length ≤ 1000 ∧ (∀ b ∈ rs, b ∈ bs) ∧
  ∀ (l : Addr) (H' : Hp), Same H H' → H l = none → H' l = some (.lst ((liftedM bs rs).map natV)) → Q (.ref l) H'
theorem liftedM_len (bs : List Str) : ∀ rs : List Str, (liftedM bs rs).length = rs.length := by
  intro rs
  induction rs generalizing bs with
  | nil => rfl
  | cons x r ih => exact congrArg (· + 1) (ih (lay bs x))
def KeepT (H H' : Hp) : Prop := ∀ b xs, H b = some (.tup xs) → H' b = some (.tup xs)
theorem KeepT.of {H H' : Hp} (s : Same H H') : KeepT H H' := fun b xs h => s _ _ h
theorem KeepT.put {H : Hp} {D : Addr} {o : HO} {u : HO} (h : H D = some u) (n : ∀ xs, u ≠ .tup xs) : KeepT H (upd H D o) := fun b xs q => by
  rw [upd_ne (ne_of q h fun z => n xs z.symm)]
  exact q
theorem KeepT.trans {H H1 H2 : Hp} (a : KeepT H H1) (b : KeepT H1 H2) : KeepT H H2 := fun c xs h => b c xs (a c xs h)
def PairsL (H : Hp) (ts : List Addr) (ps : List (Str × Str)) : Prop := ts.length = ps.length ∧ ∀ (i : Nat) (t : Addr) (q : Str × Str), ts[i]? = some t → ps[i]? = some q → H t = some (.tup [.str q.1, .str q.2])
theorem PairsL.nil (H : Hp) : PairsL H [] [] := ⟨rfl, fun i t q h => by simp at h⟩
theorem PairsL.move {H H' : Hp} {ts : List Addr} {ps : List (Str × Str)} (h : PairsL H ts ps) (k : KeepT H H') : PairsL H' ts ps := ⟨h.1, fun i t q a b => k _ _ (h.2 i t q a b)⟩
theorem PairsL.snoc {H : Hp} {ts : List Addr} {ps : List (Str × Str)} {t : Addr} {q : Str × Str} (h : PairsL H ts ps) (ht : H t = some (.tup [.str q.1, .str q.2])) : PairsL H (ts ++ [t]) (ps ++ [q]) := by
  refine ⟨by rw [List.length_append, List.length_append, h.1]; rfl, fun i t' q' a b => ?_⟩
  by_cases hi : i < ts.length
  · rw [List.getElem?_append_left hi] at a
    rw [List.getElem?_append_left (by rw [← h.1]; exact hi)] at b
    exact h.2 i t' q' a b
  · rw [List.getElem?_append_right (by omega)] at a
    rw [List.getElem?_append_right (by rw [← h.1]; omega), ← h.1] at b
    by_cases hz : i - ts.length = 0
    · rw [hz] at a b
      cases a
      cases b
      exact ht
    · rw [List.getElem?_eq_none (by rw [List.length_singleton]; omega)] at a
      cases a
abbrev sPairsData (ps : List (Str × Str)) : List PyData := ps.map fun q => .tuple [.str q.1, .str q.2]
theorem PairsL.dp {K : PySem.W.Frag} {H : Hp} : ∀ {ts : List Addr} {ps : List (Str × Str)}, PairsL H ts ps → DpAll K H (ts.map V.ref) (sPairsData ps)
  | [], [], _ => .nil
  | [], q :: r, h => by cases h.1
  | t :: ts, [], h => by cases h.1
  | t :: ts, q :: r, h => by
    refine .cons (.tup (sqt (h.2 0 t q rfl rfl)) (.cons (.str _) (.cons (.str _) .nil))) (PairsL.dp ⟨by simpa using h.1, fun i t' q' a b => h.2 (i + 1) t' q' a b⟩)
def spPairs (K : PySem.W.Frag) : Sp := fun vs H Q _ => ∃ (p : Addr) (bs : List Str), vs = [.ref p] ∧ SqT K H p (bs.map V.str) ∧ bs.length ≤ 20 ∧
  ∀ (l : Addr) (H' : Hp) (ys : List Str) (ts : List Addr), Same H H' → ys.Perm bs → sortedS ys = true → H l = none → H' l = some (.lst (ts.map V.ref)) → PairsL H' ts (prs ys ys.length) → Q (.ref l) H'
def key (q : Str × Str) : List Key := [Sum.inr q.1, Sum.inr q.2]
theorem key_inj {q r : Str × Str} (h : key q = key r) : q = r := by
  unfold key at h
  injection h with h1 h2
  injection h2 with h2 _
  injection h1 with h1
  injection h2 with h2
  exact Prod.ext h1 h2
theorem key_map (q : Str × Str) : (key q).map kV = [V.str q.1, V.str q.2] := rfl
def Counts (kvs : List (List Key × V)) (ps : List (Str × Str)) (rows : List (Str × Str)) : Prop := ∀ q ∈ ps, valV kvs (key q) = some (natV (cnt rows q))
theorem Counts.more {kvs : List (List Key × V)} {ps rows : List (Str × Str)} (h : Counts kvs ps rows) {r : Str × Str} (hr : asPair r ∈ ps) :
    Counts (putK kvs (key (asPair r)) (.int ((cnt rows (asPair r) : Int) + 1))) ps (rows ++ [r]) := fun q hq => by
  rw [valV_put, cnt_snoc]
  by_cases e : asPair r = q
  · subst e
    rw [if_pos rfl, if_pos rfl]
    rfl
  · rw [if_neg (fun z => e (key_inj z).symm), if_neg e, Nat.add_zero]
    exact h q hq
abbrev tri (rows : List (Str × Str)) (q : Str × Str) : PyData := .tuple [.str q.1, .str q.2, .int (cnt rows q : Nat)]
def TriL (rows : List (Str × Str)) (H : Hp) (ts : List Addr) (ps : List (Str × Str)) : Prop := ts.length = ps.length ∧
  ∀ (i : Nat) (t : Addr) (q : Str × Str), ts[i]? = some t → ps[i]? = some q → H t = some (.tup [.str q.1, .str q.2, natV (cnt rows q)])
theorem TriL.move {rows : List (Str × Str)} {H H' : Hp} {ts : List Addr} {ps : List (Str × Str)} (h : TriL rows H ts ps) (k : KeepT H H') : TriL rows H' ts ps := ⟨h.1, fun i t q a b => k _ _ (h.2 i t q a b)⟩
theorem TriL.snoc {rows : List (Str × Str)} {H : Hp} {ts : List Addr} {ps : List (Str × Str)} {t : Addr} {q : Str × Str} (h : TriL rows H ts ps) (ht : H t = some (.tup [.str q.1, .str q.2, natV (cnt rows q)])) : TriL rows H (ts ++ [t]) (ps ++ [q]) := by
  refine ⟨by rw [List.length_append, List.length_append, h.1]; rfl, fun i t' q' a b => ?_⟩
  by_cases hi : i < ts.length
  · rw [List.getElem?_append_left hi] at a
    rw [List.getElem?_append_left (by rw [← h.1]; exact hi)] at b
    exact h.2 i t' q' a b
  · rw [List.getElem?_append_right (by omega)] at a
    rw [List.getElem?_append_right (by rw [← h.1]; omega), ← h.1] at b
    by_cases hz : i - ts.length = 0
    · rw [hz] at a b
      cases a
      cases b
      exact ht
    · rw [List.getElem?_eq_none (by rw [List.length_singleton]; omega)] at a
      cases a
theorem TriL.dp {rows : List (Str × Str)} {K : PySem.W.Frag} {H : Hp} : ∀ {ts : List Addr} {ps : List (Str × Str)}, TriL rows H ts ps → DpAll K H (ts.map V.ref) (ps.map (tri rows))
  | [], [], _ => .nil
  | [], q :: r, h => by cases h.1
  | t :: ts, [], h => by cases h.1
  | t :: ts, q :: r, h =>
    .cons (.tup (sqt (h.2 0 t q rfl rfl)) (.cons (.str _) (.cons (.str _) (.cons (.int _) .nil)))) (TriL.dp ⟨by simpa using h.1, fun i t' q' a b => h.2 (i + 1) t' q' a b⟩)
theorem rowsM_len : ∀ {bs : List Str} (rs : List Str), (∀ b ∈ rs, b ∈ bs) → (rowsM bs rs).length ≤ rs.length * bs.length
  | bs, [], _ => Nat.zero_le _
  | bs, b :: r, h => by
    have p := lay_perm (h b (List.mem_cons_self ..))
    have ih := rowsM_len (bs := lay bs b) r fun c hc => p.mem_iff.mpr (h c (List.mem_cons_of_mem _ hc))
    rw [p.length_eq] at ih
    show ((over bs b).map (fun o => (b, o)) ++ rowsM (lay bs b) r).length ≤ (r.length + 1) * bs.length
    rw [List.length_append, List.length_map, Nat.succ_mul]
    have z : (over bs b).length ≤ bs.length := by
      unfold over
      rw [List.length_take]
      omega
    omega
def spPassings (K : PySem.W.Frag) : Sp := fun vs H Q _ => ∃ (p r : Addr) (bs rs : List Str), vs = [.ref p, .ref r] ∧ TpO H p (bs.map V.str) ∧ H r = some (.lst (rs.map V.str)) ∧ bs.length ≤ 7 ∧ rs.length ≤ 60 ∧ (∀ b ∈ rs, b ∈ bs) ∧
  ∀ (l : Addr) (H' : Hp) (ys : List Str) (xs : List V), Same H H' → H l = none → ys.Perm bs → sortedS ys = true → H' l = some (.lst xs) → DpAll K H' xs ((prs ys ys.length).map (tri (rowsM bs rs))) → Q (.ref l) H'
def spRead : Sp := fun vs H Q _ => ∃ (p r : Addr) (bs rs : List Str), vs = [.ref p, .ref r] ∧ TpO H p (bs.map V.str) ∧ H r = some (.lst (rs.map V.str)) ∧ bs.length ≤ 7 ∧ rs.length ≤ 60 ∧ (∀ b ∈ rs, b ∈ bs) ∧
  ∀ (t a n o : Addr) (H' : Hp) (ts : List Addr), Same H H' → H' t = some (.tup [.ref a, .ref n, .ref o]) → H' a = some (.tup ((behindM bs rs).map V.str)) → H' n = some (.lst ((liftedM bs rs).map natV)) →
    H' o = some (.lst (ts.map V.ref)) → PairsL H' ts (rowsM bs rs) → Q (.ref t) H'
theorem flat_map (ss : List Str) : (ss.map V.str).all flatV = true := flat_strs ss
theorem eqv_two (a b c d : Str) : PyData.eqv (.list [.str a, .str b]) (.list [.str c, .str d]) = decide ((a, b) = (c, d)) := by
  simp only [PyData.eqv, PyData.eqvAll, Bool.and_true]
  by_cases h1 : a = c
  · by_cases h2 : b = d
    · subst h1 h2
      simp
    · have z : (b == d) = false := beq_eq_false_iff_ne.mpr h2
      rw [z, Bool.and_false]
      exact (decide_eq_false fun e => h2 (Prod.mk.inj e).2).symm
  · have z : (a == c) = false := beq_eq_false_iff_ne.mpr h1
    rw [z, Bool.false_and]
    exact (decide_eq_false fun e => h1 (Prod.mk.inj e).1).symm
theorem shaped_two {a b : Str} (ha : PyData.strOk a = true) (hb : PyData.strOk b = true) : SeqAt.shaped (.list [.str a, .str b]) = true :=
  shaped_of (by simp [PyData.canLay0, PyData.canLayAll0, ha, hb]) (by simp [PyData.depth, PyData.depthAll])
def spTwo (K : PySem.W.Frag) : Sp := fun vs H Q _ => ∃ (p r : Addr) (bs : List Str) (ts : List Addr) (rows : List (Str × Str)), vs = [.ref p, .ref r] ∧ SqT K H p (bs.map V.str) ∧ bs.length ≤ 7 ∧ (∀ b ∈ bs, PyData.strOk b = true) ∧
  H r = some (.lst (ts.map V.ref)) ∧ PairsL H ts rows ∧ rows.length ≤ 900 ∧ (∀ z ∈ rows, PyData.strOk z.1 = true ∧ PyData.strOk z.2 = true) ∧
  ∀ (l : Addr) (H' : Hp) (ys : List Str) (xs : List V), Same H H' → H l = none → ys.Perm bs → sortedS ys = true → H' l = some (.lst xs) → DpAll K H' xs ((prs ys ys.length).map (tri rows)) → Q (.ref l) H'
def kindName : PyData → String
  | .none => "NoneType"
  | .bool _ => "bool"
  | .int _ => "int"
  | .str _ => "str"
  | .list _ => "list"
  | .tuple _ => "tuple"
  | .dict _ => "dict"
theorem ty_dp {H : Hp} {v : V} {d : PyData} (h : Dp K H v d) : TyX K H v (.type (kindName d)) := by
  cases h with
  | non => exact .base .non
  | bl b => exact .base (.bl b)
  | int i => exact .base (.int i)
  | str x => exact .base (.str x)
  | lst h a =>
    rcases h with (h | ⟨o, h⟩) | ⟨o, its, n, h, hc, _⟩
    · exact .base (.lst h)
    · exact .base (.frz h)
    · exact .kList h hc
  | tup h a =>
    rcases h with (h | ⟨o, h⟩) | ⟨o, its, n, h, hc, _⟩
    · exact .base (.tup h)
    · exact .fTuple h
    · exact .kTuple h hc
def Fine : Nat → PyData → Prop
  | _, .none => True
  | _, .bool _ => True
  | _, .int _ => True
  | _, .str x => PyData.strOk x = true
  | 0, .list _ => False
  | 0, .tuple _ => False
  | n + 1, .list ds => ds.length ≤ 1000 ∧ ∀ d ∈ ds, Fine n d
  | n + 1, .tuple ds => ds.length ≤ 1000 ∧ ∀ d ∈ ds, Fine n d
  | _, .dict _ => False
theorem kit_yes {K : PySem.W.Frag} {a : String} {cs : List Value} {b : String} (h : kitB a b = some true) : PySem.W.kitAny K (.type a) (.type b :: cs) = some true :=
  kitAny_cons (kit_ty h) (fun z => nomatch z) fun _ => rfl
theorem kit_no {K : PySem.W.Frag} {a : String} {cs : List Value} {b : String} {r : Bool} (h : kitB a b = some false) (t : PySem.W.kitAny K (.type a) cs = some r) : PySem.W.kitAny K (.type a) (.type b :: cs) = some r :=
  kitAny_cons (kit_ty h) (fun _ => t) fun z => nomatch z
theorem ixS (e : X.K = K) : IxR X (rIx K) := by
  subst e
  exact ix_seq
def spLike (K : PySem.W.Frag) (n : Nat) : Sp := fun vs H Q _ => ∃ (v1 v2 : V) (d : PyData) (m : Nat), n = m + 1 ∧ vs = [v1, v2] ∧ Dp K H v1 d ∧ Dp K H v2 d ∧ Fine m d ∧ ∀ H', Same H H' → Q (.bl true) H'
theorem fine_strs {ss : List Str} (hl : ss.length ≤ 1000) (ok : ∀ b ∈ ss, PyData.strOk b = true) (n : Nat) : Fine (n + 1) (.tuple (ss.map PyData.str)) := by
  refine ⟨by rw [List.length_map]; exact hl, fun d hd => ?_⟩
  obtain ⟨b, hb, rfl⟩ := List.mem_map.mp hd
  cases n <;> exact ok b hb
theorem fine_nats {ns : List Nat} (hl : ns.length ≤ 1000) (n : Nat) : Fine (n + 1) (.list ((ns.map fun k : Nat => (k : Int)).map PyData.int)) := by
  refine ⟨by rw [List.length_map, List.length_map]; exact hl, fun d hd => ?_⟩
  obtain ⟨b, hb, rfl⟩ := List.mem_map.mp hd
  cases n <;> exact True.intro
theorem natV_map (ns : List Nat) : ns.map natV = (ns.map fun k : Nat => (k : Int)).map V.int := by
  rw [List.map_map]
  rfl
theorem prs_sub {ys : List Str} : ∀ {n : Nat} {q : Str × Str}, q ∈ prs ys n → q.1 ∈ ys ∧ q.2 ∈ ys
  | 0, q, h => by cases h
  | n + 1, q, h => by
    cases e : ys[n]? with
    | none =>
      have e2 : prs ys (n + 1) = prs ys n ++ (match ys[n]? with | some a => (ys.drop (n + 1)).map fun b => (a, b) | none => []) := rfl
      rw [e2, e, List.append_nil] at h
      exact prs_sub h
    | some a =>
      rw [prs_succ e] at h
      rcases List.mem_append.mp h with h | h
      · exact prs_sub h
      · obtain ⟨b, hb, rfl⟩ := List.mem_map.mp h
        exact ⟨List.mem_of_getElem? e, List.mem_of_mem_drop hb⟩
theorem fine_tri {ys : List Str} {rows : List (Str × Str)} (hl : ys.length ≤ 7) (ok : ∀ b ∈ ys, PyData.strOk b = true) (n : Nat) : Fine (n + 2) (.list ((prs ys ys.length).map (tri rows))) := by
  have lp : (prs ys ys.length).length ≤ 49 := by
    have z := prs_len ys ys.length
    have z2 : ys.length * ys.length ≤ 7 * 7 := Nat.mul_le_mul hl hl
    omega
  refine ⟨by rw [List.length_map]; omega, fun d hd => ?_⟩
  obtain ⟨q, hq, rfl⟩ := List.mem_map.mp hd
  have z := prs_sub hq
  refine ⟨by show 3 ≤ 1000; decide, fun d hd => ?_⟩
  simp only [List.mem_cons, List.not_mem_nil, or_false] at hd
  rcases hd with rfl | rfl | rfl
  · cases n <;> exact ok _ z.1
  · cases n <;> exact ok _ z.2
  · cases n <;> exact True.intro
theorem fine_can : ∀ (n : Nat) (d : PyData), Fine n d → d.canLay0 = true ∧ d.depth ≤ n
  | n, .none, _ => ⟨by simp [PyData.canLay0], by simp [PyData.depth]⟩
  | n, .bool _, _ => ⟨by simp [PyData.canLay0], by simp [PyData.depth]⟩
  | n, .int _, _ => ⟨by simp [PyData.canLay0], by simp [PyData.depth]⟩
  | n, .str x, h => by
    have h' : PyData.strOk x = true := by cases n <;> exact h
    exact ⟨by simp [PyData.canLay0, h'], by simp [PyData.depth]⟩
  | 0, .list _, h => h.elim
  | 0, .tuple _, h => h.elim
  | n + 1, .list ds, h => by
    have a := fun d hd => fine_can n d (h.2 d hd)
    refine ⟨by rw [PyData.canLay0]; exact canAll ds fun d hd => (a d hd).1, ?_⟩
    rw [PyData.depth]
    exact Nat.succ_le_succ (depthAll_le ds fun d hd => (a d hd).2)
  | n + 1, .tuple ds, h => by
    have a := fun d hd => fine_can n d (h.2 d hd)
    refine ⟨by rw [PyData.canLay0]; exact canAll ds fun d hd => (a d hd).1, ?_⟩
    rw [PyData.depth]
    exact Nat.succ_le_succ (depthAll_le ds fun d hd => (a d hd).2)
  | n, .dict _, h => by cases n <;> exact h.elim
theorem fine_shaped {n : Nat} {d : PyData} (h : Fine n d) (hn : n ≤ 64) : SeqAt.shaped d = true := shaped_of (fine_can n d h).1 (Nat.le_trans (fine_can n d h).2 hn)
theorem fine_eqv {n : Nat} {d : PyData} (h : Fine n d) : PyData.eqv d d = true := PySem.SeqAt.eqv_refl d (fine_can n d h).1
theorem rowsM_sub : ∀ {bs : List Str} (rs : List Str), (∀ b ∈ rs, b ∈ bs) → ∀ z ∈ rowsM bs rs, z.1 ∈ bs ∧ z.2 ∈ bs
  | bs, [], _, z, hz => by cases hz
  | bs, b :: r, h, z, hz => by
    have hb := h b (List.mem_cons_self ..)
    have p := lay_perm hb
    rcases List.mem_append.mp (show z ∈ (over bs b).map (fun o => (b, o)) ++ rowsM (lay bs b) r from hz) with hz | hz
    · obtain ⟨o, ho, rfl⟩ := List.mem_map.mp hz
      exact ⟨hb, over_mem ho⟩
    · have q := rowsM_sub (bs := lay bs b) r (fun c hc => p.mem_iff.mpr (h c (List.mem_cons_of_mem _ hc))) z hz
      exact ⟨p.mem_iff.mp q.1, p.mem_iff.mp q.2⟩
def spLaw (K : PySem.W.Frag) : Sp := fun vs H Q _ => ∃ (a : Addr) (ns : List Int), vs = [.ref a] ∧ SqL K H a (ns.map V.int) ∧ ns.length ≤ 63 ∧ ∀ H', Q (.bl true) H'
end
end Lt

set_option Elab.async false
set_option linter.all false
set_option maxRecDepth 100000
set_option maxHeartbeats 4000000
namespace Lt
open PySem PySem.Spec PyProof.Rows L2
/-! rows of texts compared, asked, cut -/
theorem eqvAll_strs : ∀ xs ys : List Str, PyData.eqvAll (xs.map PyData.str) (ys.map PyData.str) = decide (xs = ys)
  | [], [] => rfl
  | [], y :: r => rfl
  | x :: r, [] => rfl
  | x :: r, y :: t => by
    show ((x == y) && PyData.eqvAll (r.map PyData.str) (t.map PyData.str)) = _
    rw [eqvAll_strs r t]
    by_cases c : x = y
    · subst c
      rw [beq_self_eq_true, Bool.true_and, decide_eq_decide]
      exact ⟨fun h => by rw [h], fun h => (List.cons.inj h).2⟩
    · rw [beq_eq_false_iff_ne.mpr c, Bool.false_and]
      exact (decide_eq_false fun h => c (List.cons.inj h).1).symm
theorem eqvL_strs (xs ys : List Str) : PyData.eqv (.list (xs.map PyData.str)) (.list (ys.map PyData.str)) = decide (xs = ys) := by
  rw [← eqvAll_strs]
  simp only [PyData.eqv]
theorem eqvT_strs (xs ys : List Str) : PyData.eqv (.tuple (xs.map PyData.str)) (.tuple (ys.map PyData.str)) = decide (xs = ys) := by
  rw [← eqvAll_strs]
  simp only [PyData.eqv]
theorem inV_strs (b : Str) (l : List Str) : inV (.str b) (l.map V.str) = decide (b ∈ l) := by
  unfold inV
  induction l with
  | nil => rfl
  | cons x r ih =>
    rw [List.map_cons, List.any_cons, ih]
    show ((x == b) || decide (b ∈ r)) = decide (b ∈ x :: r)
    by_cases e : x = b
    · subst e
      simp
    · have z : (x == b) = false := beq_eq_false_iff_ne.mpr e
      rw [z, Bool.false_or]
      by_cases c : b ∈ r
      · simp [c]
      · simp [c, Ne.symm e]
theorem oIn {X : Cx} {K : PySem.W.Frag} (e : X.K = K) : OpR X (compareOp .In) (rIn K false) := by
  subst e
  exact op_in_seq
theorem cut_all {xs : List V} {lo hi : Option Int} (h : HT.sIx xs.length 0 lo = 0 ∧ HT.sIx xs.length xs.length hi = xs.length) : cutV xs lo hi = xs := by
  unfold cutV
  rw [h.1, h.2, List.drop_zero, Nat.sub_zero, List.take_length]
/-- a tuple's slice: some tuple of the cut -/
theorem sl_of {K : PySem.W.Frag} {H : Hp} {a : Addr} {xs ys : List V} {lo hi : Option Int} {Q : VK} (sq : SqT K H a xs) (e : cutV xs lo hi = ys) (h : ∀ (b : Addr) (H2 : Hp), Same H H2 → SqT K H2 b ys → Q (.ref b) H2) : rSlA K (.ref a) lo hi H Q := by
  refine ⟨a, xs, rfl, sq, fun z => ?_, fun _ p hp => ?_⟩
  · rw [cut_all z] at e
    subst e
    exact h a H (fun _ _ h => h) sq
  · rw [e]
    exact h p _ (same_new hp _) (sqt upd_same)
theorem sl_lo {K : PySem.W.Frag} {σ : L2.St} {H : Hp} {a : Addr} {xs ys : List V} {lo : Option Int} {Q : VK} (sq : SqT K H a xs) (e : cutV xs lo none = ys) (h : ∀ (b : Addr) (H2 : Hp), Same H H2 → SqT K H2 b ys → Q (.ref b) H2) :
    tNoPart σ H fun u H3 => rSlA K (.ref a) lo u H3 Q := sl_of (lo := lo) (hi := none) sq e h
theorem filt_y {α : Type} {p : α → Bool} {b : α} (c : p b = true) : [b].filter p = [b] := by
  rw [List.filter_cons_of_pos c, List.filter_nil]
theorem filt_n {α : Type} {p : α → Bool} {b : α} (c : ¬ p b = true) : [b].filter p = [] := by
  rw [List.filter_cons_of_neg c, List.filter_nil]
/-- an expression with a word behind it: what follows is shown once -/
def tMid (te : TE) : TE := fun σ H Q => ∃ Mid : V → Hp → Prop, te σ H Mid ∧ ∀ v H', Mid v H' → Q v H'
theorem pe_mid {X : Cx} {e : Expr} {te : TE} (h : PE X e te) : PE X e (tMid te) :=
  ⟨fun pins s σ H Q I ⟨Mid, h1, h2⟩ => thn (h.run pins s σ H Mid I h1) fun v s1 ⟨x, H1, I1, r1, q1⟩ => ⟨x, H1, I1, r1, h2 _ _ q1⟩⟩
/-! a reading's first step, by its name -/
theorem un_seq {t u : TS} {D : Ends} {σ : L2.St} {H : Hp} (h : t { D with nx := u D } σ H) : tSeq t u D σ H := h
theorem un_if {r : R2} {a b : TE} {t u : TS} {D : Ends} {σ : L2.St} {H : Hp} (h : a σ H fun x H1 => b σ H1 fun y H2 => r x y H2 fun v H3 => ∃ k, v = .bl k ∧ if k = true then t D σ H3 else u D σ H3) : tIfS (tTest (tOp r a b)) t u D σ H := h
theorem un_asg {te : TE} {g : TG} {D : Ends} {σ : L2.St} {H : Hp} (h : te σ H fun x H1 => g x σ H1 D.nx) : tAsg te g D σ H := h
theorem un_for {wi : TI} {g : TG} {tb : TS} {D : Ends} {σ : L2.St} {H : Hp} (h : wi σ H fun J H1 => ∃ W : Nat → Nat → L2.St → Hp → Prop, (∃ m, W 0 m σ H1) ∧ ∀ i m σ H, W i m σ H →
  (J.stop i H ∧ D.nx σ H) ∨ (J.go i H ∧ ∃ N : L2.St → Hp → Prop, (∀ σ' H', N σ' H' → ∃ m', m' < m ∧ W (i + 1) m' σ' H') ∧ ∀ x H', J.yld i H x H' → g x σ H' fun σ2 H2 => tb { D with nx := N, ct := N, bk := D.nx } σ2 H2)) : tFor wi g tb D σ H := h
theorem cut_low {xs : List V} {j : Nat} {z : Int} (e : z = (j : Int)) (h : j ≤ xs.length) : cutV xs (some z) none = xs.drop j := by
  rw [e]
  exact cut_from h
theorem cut_high {xs : List V} {j : Nat} {z : Int} (e : z = (j : Int)) (h : j ≤ xs.length) : cutV xs none (some z) = xs.take j := by
  rw [e]
  exact cut_to h
end Lt

set_option Elab.async false
set_option linter.all false
set_option maxRecDepth 100000
set_option maxHeartbeats 4000000
namespace Lt
open PySem PySem.Spec PyProof.Rows L2
/-! ### neighbours that differ -/
def adj : List Str → Nat
  | [] => 0
  | [_] => 0
  | x :: y :: r => (if x = y then 0 else 1) + adj (y :: r)
theorem adj_append : ∀ (l : List Str) (x : Str) (r : List Str), adj (l ++ x :: r) = adj (l ++ [x]) + adj (x :: r)
  | [], x, r => by
    show adj (x :: r) = adj [x] + _
    exact (Nat.zero_add _).symm
  | [a], x, r => by
    show (if a = x then 0 else 1) + adj (x :: r) = ((if a = x then 0 else 1) + 0) + _
    rw [Nat.add_zero]
  | a :: b :: l, x, r => by
    show (if a = b then 0 else 1) + adj (b :: l ++ x :: r) = ((if a = b then 0 else 1) + adj (b :: l ++ [x])) + _
    rw [adj_append (b :: l) x r, Nat.add_assoc]
theorem adj_reverse : ∀ l : List Str, adj l.reverse = adj l
  | [] => rfl
  | [_] => rfl
  | x :: y :: r => by
    have e : (x :: y :: r).reverse = r.reverse ++ y :: [x] := by simp
    have e2 : (y :: r).reverse = r.reverse ++ [y] := by simp
    rw [e, adj_append, ← e2, adj_reverse (y :: r)]
    show _ + ((if y = x then 0 else 1) + 0) = (if x = y then 0 else 1) + _
    by_cases c : x = y
    · rw [if_pos c, if_pos c.symm]
      omega
    · rw [if_neg c, if_neg fun z => c z.symm]
      omega
/-- around: the last one ahead of the first -/
def cyc (l : List Str) : Nat := match l.getLast? with
  | none => 0
  | some z => adj (z :: l)
theorem cyc_snoc (l : List Str) (z : Str) : cyc (l ++ [z]) = adj (z :: (l ++ [z])) := by
  unfold cyc
  rw [List.getLast?_concat]
theorem snoc_of {l : List Str} (h : l ≠ []) : ∃ m z, l = m ++ [z] := ⟨l.dropLast, l.getLast h, (List.dropLast_concat_getLast h).symm⟩
theorem cyc_turn (u v : List Str) : cyc (u ++ v) = cyc (v ++ u) := by
  by_cases hu : u = []
  · rw [hu, List.append_nil]
    rfl
  by_cases hv : v = []
  · rw [hv, List.append_nil]
    rfl
  obtain ⟨u', p, rfl⟩ := snoc_of hu
  obtain ⟨v', q, rfl⟩ := snoc_of hv
  have e1 : (u' ++ [p]) ++ (v' ++ [q]) = (u' ++ [p] ++ v') ++ [q] := by simp
  have e2 : (v' ++ [q]) ++ (u' ++ [p]) = (v' ++ [q] ++ u') ++ [p] := by simp
  rw [e1, e2, cyc_snoc, cyc_snoc]
  have f1 : q :: (u' ++ [p] ++ v' ++ [q]) = (q :: u') ++ p :: (v' ++ [q]) := by simp
  have f2 : p :: (v' ++ [q] ++ u' ++ [p]) = (p :: v') ++ q :: (u' ++ [p]) := by simp
  rw [f1, f2, adj_append (q :: u') p, adj_append (p :: v') q]
  show adj (q :: u' ++ [p]) + adj (p :: v' ++ [q]) = adj (p :: v' ++ [q]) + adj (q :: u' ++ [p])
  exact Nat.add_comm _ _
theorem cyc_back (l : List Str) : cyc l.reverse = cyc l := by
  cases l with
  | nil => rfl
  | cons a r =>
    obtain ⟨m, z, e⟩ := snoc_of (l := a :: r) (by simp)
    have e1 : (a :: r).reverse = r.reverse ++ [a] := by simp
    rw [e1, cyc_snoc]
    have e2 : cyc (a :: r) = adj (z :: a :: r) := by
      conv =>
        lhs
        rw [e, cyc_snoc, ← e]
    have e3 : (z :: a :: r).reverse = r.reverse ++ a :: [z] := by simp
    have e4 : a :: (r.reverse ++ [a]) = a :: (a :: r).reverse := by simp
    rw [e2, ← adj_reverse (z :: a :: r), e3, adj_append, e4]
    have e5 : (a :: r).reverse = z :: m.reverse := by rw [e]; simp
    have e6 : adj (r.reverse ++ [a]) = adj (z :: m.reverse) := by rw [← e5]; simp
    rw [e6, e5]
    show (if a = z then 0 else 1) + _ = _ + ((if a = z then 0 else 1) + 0)
    omega
/-! ### two books alone -/
theorem asPair_swap (a b : Str) : asPair (a, b) = asPair (b, a) := by
  unfold asPair
  by_cases c : ltS a b
  · rw [if_pos c, if_neg (ltS_asymm c)]
  · rw [if_neg c]
    by_cases d : ltS b a
    · rw [if_pos d]
    · rw [if_neg d, ltS_tri c d]
theorem asPair_eq {a b c d : Str} (h : asPair (a, b) = asPair (c, d)) : (a = c ∧ b = d) ∨ (a = d ∧ b = c) := by
  unfold asPair at h
  by_cases c1 : ltS a b
  · rw [if_pos c1] at h
    by_cases c2 : ltS c d
    · rw [if_pos c2] at h
      exact .inl ⟨(Prod.mk.inj h).1, (Prod.mk.inj h).2⟩
    · rw [if_neg c2] at h
      exact .inr ⟨(Prod.mk.inj h).1, (Prod.mk.inj h).2⟩
  · rw [if_neg c1] at h
    by_cases c2 : ltS c d
    · rw [if_pos c2] at h
      exact .inr ⟨(Prod.mk.inj h).2, (Prod.mk.inj h).1⟩
    · rw [if_neg c2] at h
      exact .inl ⟨(Prod.mk.inj h).2, (Prod.mk.inj h).1⟩
def two (x y : Str) (l : List Str) : List Str := l.filter fun z => decide (z = x ∨ z = y)
theorem two_append (x y : Str) (a b : List Str) : two x y (a ++ b) = two x y a ++ two x y b := List.filter_append ..
theorem two_in {x y b : Str} (h : b = x ∨ b = y) (r : List Str) : two x y (b :: r) = b :: two x y r := List.filter_cons_of_pos (by simpa using h)
theorem two_out {x y b : Str} (h : ¬ (b = x ∨ b = y)) (r : List Str) : two x y (b :: r) = two x y r := List.filter_cons_of_neg (by simpa using h)
theorem two_mem {x y z : Str} {l : List Str} : z ∈ two x y l ↔ z ∈ l ∧ (z = x ∨ z = y) := by
  unfold two
  rw [List.mem_filter, decide_eq_true_iff]
theorem cnt_append (a b : List (Str × Str)) (q : Str × Str) : cnt (a ++ b) q = cnt a q + cnt b q := by
  unfold cnt
  rw [List.filter_append, List.length_append]
theorem two_lay {bs : List Str} (nd : bs.Nodup) (x y b : Str) : two x y (lay bs b) = (if b = x ∨ b = y then [b] else []) ++ (two x y bs).filter fun z => decide (z ≠ b) := by
  rw [lay_filter nd]
  have e : two x y (bs.filter fun z => decide (z ≠ b)) = (two x y bs).filter fun z => decide (z ≠ b) := by
    unfold two
    rw [List.filter_filter, List.filter_filter]
    apply List.filter_congr
    intro z _
    exact Bool.and_comm _ _
  by_cases c : b = x ∨ b = y
  · rw [two_in c, if_pos c, e]
    rfl
  · rw [two_out c, if_neg c, e]
    rfl
/-- how often both are in a passing of b -/
theorem cnt_over {bs : List Str} {b t o : Str} (h : b = t) (ne : t ≠ o) : ∀ l : List Str, (cnt (l.map fun z => (b, z)) (asPair (t, o))) = (l.filter fun z => decide (z = o)).length := by
  subst h
  intro l
  unfold cnt
  rw [List.filter_map, List.length_map]
  congr 1
  apply List.filter_congr
  intro z _
  show decide (asPair (b, z) = asPair (b, o)) = decide (z = o)
  rw [decide_eq_decide]
  constructor
  · intro e
    rcases asPair_eq e with ⟨_, e⟩ | ⟨e, _⟩
    · exact e
    · exact absurd e ne
  · intro e
    rw [e]
theorem cnt_none {x y b : Str} (h : ¬ (b = x ∨ b = y)) : ∀ l : List Str, cnt (l.map fun z => (b, z)) (asPair (x, y)) = 0 := by
  intro l
  unfold cnt
  rw [List.length_eq_zero_iff, List.filter_eq_nil_iff]
  intro r hr
  obtain ⟨z, _, rfl⟩ := List.mem_map.mp hr
  intro e
  rcases asPair_eq (of_decide_eq_true e) with ⟨e, _⟩ | ⟨e, _⟩
  · exact h (.inl e)
  · exact h (.inr e)
theorem filter_two {x y t : Str} (h : t = x ∨ t = y) (l : List Str) : (l.filter fun z => decide (z = t)) = (two x y l).filter fun z => decide (z = t) := by
  unfold two
  rw [List.filter_filter]
  apply List.filter_congr
  intro z _
  by_cases c : z = t
  · rw [decide_eq_true c, c, decide_eq_true h]
    rfl
  · rw [decide_eq_false c]
    rfl
theorem cnt_two {x y : Str} (ne : x ≠ y) : ∀ (rs : List Str) {bs : List Str} {t o : Str}, bs.Nodup → two x y bs = [t, o] → (∀ b ∈ rs, b ∈ bs) → cnt (rowsM bs rs) (asPair (x, y)) = adj (t :: two x y rs)
  | [], bs, t, o, nd, e, h => rfl
  | b :: r, bs, t, o, nd, e, h => by
    have hb := h b List.mem_cons_self
    have p := lay_perm hb
    have nd2 : (lay bs b).Nodup := p.nodup_iff.mpr nd
    have h2 : ∀ c ∈ r, c ∈ lay bs b := fun c hc => p.mem_iff.mpr (h c (List.mem_cons_of_mem _ hc))
    have tm : t = x ∨ t = y := (two_mem.mp (by rw [e]; exact List.mem_cons_self)).2
    have om : o = x ∨ o = y := (two_mem.mp (by rw [e]; exact List.mem_cons_of_mem _ List.mem_cons_self)).2
    have nto : t ≠ o := by
      have z : (two x y bs).Nodup := nd.filter _
      rw [e] at z
      have z2 := (List.nodup_cons.mp z).1
      intro c
      exact z2 (by rw [c]; exact List.mem_cons_self)
    have ap : asPair (x, y) = asPair (t, o) := by
      rcases tm with rfl | rfl
      · rcases om with rfl | rfl
        · exact absurd rfl nto
        · rfl
      · rcases om with rfl | rfl
        · exact asPair_swap _ _
        · exact absurd rfl nto
    show cnt ((over bs b).map (fun z => (b, z)) ++ rowsM (lay bs b) r) (asPair (x, y)) = _
    rw [cnt_append]
    obtain ⟨es, nover⟩ := split_at hb
    have es2 : two x y (over bs b) ++ two x y (b :: bs.drop (bs.idxOf b + 1)) = [t, o] := by
      rw [← two_append, ← e]
      exact congrArg (two x y) es.symm
    have nov : b ∉ two x y (over bs b) := fun z => nover (two_mem.mp z).1
    by_cases c : b = x ∨ b = y
    · rw [two_in c] at es2 ⊢
      have bto : b = t ∨ b = o := by
        have z : b ∈ two x y bs := two_mem.mpr ⟨hb, c⟩
        rw [e] at z
        rcases List.mem_cons.mp z with z | z
        · exact .inl z
        · exact .inr (List.mem_singleton.mp z)
      rcases bto with rfl | rfl
      · have z0 : two x y (over bs b) = [] := by
          cases q : two x y (over bs b) with
          | nil => rfl
          | cons a l =>
            rw [q] at es2 nov
            have z := (List.cons.inj es2).1
            exact absurd (by rw [z]; exact List.mem_cons_self) nov
        have l2 : two x y (lay bs b) = [b, o] := by
          rw [two_lay nd, if_pos c, e, List.filter_cons_of_neg (by simp), List.filter_cons_of_pos (by simpa using nto.symm)]
          rfl
        rw [cnt_two ne r nd2 l2 h2, ap, cnt_over (bs := bs) rfl nto, filter_two om, z0]
        show 0 + _ = (if b = b then 0 else 1) + _
        rw [if_pos rfl]
      · have z0 : two x y (over bs b) = [t] := by
          cases q : two x y (over bs b) with
          | nil =>
            rw [q] at es2
            exact absurd (List.cons.inj es2).1.symm nto
          | cons a l =>
            rw [q] at es2 nov
            have z := List.cons.inj es2
            cases l with
            | nil => rw [z.1]
            | cons a2 l2 =>
              have z2 := (List.cons.inj z.2).1
              exact absurd (by rw [← z2]; exact List.mem_cons_of_mem _ List.mem_cons_self) nov
        have l2 : two x y (lay bs b) = [b, t] := by
          rw [two_lay nd, if_pos c, e, List.filter_cons_of_pos (by simpa using nto), List.filter_cons_of_neg (by simp)]
          rfl
        rw [cnt_two ne r nd2 l2 h2, ap, asPair_swap, cnt_over (bs := bs) rfl nto.symm, filter_two tm, z0, List.filter_cons_of_pos (by simp)]
        show 1 + _ = (if t = b then 0 else 1) + _
        rw [if_neg nto]
    · have l2 : two x y (lay bs b) = [t, o] := by
        rw [two_lay nd, if_neg c, e, List.filter_cons_of_pos (by simpa using fun z : t = b => c (z ▸ tm)), List.filter_cons_of_pos (by simpa using fun z : o = b => c (z ▸ om))]
        rfl
      rw [two_out c, cnt_two ne r nd2 l2 h2, cnt_none c, Nat.zero_add]
end Lt

set_option Elab.async false
set_option linter.all false
set_option maxRecDepth 100000
set_option maxHeartbeats 4000000
namespace Lt
open PySem PySem.Spec PyProof.Rows L2
/-! ### the rows of readings -/
theorem rows_in : ∀ {bs : List Str} (rs : List Str), (∀ b ∈ rs, b ∈ bs) → ∀ z ∈ rowsM bs rs, z.1 ∈ bs ∧ z.2 ∈ bs ∧ z.1 ≠ z.2
  | bs, [], _, z, hz => by cases hz
  | bs, b :: r, h, z, hz => by
    have hb := h b List.mem_cons_self
    have p := lay_perm hb
    have hz2 : z ∈ (over bs b).map (fun o => (b, o)) ++ rowsM (lay bs b) r := hz
    rcases List.mem_append.mp hz2 with hz | hz
    · obtain ⟨o, ho, rfl⟩ := List.mem_map.mp hz
      exact ⟨hb, over_mem ho, (over_ne ho).symm⟩
    · obtain ⟨q1, q2, q3⟩ := rows_in (bs := lay bs b) r (fun c hc => p.mem_iff.mpr (h c (List.mem_cons_of_mem _ hc))) z hz
      exact ⟨p.mem_iff.mp q1, p.mem_iff.mp q2, q3⟩
/-! ### which of both lies above -/
def lastOf (t : Str) : List Str → Str
  | [] => t
  | z :: r => lastOf z r
theorem lastOf_get : ∀ (l : List Str) (t : Str), l ≠ [] → l.getLast? = some (lastOf t l)
  | [z], t, _ => rfl
  | z :: y :: r, t, _ => by
    rw [List.getLast?_cons_cons]
    exact lastOf_get (y :: r) z (by simp)
theorem two_behind {x y : Str} : ∀ (rs : List Str) {bs : List Str} {t o : Str}, bs.Nodup → two x y bs = [t, o] → (∀ b ∈ rs, b ∈ bs) → ∃ o', two x y (behindM bs rs) = [lastOf t (two x y rs), o']
  | [], bs, t, o, nd, e, h => ⟨o, e⟩
  | b :: r, bs, t, o, nd, e, h => by
    have hb := h b List.mem_cons_self
    have p := lay_perm hb
    have nd2 : (lay bs b).Nodup := p.nodup_iff.mpr nd
    have h2 : ∀ c ∈ r, c ∈ lay bs b := fun c hc => p.mem_iff.mpr (h c (List.mem_cons_of_mem _ hc))
    have tm : t = x ∨ t = y := (two_mem.mp (by rw [e]; exact List.mem_cons_self)).2
    have om : o = x ∨ o = y := (two_mem.mp (by rw [e]; exact List.mem_cons_of_mem _ List.mem_cons_self)).2
    have nto : t ≠ o := by
      have z : (two x y bs).Nodup := nd.filter _
      rw [e] at z
      have z2 := (List.nodup_cons.mp z).1
      intro c
      exact z2 (by rw [c]; exact List.mem_cons_self)
    show ∃ o', two x y (behindM (lay bs b) r) = _
    by_cases c : b = x ∨ b = y
    · rw [two_in c]
      have bto : b = t ∨ b = o := by
        have z : b ∈ two x y bs := two_mem.mpr ⟨hb, c⟩
        rw [e] at z
        rcases List.mem_cons.mp z with z | z
        · exact .inl z
        · exact .inr (List.mem_singleton.mp z)
      rcases bto with rfl | rfl
      · have l2 : two x y (lay bs b) = [b, o] := by
          rw [two_lay nd, if_pos c, e, List.filter_cons_of_neg (by simp), List.filter_cons_of_pos (by simpa using nto.symm)]
          rfl
        exact two_behind r nd2 l2 h2
      · have l2 : two x y (lay bs b) = [b, t] := by
          rw [two_lay nd, if_pos c, e, List.filter_cons_of_pos (by simpa using nto), List.filter_cons_of_neg (by simp)]
          rfl
        exact two_behind r nd2 l2 h2
    · have l2 : two x y (lay bs b) = [t, o] := by
        rw [two_lay nd, if_neg c, e, List.filter_cons_of_pos (by simpa using fun z : t = b => c (z ▸ tm)), List.filter_cons_of_pos (by simpa using fun z : o = b => c (z ▸ om))]
        rfl
      rw [two_out c]
      exact two_behind r nd2 l2 h2
theorem two_pile : ∀ {bs : List Str} {x y : Str}, bs.Nodup → x ≠ y → x ∈ bs → y ∈ bs → ∃ t o, two x y bs = [t, o] := by
  intro bs x y nd ne hx hy
  have nd2 : (two x y bs).Nodup := nd.filter _
  have p : (two x y bs).Perm [x, y] := by
    refine (List.perm_ext_iff_of_nodup nd2 ?_).mpr fun z => ?_
    · simp [ne]
    · rw [two_mem]
      constructor
      · rintro ⟨_, rfl | rfl⟩
        · exact List.mem_cons_self
        · exact List.mem_cons_of_mem _ List.mem_cons_self
      · intro h
        rcases List.mem_cons.mp h with rfl | h
        · exact ⟨hx, .inl rfl⟩
        · obtain rfl := List.mem_singleton.mp h
          exact ⟨hy, .inr rfl⟩
  have l := p.length_eq
  match q : two x y bs, l with
  | [t, o], _ => exact ⟨t, o, rfl⟩
/-- on each later day two books pass one another as often as they change around -/
theorem day_cyc {ns rs : List Str} {x y : Str} (nd : ns.Nodup) (h : ∀ b ∈ rs, b ∈ ns) (hx : x ∈ rs) (hy : y ∈ ns) (ne : x ≠ y) : cnt (rowsM (behindM ns rs) rs) (asPair (x, y)) = cyc (two x y rs) := by
  obtain ⟨t, o, e⟩ := two_pile nd ne (h x hx) hy
  obtain ⟨o', e'⟩ := two_behind rs nd e h
  have pm := behindM_perm rs h
  rw [cnt_two ne rs (pm.nodup_iff.mpr nd) e' fun b hb => pm.mem_iff.mpr (h b hb)]
  have some1 : two x y rs ≠ [] := fun z => by
    have q : x ∈ two x y rs := two_mem.mpr ⟨hx, .inl rfl⟩
    rw [z] at q
    cases q
  unfold cyc
  rw [lastOf_get _ t some1]
theorem prs_at {ys : List Str} : ∀ {n : Nat} {q : Str × Str}, q ∈ prs ys n → ∃ i j : Nat, i < j ∧ ys[i]? = some q.1 ∧ ys[j]? = some q.2
  | 0, q, h => by cases h
  | n + 1, q, h => by
    cases e : ys[n]? with
    | none =>
      have e2 : prs ys (n + 1) = prs ys n ++ (match ys[n]? with | some a => (ys.drop (n + 1)).map fun b => (a, b) | none => []) := rfl
      rw [e2, e, List.append_nil] at h
      exact prs_at h
    | some a =>
      rw [prs_succ e] at h
      rcases List.mem_append.mp h with h | h
      · exact prs_at h
      · obtain ⟨b, hb, rfl⟩ := List.mem_map.mp h
        obtain ⟨k, hk⟩ := List.getElem?_of_mem hb
        rw [List.getElem?_drop] at hk
        exact ⟨n, n + 1 + k, by omega, e, hk⟩
theorem prs_pair {ys : List Str} (nd : ys.Nodup) (so : sortedS ys = true) {n : Nat} {q : Str × Str} (h : q ∈ prs ys n) : asPair (q.1, q.2) = q ∧ q.1 ≠ q.2 ∧ q.1 ∈ ys ∧ q.2 ∈ ys := by
  obtain ⟨i, j, lt, e1, e2⟩ := prs_at h
  obtain ⟨l1, f1⟩ := List.getElem?_eq_some_iff.mp e1
  obtain ⟨l2, f2⟩ := List.getElem?_eq_some_iff.mp e2
  have ne : q.1 ≠ q.2 := fun z => by
    rw [← z] at e2
    have := nd_ix nd e1 e2
    omega
  have pw := List.pairwise_iff_getElem.mp (sorted_pw so) i j l1 l2 lt
  rw [f1, f2] at pw
  refine ⟨?_, ne, List.mem_of_getElem? e1, List.mem_of_getElem? e2⟩
  unfold asPair
  by_cases c : ltS q.1 q.2
  · rw [if_pos c]
  · exact absurd (ltS_tri c pw) ne
/-- days that change around alike -/
theorem day_cnt {ns rs rs' ys : List Str} (nd : ns.Nodup) (h : ∀ b ∈ rs, b ∈ ns) (h' : ∀ b ∈ rs', b ∈ ns) (all : ∀ b ∈ ns, b ∈ rs) (all' : ∀ b ∈ ns, b ∈ rs') (c : ∀ x y, cyc (two x y rs') = cyc (two x y rs)) (py : ys.Perm ns) (so : sortedS ys = true) :
    ∀ q ∈ prs ys ys.length, cnt (rowsM (behindM ns rs') rs') q = cnt (rowsM (behindM ns rs) rs) q := by
  intro q hq
  obtain ⟨e, ne, m1, m2⟩ := prs_pair (py.nodup_iff.mpr nd) so hq
  have n1 := py.mem_iff.mp m1
  have n2 := py.mem_iff.mp m2
  rw [← e, day_cyc nd h' (all' _ n1) n2 ne, day_cyc nd h (all _ n1) n2 ne, c]
theorem day_sum {ns rs ys : List Str} (nd : ns.Nodup) (h : ∀ b ∈ rs, b ∈ ns) (py : ys.Perm ns) (so : sortedS ys = true) : (liftedM ns rs).sum = ((prs ys ys.length).map fun q => cnt (rowsM ns rs) q).sum := by
  rw [cnt_sum (prs_nodup (py.nodup_iff.mpr nd) ys.length) (rowsM ns rs) fun r hr => ?_, rows_count rs h]
  obtain ⟨z1, z2, z3⟩ := rows_in rs h r hr
  exact pair_in py so z1 z2 z3
theorem turn_cyc (rs : List Str) (k : Nat) (x y : Str) : cyc (two x y (rs.drop k ++ rs.take k)) = cyc (two x y rs) := by
  rw [two_append, cyc_turn, ← two_append, List.take_append_drop]
theorem back_cyc (rs : List Str) (x y : Str) : cyc (two x y rs.reverse) = cyc (two x y rs) := by
  have e : two x y rs.reverse = (two x y rs).reverse := List.filter_reverse ..
  rw [e, cyc_back]
/-! ### days done again -/
theorem day_again {bs rs : List Str} (nd : bs.Nodup) (h : ∀ b ∈ rs, b ∈ bs) : behindM (behindM bs rs) rs = behindM bs rs := by
  have pm := behindM_perm rs h
  rw [behind_is (pm.nodup_iff.mpr nd) rs fun b hb => pm.mem_iff.mpr (h b hb)]
  rw [behind_is nd rs h, List.filter_append, List.filter_filter]
  have e1 : (nub rs.reverse).filter (fun z => decide (z ∉ rs)) = [] := by
    rw [List.filter_eq_nil_iff]
    intro z hz
    have := List.mem_reverse.mp ((nub_mem _ _).mp hz)
    simpa using this
  rw [e1, List.nil_append]
  congr 1
  apply List.filter_congr
  intro z _
  rw [Bool.and_self]
theorem lifted_low (rest : List Str) : ∀ (rs : List Str) {l : List Str}, (∀ b ∈ rs, b ∈ l) → liftedM (l ++ rest) rs = liftedM l rs
  | [], l, _ => rfl
  | b :: r, l, h => by
    have hb := h b List.mem_cons_self
    have p := lay_perm hb
    show (l ++ rest).idxOf b :: liftedM (lay (l ++ rest) b) r = l.idxOf b :: liftedM (lay l b) r
    have e1 : (l ++ rest).idxOf b = l.idxOf b := by rw [List.idxOf_append, if_pos hb]
    have e2 : lay (l ++ rest) b = lay l b ++ rest := by
      unfold lay
      rw [e1, List.eraseIdx_append_of_lt_length (idx_lt hb)]
      rfl
    rw [e1, e2, lifted_low rest r fun c hc => p.mem_iff.mpr (h c (List.mem_cons_of_mem _ hc))]
theorem day_each {bs ns rs : List Str} (nd : bs.Nodup) (nn : ns.Nodup) (h : ∀ b ∈ rs, b ∈ bs) (h2 : ∀ b ∈ rs, b ∈ ns) (all : ∀ b ∈ ns, b ∈ rs) : liftedM (behindM bs rs) rs = liftedM (behindM ns rs) rs := by
  rw [behind_is nd rs h, behind_is nn rs h2]
  have e : (ns.filter fun z => decide (z ∉ rs)) = [] := by
    rw [List.filter_eq_nil_iff]
    intro z hz
    simpa using all z hz
  rw [e, List.append_nil]
  exact lifted_low _ rs fun b hb => (nub_mem _ _).mpr (List.mem_reverse.mpr hb)
end Lt

set_option Elab.async false
set_option linter.all false
set_option maxRecDepth 100000
set_option maxHeartbeats 4000000
/-! tuple(x for x, y in t), t a tuple of pairs: over the library's generator expressions of two names. -/
namespace Lt
open PySem PySem.Spec PyProof.Rows L2
section
variable {prog : Program} {w : World} {A : Around}
/-- a walk of one-value steps whose values are tuples that stand all the while -/
theorem walk_tups {I : Addr} {fp wr : List Addr} {n : Nat} {Pv : Nat → Value → Prop} {St : Nat → Heap → Prop} (W : Walks prog w A I fp wr n Pv St) (Ts : Nat → Addr) (us : Nat → Array Value)
    (is : ∀ i v, i < n → Pv i v → v = .ref (Ts i)) (off : ∀ i, i < n → Ts i ∉ wr)
    (free : ∀ (e : Expr) i v (s : Shared) (Q : Unit → Shared → Prop) E, St i s.heap → Q () s → wpAny (model prog w) A (letOwnedTupleGo e (.ref I) v) Q E s) :
    WalksU prog w A I (fp ++ (List.range n).map Ts) wr n (fun j a => j < n ∧ a = us j) (fun j h => St j h ∧ ∀ k, k < n → h.IsTuple (Ts k) (us k)) (fun j T h => (j < n ∧ T = Ts j) ∧ St (j + 1) h ∧ ∀ k, k < n → h.IsTuple (Ts k) (us k)) where
  sub := fun b hb => List.mem_append_left _ (W.sub b hb)
  frame := fun i h h' st k => ⟨W.frame i h h' st.1 fun b hb o e => k b (List.mem_append_left _ hb) o e,
    fun j hj => (st.2 j hj).at fun o e => k _ (List.mem_append_right _ (List.mem_map.mpr ⟨j, List.mem_range.mpr hj, rfl⟩)) o e⟩
  item := fun i s Q E hi st q => W.item i s Q E hi st.1 fun v h' tk pv st' k => by
    have tups : ∀ j, j < n → h'.IsTuple (Ts j) (us j) := fun j hj => (st.2 j hj).at fun o e => k _ o (off j hj) e
    rw [is i v hi pv]
    exact q (Ts i) (us i) h' tk ⟨hi, rfl⟩ (tups i hi) ⟨⟨hi, rfl⟩, st', tups⟩ k
  go := fun es k pos i T s Q E mid q => free _ (i + 1) _ s Q E mid.2.1 (q s.heap mid.2 fun _ _ _ e => e)
  apart := fun i T h mid => by
    rw [mid.1.2]
    exact off i mid.1.1
  done := fun s Q E st q => W.done s Q E st.1 q
  self := fun i s Q E st q => W.self i s Q E st.1 q
end
section
variable {X : Cx} {pins : List (Addr × Obj)} {σ : L2.St} {H : Hp} {s : Shared}
/-- the code object of a generator expression in a def whose table is at P, and where its builtins stand -/
theorem gen_code {c P : Addr} {ps : Array Value} {gpos : Pos} {qn : Str} {scope : Scope} {o : Obj} {E : Value → Shared → Prop} {B : Value → Addr → Shared → Prop} (inv : Inv X pins σ H s) (TB : GxR.TabB X.base X.mg c P) (hc : X.env.code = .ref c)
    (hP : H P = some (.tbl ps)) (ht : TriplesOk ps.toList)
    (go : ∀ (code : Value) (h3 : Heap) (tk : Nat) (more : Array Value), Heap.ExtBut P (s.heap.push o) h3 → s.heap.objs.size + 1 ≤ h3.objs.size → h3.get? P = some { cls := .none, data := .fields (ps ++ more) } → TriplesOk (ps ++ more).toList →
      B code builtinsNs { s with heap := h3, toks := tk }) :
    wpAny (model X.prog X.w) X.A (genexprCode X.env gpos qn scope) (fun code s3 => wpAny (model X.prog X.w) X.A (builtinsFor X.env.globals X.env.builtins) (B code) E s3) E { s with heap := s.heap.push o } := by
  have at0 : s.heap.get? P = some (PySem.W.tabObj ps) := inv.hok P _ hP
  have at1 : (s.heap.push o).get? P = some (PySem.W.tabObj ps) := Heap.get?_push_of_some _ at0
  have head : PySem.W.CodeHd (s.heap.push o) c P := TB.code.keeps fun b u e => Heap.get?_push_of_some _ (inv.bk b u e)
  have big : (s.heap.push o).objs.size = s.heap.objs.size + 1 := Heap.size_push ..
  have bis : ∀ (code : Value) (h3 : Heap) (tk : Nat), Heap.ExtBut P (s.heap.push o) h3 → B code builtinsNs { s with heap := h3, toks := tk } →
      wpAny (model X.prog X.w) X.A (builtinsFor X.env.globals X.env.builtins) (B code) E { s with heap := h3, toks := tk } := by
    intro code h3 tk ext b
    obtain ⟨bm, ob, b1, b2, _, b4, b5, b6, b7, b8⟩ := TB.bm
    refine wpAny_builtinsFor (m := X.mg) ?_ b1 b2 (ext _ _ b4 (Heap.get?_push_of_some _ (inv.bk _ _ b5))) b6 b7 b8 b
    rw [inv.ok.glob]
    exact ((inv.mod.glob.keeps inv.bk).push o).extBut ext TB.gP
  cases found : codeAmong gpos ps.toList with
  | some cv => exact wpAny_genexprCode_hit hc (head.code at1 ht) found (bis cv _ s.toks (.refl _ _) (go cv _ s.toks #[] (.refl _ _) (Nat.le_of_eq big.symm) (by rw [Array.append_empty]; exact at1) (by rw [Array.append_empty]; exact ht)))
  | none =>
    refine wpAny_genexprCodeX hc (head.code at1 ht) (head.tab at1) found fun c' h3 tk ext ge lt isc _ tab _ => ?_
    obtain ⟨_, _, _, _, _, _, _, _, _, _, _, _, _, _, _, _, _, _, _, tri, _⟩ := isc
    exact bis _ h3 tk ext (go _ h3 tk _ ext (by rw [← big]; exact Nat.le_trans ge (Nat.le_of_lt lt)) tab.2 tri)
/-- its own scope: two names, the walked thing -/
def GenTwo (scope : Scope) (x y : Str) : Prop := scope.kind = .function ∧ scope.isCoroutine = false ∧ (∀ z ∈ scope.names, z.2 = .local) ∧ scope.names.lookup (".0" : Str) = some NameKind.local ∧ scope.names.lookup x = some .local ∧ scope.names.lookup y = some .local ∧ x ≠ y
theorem vals_by : ∀ (xs : List V) (us : List Value), xs.length = us.length → (∀ (i : Nat) x u, xs[i]? = some x → us[i]? = some u → RelV x u) → Vals xs us
  | [], [], _, _ => .nil
  | [], _ :: _, l, _ => by cases l
  | _ :: _, [], l, _ => by cases l
  | x :: xs, u :: us, l, h => .cons (h 0 x u rfl rfl) (vals_by xs us (by simpa using l) fun i x u hx hu => h (i + 1) x u (by simpa using hx) (by simpa using hu))
def tTupG (K : PySem.W.Frag) (P : Addr) (te : TE) : TE := fun σ H Q => te σ H fun v H1 => ∃ (a : Addr) (ts : List Addr) (ps : List (V × V)), v = .ref a ∧ SqT K H1 a (ts.map V.ref) ∧ ts.length = ps.length ∧
  (∀ (i : Nat) (t : Addr) (p : V × V), ts[i]? = some t → ps[i]? = some p → SqT K H1 t [p.1, p.2]) ∧ GxR.TabG H1 P ∧ ∀ H2 q u, GxR.Tabbed P H1 H2 → H2 q = none → IsFz u (ps.map (·.1)) → Q (.ref q) (upd H2 q u)
theorem pe_tupG {c P : Addr} {x y : Str} {iter : Expr} {px py pt pe p pos gpos : Pos} {kt : Nat} {scope : Scope} {te : TE} {k : Nat} (hr : Room k X.A) (hg : Gl X "tuple") (hm : X.mg "tuple" = none) (TB : GxR.TabB X.base X.mg c P) (hc : X.env.code = .ref c) (S : GenTwo scope x y) (hi : PE X iter te)
    (hs : ∀ v, genFold iter X.env v = pure v := by intro _; rfl) (hd : (x == ("__debug__" : Str)) = false := by decide)
    (he : starEach [.GeneratorExp (.Name x pe) [⟨.Tuple [.Name x px, .Name y py] kt pt, iter, [], 0⟩] scope gpos] X.env = (false, eval (.GeneratorExp (.Name x pe) [⟨.Tuple [.Name x px, .Name y py] kt pt, iter, [], 0⟩] scope gpos) X.env) :: starEach [] X.env := by rfl) :
    PE X (.Call (.Name "tuple" p) [.GeneratorExp (.Name x pe) [⟨.Tuple [.Name x px, .Name y py] kt pt, iter, [], 0⟩] scope gpos] [] pos) (tTupG X.K P te) := by
  obtain ⟨kind, co, loc, dot, one, two, ne⟩ := S
  have hv : bootBuiltins ("tuple" : Str) = some (.type "tuple") := by decide +kernel
  refine ⟨fun pins s σ H Q inv h => wpAny_Call_Name_kw (ld_blt inv hg hm hv (PyProof.Rows.callWith_type1 ?_ he (by rfl)))⟩
  rw [he]
  show wpAny _ _ (spliced ((false, _) :: backTo pos (starEach [] X.env))) _ _ s
  refine Calls.spliced_cons ?_
  refine wpAny_GeneratorExp_walksQT hr.hd co (closure_ok fun z hz e => by rw [loc z hz] at e; cases e) (fun z hz e => by rw [loc z hz] at e; cases e) dot one two ne kind (by have := hr.dp; omega) ?_ hs
  refine thn (hi.run pins s σ H _ inv h) fun xv s1 ⟨v, H1, inv1, rel, q1⟩ => ?_
  obtain ⟨a, ts, ps, rfl, sq, len, each, ⟨tb, hP, ht⟩, q⟩ := q1
  cases rel
  obtain ⟨its, vals, tupA, fit⟩ := inv1.tuple sq
  have nits : its.length = ts.length := by rw [← vals.length, List.length_map]
  have pairs : ∀ i, ∃ u : Array Value, i < ts.length → ∃ (t : Addr) (p : V × V) (va vb : Value), ts[i]? = some t ∧ ps[i]? = some p ∧ u = #[va, vb] ∧ RelV p.1 va ∧ s1.heap.IsTuple t u := by
    intro i
    by_cases hi : i < ts.length
    · have e1 := List.getElem?_eq_getElem hi
      have e2 : ps[i]? = some (ps[i]'(by omega)) := List.getElem?_eq_getElem _
      obtain ⟨us, vs2, tp, _⟩ := inv1.tuple (each i _ _ e1 e2)
      obtain ⟨va, vb, rfl, r1, r2⟩ := vs2.two
      exact ⟨#[va, vb], fun _ => ⟨_, _, va, vb, e1, e2, rfl, r1, tp⟩⟩
    · exact ⟨#[], fun z => absurd z hi⟩
  obtain ⟨us, hus⟩ := Classical.axiomOfChoice pairs
  have ats : ∀ i, i < ts.length → its.toArray[i]? = some (.ref ((ts[i]?).getD 0)) ∧ s1.heap.IsTuple ((ts[i]?).getD 0) (us i) := by
    intro i hi
    obtain ⟨t, pp, va, vb, e1, e2, _, _, tp⟩ := hus i hi
    obtain ⟨u2, g1, g2⟩ := vals.get (i := i) (x := .ref t) (by rw [List.getElem?_map, e1]; rfl)
    obtain rfl : u2 = .ref t := g2
    rw [e1]
    exact ⟨by simpa using g1, tp⟩
  have sz : its.toArray.size = ts.length := by rw [List.size_toArray, nits]
  have lt1 : ∀ {b : Addr} {u : Array Value}, s1.heap.IsTuple b u → b < s1.heap.objs.size := fun t => by
    obtain ⟨o, e, _⟩ := t
    exact Heap.lt_size e
  have at0 : s1.heap.get? P = some { cls := .none, data := .fields tb } := inv1.hok P _ hP
  have ltP : P < s1.heap.objs.size := Heap.lt_size at0
  have neP : ∀ {b : Addr} {u : Array Value}, s1.heap.IsTuple b u → b ≠ P := fun t e => by
    obtain ⟨o, e1, e2, _⟩ := t
    rw [e, at0] at e1
    cases e1
    cases e2
  refine wpAny_pyIter_tuple tupA ⟨inv1.nolimit.push _, gen_code inv1 TB hc hP ht fun code h3 tk more ext big at3 tri => ?_⟩
  have keep : ∀ b u, b ≠ P → s1.heap.get? b = some u → h3.get? b = some u := fun b u nb e => ext b u nb (Heap.get?_push_of_some _ e)
  have it3 : h3.IsTupleIter s1.heap.objs.size a 0 := ⟨_, ext _ _ (Nat.ne_of_gt ltP) (Heap.get?_push_size _ rfl), rfl, rfl⟩
  have nst : cStatics ≠ P ∧ cStatics < s1.heap.objs.size := by
    obtain ⟨_, ns, _⟩ := inv1.nolimit
    refine ⟨fun e => ?_, ns.lt⟩
    obtain ⟨o', es, ep, ho, hd', _⟩ := ns
    rw [e, at0] at ho
    cases ho
    cases hd'
  have isT : s1.heap.IsTuple a its.toArray := tupA
  have tup3 : h3.IsTuple a its.toArray := isT.at fun o e => keep _ _ (neP isT) e
  have ats3 : ∀ i, i < ts.length → h3.IsTuple ((ts[i]?).getD 0) (us i) := fun i hi => (ats i hi).2.at fun o e => keep _ _ (neP (ats i hi).2) e
  have up : s1.heap.objs.size < h3.objs.size := big
  have W0 : ∀ A' : Around, A'.handled = none → WalksU X.prog X.w A' s1.heap.objs.size _ [s1.heap.objs.size] ts.length _ _ _ :=
    fun A' hA => walk_tups (sz ▸ Walks.tuple hA s1.heap.objs.size a (Nat.ne_of_lt (lt1 tupA)) its.toArray) (fun i => (ts[i]?).getD 0) us
      (fun i v hi e => Option.some.inj (e.symm.trans (ats i hi).1)) (fun i hi z => Nat.ne_of_lt (lt1 (ats i hi).2) (List.mem_singleton.mp z))
      (fun e i v s' Q' E' st q' => by
        obtain ⟨o, ho, hc', hd'⟩ := st.1
        exact letGo_of_cls ho hc' hd' (by decide) q')
  refine ⟨s1.heap.objs.size, _, [s1.heap.objs.size], ts.length, _, _, _, fun _ => true, fun i z => ∃ va vb, us i = #[va, vb] ∧ z = va, rfl, W0, ?two, ⟨⟨it3, tup3⟩, ats3⟩, ?fp, (inv1.nolimit.push _).extBut ext nst.1, fun z => Nat.ne_of_lt nst.2 (List.mem_singleton.mp z), ?quiet, ?rest⟩
  case two =>
    rintro i vs ⟨hi, rfl⟩
    obtain ⟨_, _, va, vb, _, _, e, _⟩ := hus i hi
    exact ⟨va, vb, e⟩
  case fp =>
    intro b hb
    rcases List.mem_append.mp hb with z | z
    · rcases List.mem_cons.mp z with z | z
      · rw [z]
        exact up
      · rw [List.mem_singleton.mp z]
        exact Nat.lt_trans (lt1 tupA) up
    · obtain ⟨i, hi, rfl⟩ := List.mem_map.mp z
      exact Nat.lt_trans (lt1 (ats i (List.mem_range.mp hi)).2) up
  case quiet =>
    intro href _
    refine ⟨fun A' E' i va vb s2 m2 hA hp hn ha hb hk => ?_, fun A' E' i va vb s2 m2 hA hp hz hn ha hb hk => ?_⟩
    · simp only [List.forIn_nil]
      exact wpAny_pure ⟨rfl, GxR.keeps_refl _⟩
    · exact wpAny_Name (wpAny_loadName_local kind (show scope.names.lookup x = some .local from one) hn ha ⟨⟨va, vb, hp.2.symm, rfl⟩, GxR.keeps_refl _⟩) hd
  case rest =>
    intro g h5 tk5 gs bare hag hsz keep5 W gat
    rw [GxR.passing_true, List.length_range] at W
    refine Calls.spliced_nil (call_tuple_gen W.in4_3 (fun i s9 st9 => st9.1.typeIs) gat (fun b hb => ?_) List.mem_cons_self (fun s' acc moved items => ?_) (by rw [← List.length_map (f := V.ref)]; exact fit))
    · show b < h5.objs.size
      have e5 : h5.objs.size = g + 1 := hsz
      have g3 : h3.objs.size < g := hag
      rcases List.mem_cons.mp hb with z | z
      · rw [z, e5]
        exact Nat.lt_succ_self g
      · rcases List.mem_cons.mp z with z | z
        · rw [z, e5]
          exact Nat.lt_succ_of_lt g3
        · rw [e5]
          exact Nat.lt_succ_of_lt (Nat.lt_trans (List.mem_range.mp z) g3)
    · have old : ∀ b u, s1.heap.get? b = some u → b ∉ [h3.objs.size, s1.heap.objs.size] := fun b u e hb => by
        have l := Heap.lt_size e
        rcases List.mem_cons.mp hb with z | z
        · exact Nat.lt_asymm up (by rw [← z]; exact l)
        · rw [List.mem_singleton.mp z] at l
          exact Nat.lt_irrefl _ l
      have inv2 := GxR.inv_tab (more := more) (h' := s'.heap) (g' := s'.gens) (d' := s'.drawn) (t' := s'.toks) inv1 hP (fun b u nb e => moved.heap b u (old b u e) (keep5 b u (keep b u nb e))) (moved.heap P _ (old P _ at0) (keep5 P _ at3)) (AllBare.movedS (inv1.bare.push bare) moved)
      rw [GxR.sh_eta s1 s' moved.os] at inv2
      have rels : Vals (ps.map (·.1)) acc.toList := by
        refine vals_by _ _ (by rw [List.length_map, ← len]; exact items.1.symm.trans (Array.length_toList (xs := acc)).symm) fun i v u hv hu => ?_
        obtain ⟨j, hj, va, vb, e1, rfl⟩ := items.2 i u (by simpa using hu)
        rw [List.getElem?_map] at hv
        cases e2 : ps[i]? with
        | none =>
          rw [e2] at hv
          cases hv
        | some pp =>
          rw [e2] at hv
          cases hv
          have li : i < ts.length := by
            rw [len]
            exact (List.getElem?_eq_some_iff.mp e2).1
          obtain rfl : i = j := by
            rw [List.getElem?_range li] at hj
            exact Option.some.inj hj
          obtain ⟨_, p2, va2, vb2, _, f2, f3, f4, _⟩ := hus i li
          rw [e2] at f2
          cases f2
          rw [f3] at e1
          have e3 : va2 = u := by
            have z := congrArg Array.toList e1
            simpa using (List.cons.inj z).1
          rw [← e3]
          exact f4
      have e : acc = acc.toList.toArray := by simp
      rw [e]
      exact laid_fz (s := s') inv2 rels (by rw [List.length_map, ← len, ← List.length_map (f := V.ref)]; exact fit) fun p u hp hu => q _ p u ⟨⟨_, upd_same, tri⟩, fun b nb => upd_ne nb⟩ hp hu
end
end Lt

set_option Elab.async false
set_option linter.all false
set_option maxRecDepth 100000
set_option maxHeartbeats 4000000
/-! all(e for x in t), t a tuple, e any expression of the layer, read in the generator's own frame. -/
namespace Lt
open PySem PySem.Spec PyProof.Rows L2
/-! ### the frame -/
theorem clo_nil (cells : List (Str × Addr)) : ∀ (names : List (Str × NameKind)) (acc : List (Str × Addr)), (∀ y ∈ names, y.2 ≠ .free) → cloFrom cells names acc = acc
  | [], _, _ => rfl
  | (n, k) :: r, acc, h => by
    have hk : (k == NameKind.free) = false := beq_eq_false_iff_ne.mpr (h (n, k) (List.mem_cons_self ..))
    show (if k == .free then _ else _) = acc
    rw [hk, if_neg Bool.false_ne_true]
    exact clo_nil cells r acc fun y hy => h y (List.mem_cons_of_mem _ hy)
structure GenOne (scope : Scope) (x : Str) : Prop where
  kind : scope.kind = .function
  co : scope.isCoroutine = false
  own : ∀ y ∈ scope.names, y.2 ≠ .cell ∧ y.2 ≠ .free
  dot : scope.names.lookup (".0" : Str) = some NameKind.local
  loc : scope.names.lookup x = some .local
  ne : x ≠ ".0"
abbrev gExp (elt iter : Expr) (x : Str) (px : Pos) (scope : Scope) (pos : Pos) : Expr := .GeneratorExp elt [⟨.Name x px, iter, [], 0⟩] scope pos
theorem ov_frames {A : Around} {e : Expr} {it : Value} {cenv : Env} {gs : List Comprehension} {sc : Scope} {p : Pos} {l : List Env} (h : A.frames = some l) : (A.over (.compLoop (.GeneratorExp e gs sc p) 0 it .none cenv) []).frames = some (cenv :: l) := by
  have e1 : (Code.compLoop (.GeneratorExp e gs sc p) 0 it .none cenv).envs = [cenv] := rfl
  simp only [Around.over, e1, List.map_nil, h]
  rfl
theorem ov_units {A : Around} {e : Expr} {it : Value} {cenv : Env} {gs : List Comprehension} {sc : Scope} {p : Pos} : (A.over (.compLoop (.GeneratorExp e gs sc p) 0 it .none cenv) []).units = A.units + 3 := by
  have e1 : (Code.compLoop (.GeneratorExp e gs sc p) 0 it .none cenv).cUnits = 3 := rfl
  simp only [Around.over, e1, List.map_nil]
  rfl
theorem room_gen {k : Nat} {A : Around} {e : Expr} {it : Value} {cenv : Env} {gs : List Comprehension} {sc : Scope} {p : Pos} (r : Room (k + 1) A) : Room k (A.in1.in1.over (.compLoop (.GeneratorExp e gs sc p) 0 it .none cenv) []) := by
  refine ⟨r.hd, ?_, ?_⟩
  · have := r.dp
    show A.depth + 1 + 3 * k + 5 < _
    omega
  · have := r.un
    rw [ov_units]
    show A.units + 1 + 1 + 3 + 16 * k + 200 < _
    omega
def gx (X : Cx) (A : Around) (x : Str) (scope : Scope) (C : Addr) (code : Value) (s4 : Shared) (H4 : Hp) (I : Addr) : Cx :=
  { prog := X.prog, w := X.w, K := X.K, mg := X.mg, base := X.base, A := A, N := [".0", x], s_0 := s4, H_0 := H4, env := genEnv scope [] C code builtinsNs X.env, outer := X.stack, stack := genEnv scope [] C code builtinsNs X.env :: X.stack,
    ex := [I], fn := fun _ => true, calm := true, pn := [], xe := fun _ _ => False }
theorem inv_gens {X : Cx} {pins : List (Addr × Obj)} {σ : L2.St} {H : Hp} {s : Shared} {g : Array GenState} (I : Inv X pins σ H s) (h : AllBare g) : Inv X pins σ H { s with gens := g } :=
  ⟨I.ok, I.os, h, I.base, I.loc, I.cell, I.free, I.freeC, I.pin, I.hok, I.len⟩
/-- ahead of the item i -/
def GSt (X' : Cx) (pin : Addr × Obj) (I t : Addr) (W : Nat → Hp → Prop) (i : Nat) (s : Shared) : Prop :=
  ∃ (H : Hp) (y : Option V), Inv X' [pin] [some (.ref I), y] H s ∧ W i H ∧ s.heap.IsTupleIter I t i
theorem GSt.gens {X' : Cx} {pin : Addr × Obj} {I t : Addr} {W : Nat → Hp → Prop} {i : Nat} {s : Shared} {g : Array GenState} (h : GSt X' pin I t W i s) (hg : AllBare g) : GSt X' pin I t W i { s with gens := g } := by
  obtain ⟨H, y, inv, w, it⟩ := h
  exact ⟨H, y, inv_gens inv hg, w, it⟩
def gR (X' : Cx) (pin : Addr × Obj) (I : Addr) (n : Nat) (W : Nat → Hp → Prop) : GenEnd := fun m _ r s1 => r = .ok .next ∧ m = 0 ∧ ∃ (H : Hp) (y : Option V), Inv X' [pin] [some (.ref I), y] H s1 ∧ W n H
def gY (X' : Cx) (pin : Addr × Obj) (I t : Addr) (n : Nat) (tr : Nat → Bool) (W : Nat → Hp → Prop) : Protocol := fun m _ v s kap =>
  v = .bool (tr (n - 1 - m)) ∧ GSt X' pin I t W (n - m) s ∧ ∀ g, AllBare g → kap (.send .none) { s with gens := g }
section
variable {X : Cx} {A : Around} {elt iter : Expr} {x : Str} {px pos : Pos} {scope : Scope} {C I t : Addr} {code : Value} {s4 : Shared} {H4 : Hp} {pin : Addr × Obj} {te : TE} {xs : List V} {tr : Nat → Bool} {W : Nat → Hp → Prop}
theorem gen_loop (S : GenOne scope x) (hA : A.handled = none) (nI : I < s4.heap.objs.size) (hC : C = s4.heap.objs.size) (nf : I ∉ frs X.stack) (hne : t ≠ I) (hp : pin.1 ≠ I) (hH : ∀ i H, W i H → H I = none)
    (he : PE (gx X (A.over (.compLoop (gExp elt iter x px scope pos) 0 (.ref I) .none (genEnv scope [] C code builtinsNs X.env)) []) x scope C code s4 H4 I) elt te)
    (hsq : ∀ i H, W i H → SqT X.K H t xs) (hst : ∀ (i : Nat) (H : Hp) (v : V), xs[i]? = some v → W i H → te [some (.ref I), some v] H fun y H' => y = .bl (tr i) ∧ W (i + 1) H') :
    ∀ (k i : Nat) (s₀ s : Shared), xs.length - i = k → i ≤ xs.length →
      GSt (gx X (A.over (.compLoop (gExp elt iter x px scope pos) 0 (.ref I) .none (genEnv scope [] C code builtinsNs X.env)) []) x scope C code s4 H4 I) pin I t W i s →
      Seg (model X.prog X.w) A (gR (gx X (A.over (.compLoop (gExp elt iter x px scope pos) 0 (.ref I) .none (genEnv scope [] C code builtinsNs X.env)) []) x scope C code s4 H4 I) pin I xs.length W)
        (gY (gx X (A.over (.compLoop (gExp elt iter x px scope pos) 0 (.ref I) .none (genEnv scope [] C code builtinsNs X.env)) []) x scope C code s4 H4 I) pin I t xs.length tr W) (xs.length - i) s₀
        (.compLoop (gExp elt iter x px scope pos) 0 (.ref I) .none (genEnv scope [] C code builtinsNs X.env)) ((model X.prog X.w).den (.compLoop (gExp elt iter x px scope pos) 0 (.ref I) .none (genEnv scope [] C code builtinsNs X.env))) [] s := by
  have hA' : (A.over (.compLoop (gExp elt iter x px scope pos) 0 (.ref I) .none (genEnv scope [] C code builtinsNs X.env)) []).handled = none := hA
  intro k
  induction k with
  | zero =>
    intro i s₀ s hk hi G
    have e : i = xs.length := by omega
    subst e
    obtain ⟨H, y, inv, w, it⟩ := G
    obtain ⟨its, vals, tup, fit⟩ := inv.tuple (show SqT _ H t xs from hsq _ H w)
    have len : its.toArray.size = xs.length := by rw [List.size_toArray, ← vals.length]
    show Seg _ A _ _ _ s₀ _ ((compTurn (gExp elt iter x px scope pos) 0 (.ref I) .none (genEnv scope [] C code builtinsNs X.env)).onRaise (leaving (genEnv scope [] C code builtinsNs X.env))) [] s
    rw [compTurn_gen, Sem.onRaise_eq_wrap]
    refine seg_bind_wrap (wpAny_standAt ?_)
    refine seg_bind_wrap ((Walks.tuple hA' I t hne its.toArray).done s _ _ (by rw [len]; exact ⟨it, tup⟩) fun h' tk hk' => ?_)
    refine seg_end (.ok .next) ⟨rfl, Nat.sub_self _, H, y, inv.turned (t' := tk) (it := I) (fun b o hb e => hk' b o (fun z => hb (List.mem_singleton.mp z)) e) (hH _ H w) ?_ (.inl (List.mem_singleton.mpr rfl)) (fun _ _ z => nomatch z) ?_, w⟩
    · show I ≠ C
      rw [hC]
      exact Nat.ne_of_lt nI
    · intro p hp'
      rw [show p = pin from List.mem_singleton.mp hp']
      exact hp
  | succ k ih =>
    intro i s₀ s hk hi G
    have lt : i < xs.length := by omega
    obtain ⟨H, y, inv, w, it⟩ := G
    obtain ⟨its, vals, tup, fit⟩ := inv.tuple (show SqT _ H t xs from hsq _ H w)
    have len : its.toArray.size = xs.length := by rw [List.size_toArray, ← vals.length]
    have nIC : I ≠ C := by
      rw [hC]
      exact Nat.ne_of_lt nI
    have nI0 := hH i H w
    show Seg _ A _ _ _ s₀ _ ((compTurn (gExp elt iter x px scope pos) 0 (.ref I) .none (genEnv scope [] C code builtinsNs X.env)).onRaise (leaving (genEnv scope [] C code builtinsNs X.env))) [] s
    rw [compTurn_gen, Sem.onRaise_eq_wrap]
    refine seg_bind_wrap (wpAny_standAt ?_)
    refine seg_bind_wrap ((Walks.tuple hA' I t hne its.toArray).item i s _ _ (by rw [len]; exact lt) ⟨it, tup⟩ fun v h1 tk1 pv st1 kp1 => ?_)
    have ev : its[i]? = some v := by simpa using pv
    obtain ⟨u, gu, ru⟩ := vals.get (i := i) (x := xs[i]) (List.getElem?_eq_getElem lt)
    rw [ev] at gu
    cases gu
    have inv1 := inv.turned (t' := tk1) (it := I) (h' := h1) (fun b o hb e => kp1 b o (fun z => hb (List.mem_singleton.mp z)) e) nI0 nIC (.inl (List.mem_singleton.mpr rfl)) (fun _ _ z => nomatch z)
      (fun p hp' => by rw [show p = pin from List.mem_singleton.mp hp']; exact hp)
    obtain ⟨io, hio, ic, id⟩ := st1.1
    have inv1p := inv1.pins_of (pins' := [(I, io), pin]) fun p hp' => by
      rcases List.mem_cons.mp hp' with e | hp'
      · rw [e]
        exact ⟨hio, nI0, nIC, nf, fun v z => by rw [id] at z; cases z⟩
      · exact inv1.pin p (List.mem_append_right _ hp')
    refine seg_bind_wrap (wpAny_of_eq (rfl : letOwnedTupleGo (.Name x px) (.ref I) v = pure ()) ?_)
    have nd : ([(".0" : Str), x] : List Str).Nodup := List.nodup_cons.mpr ⟨fun z => S.ne (List.mem_singleton.mp z).symm, List.nodup_cons.mpr ⟨fun z => (nomatch z), List.nodup_nil⟩⟩
    have pg : PG (gx X (A.over (.compLoop (gExp elt iter x px scope pos) 0 (.ref I) .none (genEnv scope [] C code builtinsNs X.env)) []) x scope C code s4 H4 I) (.Name x px) (gName 1) := pg_name (i := 1) nd rfl (.inl S.loc) (.inl rfl)
    refine seg_bind_wrap (wpAny_mono (pg.run [(I, io), pin] _ _ H xs[i] v (fun σ' H' => σ' = [some (.ref I), some xs[i]] ∧ H' = H) inv1p ru ⟨rfl, rfl⟩) (fun _ s2 h2 => ?_) fun _ _ z => (z : False).elim)
    obtain ⟨σ2, H2, inv2, rfl, rfl⟩ := h2
    refine seg_bind_wrap ?_
    simp only [List.forIn_nil]
    refine wpAny_pure ?_
    simp only [if_true]
    have hy : ∀ v, yieldOut (genEnv scope [] C code builtinsNs X.env) v = yieldValue v := fun v => by
      have e : (genEnv scope [] C code builtinsNs X.env).scope.isCoroutine = false := S.co
      simp only [yieldOut, e, Bool.false_eq_true, if_false]
    simp only [hy]
    rw [Sem.bind_eq_wrap', Sem.bind_eq_wrap', Sem.wrap_wrap, Sem.wrap_wrap]
    refine seg_wrap (wpAny_mono (he.run [(I, io), pin] s2 _ H2 _ inv2 (hst i H2 xs[i] (List.getElem?_eq_getElem lt) w)) (fun u3 s3 h3 => ?_) fun _ _ z => (z : False).elim)
    obtain ⟨yv, H3, inv3, rel3, rfl, w3⟩ := h3
    obtain rfl : u3 = .bool (tr i) := rel3
    have G3 : GSt (gx X (A.over (.compLoop (gExp elt iter x px scope pos) 0 (.ref I) .none (genEnv scope [] C code builtinsNs X.env)) []) x scope C code s4 H4 I) pin I t W (i + 1) s3 :=
      ⟨H3, _, inv3.pins_of fun p hp' => inv3.pin p (List.mem_append_right _ (List.mem_cons_of_mem _ hp')), w3, io, (inv3.pin (I, io) (List.mem_append_right _ (List.mem_cons_self ..))).1, ic, id⟩
    obtain ⟨m, em⟩ : ∃ m, xs.length - i = m + 1 := ⟨k, hk⟩
    rw [em]
    refine seg_at (seg_yield rfl rfl rfl ⟨?_, ?_, fun g hg => ?_⟩)
    · rw [show xs.length - 1 - m = i by omega]
    · rw [show xs.length - m = i + 1 by omega]
      exact G3
    · have z := ih (i + 1) { s3 with gens := g } { s3 with gens := g } (by omega) lt (G3.gens hg)
      rw [show xs.length - (i + 1) = m by omega] at z
      exact seg_again rfl z
theorem gen_start (hA : A.handled = none) {s₀ s : Shared} {n : Nat} {R : GenEnd} {Y : Protocol} {its : Array Value} (hne : t ≠ I) (it : s.heap.IsTupleIter I t 0) (tup : s.heap.IsTuple t its)
    (h : Seg (model X.prog X.w) A R Y n s₀ (.compLoop (gExp elt iter x px scope pos) 0 (.ref I) .none (genEnv scope [] C code builtinsNs X.env)) ((model X.prog X.w).den (.compLoop (gExp elt iter x px scope pos) 0 (.ref I) .none (genEnv scope [] C code builtinsNs X.env))) [] s) :
    Seg (model X.prog X.w) A R Y n s₀ (.compStart (gExp elt iter x px scope pos) 0 (.ref I) .none (genEnv scope [] C code builtinsNs X.env)) ((model X.prog X.w).den (.compStart (gExp elt iter x px scope pos) 0 (.ref I) .none (genEnv scope [] C code builtinsNs X.env))) [] s := by
  have hA' : (A.over (.compStart (gExp elt iter x px scope pos) 0 (.ref I) .none (genEnv scope [] C code builtinsNs X.env)) []).handled = none := hA
  show Seg _ A _ _ _ s₀ _ ((compStart (gExp elt iter x px scope pos) 0 (.ref I) .none (genEnv scope [] C code builtinsNs X.env)).onRaise (leaving (genEnv scope [] C code builtinsNs X.env))) [] s
  unfold compStart
  rw [Sem.onRaise_eq_wrap]
  show Seg _ A _ _ _ s₀ _ ((ask >>= _).wrap _ _ _ _) [] s
  refine seg_bind_wrap (wpAny_askSetting ?_)
  split
  · exact seg_again rfl h
  · refine seg_bind_wrap (wpAny_rule ?_)
    first
    | exact seg_bind_wrap (wpAny_standAt (seg_bind_wrap ((Walks.tuple hA' I t hne its).self 0 s _ _ ⟨it, tup⟩ (seg_again rfl h))))
    | (show Seg _ A _ _ _ s₀ _ ((standAt iter.pos >>= _).wrap _ _ _ _) [] s
       exact seg_bind_wrap (wpAny_standAt (seg_bind_wrap ((Walks.tuple hA' I t hne its).self 0 s _ _ ⟨it, tup⟩ (seg_again rfl h)))))
end
/-! ### all of it -/
section
variable {prog : Program} {w : World} {A : Around}
theorem all_loop {a : Addr} {n : Nat} {J : Nat → Shared → Prop} {Je : Shared → Prop} {tr : Nat → Bool} {R : Result → Shared → Prop} (je : ∀ i s, J i s → Je s)
    (item : ∀ (i : Nat) (s : Shared) (Q : Option Value → Shared → Prop) (E : Value → Shared → Prop), i < n → J i s → (∀ s', J (i + 1) s' → Q (some (.bool (tr i))) s') → wpAny (model prog w) A.in1 (pyNext (.ref a)) Q E s)
    (done : ∀ (s : Shared) (Q : Option Value → Shared → Prop) (E : Value → Shared → Prop), J n s → (∀ s', Je s' → Q none s') → wpAny (model prog w) A.in1 (pyNext (.ref a)) Q E s) :
    ∀ (k i : Nat) (s : Shared), n - i = k → i ≤ n → J i s → (∀ s', Je s' → R (.ok (.ret (.bool (((List.range n).drop i).all tr)))) s') → codeAny (model prog w) A (.builtin "all.loop" ⟨[.ref a], []⟩) R s := by
  intro k
  induction k with
  | zero =>
    intro i s hk hi j q
    have e : i = n := by omega
    subst e
    refine codeAny_builtin F.entry_all_loop ?_
    rw [Around.under_plainId F.plain_all_loop _]
    show wpAny _ A.in1 (pyNext (.ref a) >>= _) _ _ s
    refine wpAny_bind (done s _ _ j fun s' h' => wpAny_bind (wpAny_rule (wpAny_pure ?_)))
    have z := q s' h'
    rw [List.drop_of_length_le (by simp)] at z
    exact z
  | succ k ih =>
    intro i s hk hi j q
    have lt : i < n := by omega
    have hd : (List.range n).drop i = i :: (List.range n).drop (i + 1) := by
      rw [List.drop_eq_getElem_cons (by simpa using lt)]
      simp
    refine codeAny_builtin F.entry_all_loop ?_
    rw [Around.under_plainId F.plain_all_loop _]
    show wpAny _ A.in1 (pyNext (.ref a) >>= _) _ _ s
    refine wpAny_bind (item i s _ _ lt j fun s' j' => ?_)
    refine wpAny_bind (wpAny_holding (wpAny_truthy_bool ?_))
    refine wpAny_bind (wpAny_letGo ?_)
    cases hb : tr i with
    | true =>
      simp only [if_true]
      refine wpAny_pure ⟨plainId_quiet F.plain_all_loop _, ih (i + 1) _ (by omega) lt j' fun s'' h'' => ?_⟩
      have z := q s'' h''
      rw [hd, List.all_cons, hb, Bool.true_and] at z
      exact z
    | false =>
      simp only [Bool.false_eq_true, if_false]
      refine wpAny_bind (wpAny_rule (wpAny_pure ?_))
      have z := q s' (je _ _ j')
      rw [hd, List.all_cons, hb, Bool.false_and] at z
      exact z
end
/-! ### the rule -/
theorem bare_set {g : Array GenState} {k : Nat} {y : GenState} (h : AllBare g) (hy : y.bare = true) : AllBare (g.setIfInBounds k y) := by
  intro z hz
  obtain ⟨i, hi, rfl⟩ := Array.mem_iff_getElem.mp hz
  have hi' : i < g.size := by simpa using hi
  rw [Array.getElem_setIfInBounds]
  · split
    · exact hy
    · exact h _ (Array.getElem_mem hi')
  · exact hi'
theorem un_skip {fs : List Addr} {I : Addr} {H1 H4 H : Hp} {h1 h4 h : Heap} (a : Un fs [] H1 H4 h1 h4) (b : Un fs [I] H4 H h4 h) (hI : h1.objs.size ≤ I) : Un fs [] H1 H h1 h := by
  have u := (a.mono (fs' := fs) (ex' := [I]) (fun _ z => z) (fun _ z => nomatch z)).trans b
  have no : ∀ c o, h1.get? c = some o → c ∉ [I] := fun c o e z => by
    have l := Heap.lt_size e
    rw [List.mem_singleton.mp z] at l
    exact absurd (Nat.lt_of_lt_of_le l hI) (Nat.lt_irrefl _)
  exact ⟨fun c o e n hf _ => u.keep c o e n hf (no c o e), fun c o e n hf _ => u.slot c o e n hf (no c o e), fun c o e n _ => u.free c o e n (no c o e), fun c o e _ => u.there c o e (no c o e), u.tups, u.frzs, u.tbls⟩
theorem un_tab {fs : List Addr} {H : Hp} {P : Addr} {ps more : Array Value} {h h' : Heap} (hP : H P = some (.tbl ps)) (k : ∀ b o, b ≠ P → h.get? b = some o → h'.get? b = some o) (at1 : ∃ o, h'.get? P = some o) : Un fs [] H (upd H P (.tbl (ps ++ more))) h h' := by
  have nN : ∀ b, H b = none → b ≠ P := fun b e z => by
    rw [z, hP] at e
    cases e
  have nO : ∀ b u, H b = some u → (∀ q, u ≠ .tbl q) → b ≠ P := fun b u e q z => by
    rw [z, hP] at e
    exact q ps (Option.some.inj e).symm
  refine ⟨fun b o e n _ _ => k b o (nN b n) e, fun b o e n _ _ => ⟨o.slots, k b o (nN b n) e⟩, fun b o e n _ => by rw [upd_ne (nN b n)]; exact n, fun b o e _ => ?_, fun b xs e => by rw [upd_ne (nO b _ e fun q z => by cases z)]; exact e, fun b o u e => by rw [upd_ne (nO b _ e fun q z => by cases z)]; exact e, fun b qs e => ?_⟩
  · by_cases hb : b = P
    · rw [hb]
      exact at1
    · exact ⟨o, k b o hb e⟩
  · by_cases hb : b = P
    · rw [hb, hP] at e
      cases e
      rw [hb, upd_same]
      exact ⟨more, rfl⟩
    · rw [upd_ne hb, e]
      exact ⟨#[], by simp⟩
def tAllN (K : PySem.W.Frag) (P : Addr) (tel te : TE) : TE := fun σ H Q => te σ H fun v H1 => ∃ (t : Addr) (xs : List V) (tr : Nat → Bool) (W : Nat → Hp → Prop), v = .ref t ∧ SqT K H1 t xs ∧ GxR.TabG H1 P ∧
  (∀ H2, GxR.Tabbed P H1 H2 → W 0 H2) ∧ (∀ i H, W i H → SqT K H t xs ∧ ∀ b, H1 b = none → H b = none) ∧
  (∀ (J : Addr) (i : Nat) (H : Hp) (v : V), xs[i]? = some v → W i H → tel [some (.ref J), some v] H fun y H' => y = .bl (tr i) ∧ W (i + 1) H') ∧ ∀ (i : Nat) (H : Hp), W i H → Q (.bl ((List.range xs.length).all tr)) H
section
variable {X : Cx}
theorem pe_allN {c P : Addr} {elt iter : Expr} {x : Str} {px p pos gpos : Pos} {scope : Scope} {tel te : TE} {k : Nat} (hr : Room (k + 1) X.A) (hg : Gl X "all") (hm : X.mg "all" = none) (TB : GxR.TabB X.base X.mg c P) (hc : X.env.code = .ref c) (S : GenOne scope x) (hi : PE X iter te)
    (he : ∀ (A : Around) (C : Addr) (code : Value) (s4 : Shared) (H4 : Hp) (I : Addr), Room k A → PE (gx X A x scope C code s4 H4 I) elt tel) (hs : ∀ v, genFold iter X.env v = pure v := by intro _; rfl)
    (hse : starEach [gExp elt iter x px scope gpos] X.env = (false, eval (gExp elt iter x px scope gpos) X.env) :: starEach [] X.env := by rfl) :
    PE X (.Call (.Name "all" p) [gExp elt iter x px scope gpos] [] pos) (tAllN X.K P tel te) := by
  have hv : bootBuiltins ("all" : Str) = some (.builtin "all") := by decide +kernel
  refine ⟨fun pins s σ H Q inv h => wpAny_Call_Name_kw (ld_blt inv hg hm hv (PyProof.Rows.callWith_builtin1 ?_ hse (by rfl)))⟩
  rw [hse]
  show wpAny _ _ (spliced ((false, _) :: backTo pos (starEach [] X.env))) _ _ s
  refine Calls.spliced_cons ?_
  have noF : ∀ y ∈ scope.names, y.2 ≠ .free := fun y hy => (S.own y hy).2
  have clo : closureFor scope X.env = pure [] := by
    rw [closure_ok fun y hy e => absurd e (noF y hy), clo_nil _ _ _ noF]
  refine wpAny_GeneratorExp_make S.co clo (fun y hy => (S.own y hy).1) S.dot S.kind (by have := hr.dp; omega) ?_ hs
  refine thn (hi.run pins s σ H _ inv h) fun xv s1 ⟨v, H1, inv1, rel, q1⟩ => ?_
  obtain ⟨t, xs, tr, W, rfl, sq, ⟨tb, hP, ht⟩, w0, wsq, wst, q⟩ := q1
  cases rel
  obtain ⟨its, vals, tupA, fit⟩ := inv1.tuple sq
  have len : its.toArray.size = xs.length := by rw [List.size_toArray, ← vals.length]
  have isT : s1.heap.IsTuple t its.toArray := tupA
  have lt1 : t < s1.heap.objs.size := by
    obtain ⟨o, e, _⟩ := isT
    exact Heap.lt_size e
  have at0 : s1.heap.get? P = some { cls := .none, data := .fields tb } := inv1.hok P _ hP
  have ltP : P < s1.heap.objs.size := Heap.lt_size at0
  have neP : t ≠ P := fun e => by
    obtain ⟨o, e1, e2, _⟩ := isT
    rw [e, at0] at e1
    cases e1
    cases e2
  refine wpAny_pyIter_tuple tupA ⟨inv1.nolimit.push _, gen_code inv1 TB hc hP ht fun code h3 tk more ext big at3 tri => ?_⟩
  intro h' ns same
  have keep3 : ∀ b u, b ≠ P → s1.heap.get? b = some u → h3.get? b = some u := fun b u nb e => ext b u nb (Heap.get?_push_of_some _ e)
  have inv4 := GxR.inv_tab (more := more) (h' := h3) (g' := s1.gens) (d' := s1.drawn) (t' := tk) inv1 hP keep3 at3 inv1.bare
  have un4 : Un (frs X.stack) [] H1 (upd H1 P (.tbl (tb ++ more))) s1.heap h3 := un_tab hP keep3 ⟨_, at3⟩
  have tab4 : GxR.Tabbed P H1 (upd H1 P (.tbl (tb ++ more))) := ⟨⟨_, upd_same, tri⟩, fun b nb => upd_ne nb⟩
  have w4 := w0 _ tab4
  have it3 : h3.IsTupleIter s1.heap.objs.size t 0 := ⟨_, ext _ _ (Nat.ne_of_gt ltP) (Heap.get?_push_size _ rfl), rfl, rfl⟩
  have tup3 : h3.IsTuple t its.toArray := isT.at fun o e => keep3 _ _ neP e
  have upI : s1.heap.objs.size < h3.objs.size := big
  have sz' : h'.objs.size = h3.objs.size + 1 := by
    rw [same.1]
    exact Heap.size_push ..
  have keep' : ∀ b o, h3.get? b = some o → h'.get? b = some o := fun b o e => same.extBut b o (Nat.ne_of_lt (Heap.lt_size e)) (Heap.get?_push_of_some _ e)
  generalize hH4 : upd H1 P (.tbl (tb ++ more)) = H4 at inv4 un4 w4 tab4
  have none4 : ∀ b, h3.objs.size ≤ b → H4 b = none := fun b hb => inv4.hok.fresh hb
  have nI0 : H1 s1.heap.objs.size = none := inv1.hok.fresh (Nat.le_refl _)
  have nIf : s1.heap.objs.size ∉ frs X.stack := fun z => by
    obtain ⟨_, o, e, _⟩ := inv1.stack.mem z
    exact absurd (Heap.lt_size e) (Nat.lt_irrefl _)
  have naf : ∀ b, h3.objs.size ≤ b → b ∉ frs X.stack := fun b hb z => by
    obtain ⟨_, o, e, _⟩ := inv4.stack.mem z
    exact absurd (Nat.lt_of_lt_of_le (Heap.lt_size e) hb) (Nat.lt_irrefl _)
  refine Calls.spliced_nil ?_
  generalize hgo : ({ cls := .type "generator", data := .fields #[.int ((s1.gens.size : Nat) : Int) 0, .str "<genexpr>" (tk + 1), .str (X.env.qual ++ "<genexpr>") (tk + 1 + 1)] } : Obj) = go
  have isg : (h'.push go).IsGen h'.objs.size s1.gens.size := ⟨go, _, _, Heap.get?_push_size _ (by rw [← hgo]; rfl), by rw [← hgo], by rw [← hgo], by rw [← hgo]⟩
  have up5 : ∀ b o, h3.get? b = some o → (h'.push go).get? b = some o := fun b o e => Heap.get?_push_of_some _ (keep' b o e)
  obtain ⟨A', eA⟩ : ∃ A' : Around, A' = X.A.in1.in1.over (.compLoop (gExp elt iter x px scope gpos) 0 (.ref s1.heap.objs.size) .none (genEnv scope [] h3.objs.size code builtinsNs X.env)) [] := ⟨_, rfl⟩
  have roomA : Room k A' := by rw [eA]; exact room_gen hr
  have framesA : A'.frames = some (genEnv scope [] h3.objs.size code builtinsNs X.env :: X.stack) := by
    rw [eA]
    exact ov_frames inv1.ok.frames
  obtain ⟨X', eX⟩ : ∃ X' : Cx, X' = gx X A' x scope h3.objs.size code { s1 with heap := h3, toks := tk } H4 s1.heap.objs.size := ⟨_, rfl⟩
  have inv5 : Inv X' [(h'.objs.size, go)] [some (.ref s1.heap.objs.size), none] H4 { s1 with gens := s1.gens.push (.fresh (.compStart (gExp elt iter x px scope gpos) 0 (.ref s1.heap.objs.size) .none (genEnv scope [] h3.objs.size code builtinsNs X.env))), toks := tk + 1 + 1 + 1, heap := h'.push go } := by
    rw [eX]
    have look : ∀ y, ((genEnv scope [] h3.objs.size code builtinsNs X.env).kindOf y = some .cell ∨ (genEnv scope [] h3.objs.size code builtinsNs X.env).kindOf y = some .free) → False := fun y z => by
      rcases z with z | z
      · exact (S.own _ (PySem.mem_of_lookup (show scope.names.lookup y = some .cell from z))).1 rfl
      · exact (S.own _ (PySem.mem_of_lookup (show scope.names.lookup y = some .free from z))).2 rfl
    refine ⟨⟨inv1.ok.mod, S.kind, inv1.ok.glob, rfl, Nat.le_refl _, fun _ _ _ z => (nomatch z), fun y z => (look y z).elim, fun _ _ _ z => (nomatch z), fun _ => roomA.hd, framesA, .inr ⟨rfl, rfl⟩, fun b hb => ?_, inv4.bs, Nat.le_trans inv4.ok.bsz inv4.sz, fun b o e => ?_, fun b hb => ?_, inv4.stack, inv4.stkFree⟩,
      rfl, inv1.bare.push rfl, Un.kept up5, ⟨_, ns.push _, fun i y v h1 h2 h3' => ?_⟩, fun _ _ z => (nomatch z), none4 _ (Nat.le_refl _), fun _ _ z => (nomatch z), fun p hp => ?_, inv4.hok.kept up5, rfl⟩
    · rw [List.mem_singleton.mp hb]
      exact ⟨Nat.ne_of_lt upI, fun _ _ z => (nomatch z)⟩
    · intro z
      have l := Heap.lt_size (inv1.bk b o e)
      rw [List.mem_singleton.mp z] at l
      exact Nat.lt_irrefl _ l
    · rw [List.mem_singleton.mp hb]
      exact nIf
    · match i, h1, h2 with
      | 0, h1, h2 =>
        cases h1
        cases h2
        exact ⟨.ref s1.heap.objs.size, rfl, .inl ⟨S.dot, by simp⟩⟩
      | 1, h1, h2 => cases h2
      | i + 2, h1, h2 => simp at h2
    · rw [show p = (h'.objs.size, go) from List.mem_singleton.mp hp]
      refine ⟨Heap.get?_push_size _ (by rw [← hgo]; rfl), none4 _ (by omega), ?_, naf _ (by omega), fun v z => ?_⟩
      · show h'.objs.size ≠ h3.objs.size
        omega
      · rw [← hgo] at z
        cases z
  have G0 : GSt X' (h'.objs.size, go) s1.heap.objs.size t W 0 { s1 with gens := s1.gens.push (.fresh (.compStart (gExp elt iter x px scope gpos) 0 (.ref s1.heap.objs.size) .none (genEnv scope [] h3.objs.size code builtinsNs X.env))), toks := tk + 1 + 1 + 1, heap := h'.push go } :=
    ⟨H4, none, inv5, w4, it3.at fun o e => up5 _ o e⟩
  have hH : ∀ i H, W i H → H s1.heap.objs.size = none := fun i H w => (wsq i H w).2 _ nI0
  have loop := gen_loop (elt := elt) (iter := iter) (px := px) (pos := gpos) (A := X.A.in1.in1) (C := h3.objs.size) (I := s1.heap.objs.size) (t := t) (code := code) (s4 := { s1 with heap := h3, toks := tk }) (H4 := H4) (pin := (h'.objs.size, go)) (te := tel) (xs := xs) (tr := tr) (W := W)
    S hr.hd upI rfl nIf (Nat.ne_of_lt lt1) (show h'.objs.size ≠ s1.heap.objs.size by omega) hH (he _ _ _ _ _ _ (room_gen hr)) (fun i H w => (wsq i H w).1) (fun i H v e w => wst _ i H v e w)
  rw [← eA, ← eX] at loop
  have isg5 : ∀ s : Shared, (∃ (i : Nat), GSt X' (h'.objs.size, go) s1.heap.objs.size t W i s) → s.heap.IsGen h'.objs.size s1.gens.size := fun s ⟨i, H, y, inv', _⟩ => by
    obtain ⟨z, _⟩ := inv'.pin (h'.objs.size, go) (List.mem_append_right _ (List.mem_cons_self ..))
    exact ⟨go, _, _, z, by rw [← hgo], by rw [← hgo], by rw [← hgo]⟩
  have endOf : ∀ (i : Nat) (H : Hp) (y : Option V) (s : Shared), Inv X' [(h'.objs.size, go)] [some (.ref s1.heap.objs.size), y] H s → W i H → ∀ (s' : Shared), s'.os = s.os → AllBare s'.gens → (∀ b o, s.heap.get? b = some o → s'.heap.get? b = some o) →
      CE X.stack X.prog X.w H1 s1 Q (.bool ((List.range xs.length).all tr)) s' := fun i H y s inv' w s' os br kp => by
    have ub := inv'.base
    have uo := inv'.os
    rw [eX] at ub uo
    have u1 : Un (frs X.stack) [] H1 H s1.heap s.heap := un_skip un4 ub (Nat.le_refl _)
    have hok := inv'.hok
    rw [eX] at hok
    exact ⟨.bl _, H, os.trans uo, br, u1.trans (Un.kept kp), hok.kept kp, rfl, q i H w⟩
  refine call_function_tree F.kind_all F.plain_all F.entry_all (F.args_all1 _) ?_
  unfold Builtin.«all»
  refine wpAny_bind (m := oneArg "all" _) (wpAny_pure ?_)
  refine wpAny_bind (wpAny_pyIter_gen (isg5 _ ⟨0, G0⟩) ?_)
  refine wpAny_pure ⟨plainId_quiet F.plain_all_loop _, all_loop (a := h'.objs.size) (n := xs.length) (tr := tr)
    (J := fun i s => GSt X' (h'.objs.size, go) s1.heap.objs.size t W i s ∧ ∃ gs, s.gens[s1.gens.size]? = some gs ∧ ∀ g, AllBare g → gs.Goes (model X.prog X.w) X.A.in1.in1 (gR X' (h'.objs.size, go) s1.heap.objs.size xs.length W) (gY X' (h'.objs.size, go) s1.heap.objs.size t xs.length tr W) (xs.length - i) (.send .none) { s with gens := g })
    (Je := fun s' => CE X.stack X.prog X.w H1 s1 Q (.bool ((List.range xs.length).all tr)) s') (fun i s ⟨⟨H, y, inv', w, _⟩, _⟩ => endOf i H y s inv' w s rfl inv'.bare fun _ _ e => e) ?item ?done xs.length 0 _ rfl (Nat.zero_le _) ⟨G0, _, Array.getElem?_push_size .., fun g hg => ⟨rfl, ?start⟩⟩ fun s' ce => ?_⟩
  case start =>
    have it5 : (h'.push go).IsTupleIter s1.heap.objs.size t 0 := it3.at fun o e => up5 _ o e
    have tup5 : (h'.push go).IsTuple t its.toArray := tup3.at fun o e => up5 _ o e
    have z := loop xs.length 0 { s1 with gens := g, toks := tk + 1 + 1 + 1, heap := h'.push go } { s1 with gens := g, toks := tk + 1 + 1 + 1, heap := h'.push go } rfl (Nat.zero_le _) (G0.gens hg)
    exact gen_start (X := X) (A := X.A.in1.in1) (its := its.toArray) hr.hd (Nat.ne_of_lt lt1) it5 tup5 z
  case item =>
    rintro i s5 Q5 E5 lt ⟨G, gs, hgs, go5⟩ q5
    obtain ⟨m, em⟩ : ∃ m, xs.length - i = m + 1 := ⟨xs.length - i - 1, by omega⟩
    rw [em] at go5
    obtain ⟨H5, y5, inv5', w5, _⟩ := id G
    have gl : s1.gens.size < s5.gens.size := (Array.getElem?_eq_some_iff.mp hgs).1
    refine GenW.wpAny_gsz (n := s1.gens.size + 1) gl ?_
    refine wpAny_pyNext_genexpQ (n := m + 1) (P := fun m _ s1' => m = 0 ∧ ∃ (H : Hp) (y : Option V), Inv X' [(h'.objs.size, go)] [some (.ref s1.heap.objs.size), y] H s1' ∧ W xs.length H) (Y := gY X' (h'.objs.size, go) s1.heap.objs.size t xs.length tr W)
      hr.hd inv5'.nolimit (by have := hr.dp; show X.A.depth < _; omega) (isg5 _ ⟨i, G⟩) hgs (go5 _ (bare_set inv5'.bare rfl)) (fun v s6 gs' hb hv => ?_) (fun s6 hp h6 hk => ?_)
    · obtain ⟨rfl, G6, kap⟩ := hv
      intro sz6
      rw [show xs.length - 1 - (m + 1 - 1) = i by omega]
      rw [show xs.length - (m + 1 - 1) = i + 1 by omega] at G6
      obtain ⟨H6, y6, inv6, w6, _⟩ := id G6
      refine q5 _ ⟨G6.gens (bare_set inv6.bare hb), gs', ?_, fun g hg => ?_⟩
      · have l6 : s1.gens.size < s6.gens.size := by
          rw [GenW.setGen_size] at sz6
          omega
        show (s6.gens.setIfInBounds s1.gens.size gs')[s1.gens.size]? = some gs'
        rw [Array.getElem?_setIfInBounds_self_of_lt l6]
      · rw [show xs.length - (i + 1) = m by omega]
        exact kap g hg
    · exact absurd hp.1 (Nat.succ_ne_zero m)
  case done =>
    rintro s5 Q5 E5 ⟨G, gs, hgs, go5⟩ q5
    rw [Nat.sub_self] at go5
    obtain ⟨H5, y5, inv5', w5, _⟩ := id G
    refine wpAny_pyNext_genexpQ (n := 0) (P := fun m _ s1' => m = 0 ∧ ∃ (H : Hp) (y : Option V), Inv X' [(h'.objs.size, go)] [some (.ref s1.heap.objs.size), y] H s1' ∧ W xs.length H) (Y := gY X' (h'.objs.size, go) s1.heap.objs.size t xs.length tr W)
      hr.hd inv5'.nolimit (by have := hr.dp; show X.A.depth < _; omega) (isg5 _ ⟨_, G⟩) hgs (go5 _ (bare_set inv5'.bare rfl)) (fun v s6 gs' hb hv => ?_) (fun s6 hp h6 hk => ?_)
    · obtain ⟨_, G6, kap⟩ := hv
      obtain ⟨H6, y6, inv6, w6, _⟩ := id G6
      exact (kap _ inv6.bare).elim
    · obtain ⟨_, H6, y6, inv6, w6⟩ := hp
      exact q5 _ (endOf _ H6 y6 s6 inv6 w6 _ rfl (bare_set inv6.bare rfl) hk)
  · rw [List.drop_zero]
    exact inv1.after ce
end
end Lt

set_option Elab.async false
set_option linter.all false
set_option maxRecDepth 100000
set_option maxHeartbeats 4000000
/-! dict(t), t a tuple of pairs: over the library's dict of pairs. -/
namespace Lt
open PySem PySem.Spec PyProof.Rows L2
section
variable {X : Cx}
def rDictT (K : PySem.W.Frag) : List V → Hp → VK → Prop := fun xs H Q => ∃ (a : Addr) (ps : List Addr) (kvs : List (Key × V)), xs = [.ref a] ∧ TpO H a (ps.map V.ref) ∧ Paired (fun p kv => SqT K H p [kV kv.1, kv.2]) ps kvs ∧
  ∀ p, H p = none → Q (.ref p) (upd H p (.dK (mergeK [] kvs)))
theorem call_dictT (calm : X.calm = true) : CallR X (.type "dict") (rDictT X.K) := by
  rintro pins s σ H _ us Q inv rel ⟨a, ps, kvs, rfl, tp, pairs, q⟩
  rw [Vals.ref1 rel]
  obtain ⟨_, hu, o, rfl, cls, nod⟩ := tp
  obtain ⟨at1, fit, vs, vals, o', at2, cls2, n, dat⟩ := inv.hok a _ hu
  have ev := refs_at vals
  subst ev
  rw [at1] at at2
  cases at2
  obtain ⟨prs, kv, len, each⟩ := L2.pairs_of inv pairs
  have pick : ∀ j : Nat, ∃ u : Value, ∀ z : Key × Value, prs[j]? = some z → ∃ b, ps[j]? = some b ∧ IsTup s.heap b #[u, z.2] ∧ keyIs z.1 u = true := by
    intro j
    cases e : prs[j]? with
    | none => exact ⟨.none, fun z hz => nomatch hz⟩
    | some z =>
      obtain ⟨b, u, e1, e2, e3⟩ := each j z e
      exact ⟨u, fun z' hz => by cases hz; exact ⟨b, e1, e2, e3⟩⟩
  obtain ⟨f, hf⟩ := Classical.axiomOfChoice pick
  have at3 : ∀ (i : Nat) (k v : Value), (prs.mapIdx fun j (z : Key × Value) => (f j, z.2))[i]? = some (k, v) → ∃ z, prs[i]? = some z ∧ k = f i ∧ v = z.2 := fun i k v e => by
    rw [List.getElem?_mapIdx] at e
    cases e2 : prs[i]? with
    | none =>
      rw [e2] at e
      cases e
    | some z =>
      rw [e2] at e
      cases e
      exact ⟨z, rfl, rfl, rfl⟩
  have lps : ps.length ≤ sizeLine := by
    rw [List.length_map] at fit
    exact fit
  have lprs : (prs.mapIdx fun j (z : Key × Value) => (f j, z.2)).length = prs.length := List.length_mapIdx
  refine PySem.call_dict_pairs (knd := mixKind X.prog X.w) (kvs := prs) (PairArg.tuple a (ps.map Value.ref).toArray (fun j => (ps[j]?).getD 0) (prs.mapIdx fun j (z : Key × Value) => (f j, z.2))) (inv.ok.hd calm) ⟨⟨o, n, at1, cls, nod, dat⟩, ?_, fun j k v e => ?_⟩ ⟨lprs.symm, fun i k v e => ?_⟩ (by rw [lprs, len]; exact lps) fun h' tk dd keeps => ?_
  · rw [lprs, len, List.size_toArray, List.length_map]
  · obtain ⟨z, e1, rfl, rfl⟩ := at3 j k v e
    obtain ⟨b, g1, g2, g3⟩ := hf j z e1
    have g4 : (ps[j]?).getD 0 = b := by rw [g1]; rfl
    show _ = some (Value.ref ((ps[j]?).getD 0)) ∧ PairAt s.heap ((ps[j]?).getD 0) _ _
    rw [g4]
    exact ⟨by simp [g1], .inl g2⟩
  · obtain ⟨z, e1, rfl, rfl⟩ := at3 i k v e
    obtain ⟨b, g1, g2, g3⟩ := hf i z e1
    exact ⟨z.1, e1, g3⟩
  · have sys : (s.heap.objs.size == sysModules) = false := beq_eq_false_iff_ne.mpr (Nat.ne_of_gt inv.big)
    have small : (mergeK [] kvs).length ≤ sizeLine := by
      have z := length_mergeK kvs []
      rw [List.length_nil, Nat.zero_add, kv.length, len] at z
      exact Nat.le_trans z lps
    exact ⟨.ref s.heap.objs.size, upd H s.heap.objs.size (.dK (mergeK [] kvs)), inv.laid (t' := tk) (fun b u e => keeps b u (fun z => nomatch z) e) (Nat.le_refl _) (show ObjOk X.prog X.w _ _ _ (.dK (mergeK [] kvs)) from ⟨small, sys, merged [] prs, KV.merge kv .nil, dd⟩), rfl, q _ (inv.hok.fresh (Nat.le_refl _))⟩
end
end Lt

set_option Elab.async false
set_option linter.all false
set_option maxRecDepth 100000
set_option maxHeartbeats 4000000
/-! 'a' <= sign <= 'z' as a generator's element; len(set(t)), t a tuple of texts. -/
namespace Lt
open PySem PySem.Spec PyProof.Rows L2
/-- a small letter -/
def small (c : Nat) : Bool := decide (97 ≤ c) && decide (c ≤ 122)
theorem sign_le (a c : Nat) : (!decide ([c] < [a])) = decide (a ≤ c) := by
  by_cases h : a ≤ c
  · rw [decide_eq_true h, decide_eq_false (fun z => by
      rw [List.cons_lt_cons_iff] at z
      rcases z with z | z
      · omega
      · exact List.not_lt_nil _ z.2)]
    rfl
  · rw [decide_eq_false h, decide_eq_true (List.cons_lt_cons_iff.mpr (.inl (by omega)))]
    rfl
theorem elt_az {prog : Program} {w : World} {scope : Scope} {x : Str} {j k : Nat} {p1 p2 p3 p4 : Pos} (hk : scope.kind = .function) (hl : scope.names.lookup x = some .local) (hd : (x == ("__debug__" : Str)) = false := by decide)
    (hm : lastMarks [.LtE, .LtE] [.Name x p2, .Constant (.str "z") k p3] = false := by with_unfolding_all rfl) :
    GxR.EltP prog w scope x (.Compare (.Constant (.str "a") j p1) [.LtE, .LtE] [.Name x p2, .Constant (.str "z") k p3] p4) small := by
  intro cenv A' E' c t s2 m2 hs hn hm2
  refine Compare_chain (Calls.Constant_str (chain_link (wpAny_Name (wpAny_loadName_local (by rw [hs]; exact hk) (show cenv.scope.names.lookup x = some .local by rw [hs]; exact hl) hn hm2 ?_) hd))) hm
  refine PySem.P.le_str ?_
  have e1 : (!decide ((⟨#[c]⟩ : Str).cps.toList < ("a" : Str).cps.toList)) = decide (97 ≤ c) := sign_le 97 c
  rw [e1]
  refine wpAny_truthy_bool ?_
  by_cases h : 97 ≤ c
  · rw [decide_eq_true h]
    refine ite_tt (chain_last (Calls.Constant_str (PySem.P.le_str ?_)))
    have e2 : (!decide (("z" : Str).cps.toList < (⟨#[c]⟩ : Str).cps.toList)) = decide (c ≤ 122) := sign_le c 122
    rw [e2]
    refine ⟨?_, GxR.keeps_tok _ _⟩
    unfold small
    rw [decide_eq_true h, Bool.true_and]
  · rw [decide_eq_false h]
    refine ite_ff ⟨?_, GxR.keeps_tok _ _⟩
    unfold small
    rw [decide_eq_false h, Bool.false_and]
section
variable {prog : Program} {w : World} {A : Around} {E : Value → Shared → Prop} {s : Shared}
theorem set_txtsT {l : Addr} {items : Array Value} {ss : List Str} {Q : Value → Shared → Prop} (calm : A.handled = none) (hl : s.heap.IsTuple l items) (val : ∀ (i : Nat) (v : Value), items[i]? = some v → ∃ z t, ss[i]? = some z ∧ v = .str z t)
    (len : items.size = ss.length) (room : items.size + 1 < scanBound)
    (h : ∀ (h' : Heap) (tk : Nat), h'.SetOf (PySem.strKind prog w) s.heap.objs.size (fun z => decide (z ∈ ss)) (dist ss) → (∀ b o, s.heap.get? b = some o → h'.get? b = some o) → Q (.ref s.heap.objs.size) { s with heap := h', toks := tk }) :
    wpAny (model prog w) A (call (.type "set") [.ref l]) Q E s := by
  refine set_call fun led => ?_
  generalize hso : ({ cls := .type "set", dict := none, data := .set #[] 0 (.fresh 0 0 led) } : Obj) = so
  have below : (l : Nat) < s.heap.objs.size := by
    obtain ⟨o, ho, _⟩ := hl
    exact Heap.lt_size ho
  have atS : (s.heap.push so).get? s.heap.objs.size = some so := Heap.get?_push_size _ (by rw [← hso]; rfl)
  have hl1 : (s.heap.push so).IsTuple l items := hl.at fun o e => Heap.get?_push_of_some _ e
  have top1 : (s.heap.push so).objs.size = s.heap.objs.size + 1 := Heap.size_push _ _
  obtain ⟨⟨oc, od, odt, osl⟩, ho1, hc1, n1, hd1⟩ := id hl1
  simp only at hc1 hd1
  subst hc1 hd1
  have no1 := PySem.F.sub_tuple_set
  have no2 := PySem.F.sub_tuple_frozenset
  have no3 : (Value.type "tuple" == Value.type "dict") = false := by decide
  unfold Builtin.«set.__init__» noKeywords Builtin.Frozenset.updateFrom
  generalize hPI : pyIter = PI
  subst hso
  wp_walk
  subst hPI
  refine wpAny_pyIter_tuple hl1 (wpAny_bind (wpAny_runValue ?_))
  have calm3 : A.in1.in1.in1.handled = none := by simp [calm]
  have neI : l ≠ (s.heap.push { cls := .type "set", dict := none, data := .set #[] 0 (.fresh 0 0 led) }).objs.size := by
    rw [top1]
    exact Nat.ne_of_lt (Nat.lt_succ_of_lt below)
  have offS : s.heap.objs.size ∉ [(s.heap.push { cls := .type "set", dict := none, data := .set #[] 0 (.fresh 0 0 led) }).objs.size, l] := by
    rw [top1]
    intro z
    rcases List.mem_cons.mp z with e | e
    · exact Nat.succ_ne_self _ e.symm
    · exact absurd (List.mem_singleton.mp e) (Nat.ne_of_gt below)
  refine txt_loop ((Walks.tuple calm3 _ l neI items).toS) s.heap.objs.size offS ss len room val items.size 0 _ (Nat.zero_add _) ⟨⟨_, Heap.get?_push_size _ rfl, rfl, rfl⟩, hl1.at fun o e => Heap.get?_push_of_some _ e⟩ ?empty ?filled
  case empty =>
    refine SetOf_congr ((setObjOf_fresh (knd := PySem.strKind prog w) led).setOf (Heap.get?_push_of_some _ atS) (by unfold scanBound; omega)) (fun z => ?_) rfl
    simp
  case filled =>
    intro s5 mv set5
    obtain ⟨h5, g5, d5, tk5, os5⟩ := s5
    obtain rfl : g5 = s.gens := mv.gens
    obtain rfl : d5 = s.drawn := mv.drawn
    obtain rfl : os5 = s.os := mv.os
    show wpAny _ _ _ _ _ _
    refine wpAny_pure (show wpAny _ _ (ret Value.none) _ _ _ from wpAny_pure ⟨rfl, h h5 tk5 set5 fun b o e => ?_⟩)
    have lt : b < s.heap.objs.size := Heap.lt_size e
    refine mv.heap b o (fun z => ?_) (Heap.get?_push_of_some _ (Heap.get?_push_of_some _ e))
    rcases List.mem_cons.mp z with e2 | e2
    · exact absurd e2 (Nat.ne_of_lt lt)
    · rw [List.mem_singleton.mp e2, top1] at lt
      exact absurd lt (Nat.not_lt.mpr (Nat.le_succ _))
end
section
variable {X : Cx}
def tLenSetT (K : PySem.W.Frag) (ta : TE) : TE := fun σ H Q => ta σ H fun x H1 => ∃ (l : Addr) (ss : List Str), x = .ref l ∧ SqT K H1 l (ss.map V.str) ∧ ss.length ≤ 1000 ∧ Q (.int (dist ss : Nat)) H1
theorem pe_lenSetT {a : Expr} {ta : TE} {p p2 q pos : Pos} (hcalm : X.calm = true) (g1 : Gl X "len") (m1 : X.mg "len" = none) (g2 : Gl X "set") (m2 : X.mg "set" = none) (ha : PE X a ta)
    (one : starEach [a] X.env = (false, eval a X.env) :: starEach [] X.env := by rfl) : PE X (.Call (.Name "len" p) [.Call (.Name "set" p2) [a] [] q] [] pos) (tLenSetT X.K ta) := by
  refine ⟨fun pins s σ H Q inv h => Call_ (ld_blt inv g1 m1 boot_len (callWith_builtin1 (args_cons ?_ rfl) rfl rfl))⟩
  refine Call_ (ld_blt inv g2 m2 boot_set (callWith_type1 (args_cons (thn (ha.run pins s σ H _ inv h) fun v s1 ⟨x, H1, inv1, rel, l, ss, ev, sq, few, q1⟩ => args_nil ?_) one) one rfl))
  subst ev
  cases rel
  obtain ⟨its, vals, tup, _⟩ := inv1.tuple sq
  have len : its.toArray.size = ss.length := by rw [List.size_toArray, ← vals.length, List.length_map]
  refine set_txtsT (ss := ss) (inv1.ok.hd hcalm) tup (fun i v e => ?_) len (by rw [len]; unfold scanBound; omega) fun h' tk set kept => args_nil ?_
  · have e' : its[i]? = some v := by simpa using e
    have hi : i < ss.length := by
      have z := (List.getElem?_eq_some_iff.mp e').1
      rw [← len, List.size_toArray]
      exact z
    obtain ⟨u, g3, t, g4⟩ := vals.get (i := i) (x := .str ss[i]) (by simp [hi])
    rw [e'] at g3
    cases g3
    exact ⟨ss[i], t, List.getElem?_eq_getElem hi, g4⟩
  · obtain ⟨o, es, ep, tb, ho, ex, hd, _, _, _, fits, num⟩ := set
    have small : dist ss ≤ 1000 := Nat.le_trans (dist_le ss) few
    have inv2 : Inv X pins σ H1 { s1 with heap := h', toks := tk } := inv1.kept kept
    exact call_len_set ho ex hd fits (by rw [num]; omega) ⟨.int (dist ss : Nat), H1, inv2.tok _, ⟨_, by rw [num]⟩, q1⟩
end
end Lt

set_option Elab.async false
set_option linter.all false
set_option maxRecDepth 100000
set_option maxHeartbeats 4000000
/-! what a name and a pile are, of any data; heaps that differ in tables alone. -/
namespace Lt
open PySem PySem.Spec PyProof.Rows L2
def nameD : PyData → Bool
  | .str z => decide (1 ≤ z.length) && decide (z.length ≤ 8) && z.cps.toList.all small
  | _ => false
def txts (ds : List PyData) : List Str := ds.filterMap fun d => match d with
  | .str z => some z
  | _ => none
def pileD : PyData → Bool
  | .tuple ds => decide (1 ≤ ds.length) && decide (ds.length ≤ 7) && ds.all nameD && decide (dist (txts ds) = ds.length)
  | _ => false
theorem nameD_str (z : Str) : nameD (.str z) = (decide (1 ≤ z.length) && decide (z.length ≤ 8) && z.cps.toList.all small) := rfl
theorem pileD_tup (ds : List PyData) : pileD (.tuple ds) = (decide (1 ≤ ds.length) && decide (ds.length ≤ 7) && ds.all nameD && decide (dist (txts ds) = ds.length)) := rfl
theorem name_str {d : PyData} (h : nameD d = true) : ∃ z, d = .str z := by
  cases d with
  | str z => exact ⟨z, rfl⟩
  | _ => cases h
theorem kind_str {K : PySem.W.Frag} {H : Hp} {v : V} {d : PyData} (dp : Dp K H v d) : (∃ z, d = .str z) ∨ ((∀ z, d ≠ .str z) ∧ kitB (kindName d) "str" = some false) := by
  cases d with
  | str z => exact .inl ⟨z, rfl⟩
  | none => exact .inr ⟨fun z => (nomatch ·), (show kitB "NoneType" "str" = some false by decide +kernel)⟩
  | bool b => exact .inr ⟨fun z => (nomatch ·), (show kitB "bool" "str" = some false by decide +kernel)⟩
  | int i => exact .inr ⟨fun z => (nomatch ·), (show kitB "int" "str" = some false by decide +kernel)⟩
  | list ds => exact .inr ⟨fun z => (nomatch ·), (show kitB "list" "str" = some false by decide +kernel)⟩
  | tuple ds => exact .inr ⟨fun z => (nomatch ·), (show kitB "tuple" "str" = some false by decide +kernel)⟩
  | dict kvs => cases dp
theorem kind_tup {K : PySem.W.Frag} {H : Hp} {v : V} {d : PyData} (dp : Dp K H v d) : (∃ ds, d = .tuple ds) ∨ ((∀ ds, d ≠ .tuple ds) ∧ kitB (kindName d) "tuple" = some false) := by
  cases d with
  | tuple ds => exact .inl ⟨ds, rfl⟩
  | none => exact .inr ⟨fun z => (nomatch ·), (show kitB "NoneType" "tuple" = some false by decide +kernel)⟩
  | bool b => exact .inr ⟨fun z => (nomatch ·), (show kitB "bool" "tuple" = some false by decide +kernel)⟩
  | int i => exact .inr ⟨fun z => (nomatch ·), (show kitB "int" "tuple" = some false by decide +kernel)⟩
  | list ds => exact .inr ⟨fun z => (nomatch ·), (show kitB "list" "tuple" = some false by decide +kernel)⟩
  | str z => exact .inr ⟨fun z => (nomatch ·), (show kitB "str" "tuple" = some false by decide +kernel)⟩
  | dict kvs => cases dp
theorem name_no {d : PyData} (h : ∀ z, d ≠ .str z) : nameD d = false := by
  cases d with
  | str z => exact absurd rfl (h z)
  | _ => rfl
theorem pile_no {d : PyData} (h : ∀ ds, d ≠ .tuple ds) : pileD d = false := by
  cases d with
  | tuple ds => exact absurd rfl (h ds)
  | _ => rfl
theorem no_free {names : List (Str × NameKind)} {q : Str × NameKind → Prop} (h : names.all (fun y => y.2 != .free) = true) : ∀ y ∈ names, y.2 = .free → q y := fun y hy e => by
  have z := List.all_eq_true.mp h y hy
  rw [e] at z
  cases z
theorem txts_map : ∀ ss : List Str, txts (ss.map PyData.str) = ss
  | [] => rfl
  | x :: r => by
    show x :: txts (r.map PyData.str) = x :: r
    rw [txts_map r]
theorem txts_all : ∀ {ds : List PyData}, (∀ d ∈ ds, nameD d = true) → ds = (txts ds).map PyData.str
  | [], _ => rfl
  | d :: ds, h => by
    obtain ⟨z, rfl⟩ := name_str (h d (List.mem_cons_self ..))
    have ih := txts_all (ds := ds) fun e he => h e (List.mem_cons_of_mem _ he)
    have e : txts (PyData.str z :: ds) = z :: txts ds := rfl
    rw [e, List.map_cons, ← ih]
theorem dpAll_txts {K : PySem.W.Frag} {H : Hp} : ∀ {vs : List V} {ss : List Str}, DpAll K H vs (ss.map PyData.str) → vs = ss.map V.str
  | _, [], .nil => rfl
  | _, x :: r, .cons h t => by
    cases h
    rw [List.map_cons, dpAll_txts t]
def atD (p : PyData → Bool) (l : List PyData) (i : Nat) : Bool := match l[i]? with
  | some d => p d
  | none => false
theorem atD_some {p : PyData → Bool} {l : List PyData} {i : Nat} {d : PyData} (h : l[i]? = some d) : atD p l i = p d := by
  unfold atD
  rw [h]
theorem all_at (p : PyData → Bool) (l : List PyData) : (List.range l.length).all (atD p l) = l.all p := by
  rw [Bool.eq_iff_iff, List.all_eq_true, List.all_eq_true]
  constructor
  · intro h d hd
    obtain ⟨i, hi⟩ := List.getElem?_of_mem hd
    have l := (List.getElem?_eq_some_iff.mp hi).1
    have z := h i (List.mem_range.mpr l)
    rw [atD_some hi] at z
    exact z
  · intro h i hi
    have l := List.mem_range.mp hi
    rw [atD_some (List.getElem?_eq_getElem l)]
    exact h _ (List.getElem_mem l)
/-! ### heaps that differ in tables alone -/
def SameN (H H' : Hp) : Prop := ∀ b o, H b = some o → (∀ q, o ≠ .tbl q) → H' b = some o
theorem SameN.refl (H : Hp) : SameN H H := fun _ _ h _ => h
theorem SameN.trans {H H1 H2 : Hp} (a : SameN H H1) (b : SameN H1 H2) : SameN H H2 := fun c o h n => b c o (a c o h n) n
theorem SameN.of {H H' : Hp} (s : Same H H') : SameN H H' := fun c o h _ => s c o h
theorem SameN.tab {P : Addr} {H H' : Hp} (t : GxR.TabG H P) (s : GxR.Tabbed P H H') : SameN H H' := fun b o h n => by
  by_cases e : b = P
  · obtain ⟨ps, h1, _⟩ := t
    rw [e, h1] at h
    exact absurd (Option.some.inj h).symm (n ps)
  · rw [s.2 b e]
    exact h
theorem SameN.tup {K : PySem.W.Frag} {H H' : Hp} {a : Addr} {xs : List V} (e : SameN H H') (h : SqT K H a xs) : SqT K H' a xs := by
  rcases h with (h | ⟨o, h⟩) | h
  · exact .inl (.inl (e _ _ h fun q z => nomatch z))
  · exact .inl (.inr ⟨o, e _ _ h fun q z => nomatch z⟩)
  · exact .inr h
theorem SameN.lst {K : PySem.W.Frag} {H H' : Hp} {a : Addr} {xs : List V} (e : SameN H H') (h : SqL K H a xs) : SqL K H' a xs := by
  rcases h with (h | ⟨o, h⟩) | h
  · exact .inl (.inl (e _ _ h fun q z => nomatch z))
  · exact .inl (.inr ⟨o, e _ _ h fun q z => nomatch z⟩)
  · exact .inr h
mutual
theorem dp_sameN {K : PySem.W.Frag} {H H' : Hp} (e : SameN H H') : ∀ {v : V} {d : PyData}, Dp K H v d → Dp K H' v d
  | _, _, .non => .non
  | _, _, .bl b => .bl b
  | _, _, .int i => .int i
  | _, _, .str x => .str x
  | _, _, .lst h a => .lst (e.lst h) (dpAll_sameN e a)
  | _, _, .tup h a => .tup (e.tup h) (dpAll_sameN e a)
theorem dpAll_sameN {K : PySem.W.Frag} {H H' : Hp} (e : SameN H H') : ∀ {vs : List V} {ds : List PyData}, DpAll K H vs ds → DpAll K H' vs ds
  | _, _, .nil => .nil
  | _, _, .cons h t => .cons (dp_sameN e h) (dpAll_sameN e t)
end
theorem TpO.sameN {H H' : Hp} {a : Addr} {xs : List V} (h : TpO H a xs) (e : SameN H H') : TpO H' a xs := by
  obtain ⟨u, h1, o, rfl, r⟩ := h
  exact ⟨_, e _ _ h1 (fun q z => nomatch z), o, rfl, r⟩
theorem Tape.sameN {H H' : Hp} {T S : Addr} {ns : List Int} (t : Tape H T S ns) (s : SameN H H') : Tape H' T S ns := by
  obtain ⟨i, c, h⟩ := t.at_
  exact ⟨⟨i, c, s _ _ h (fun q z => nomatch z)⟩, s _ _ t.scr (fun q z => nomatch z)⟩
theorem SameN.lstH {H H' : Hp} {a : Addr} {xs : List V} (e : SameN H H') (h : H a = some (.lst xs)) : H' a = some (.lst xs) := e _ _ h fun q z => nomatch z
theorem SameN.tupH {H H' : Hp} {a : Addr} {xs : List V} (e : SameN H H') (h : H a = some (.tup xs)) : H' a = some (.tup xs) := e _ _ h fun q z => nomatch z
theorem tabG_same {P : Addr} {H H' : Hp} (t : GxR.TabG H P) (s : Same H H') : GxR.TabG H' P := by
  obtain ⟨ps, h, r⟩ := t
  exact ⟨ps, s _ _ h, r⟩
theorem tabG_but {P T : Addr} {H H' : Hp} (t : GxR.TabG H P) (s : SameT T H H') (h : ∃ xs, H T = some (.lst xs)) : GxR.TabG H' P := by
  obtain ⟨ps, h1, r⟩ := t
  obtain ⟨xs, h2⟩ := h
  exact ⟨ps, s _ _ (ne_of h1 h2 fun z => nomatch z) h1, r⟩
theorem tabG_tab {P P' : Addr} {H H' : Hp} (t : GxR.TabG H P) (s : GxR.Tabbed P' H H') : GxR.TabG H' P := by
  by_cases e : P = P'
  · rw [e]
    exact s.1
  · obtain ⟨ps, h, r⟩ := t
    exact ⟨ps, by rw [s.2 P e]; exact h, r⟩
theorem tabbed_refl {P : Addr} {H : Hp} (t : GxR.TabG H P) : GxR.Tabbed P H H := ⟨t, fun _ _ => rfl⟩
end Lt

set_option Elab.async false
set_option linter.all false
set_option maxRecDepth 100000
set_option maxHeartbeats 4000000
/-! Generator expressions of one clause or two, over anything that the layer walks, read in their own frame: what they hand out. -/
namespace Lt
open PySem PySem.Spec PyProof.Rows L2 GenW
abbrev TB := List V → L2.St → Hp → (List V → L2.St → Hp → Prop) → Prop
/-- a piece of a generator's code: what is out so far, the names, the heap -/
structure GB (X : Cx) (m : Sem Unit) (t : TB) : Prop where
  run : ∀ (A : Around) (S : Addr) (ip : List (Addr × Obj)) (R : GenEnd) (n : Nat) (ys : List V) (s₀ : Shared) (c : Code) (fs : List Frame) (K : Unit → Sem PySem.Fin) (J : Value → Sem PySem.Fin) (gd : Bool → Bool) (lv : List Value → List Value) (s : Shared) (σ : L2.St) (H : Hp) (N : List V → L2.St → Hp → Prop),
    GC X S ip A c fs gd → n + ys.length = sizeLine →
    (∀ (n' : Nat) (ys' : List V) (s₀' s' : Shared) (σ' : L2.St) (H' : Hp), n' + ys'.length = sizeLine → GI X S ip ys' σ' H' s' → N ys' σ' H' → Seg (model X.prog X.w) A R (GY X S) n' s₀' c (K ()) fs s') →
    GI X S ip ys σ H s → t ys σ H N → Seg (model X.prog X.w) A R (GY X S) n s₀ c (m.wrap K J gd lv) fs s
section
variable {X : Cx} {e : Expr} {te : TE}
def tEmit (te : TE) : TB := fun ys σ H N => ys.length < sizeLine ∧ te σ H fun x H1 => N (ys ++ [x]) σ H1
theorem gb_emit (hx : ∀ e s, ¬ X.xe e s) (he : PE X e te) (hco : X.env.scope.isCoroutine = false) : GB X (do let v ← eval e X.env; standAt e.pos; let _ ← yieldOut X.env v) (tEmit te) := by
  refine ⟨fun A S ip R n ys s₀ c fs K J gd lv s σ H N g hn k hI ht => ?_⟩
  obtain ⟨hlt, ht⟩ := ht
  obtain ⟨n, rfl⟩ : ∃ m, n = m + 1 := ⟨n - 1, by omega⟩
  obtain ⟨acc, cc, r, I⟩ := hI
  have hy : ∀ v, yieldOut X.env v = yieldValue v := fun v => by simp only [yieldOut, hco, Bool.false_eq_true, if_false]
  simp only [hy]
  refine seg_bind_wrap ?_
  rw [g.over]
  refine wpAny_mono (he.run _ s σ H _ I ht) (fun v s' hv => ?_) fun x s' hq => (hx _ _ hq).elim
  obtain ⟨x, H1, I1, rv, q⟩ := hv
  have G1 : GI X S ip ys σ H1 s' := ⟨acc, cc, r, I1⟩
  refine seg_at (seg_yield g.split g.gd g.guard ⟨ys, x, ip, σ, H1, hn, rv, G1, fun s'' z => ?_⟩)
  refine k n (ys ++ [x]) s'' s'' σ H1 ?_ (G1.woken g.pn g.ip g.apart rv z) q
  rw [List.length_append, List.length_singleton]
  omega
/-- what a clause's loop wants: W by the turn -/
def tLoop (J : It) (g : TG) (tb : TB) : TB := fun ys σ H N => ∃ (L : Nat) (W : Nat → List V → L2.St → Hp → Prop), W 0 ys σ H ∧
  (∀ i ys σ H, i < L → W i ys σ H → J.go i H ∧ ∀ x H', J.yld i H x H' → g x σ H' fun σ2 H2 => tb ys σ2 H2 (W (i + 1))) ∧ ∀ ys σ H, W L ys σ H → J.stop L H ∧ N ys σ H
/-- the iterator's own objects -/
def FpS (X : Cx) (S : Addr) (ip : List (Addr × Obj)) (b : Addr) : Prop :=
  b ≠ X.env.locals ∧ b ∉ X.fs ∧ (b ∈ X.ex ∨ X.s_0.heap.objs.size ≤ b) ∧ (∀ x c, X.env.cells.lookup x = some c → c ≠ b) ∧ (∀ p ∈ X.pn ++ ip, p.1 ≠ b) ∧ S ≠ b
theorem FpS.ok {S b : Addr} {ip : List (Addr × Obj)} {H : Hp} {o : Obj} (h : FpS X S ip b) (hn : H b = none) : FpOk X ((S, o) :: ip) H b := by
  obtain ⟨h1, h2, h3, h4, h5, h6⟩ := h
  refine ⟨hn, h1, h2, h3, h4, fun p hp => ?_⟩
  rcases List.mem_append.mp hp with z | z
  · exact h5 p (List.mem_append_left _ z)
  · rcases List.mem_cons.mp z with z | z
    · rw [z]
      exact h6
    · exact h5 p (List.mem_append_right _ z)
theorem fp_st {S b : Addr} {ip : List (Addr × Obj)} {H : Hp} {o : Obj} (h : FpOk X ((S, o) :: ip) H b) : FpS X S ip b := by
  obtain ⟨_, h1, h2, h3, h4, h5⟩ := h
  refine ⟨h1, h2, h3, h4, fun p hp => ?_, h5 (S, o) (List.mem_append_right _ List.mem_cons_self)⟩
  rcases List.mem_append.mp hp with z | z
  · exact h5 p (List.mem_append_left _ z)
  · exact h5 p (List.mem_append_right _ (List.mem_cons_of_mem _ z))
theorem cloop {tg iter : Expr} {d : Nat} {it : Addr} {fp : List Addr} {tn : Nat → Heap → Prop} {J : It} {g : TG} {body : Sem Unit} {tb : TB} {hxr : Value → Sem Unit} (hx : ∀ e s, ¬ X.xe e s) (hc : X.calm = true) (T : Turn X.prog X.w X.K tg J fp it tn) (hg : PG X tg g) (hb : GB X body tb)
    (den : (model X.prog X.w).den (.compLoop e d (.ref it) .none X.env) = Sem.onRaise (standAt iter.pos >>= fun _ => pyNext (.ref it) >>= fun r => match r with
      | none => pure (.done .next)
      | some v => letOwnedTupleGo tg (.ref it) v >>= fun _ => assign tg X.env v >>= fun _ => body >>= fun _ => again (.compLoop e d (.ref it) .none X.env)) hxr)
    {A : Around} {S : Addr} {ip : List (Addr × Obj)} {R : GenEnd} {fs : List Frame} (gc : GC X S ip A (.compLoop e d (.ref it) .none X.env) fs id) (fok : ∀ b ∈ fp, FpS X S ip b)
    {L : Nat} {W : Nat → List V → L2.St → Hp → Prop} {N : List V → L2.St → Hp → Prop} (step : ∀ i ys σ H, i < L → W i ys σ H → J.go i H ∧ ∀ x H', J.yld i H x H' → g x σ H' fun σ2 H2 => tb ys σ2 H2 (W (i + 1))) (last : ∀ ys σ H, W L ys σ H → J.stop L H ∧ N ys σ H)
    (fin : ∀ (n : Nat) (ys : List V) (s₀ s : Shared) (σ : L2.St) (H : Hp), n + ys.length = sizeLine → GI X S ip ys σ H s → N ys σ H → Seg (model X.prog X.w) A R (GY X S) n s₀ (.compLoop e d (.ref it) .none X.env) (leafOf (.ok .next)) fs s) :
    ∀ (k i n : Nat) (ys : List V) (s₀ s : Shared) (σ : L2.St) (H : Hp), L - i = k → i ≤ L → n + ys.length = sizeLine → W i ys σ H → GI X S ip ys σ H s → tn i s.heap → (∀ b ∈ fp, H b = none) →
      Seg (model X.prog X.w) A R (GY X S) n s₀ (.compLoop e d (.ref it) .none X.env) ((model X.prog X.w).den (.compLoop e d (.ref it) .none X.env)) fs s := by
  intro k
  induction k with
  | zero =>
    intro i n ys s₀ s σ H hk hi hn w hI st fr
    have e : i = L := by omega
    subst e
    obtain ⟨stop, q⟩ := last ys σ H w
    obtain ⟨acc, cc, r, I⟩ := hI
    rw [den, Sem.onRaise_eq_wrap]
    refine seg_bind_wrap (wpAny_standAt ?_)
    refine seg_bind_wrap ?_
    rw [gc.over]
    refine wpAny_mono (T.done X rfl rfl rfl hc _ _ s σ H (fun _ _ => False) I (fun b hb => (fok b hb).ok (fr b hb)) st stop) (fun r1 s1 h1 => ?_) fun _ _ z => z.elim
    obtain ⟨rfl, I1⟩ := h1
    exact fin n ys s₀ s1 σ H hn ⟨acc, cc, r, I1⟩ q
  | succ k ih =>
    intro i n ys s₀ s σ H hk hi hn w hI st fr
    have lt : i < L := by omega
    obtain ⟨go, stp⟩ := step i ys σ H lt w
    obtain ⟨acc, cc, r, I⟩ := hI
    rw [den, Sem.onRaise_eq_wrap]
    refine seg_bind_wrap (wpAny_standAt ?_)
    refine seg_bind_wrap ?_
    rw [gc.over]
    refine wpAny_mono (T.item X rfl rfl rfl hc _ _ s σ H (fun _ _ => False) I (fun b hb => (fok b hb).ok (fr b hb)) st go) (fun r1 s1 h1 => ?_) fun _ _ z => z.elim
    obtain ⟨u, rfl, h1⟩ := h1
    refine seg_bind_wrap ?_
    rw [gc.over]
    refine wpAny_mono h1 (fun _ s2 h2 => ?_) fun _ _ z => z.elim
    obtain ⟨x, H2, I2, rx, y2, st2, fr2⟩ := h2
    have I2' : Inv X ((S, lstObj acc cc) :: (ip ++ pinsAt fp s2.heap)) σ H2 s2 := I2.pinned (fun b hb => (fok b hb).ok (fr2 b hb)) (T.obj _ _ st2)
    refine seg_bind_wrap ?_
    rw [gc.over]
    refine wpAny_mono (hg.run _ s2 σ H2 x u _ I2' rx (stp x H2 y2)) (fun _ s3 h3 => ?_) fun _ _ z => (hx _ _ z).elim
    obtain ⟨σ3, H3, I3, q3⟩ := h3
    rw [Sem.bind_eq_wrap' body, Sem.wrap_wrap]
    refine hb.run A S (ip ++ pinsAt fp s2.heap) R n ys s₀ _ fs _ _ _ _ s3 σ3 H3 (W (i + 1)) ⟨gc.pn, fun p hp => ?_, gc.apart, gc.over, gc.split, gc.guard, rfl⟩ hn (fun n' ys' s₀' s4 σ4 H4 hn' G4 w4 => ?_) ⟨acc, cc, r, I3⟩ q3
    · rcases List.mem_append.mp hp with z | z
      · exact gc.ip p z
      · exact fun e => (fok p.1 (of_pinsAt z).1).2.2.2.2.2 e.symm
    · obtain ⟨acc4, cc4, r4, I4⟩ := G4
      refine seg_again rfl (ih (i + 1) n' ys' s₀' s4 σ4 H4 (by omega) lt hn' w4 ⟨acc4, cc4, r4, I4.pins_of fun p hp => ?_⟩ (T.keep _ _ _ st2 fun b hb o eo => ?_) fun b hb => ?_)
      · rcases List.mem_cons.mp hp with z | z
        · rw [z]
          exact I4.pin _ (List.mem_append_right _ List.mem_cons_self)
        · exact I4.pin p (List.mem_append_right _ (List.mem_cons_of_mem _ (List.mem_append_left _ z)))
      · exact (I4.pin (b, o) (List.mem_append_right _ (List.mem_cons_of_mem _ (List.mem_append_right _ (mem_pinsAt hb eo))))).1
      · obtain ⟨o, eo, _⟩ := T.obj _ _ st2 b hb
        exact (I4.pin (b, o) (List.mem_append_right _ (List.mem_cons_of_mem _ (List.mem_append_right _ (mem_pinsAt hb eo))))).2.1
/-- two clauses -/
abbrev gEx2 (elt tg iter tg1 iter1 : Expr) (scope : Scope) (pos : Pos) : Expr := .GeneratorExp elt [⟨tg, iter, [], 0⟩, ⟨tg1, iter1, [], 0⟩] scope pos
abbrev emitS (elt : Expr) (env : Env) : Sem Unit := do let v ← eval elt env; standAt elt.pos; let _ ← yieldOut env v
abbrev inS (e iter1 : Expr) (env : Env) : Sem Unit := do
  let x ← eval iter1 env
  standAt iter1.pos
  let x ← foldedSetIterable iter1 env x
  let _ ← runOwn (.compStart e 1 (← holding [x] (pyIter x)) .none env) env
theorem den_in {elt tg iter tg1 iter1 : Expr} {scope : Scope} {pos : Pos} {it : Addr} : (model X.prog X.w).den (.compLoop (gEx2 elt tg iter tg1 iter1 scope pos) 1 (.ref it) .none X.env) = Sem.onRaise (standAt iter1.pos >>= fun _ => pyNext (.ref it) >>= fun r => match r with
      | none => pure (.done .next)
      | some v => letOwnedTupleGo tg1 (.ref it) v >>= fun _ => assign tg1 X.env v >>= fun _ => emitS elt X.env >>= fun _ => again (.compLoop (gEx2 elt tg iter tg1 iter1 scope pos) 1 (.ref it) .none X.env)) (fun x => do noteFrame x X.env; theTreesLotGoes x) := by
  rfl
theorem den_out {elt tg iter tg1 iter1 : Expr} {scope : Scope} {pos : Pos} {it : Addr} : (model X.prog X.w).den (.compLoop (gEx2 elt tg iter tg1 iter1 scope pos) 0 (.ref it) .none X.env) = Sem.onRaise (standAt iter.pos >>= fun _ => pyNext (.ref it) >>= fun r => match r with
      | none => pure (.done .next)
      | some v => letOwnedTupleGo tg (.ref it) v >>= fun _ => assign tg X.env v >>= fun _ => inS (gEx2 elt tg iter tg1 iter1 scope pos) iter1 X.env >>= fun _ => again (.compLoop (gEx2 elt tg iter tg1 iter1 scope pos) 0 (.ref it) .none X.env)) (leaving X.env) := by
  have h : ∀ f : Unit → Sem PySem.Fin, (inS (gEx2 elt tg iter tg1 iter1 scope pos) iter1 X.env >>= f) = (eval iter1 X.env >>= fun x => standAt iter1.pos >>= fun _ => foldedSetIterable iter1 X.env x >>= fun x => holding [x] (pyIter x) >>= fun v =>
      runOwn (.compStart (gEx2 elt tg iter tg1 iter1 scope pos) 1 v .none X.env) X.env >>= fun _ => f ()) := fun f => by
    simp only [inS, bind_assoc, pure_bind]
  simp only [h]
  rfl
theorem den_one {elt tg iter : Expr} {scope : Scope} {pos : Pos} {it : Addr} : (model X.prog X.w).den (.compLoop (.GeneratorExp elt [⟨tg, iter, [], 0⟩] scope pos) 0 (.ref it) .none X.env) = Sem.onRaise (standAt iter.pos >>= fun _ => pyNext (.ref it) >>= fun r => match r with
      | none => pure (.done .next)
      | some v => letOwnedTupleGo tg (.ref it) v >>= fun _ => assign tg X.env v >>= fun _ => emitS elt X.env >>= fun _ => again (.compLoop (.GeneratorExp elt [⟨tg, iter, [], 0⟩] scope pos) 0 (.ref it) .none X.env)) (leaving X.env) := by
  rfl
def tIn (wi : TI) (g : TG) (tb : TB) : TB := fun ys σ H N => wi σ H fun J H1 => tLoop J g tb ys σ H1 N
theorem start_in {elt tg iter tg1 iter1 : Expr} {scope : Scope} {pos : Pos} {it : Addr} {A : Around} {R : GenEnd} {Y : Protocol} {n : Nat} {s₀ s : Shared} {fs : List Frame} {J : It} {fp : List Addr} {tn : Nat → Heap → Prop} (T : Turn X.prog X.w X.K tg1 J fp it tn) (st : tn 0 s.heap)
    (h : Seg (model X.prog X.w) A R Y n s₀ (.compLoop (gEx2 elt tg iter tg1 iter1 scope pos) 1 (.ref it) .none X.env) ((model X.prog X.w).den (.compLoop (gEx2 elt tg iter tg1 iter1 scope pos) 1 (.ref it) .none X.env)) fs s) :
    Seg (model X.prog X.w) A R Y n s₀ (.compStart (gEx2 elt tg iter tg1 iter1 scope pos) 1 (.ref it) .none X.env) ((model X.prog X.w).den (.compStart (gEx2 elt tg iter tg1 iter1 scope pos) 1 (.ref it) .none X.env)) fs s := by
  show Seg _ A _ _ _ s₀ _ ((compStart (gEx2 elt tg iter tg1 iter1 scope pos) 1 (.ref it) .none X.env).onRaise (fun x => do noteFrame x X.env; standAt theWindowsPlace)) fs s
  unfold compStart
  rw [Sem.onRaise_eq_wrap]
  show Seg _ A _ _ _ s₀ _ ((ask >>= _).wrap _ _ _ _) fs s
  refine seg_bind_wrap (wpAny_askSetting ?_)
  split
  · exact seg_again rfl h
  · refine seg_bind_wrap (wpAny_rule ?_)
    first
    | exact seg_bind_wrap (wpAny_standAt (seg_bind_wrap (T.self _ 0 s _ _ st (seg_again rfl h))))
    | (show Seg _ A _ _ _ s₀ _ ((standAt iter1.pos >>= _).wrap _ _ _ _) fs s
       exact seg_bind_wrap (wpAny_standAt (seg_bind_wrap (T.self _ 0 s _ _ st (seg_again rfl h)))))
theorem gb_in {elt tg iter tg1 iter1 : Expr} {scope : Scope} {pos : Pos} {wi : TI} {g : TG} {tb : TB} (hx : ∀ e s, ¬ X.xe e s) (hc : X.calm = true) (hi : PI X tg1 iter1 wi) (hg : PG X tg1 g) (hb : GB X (emitS elt X.env) tb) (hs : ∀ x, foldedSetIterable iter1 X.env x = pure x) :
    GB X (inS (gEx2 elt tg iter tg1 iter1 scope pos) iter1 X.env) (tIn wi g tb) := by
  refine ⟨fun A S ip R n ys s₀ c fs K J gd lv s σ H N gc hn k hI ht => ?_⟩
  obtain ⟨acc, cc, r, I⟩ := hI
  refine seg_bind_wrap ?_
  rw [gc.over]
  refine wpAny_mono (hi.run _ s σ H _ I ht) (fun v s1 h1 => ?_) fun _ _ z => (hx _ _ z).elim
  refine seg_bind_wrap (wpAny_standAt ?_)
  refine seg_bind_wrap (wpAny_of_eq (hs v) ?_)
  refine seg_bind_wrap (wpAny_holding ?_)
  rw [gc.over]
  refine wpAny_mono h1 (fun itv s2 h2 => ?_) fun _ _ z => (hx _ _ z).elim
  obtain ⟨it, fp, tn, J1, H2, rfl, I2, T, st2, f2, L, W, w0, step, last⟩ := h2
  refine seg_call fun p => ?_
  have gl := fun (kk : Result → Sem PySem.Fin) => gc_loop (k := kk) (c' := .compLoop (gEx2 elt tg iter tg1 iter1 scope pos) 1 (.ref it) .none X.env) (l := lv []) (kp := []) (p := p) gc rfl rfl
  refine start_in T st2 ?_
  exact cloop (iter := iter1) hx hc T hg hb den_in (gl _) (fun b hb => fp_st (f2 b hb)) step last (fun n' ys' s₀' s' σ' H' hn' G' q' => seg_leaf (.ok .next) (k n' ys' s₀' s' σ' H' hn' G' q')) L 0 n ys s₀ s2 σ H2 rfl (Nat.zero_le _) hn w0 ⟨acc, cc, r, I2⟩ st2 fun b hb => (f2 b hb).1
end
end Lt

set_option Elab.async false
set_option linter.all false
set_option maxRecDepth 100000
set_option maxHeartbeats 4000000
/-! A generator expression is made: one clause or more. tuple(g). -/
namespace Lt
open PySem PySem.Spec PyProof.Rows L2 GenW
abbrev gExM (elt tg iter : Expr) (rest : List Comprehension) (scope : Scope) (pos : Pos) : Expr := .GeneratorExp elt (⟨tg, iter, [], 0⟩ :: rest) scope pos
section
variable {M : Model} {A : Around} {E : Value → Shared → Prop} {s : Shared}
theorem eval_many (elt tg iter : Expr) (rest : List Comprehension) (scope : Scope) (pos : Pos) (env : Env) (hco : scope.isCoroutine = false) :
    eval (gExM elt tg iter rest scope pos) env = (eval iter env >>= fun x => standAt iter.pos >>= fun _ => genFold iter env x >>= fun x => holding [x] (pyIter x) >>= fun it => enterFrame >>= fun _ => closureFor scope env >>= fun cl =>
      genexprCode env pos (env.qual ++ "<genexpr>") scope >>= fun code => builtinsFor env.globals env.builtins >>= fun bi => newFunctionEnv scope env.globals cl [(".0", it)] (env.qual ++ "<genexpr>.") none code none bi >>= fun cenv =>
      newGenerator (.compStart (gExM elt tg iter rest scope pos) 0 it .none cenv) "<genexpr>" (env.qual ++ "<genexpr>")) := by
  rw [arm_eval_GeneratorExp]
  simp only [hco, Bool.false_eq_true, if_false]
  cases iter <;> rfl
theorem make_many {elt tg iter : Expr} {rest : List Comprehension} {scope : Scope} {env : Env} {pos : Pos} {Q : Value → Shared → Prop} (hco : scope.isCoroutine = false) (hclos : closureFor scope env = pure []) (hcell : ∀ y ∈ scope.names, y.2 ≠ .cell) (h0 : scope.names.lookup (".0" : Str) = some NameKind.local)
    (hkind : scope.kind = .function) (hroom : A.depth < recursionLimit)
    (h : wpAny M A (eval iter env) (fun xv s1 => wpAny M A (pyIter xv) (fun it s2 => s2.heap.NoLimit ∧
      wpAny M A (genexprCode env pos (env.qual ++ "<genexpr>") scope) (fun code s3 => wpAny M A (builtinsFor env.globals env.builtins) (fun bi s4 =>
        ∀ h', h'.Ns s4.heap.objs.size (fun y => if y = ".0" then some it else none) → Heap.SameBut s4.heap.objs.size (s4.heap.push { cls := .type "frame", data := .dict #[] }) h' →
          Q (.ref h'.objs.size) { s4 with
            gens := s4.gens.push (.fresh (.compStart (gExM elt tg iter rest scope pos) 0 it .none (genEnv scope [] s4.heap.objs.size code bi env))),
            toks := s4.toks + 1 + 1 + 1,
            heap := h'.push { cls := .type "generator", data := .fields #[.int s4.gens.size 0, .str "<genexpr>" (s4.toks + 1), .str (env.qual ++ "<genexpr>") (s4.toks + 1 + 1)] } }) E s3) E s2) E s1) E s)
    (hs : ∀ x, genFold iter env x = pure x) : wpAny M A (eval (gExM elt tg iter rest scope pos) env) Q E s := by
  rw [eval_many _ _ _ _ _ _ _ hco, hclos]
  refine wpAny_bind (wpAny_mono h (fun xv s1 h1 => ?_) fun _ _ z => z)
  refine wpAny_bind (wpAny_standAt (wpAny_bind (wpAny_of_eq (hs xv) ?_)))
  refine wpAny_bind (wpAny_holding (wpAny_mono h1 (fun it s2 h2 => ?_) fun _ _ z => z))
  refine wpAny_bind (wpAny_enterFrame h2.1 hroom (wpAny_bind (wpAny_pure ?_)))
  refine wpAny_bind (wpAny_mono h2.2 (fun code s3 h3 => ?_) fun _ _ z => z)
  refine wpAny_bind (wpAny_mono h3 (fun bi s4 h4 => ?_) fun _ _ z => z)
  have own : ∀ y ∈ ([((".0" : Str), it)] : List (Str × Value)), scope.names.lookup y.1 = some NameKind.local := fun y hy => by
    rw [List.mem_singleton.mp hy]
    exact h0
  refine wpAny_bind (wpAny_newFunctionEnv hcell own (fun h' hn' hs' => ?_) hkind)
  have e : (fun y : Str => ([((".0" : Str), it)] : List (Str × Value)).reverse.lookup y) = fun y : Str => if y = (".0" : Str) then some it else none := by
    funext y
    by_cases hy : y = ".0"
    · subst hy
      simp
    · have no : (y == (".0" : Str)) = false := by simpa using hy
      simp [List.lookup, no, hy]
  rw [e] at hn'
  simp only [newGenerator, newFields]
  exact wpAny_bind (wpAny_newGen (wpAny_bind (wpAny_mkText (wpAny_bind (wpAny_mkText (wpAny_newObj_type (h4 h' hn' hs') (by size_fits)))))))
end
structure GenMany (scope : Scope) (xs : List Str) : Prop where
  kind : scope.kind = .function
  co : scope.isCoroutine = false
  own : ∀ y ∈ scope.names, y.2 ≠ .cell ∧ y.2 ≠ .free
  dot : scope.names.lookup (".0" : Str) = some NameKind.local
def gx2 (X : Cx) (A : Around) (xs : List Str) (scope : Scope) (C : Addr) (code : Value) (s4 : Shared) (H4 : Hp) (ex : List Addr) (pn : List (Addr × Obj)) : Cx :=
  { prog := X.prog, w := X.w, K := X.K, mg := X.mg, base := X.base, A := A, N := ".0" :: xs, s_0 := s4, H_0 := H4, env := genEnv scope [] C code builtinsNs X.env, outer := X.stack, stack := genEnv scope [] C code builtinsNs X.env :: X.stack,
    ex := ex, fn := fun _ => true, calm := true, pn := pn, xe := fun _ _ => False }
theorem ov_room {k : Nat} {A : Around} {e : Expr} {it : Value} {cenv : Env} {gs : List Comprehension} {sc : Scope} {p : Pos} (r : Room (k + 1) A) : Room k (A.over (.compLoop (.GeneratorExp e gs sc p) 0 it .none cenv) []) := by
  refine ⟨r.hd, ?_, ?_⟩
  · have := r.dp
    show A.depth + 1 + 3 * k + 5 < _
    omega
  · have := r.un
    rw [ov_units]
    omega
section
variable {X : Cx} {pins : List (Addr × Obj)} {σ : L2.St} {H : Hp} {s : Shared}
/-- the code object, where nothing is new -/
theorem gen_code0 {c P : Addr} {ps : Array Value} {gpos : Pos} {qn : Str} {scope : Scope} {E : Value → Shared → Prop} {B : Value → Addr → Shared → Prop} (inv : Inv X pins σ H s) (TB : GxR.TabB X.base X.mg c P) (hc : X.env.code = .ref c) (hP : H P = some (.tbl ps)) (ht : TriplesOk ps.toList)
    (go : ∀ (code : Value) (h3 : Heap) (tk : Nat) (more : Array Value), Heap.ExtBut P s.heap h3 → s.heap.objs.size ≤ h3.objs.size → h3.get? P = some { cls := .none, data := .fields (ps ++ more) } → TriplesOk (ps ++ more).toList → B code builtinsNs { s with heap := h3, toks := tk }) :
    wpAny (model X.prog X.w) X.A (genexprCode X.env gpos qn scope) (fun code s3 => wpAny (model X.prog X.w) X.A (builtinsFor X.env.globals X.env.builtins) (B code) E s3) E s := by
  have at1 : s.heap.get? P = some (PySem.W.tabObj ps) := inv.hok P _ hP
  have head : PySem.W.CodeHd s.heap c P := TB.code.keeps fun b u e => inv.bk b u e
  have bis : ∀ (code : Value) (h3 : Heap) (tk : Nat), Heap.ExtBut P s.heap h3 → B code builtinsNs { s with heap := h3, toks := tk } →
      wpAny (model X.prog X.w) X.A (builtinsFor X.env.globals X.env.builtins) (B code) E { s with heap := h3, toks := tk } := fun code h3 tk ext b => by
    obtain ⟨bm, ob, b1, b2, _, b4, b5, b6, b7, b8⟩ := TB.bm
    refine wpAny_builtinsFor (m := X.mg) ?_ b1 b2 (ext _ _ b4 (inv.bk _ _ b5)) b6 b7 b8 b
    rw [inv.ok.glob]
    exact (inv.mod.glob.keeps inv.bk).extBut ext TB.gP
  cases found : codeAmong gpos ps.toList with
  | some cv => exact wpAny_genexprCode_hit hc (head.code at1 ht) found (bis cv _ s.toks (.refl _ _) (go cv _ s.toks #[] (.refl _ _) (Nat.le_refl _) (by rw [Array.append_empty]; exact at1) (by rw [Array.append_empty]; exact ht)))
  | none =>
    refine wpAny_genexprCodeX hc (head.code at1 ht) (head.tab at1) found fun c' h3 tk ext ge lt isc _ tab _ => ?_
    obtain ⟨_, _, _, _, _, _, _, _, _, _, _, _, _, _, _, _, _, _, _, tri, _⟩ := isc
    exact bis _ h3 tk ext (go _ h3 tk _ ext (Nat.le_trans ge (Nat.le_of_lt lt)) tab.2 tri)
/-- what a generator expression wants: its first thing walked, the table, then its loop with nothing out -/
def tGen (xs : List Str) (P : Addr) (wi : TI) (g : TG) (tb : TB) : TGen := fun σ H cont => wi σ H fun J H1 => GxR.TabG H1 P ∧ ∀ (I : Addr) (H2 : Hp), GxR.Tabbed P H1 H2 → tLoop J g tb [] (some (.ref I) :: xs.map fun _ => none) H2 fun ys _ H3 => cont ys H3
theorem start_out {X' : Cx} {elt tg iter : Expr} {rest : List Comprehension} {scope : Scope} {pos : Pos} {it : Addr} {A : Around} {R : GenEnd} {Y : Protocol} {n : Nat} {s₀ s : Shared} {J : It} {fp : List Addr} {tn : Nat → Heap → Prop} (T : Turn X'.prog X'.w X'.K tg J fp it tn) (st : tn 0 s.heap)
    (h : Seg (model X'.prog X'.w) A R Y n s₀ (.compLoop (gExM elt tg iter rest scope pos) 0 (.ref it) .none X'.env) ((model X'.prog X'.w).den (.compLoop (gExM elt tg iter rest scope pos) 0 (.ref it) .none X'.env)) [] s) :
    Seg (model X'.prog X'.w) A R Y n s₀ (.compStart (gExM elt tg iter rest scope pos) 0 (.ref it) .none X'.env) ((model X'.prog X'.w).den (.compStart (gExM elt tg iter rest scope pos) 0 (.ref it) .none X'.env)) [] s := by
  show Seg _ A _ _ _ s₀ _ ((compStart (gExM elt tg iter rest scope pos) 0 (.ref it) .none X'.env).onRaise (leaving X'.env)) [] s
  unfold compStart
  rw [Sem.onRaise_eq_wrap]
  show Seg _ A _ _ _ s₀ _ ((ask >>= _).wrap _ _ _ _) [] s
  refine seg_bind_wrap (wpAny_askSetting ?_)
  split
  · exact seg_again rfl h
  · refine seg_bind_wrap (wpAny_rule ?_)
    first
    | exact seg_bind_wrap (wpAny_standAt (seg_bind_wrap (T.self _ 0 s _ _ st (seg_again rfl h))))
    | (show Seg _ A _ _ _ s₀ _ ((standAt iter.pos >>= _).wrap _ _ _ _) [] s
       exact seg_bind_wrap (wpAny_standAt (seg_bind_wrap (T.self _ 0 s _ _ st (seg_again rfl h)))))
theorem pgen_exp {c P : Addr} {elt tg iter : Expr} {rest : List Comprehension} {xs : List Str} {scope : Scope} {gpos : Pos} {wi : TI} {g : TG} {tb : TB} {k j : Nat} {body : Env → Sem Unit} (hr : Room j X.A) (TB : GxR.TabB X.base X.mg c P) (hc : X.env.code = .ref c) (S : GenMany scope xs) (hi : PI X tg iter wi)
    (den : ∀ (X' : Cx) (it : Addr), (model X'.prog X'.w).den (.compLoop (gExM elt tg iter rest scope gpos) 0 (.ref it) .none X'.env) = Sem.onRaise (standAt iter.pos >>= fun _ => pyNext (.ref it) >>= fun r => match r with
      | none => pure (.done .next)
      | some v => letOwnedTupleGo tg (.ref it) v >>= fun _ => assign tg X'.env v >>= fun _ => body X'.env >>= fun _ => again (.compLoop (gExM elt tg iter rest scope gpos) 0 (.ref it) .none X'.env)) (leaving X'.env))
    (hg : ∀ (A : Around) (C : Addr) (code : Value) (s4 : Shared) (H4 : Hp) (ex : List Addr) (pn : List (Addr × Obj)), PG (gx2 X A xs scope C code s4 H4 ex pn) tg g)
    (hb : ∀ (A : Around) (C : Addr) (code : Value) (s4 : Shared) (H4 : Hp) (ex : List Addr) (pn : List (Addr × Obj)), Room k A → GB (gx2 X A xs scope C code s4 H4 ex pn) (body (genEnv scope [] C code builtinsNs X.env)) tb) (hs : ∀ v, genFold iter X.env v = pure v := by intro _; rfl) :
    PGen X (k + 1) (gExM elt tg iter rest scope gpos) (tGen xs P wi g tb) (fun _ _ _ => False) := by
  refine ⟨fun pins s σ H cont inv h => ?_⟩
  have noF : ∀ y ∈ scope.names, y.2 ≠ .free := fun y hy => (S.own y hy).2
  have clo : closureFor scope X.env = pure [] := by
    rw [closure_ok fun y hy e => absurd e (noF y hy), clo_nil _ _ _ noF]
  refine make_many S.co clo (fun y hy => (S.own y hy).1) S.dot S.kind (by have := hr.dp; omega) ?_ hs
  refine thn (hi.run pins s σ H _ inv h) fun xv s1 h1 => thn h1 fun itv s2 h2 => ?_
  obtain ⟨it, fp, tn, J, H1, rfl, inv1, T, st, fok, ⟨tb0, hP, ht⟩, q⟩ := h2
  have at0 : s2.heap.get? P = some { cls := .none, data := .fields tb0 } := inv1.hok P _ hP
  refine ⟨inv1.nolimit, gen_code0 inv1 TB hc hP ht fun code h3 tk more ext big at3 tri => ?_⟩
  intro h' ns same
  have keep3 : ∀ b u, b ≠ P → s2.heap.get? b = some u → h3.get? b = some u := fun b u nb e => ext b u nb e
  have inv4 := GxR.inv_tab (more := more) (h' := h3) (g' := s2.gens) (d' := s2.drawn) (t' := tk) inv1 hP keep3 at3 inv1.bare
  have tab4 : GxR.Tabbed P H1 (upd H1 P (.tbl (tb0 ++ more))) := ⟨⟨_, upd_same, tri⟩, fun b nb => upd_ne nb⟩
  have fpo : ∀ b ∈ fp, ∃ o, s2.heap.get? b = some o ∧ ∀ v, o.data ≠ .cell v := T.obj _ _ st
  have neP : ∀ b ∈ fp, b ≠ P := fun b hb e => by
    have z := (fok b hb).1
    rw [e, hP] at z
    cases z
  have st3 : tn 0 h3 := T.keep _ _ _ st fun b hb o e => keep3 b o (neP b hb) e
  have none3 : ∀ b ∈ fp, upd H1 P (.tbl (tb0 ++ more)) b = none := fun b hb => by
    rw [upd_ne (neP b hb)]
    exact (fok b hb).1
  generalize hH4 : upd H1 P (.tbl (tb0 ++ more)) = H4 at inv4 tab4 none3
  have sz' : h'.objs.size = h3.objs.size + 1 := by
    rw [same.1]
    exact Heap.size_push ..
  have keep' : ∀ b o, h3.get? b = some o → h'.get? b = some o := fun b o e => same.extBut b o (Nat.ne_of_lt (Heap.lt_size e)) (Heap.get?_push_of_some _ e)
  have fplt : ∀ b ∈ fp, b < h3.objs.size := fun b hb => by
    obtain ⟨o, e, _⟩ := fpo b hb
    exact Heap.lt_size (keep3 b o (neP b hb) e)
  have none4 : ∀ b, h3.objs.size ≤ b → H4 b = none := fun b hb => inv4.hok.fresh hb
  have naf : ∀ b, h3.objs.size ≤ b → b ∉ frs X.stack := fun b hb z => by
    obtain ⟨_, o, e, _⟩ := inv4.stack.mem z
    exact absurd (Nat.lt_of_lt_of_le (Heap.lt_size e) hb) (Nat.lt_irrefl _)
  generalize hgo : ({ cls := .type "generator", data := .fields #[.int ((s2.gens.size : Nat) : Int) 0, .str "<genexpr>" (tk + 1), .str (X.env.qual ++ "<genexpr>") (tk + 1 + 1)] } : Obj) = go
  have isg : ∀ hh : Heap, hh.get? h'.objs.size = some go → hh.IsGen h'.objs.size s2.gens.size := fun hh e => ⟨go, _, _, e, by rw [← hgo], by rw [← hgo], by rw [← hgo]⟩
  have hgp : (h'.push go).get? h'.objs.size = some go := Heap.get?_push_size _ (by rw [← hgo]; rfl)
  have up5 : ∀ b o, h3.get? b = some o → (h'.push go).get? b = some o := fun b o e => Heap.get?_push_of_some _ (keep' b o e)
  refine ⟨H4, { s2 with heap := h3, toks := tk }, fp, inv4, fun b hb => ⟨(fok b hb).2.2.2.1, (fok b hb).2.1, (fok b hb).2.2.2.2.1, (fok b hb).2.2.2.2.2⟩, h'.objs.size, s2.gens.size, _, rfl, ?_, ?_, isg _ hgp, Array.getElem?_push_size .., rfl, inv1.bare.push rfl, ?_, up5, ?_⟩
  · show h3.objs.size ≤ h'.objs.size
    omega
  · show h'.objs.size < (h'.push go).objs.size
    rw [Heap.size_push]
    exact Nat.lt_succ_self _
  · exact inv4.nolimit.keeps up5
  intro Aw Sx sW hrw hfr hSx hkW hSo hos hba
  have szp : (h'.push go).objs.size = h'.objs.size + 1 := Heap.size_push ..
  have hSz : h'.objs.size < Sx := by
    have z : (h'.push go).objs.size ≤ Sx := hSx
    omega
  have hS3 : h3.objs.size < Sx := by omega
  obtain ⟨cS, heS⟩ := hSo
  have upW : ∀ b o, h3.get? b = some o → sW.heap.get? b = some o := fun b o e => hkW b o (up5 b o e)
  have hea : sW.heap.get? h'.objs.size = some go := hkW _ _ hgp
  obtain ⟨A', eA⟩ : ∃ A' : Around, A' = Aw.over (.compLoop (gExM elt tg iter rest scope gpos) 0 (.ref it) .none (genEnv scope [] h3.objs.size code builtinsNs X.env)) [] := ⟨_, rfl⟩
  have roomA : Room k A' := by rw [eA]; exact ov_room hrw
  have framesA : A'.frames = some (genEnv scope [] h3.objs.size code builtinsNs X.env :: X.stack) := by
    rw [eA]
    exact ov_frames hfr
  obtain ⟨X', eX⟩ : ∃ X' : Cx, X' = gx2 X A' xs scope h3.objs.size code { s2 with heap := h3, toks := tk } H4 fp [(h'.objs.size, go)] := ⟨_, rfl⟩
  have nsW : sW.heap.Ns h3.objs.size (fun y => if y = ".0" then some (.ref it) else none) := by
    obtain ⟨o, es, ep, ho, r⟩ := ns
    exact ⟨o, es, ep, hkW _ _ (Heap.get?_push_of_some _ ho), r⟩
  have invW : Inv X' [(Sx, lstObj #[] cS)] (some (.ref it) :: xs.map fun _ => none) H4 sW := by
    rw [eX]
    have look : ∀ y, ((genEnv scope [] h3.objs.size code builtinsNs X.env).kindOf y = some .cell ∨ (genEnv scope [] h3.objs.size code builtinsNs X.env).kindOf y = some .free) → False := fun y z => by
      rcases z with z | z
      · exact (S.own _ (PySem.mem_of_lookup (show scope.names.lookup y = some .cell from z))).1 rfl
      · exact (S.own _ (PySem.mem_of_lookup (show scope.names.lookup y = some .free from z))).2 rfl
    refine ⟨⟨inv1.ok.mod, S.kind, inv1.ok.glob, rfl, Nat.le_refl _, fun _ _ _ z => (nomatch z), fun y z => (look y z).elim, fun _ _ _ z => (nomatch z), fun _ => roomA.hd, framesA, .inr ⟨rfl, rfl⟩, fun b hb => ?_, inv4.bs, Nat.le_trans inv4.ok.bsz inv4.sz, fun b o e => ?_, fun b hb => ?_, inv4.stack, inv4.stkFree⟩,
      hos, hba, Un.kept upW, ⟨_, nsW, fun i y v h1 h2 h3' => ?_⟩, fun _ _ z => (nomatch z), none4 _ (Nat.le_refl _), fun _ _ z => (nomatch z), fun p hp => ?_, inv4.hok.kept upW, ?_⟩
    · exact ⟨Nat.ne_of_lt (fplt b hb), fun _ _ z => (nomatch z)⟩
    · intro z
      rcases (fok b z).2.2.2.1 with y | y
      · exact inv1.ok.noex b o e y
      · exact absurd (Nat.lt_of_lt_of_le (Heap.lt_size e) (Nat.le_trans inv1.ok.bsz y)) (Nat.lt_irrefl _)
    · intro z
      rcases List.mem_cons.mp (inv1.stkSub b z) with y | y
      · exact (fok b hb).2.1 y
      · exact (fok b hb).2.2.1 y
    · cases i with
      | zero =>
        cases h1
        cases h2
        exact ⟨.ref it, rfl, .inl ⟨S.dot, by simp⟩⟩
      | succ i =>
        rw [List.getElem?_cons_succ, List.getElem?_map] at h2
        cases e : xs[i]? with
        | none => rw [e] at h2; cases h2
        | some z => rw [e] at h2; cases h2
    · rcases List.mem_append.mp hp with z | z
      · rw [show p = (h'.objs.size, go) from List.mem_singleton.mp z]
        refine ⟨hea, none4 _ (by omega), ?_, naf _ (by omega), fun v y => ?_⟩
        · show h'.objs.size ≠ h3.objs.size
          omega
        · rw [← hgo] at y
          cases y
      · rw [show p = (Sx, lstObj #[] cS) from List.mem_singleton.mp z]
        refine ⟨heS, none4 _ (by omega), ?_, naf _ (by omega), fun v y => by cases y⟩
        exact Nat.ne_of_gt hS3
    · show (some (V.ref it) :: xs.map fun _ => (none : Option V)).length = ((".0" : Str) :: xs).length
      simp
  have G0 : GI X' Sx [] [] (some (.ref it) :: xs.map fun _ => none) H4 sW := ⟨#[], cS, .nil, invW⟩
  have gc : GC X' Sx [] Aw (.compLoop (gExM elt tg iter rest scope gpos) 0 (.ref it) .none X'.env) [] id := by
    rw [eX]
    refine ⟨fun p hp => ?_, fun p hp => (nomatch hp), ⟨?_, ?_, fun _ _ z => (nomatch z)⟩, eA.symm, rfl, rfl, rfl⟩
    · rw [List.mem_singleton.mp hp]
      exact Nat.ne_of_lt hSz
    · show h3.objs.size ≤ Sx
      omega
    · exact Nat.ne_of_gt hS3
  have fokX : ∀ b ∈ fp, FpS X' Sx [] b := fun b hb => by
    rw [eX]
    have l := fplt b hb
    refine ⟨Nat.ne_of_lt l, fun z => ?_, .inl hb, fun _ _ z => (nomatch z), fun p hp => ?_, fun z => ?_⟩
    · rcases List.mem_cons.mp (inv1.stkSub b z) with y | y
      · exact (fok b hb).2.1 y
      · exact (fok b hb).2.2.1 y
    · rcases List.mem_append.mp hp with z | z
      · rw [List.mem_singleton.mp z]
        exact Nat.ne_of_gt (Nat.lt_of_lt_of_le l (by omega))
      · cases z
    · exact absurd (Nat.lt_trans l hS3) (by rw [z]; exact Nat.lt_irrefl _)
  have tX : X'.prog = X.prog ∧ X'.w = X.w ∧ X'.K = X.K ∧ X'.calm = true ∧ X'.env = genEnv scope [] h3.objs.size code builtinsNs X.env := by
    rw [eX]
    exact ⟨rfl, rfl, rfl, rfl, rfl⟩
  obtain ⟨L, W, w0, step, last⟩ := q it H4 tab4
  have TX : Turn X'.prog X'.w X'.K tg J fp it tn := by
    rw [tX.1, tX.2.1, tX.2.2.1]
    exact T
  have hxX : ∀ e s, ¬ X'.xe e s := by
    rw [eX]
    exact fun _ _ z => z
  have bX : GB X' (body X'.env) tb := by
    rw [eX]
    exact hb _ _ _ _ _ _ _ roomA
  have gX : PG X' tg g := by
    rw [eX]
    exact hg _ _ _ _ _ _ _
  have pinned : ∀ {ys : List V} {s' : Shared} {σ' : L2.St} {ip : List (Addr × Obj)} {H' : Hp}, GI X' Sx ip ys σ' H' s' → s'.heap.IsGen h'.objs.size s2.gens.size := fun {ys s' σ' ip H'} hI => by
    obtain ⟨acc, cc, _, J⟩ := hI
    rw [eX] at J
    exact isg _ (J.pin (h'.objs.size, go) (List.mem_append_left _ (List.mem_singleton.mpr rfl))).1
  have loop := cloop (iter := iter) (R := fun n s₀ r s' => r = .ok .next ∧ ∃ ys σ' H', n + ys.length = sizeLine ∧ GI X' Sx [] ys σ' H' s' ∧ cont ys H') hxX tX.2.2.2.1 TX gX bX (den X' it) gc fokX step last
    (fun n ys s₀ s' σ' H' hn G' c' => seg_end (.ok .next) ⟨rfl, ys, σ', H', hn, G', c'⟩) L 0 sizeLine [] sW sW _ H4 rfl (Nat.zero_le _) (Nat.add_zero _) w0 G0 (T.keep _ _ _ st3 fun b hb o e => upW b o e) none3
  have run := start_out (X' := X') (s := sW) TX (T.keep _ _ _ st3 fun b hb o e => upW b o e) loop
  rw [tX.1, tX.2.1, tX.2.2.2.2] at run
  refine seg_imp (fun n s₀ r s' hR => ?_) (fun n s₀ v s' kap kap' hkk hY => ?_) sizeLine run
  · obtain ⟨rfl, ys, σ', H', hn, hI, c'⟩ := hR
    obtain ⟨a1, _, _, acc, cc, ra, ea⟩ := hI.at
    obtain ⟨_, _, _, J'⟩ := hI
    rw [eX] at J'
    exact .inl ⟨.inr rfl, H', ys, acc, cc, J'.os, J'.bare, J'.base, J'.hok, a1, ea, ra, by omega, c'⟩
  · obtain ⟨ys, xx, ip, σ', H', hn, h2, hI, h3'⟩ := hY
    obtain ⟨_, _, _, acc, cc, ra, ea⟩ := hI.at
    have hgg := pinned hI
    obtain ⟨_, _, _, J'⟩ := hI
    rw [eX] at J'
    have hsz : acc.size = ys.length := by
      have e1 := ra.length
      have e2 : acc.toList.length = acc.size := by simp
      omega
    exact ⟨J'.os, J'.bare, J'.nolimit, hgg, ⟨acc, cc, ea, by rw [hsz]; exact hn⟩, fun s' z => hkk _ _ (h3' s' z)⟩
end
end Lt

set_option Elab.async false
set_option linter.all false
set_option maxRecDepth 100000
set_option maxHeartbeats 4000000
/-! tuple(g), g a generator expression just made. -/
namespace Lt
open PySem PySem.Spec PyProof.Rows L2 GenW
open Sem (wp)
open AutoSeq1 (wpAny_loadPart')
abbrev NoX : XK := fun _ _ _ => False
theorem noX {P : Program} {w : World} {outer : List Env} {H : Hp} {s s' : Shared} {e : Value} (c : CX P w outer H s NoX e s') : False := by
  obtain ⟨_, _, _, _, _, _, _, _, _, _, _, _, hW⟩ := c
  exact hW
section
variable {P : Program} {w : World} {outer : List Env} {H : Hp} {sc s : Shared} {ex : List Addr} {Q : List V → Hp → Prop} {A : Around} {k : Nat} {u : Value}
theorem collect_made {Q' : List Value → Shared → Prop} {E : Value → Shared → Prop} (hr : Room k A.in1.in1) (hfr : A.frames = some outer) (h : GMade P w k outer H sc ex Q NoX u s)
    (hQ : ∀ (s' : Shared) (acc : Array Value) (H' : Hp) (ys : List V), Vals ys acc.toList → ys.length ≤ sizeLine → s'.os = sc.os → AllBare s'.gens → Un (frs outer) ex H H' sc.heap s'.heap → HOk P w H' s'.heap → Q ys H' → Q' acc.toList s') :
    wpAny (model P w) A (collect u) Q' E s := by
  obtain ⟨a, g, c, rfl, ha1, ha2, hg, hgs, hos, hb, hl, hkp, wake⟩ := h
  have hSa : s.heap.objs.size ≠ a := Nat.ne_of_gt ha2
  have hcl : cStatics < s.heap.objs.size := let ⟨_, hn, _⟩ := hl; hn.lt
  have hSc : s.heap.objs.size ≠ cStatics := Nat.ne_of_gt hcl
  unfold collect
  refine wpAny_bind (wpAny_runValue (codeAny_builtin F.entry_proto_collect ?_))
  rw [Around.under_plainId F.plain_proto_collect _]
  show wpAny _ A.in1 (newList [] >>= fun l => again (.builtin "list.__iadd__" ⟨[l, .ref a], []⟩)) _ _ s
  refine wpAny_bind (wpAny_newObj_type ?_)
  refine wpAny_pure ⟨plainId_quiet F.plain_list_iadd _, codeAny_builtin F.entry_list_iadd ?_⟩
  rw [Around.under_plainId F.plain_list_iadd _]
  have k1 : ∀ b o, s.heap.get? b = some o → (s.heap.push { cls := .type "list", data := .seq ([] : List Value).toArray }).get? b = some o := fun b o e => Heap.get?_push_of_some _ e
  have gty : ∀ {h : Heap}, (∀ b o, s.heap.get? b = some o → h.get? b = some o) → h.IsGen a g := fun {h} q => hg.keeps q
  show wpAny _ A.in1 (Builtin.List.listExtendWith (.ref s.heap.objs.size) (.ref a) (.ref s.heap.objs.size)) _ _ _
  unfold Builtin.List.listExtendWith
  refine wpAny_bind (wpAny_typeOf (Heap.IsGen.typeIs (s := { s with heap := _ }) (gty k1)) ?_)
  have h1 : Builtin.List.listSameRef (.ref s.heap.objs.size) (.ref a) = false := by simp [Builtin.List.listSameRef, hSa]
  have h2 : (Value.type "generator" == Value.type "list") = false := by decide
  have h3 : (Value.type "generator" == Value.type "tuple") = false := by decide
  simp only [h1, h2, h3, Bool.or_false, Bool.false_eq_true, if_false]
  refine wpAny_bind (wpAny_pyIter_gen (s := { s with heap := _ }) (gty k1) ?_)
  refine wpAny_bind (wpAny_holding ?_)
  unfold Builtin.List.listLengthHint
  refine wpAny_bind (wpAny_specialOf (Heap.IsGen.typeIs (s := { s with heap := _ }) (gty k1)) F.gen_no_len ?_)
  show wpAny _ A.in1 (specialOf (Value.ref a) (Str.ofString "__length_hint__") >>= _) _ _ _
  refine wpAny_bind (wpAny_specialOf (Heap.IsGen.typeIs (s := { s with heap := _ }) (gty k1)) F.gen_no_hint ?_)
  refine wpAny_pure ?_
  show wpAny _ A.in1 (rule "list.extend.makes-room" >>= fun _ => Builtin.List.listTouch (.ref s.heap.objs.size) >>= fun _ =>
    again (.builtin "list.extend.loop" ⟨[.ref s.heap.objs.size, .ref a, .ref s.heap.objs.size], []⟩)) _ _ _
  refine wpAny_bind (wpAny_rule ?_)
  have hS1 : (s.heap.push { cls := .type "list", data := .seq ([] : List Value).toArray }).get? s.heap.objs.size = some { cls := .type "list", data := .seq ([] : List Value).toArray } := Heap.get?_push_size _ rfl
  refine wpAny_bind ?_
  show wpAny _ A.in1 (updateSeq s.heap.objs.size (·.push .none) >>= fun _ => updateSeq s.heap.objs.size (·.pop)) _ _ _
  refine wpAny_bind (wpAny_updateSeq hS1 rfl ?_)
  have hS2 := Heap.get?_update_self (Obj.mapSeq (·.push Value.none)) hS1 rfl
  refine wpAny_updateSeq hS2 rfl ?_
  have hS3 := Heap.get?_update_self (Obj.mapSeq (·.pop)) hS2 rfl
  have up : ∀ (h : Heap) (f : Obj → Obj), (∀ b o, s.heap.get? b = some o → h.get? b = some o) → ∀ b o, s.heap.get? b = some o → (h.update s.heap.objs.size f).get? b = some o := fun h f q b o e =>
    (Heap.get?_update_other _ _ (Ne.symm (Nat.ne_of_lt (Heap.lt_size e)))).trans (q b o e)
  have k4 := up _ (Obj.mapSeq (·.pop)) (up _ (Obj.mapSeq (·.push Value.none)) k1)
  refine wpAny_pure ⟨plainId_quiet F.plain_extend_loop _, drain (P := P) (w := w) (outer := outer) (H := H) (sc := sc) (ex := ex) (Q := Q) (EX := NoX) (A := A) (g := g) hr.hd (by have := hr.dp; show A.depth < _; have e : A.in1.in1.depth = A.depth := rfl; omega) hSa hSc
    (fun s' acc c H' ys q1 q2 q3 q4 q5 q6 q7 q8 q9 => ?_) (fun e s' hc => (noX hc).elim) sizeLine _ (gty k4) (hl.keeps k4) ⟨_, hgs, rfl, ?_⟩⟩
  · show wpAny _ A (load s.heap.objs.size >>= _) _ _ s'
    refine wpAny_bind (wpAny_load q1 ?_)
    exact wpAny_pure (hQ s' acc H' ys q2 q3 q4 q5 q6 q7 q9)
  · exact wake _ _ _ hr hfr (Nat.le_refl _) k4 ⟨_, hS3⟩ hos (allBare_setGen (s := { s with heap := _ }) hb rfl)
theorem new_made {Q₁ : Value → Shared → Prop} {E : Value → Shared → Prop} (hr : Room k A.in1.in1.in1) (hfr : A.frames = some outer) (h : GMade P w k outer H sc ex Q NoX u s)
    (hQ : ∀ (s' : Shared) (acc : Array Value) (H' : Hp) (ys : List V), Vals ys acc.toList → ys.length ≤ sizeLine → s'.os = sc.os → AllBare s'.gens → Un (frs outer) ex H H' sc.heap s'.heap → HOk P w H' s'.heap → Q ys H' → Q₁ (.ref s'.heap.objs.size) { s' with heap := s'.heap.push { cls := .type "tuple", data := .seq acc } }) :
    codeAny (model P w) A (.call (.builtin "tuple.__new__") ⟨[.type "tuple", u], []⟩) (wants Q₁ E) s := by
  refine codeAny_of_tree ?_
  show wpAny _ A.in1 (do checkBuiltinCall "tuple.__new__" ⟨[.type "tuple", u], []⟩; again (.builtin "tuple.__new__" ⟨[.type "tuple", u], []⟩)) _ _ s
  refine wpAny_bind (wpAny_of_eq (F.newCall_tuple_1 _) (wpAny_pure ⟨plainId_quiet F.plain_tuple_new _, codeAny_builtin F.entry_tuple_new ?_⟩))
  rw [Around.under_plainId F.plain_tuple_new _]
  have hsub := sub_tuple_self
  have hinit := init_tuple_lookup
  have hmh := madeHere_tuple
  have hTI : s.TypeIs u "generator" := by
    obtain ⟨a, g, c, rfl, _, _, hg, _⟩ := id h
    exact hg.typeIs
  wp_walk using wpAny_typeOf hTI, collect_made hr (show A.in1.frames = some outer from hfr) h
  intro s' acc H' ys h1 h2 h3 h4 h5 h6 h7
  show wpAny _ _ (Builtin.Tuple.tupleExact acc.toList.toArray >>= fun v => ret v) _ _ _
  unfold Builtin.Tuple.tupleExact
  have sz : acc.toList.toArray.size ≤ sizeLine := by
    have e := h1.length
    simp only [Array.toArray_toList]
    have e2 : acc.toList.length = acc.size := by simp
    omega
  refine wpAny_bind (wpAny_newObj_type ?_ sz)
  refine wpAny_pure ?_
  have e : acc.toList.toArray = acc := by simp
  rw [e]
  exact hQ s' acc H' ys h1 h2 h3 h4 h5 h6 h7
theorem tuple_made {Q₁ : Value → Shared → Prop} {E : Value → Shared → Prop} (hr : Room k A.in1.in1.in1.in1) (hfr : A.frames = some outer) (h : GMade P w k outer H sc ex Q NoX u s)
    (hQ : ∀ (s' : Shared) (acc : Array Value) (H' : Hp) (ys : List V), Vals ys acc.toList → ys.length ≤ sizeLine → s'.os = sc.os → AllBare s'.gens → Un (frs outer) ex H H' sc.heap s'.heap → HOk P w H' s'.heap → Q ys H' → Q₁ (.ref s'.heap.objs.size) { s' with heap := s'.heap.push { cls := .type "tuple", data := .seq acc } }) :
    wpAny (model P w) A (call (.type "tuple") [u]) Q₁ E s := by
  refine callType_codes (Q₁ := fun obj s1 => s1.TypeIs obj "tuple" ∧ Q₁ obj s1) F.called_tuple (F.typeCall_tuple_1 _) F.entry_object_init
    (new_made (A := A.in1) hr hfr h fun s' acc H' ys h1 h2 h3 h4 h5 h6 h7 => ⟨⟨_, Heap.get?_push_size _ rfl, rfl⟩, hQ s' acc H' ys h1 h2 h3 h4 h5 h6 h7⟩) fun obj s1 h1 => ?_
  exact ⟨h1.1, F.args_object_init_2 obj _, object_init_meets F.called_tuple.init.lookup F.called_tuple.made (by decide) P w A.in1 _ s1 ⟨h1.1, rfl, h1.2⟩⟩
end
def tTupM (tg : TGen) : TE := fun σ H Q => tg σ H fun out H2 => ∀ p u, H2 p = none → IsFz u out → Q (.ref p) (upd H2 p u)
theorem pe_tupM {X : Cx} {e : Expr} {tg : TGen} {k : Nat} {p pos : Pos} (h : PGen X k e tg NoX) (hr : Room (k + 1) X.A) (hg : Gl X "tuple") (hm : X.mg "tuple" = none) (he : starEach [e] X.env = (false, eval e X.env) :: starEach [] X.env := by rfl) :
    PE X (.Call (.Name "tuple" p) [e] [] pos) (tTupM tg) := by
  have hv : bootBuiltins ("tuple" : Str) = some (.type "tuple") := by decide +kernel
  refine ⟨fun pins s σ H Q inv hq => wpAny_Call_Name_kw (ld_blt inv hg hm hv (PyProof.Rows.callWith_type1 ?_ he (by rfl)))⟩
  rw [he]
  show wpAny _ _ (spliced ((false, _) :: backTo pos (starEach [] X.env))) _ _ s
  refine Calls.spliced_cons (thn (h.run pins s σ H _ inv hq) fun u s1 ⟨H1, sc, ex, I1, hex, hG⟩ => ?_)
  refine Calls.spliced_nil ?_
  refine tuple_made ⟨hr.hd, ?_, ?_⟩ I1.ok.frames hG fun s' acc H' ys h1 h2 h3 h4 h5 h6 h7 => ?_
  · have := hr.dp
    show X.A.depth + 3 * k + 5 < _
    omega
  · have := hr.un
    show X.A.units + 1 + 1 + 1 + 1 + 16 * k + 200 < _
    omega
  · have inv2 : Inv X pins σ H' s' := I1.call' (ch := ex) h3 h5 h6 h4 hex
    have e : acc = acc.toList.toArray := by simp
    rw [e]
    exact laid_fz (s := s') inv2 h1 h2 h7
end Lt

set_option Elab.async false
set_option linter.all false
set_option maxRecDepth 100000
set_option maxHeartbeats 4000000
/-! slices and sums of tuples whose kind is known: of the same kind again. -/
namespace Lt
open PySem PySem.Spec PyProof.Rows L2
section
variable {X : Cx}
def rSlY : V → Option Int → Option Int → Hp → VK → Prop := fun x lo hi H Q => ∃ (a : Addr) (xs : List V), x = .ref a ∧ TpO H a xs ∧ ∀ (c : Addr) (H2 : Hp), Same H H2 → TpO H2 c (cutV xs lo hi) → Q (.ref c) H2
theorem sl_tupY : SlR X rSlY := by
  rintro pins s σ H _ v vl vu lo hi sl Q inv rx hs pl pu ⟨a, xs, rfl, ha, q⟩
  by_cases hw : HT.sIx xs.length 0 lo = 0 ∧ HT.sIx xs.length xs.length hi = xs.length
  · exact sl_tupA pins s σ H _ v vl vu lo hi sl Q inv rx hs pl pu ⟨a, xs, rfl, ha.sqt, fun _ => q a H (fun _ _ h => h) (by rw [cut_all hw]; exact ha), fun z => absurd hw z⟩
  · cases rx
    obtain ⟨its, vals, tup, fit⟩ := inv.tuple (ha.sqt (K := X.K))
    have len : its.toArray.size = xs.length := by rw [List.size_toArray]; exact vals.length.symm
    refine ⟨"tuple", _, PyProof.Rows.slot_tuple_getitem.lookup, tup.typeIs, HT.getItem_tuple_cut tup hs pl pu (by rw [len]; exact hw) ?_ (by rw [len]; exact fit)⟩
    rw [len]
    exact laid_fz (s := s) inv ((vals.drop (HT.sIx xs.length 0 lo)).take (HT.sIx xs.length xs.length hi - HT.sIx xs.length 0 lo)) (Nat.le_trans (cutV_length xs lo hi) fit) fun p u hp hu => q p _ (same_new hp u) (TpO.new hu)
def rCatY : R2 := fun x y H Q => ∃ (a b : Addr) (xs ys : List V), x = .ref a ∧ y = .ref b ∧ TpO H a xs ∧ TpO H b ys ∧ xs.length + ys.length ≤ sizeLine ∧ ∀ (c : Addr) (H2 : Hp), Same H H2 → TpO H2 c (xs ++ ys) → Q (.ref c) H2
theorem op_catY : OpR X (binaryOp .Add) rCatY := by
  rintro pins s σ H _ _ v u Q inv rx ry ⟨a, b, xs, ys, rfl, rfl, ha, hb, fit, q⟩
  by_cases e : xs = []
  · subst e
    cases rx
    cases ry
    obtain ⟨its, r1, p1, _⟩ := inv.tuple (ha.sqt (K := X.K))
    obtain ⟨its2, r2, p2, _⟩ := inv.tuple (hb.sqt (K := X.K))
    cases r1
    exact cat_tup0 p1 p2 ⟨.ref b, H, inv, rfl, q b H (fun _ _ h => h) hb⟩
  · exact op_catZ pins s σ H _ _ v u Q inv rx ry ⟨a, b, xs, ys, rfl, rfl, ha.sqt, hb.sqt, e, fit, fun z => q a H (fun _ _ h => h) (by rw [z, List.append_nil]; exact ha), fun _ p w hp hw => q p _ (same_new hp w) (TpO.new hw)⟩
end
theorem cut_mid {xs : List V} {i j : Nat} {y z : Int} (ey : y = (i : Int)) (ez : z = (j : Int)) (hi : i ≤ xs.length) (hj : j ≤ xs.length) : cutV xs (some y) (some z) = (xs.drop i).take (j - i) := by
  rw [ey, ez]
  unfold cutV
  rw [HT.sIx_nat, HT.sIx_nat, Nat.min_eq_left hi, Nat.min_eq_left hj]
end Lt

set_option Elab.async false
set_option linter.all false
set_option maxRecDepth 100000
set_option maxHeartbeats 4000000
/-! sorted(xs), xs a list of tuples of ints and texts, of any length: over the library's sorting under an order. -/
namespace Lt
open PySem PySem.Spec PyProof.Rows L2
/-! ### the order of such tuples -/
def ltKey : Key → Key → Bool
  | .inl i, .inl j => decide (i < j)
  | .inr a, .inr b => decide (ltS a b)
  | .inl _, .inr _ => true
  | .inr _, .inl _ => false
theorem ltKey_asym : ∀ {a b : Key}, ltKey a b = true → ltKey b a = false
  | .inl i, .inl j, h => decide_eq_false (by have := of_decide_eq_true h; omega)
  | .inr a, .inr b, h => decide_eq_false (ltS_asymm (of_decide_eq_true h))
  | .inl _, .inr _, _ => rfl
  | .inr _, .inl _, h => nomatch h
theorem ltKey_tri : ∀ {a b : Key}, ltKey a b = false → ltKey b a = false → a = b
  | .inl i, .inl j, h1, h2 => by
    have a1 := of_decide_eq_false h1
    have a2 := of_decide_eq_false h2
    rw [show i = j by omega]
  | .inr a, .inr b, h1, h2 => by rw [ltS_tri (of_decide_eq_false h1) (of_decide_eq_false h2)]
  | .inl _, .inr _, h, _ => nomatch h
  | .inr _, .inl _, _, h => nomatch h
theorem ltKey_trans : ∀ {a b c : Key}, ltKey a b = true → ltKey b c = true → ltKey a c = true
  | .inl i, .inl j, .inl k, h1, h2 => decide_eq_true (by have := of_decide_eq_true h1; have := of_decide_eq_true h2; omega)
  | .inr a, .inr b, .inr c, h1, h2 => decide_eq_true (List.lt_trans (of_decide_eq_true h1) (of_decide_eq_true h2))
  | .inl _, .inl _, .inr _, _, _ => rfl
  | .inl _, .inr _, .inr _, _, _ => rfl
  | .inl _, .inr _, .inl _, _, h => nomatch h
  | .inr _, .inl _, _, h, _ => nomatch h
  | .inr _, .inr _, .inl _, _, h => nomatch h
theorem ltKey_irr (a : Key) : ltKey a a = false := by
  cases h : ltKey a a with
  | false => rfl
  | true => rw [ltKey_asym h] at h; exact h.symm
def lexK : List Key → List Key → Bool
  | [], [] => false
  | [], _ :: _ => true
  | _ :: _, [] => false
  | a :: r, b :: t => if a = b then lexK r t else ltKey a b
theorem lexK_asym : ∀ {l m : List Key}, lexK l m = true → lexK m l = false
  | [], [], h => nomatch h
  | [], _ :: _, _ => rfl
  | _ :: _, [], h => nomatch h
  | a :: r, b :: t, h => by
    unfold lexK at h ⊢
    by_cases e : a = b
    · rw [if_pos e] at h
      rw [if_pos e.symm]
      exact lexK_asym h
    · rw [if_neg e] at h
      rw [if_neg fun z => e z.symm]
      exact ltKey_asym h
theorem lexK_tri : ∀ {l m : List Key}, lexK l m = false → lexK m l = false → l = m
  | [], [], _, _ => rfl
  | [], _ :: _, h, _ => nomatch h
  | _ :: _, [], _, h => nomatch h
  | a :: r, b :: t, h1, h2 => by
    unfold lexK at h1 h2
    by_cases e : a = b
    · rw [if_pos e] at h1
      rw [if_pos e.symm] at h2
      rw [e, lexK_tri h1 h2]
    · rw [if_neg e] at h1
      rw [if_neg fun z => e z.symm] at h2
      exact absurd (ltKey_tri h1 h2) e
theorem lexK_trans : ∀ {l m n : List Key}, lexK l m = true → lexK m n = true → lexK l n = true
  | [], [], _, h, _ => nomatch h
  | [], _ :: _, [], _, h => nomatch h
  | [], _ :: _, _ :: _, _, _ => rfl
  | _ :: _, [], _, h, _ => nomatch h
  | _ :: _, _ :: _, [], _, h => nomatch h
  | a :: r, b :: t, c :: u, h1, h2 => by
    unfold lexK at h1 h2 ⊢
    by_cases e : a = b
    · rw [if_pos e] at h1
      by_cases e2 : b = c
      · rw [if_pos e2] at h2
        rw [if_pos (e.trans e2)]
        exact lexK_trans h1 h2
      · rw [if_neg e2] at h2
        rw [e, if_neg e2]
        exact h2
    · rw [if_neg e] at h1
      by_cases e2 : b = c
      · rw [← e2, if_neg e]
        exact h1
      · rw [if_neg e2] at h2
        have h3 := ltKey_trans h1 h2
        have ne : a ≠ c := fun z => by
          rw [z, ltKey_irr] at h3
          cases h3
        rw [if_neg ne]
        exact h3
theorem lexK_swo {α : Type} (k : α → List Key) : SrtO.Swo fun x y => lexK (k x) (k y) := by
  refine ⟨fun x y h => lexK_asym h, fun x y z h1 h2 => ?_⟩
  cases h : lexK (k z) (k x) with
  | false => rfl
  | true =>
    exfalso
    cases h3 : lexK (k x) (k y) with
    | true =>
      rw [lexK_trans h h3] at h2
      cases h2
    | false =>
      rw [lexK_tri h3 h1] at h
      rw [h] at h2
      cases h2
/-- at each place of the same sort -/
def AlikeK : List Key → List Key → Prop
  | a :: r, b :: t => (a.isLeft = b.isLeft) ∧ AlikeK r t
  | _, _ => True
/-! ### the comparison -/
theorem eqb_key (i j : Int) : (i == j) = decide (i = j) := rfl
section
variable {prog : Program} {w : World} {A : Around} {s : Shared}
/-- these values are these keys -/
inductive KeyVs : List Key → List Value → Prop
  | nil : KeyVs [] []
  | int {i : Int} {t : Tok} {ks us} : KeyVs ks us → KeyVs (.inl i :: ks) (.int i t :: us)
  | str {z : Str} {t : Tok} {ks us} : KeyVs ks us → KeyVs (.inr z :: ks) (.str z t :: us)
theorem KeyVs.len : ∀ {ks us}, KeyVs ks us → us.length = ks.length
  | _, _, .nil => rfl
  | _, _, .int h => congrArg (· + 1) h.len
  | _, _, .str h => congrArg (· + 1) h.len
theorem oneLt_is (c : Bool) {a b : Int} {t u : Tok} {Q : Bool → Shared → Prop} (h : Q (decide (a < b)) s) : wpAny (model prog w) A (oneLt' c (.int a t) (.int b u)) Q (fun _ _ => False) s := by
  cases c with
  | true => exact oneLt_int h
  | false => exact PySem.W.kat_one _ _ (PyProof.Rows.lt_int h)
theorem oneLt_strs (c : Bool) {a b : Str} {t u : Tok} {Q : Bool → Shared → Prop} (h : Q (decide (ltS a b)) s) : wpAny (model prog w) A (oneLt' c (.str a t) (.str b u)) Q (fun _ _ => False) s := by
  cases c with
  | true => exact oneLt_str h
  | false => exact PySem.W.kat_one _ _ (lt_str h)
theorem lex_run (b : Bool) : ∀ {ks ms : List Key} {us vs : List Value} (i : Nat) (fin : Bool), KeyVs ks us → KeyVs ms vs → AlikeK ks ms → ks.length = ms.length → fin = false →
    PySem.W.KatLex prog w A b fin (fun r s' => s' = s ∧ r = lexK ks ms) (us.zip vs) i s
  | _, _, _, _, i, fin, .nil, .nil, _, _, e => ⟨rfl, e⟩
  | _, _, _, _, i, fin, .nil, .int _, _, l, _ => nomatch l
  | _, _, _, _, i, fin, .nil, .str _, _, l, _ => nomatch l
  | _, _, _, _, i, fin, .int _, .nil, _, l, _ => nomatch l
  | _, _, _, _, i, fin, .str _, .nil, _, l, _ => nomatch l
  | _, _, _, _, i, fin, .int _, .str _, al, _, _ => nomatch al.1
  | _, _, _, _, i, fin, .str _, .int _, al, _, _ => nomatch al.1
  | _, _, _, _, i, fin, @KeyVs.int x t ks us h1, @KeyVs.int y u ms vs h2, al, l, e => by
    refine PySem.W.kat_cons (SeqAt.EqAt.int_int x t y u prog w _ _ (PySem.W.kat_go (fun e1 => ?_) (fun e1 => ?_)))
    · have exy : x = y := by simpa using e1
      have ih := lex_run b (i + 1) fin h1 h2 al.2 (Nat.succ.inj l) e
      have el : lexK (Sum.inl x :: ks) (Sum.inl y :: ms) = lexK ks ms := by
        show (if _ then _ else _) = _
        rw [if_pos (by rw [exy])]
      rw [el]
      exact PySem.W.kat_yes ih
    · have nxy : ¬ x = y := by simpa using e1
      refine PySem.W.kat_no (oneLt_is _ ⟨rfl, ?_⟩)
      show decide (x < y) = if _ then _ else _
      rw [if_neg fun z => nxy (Sum.inl.inj z)]
      rfl
  | _, _, _, _, i, fin, @KeyVs.str x t ks us h1, @KeyVs.str y u ms vs h2, al, l, e => by
    refine PySem.W.kat_cons (SeqAt.EqAt.str_str x t y u prog w _ _ (PySem.W.kat_go (fun e1 => ?_) (fun e1 => ?_)))
    · have exy : x = y := by simpa using e1
      have ih := lex_run b (i + 1) fin h1 h2 al.2 (Nat.succ.inj l) e
      have el : lexK (Sum.inr x :: ks) (Sum.inr y :: ms) = lexK ks ms := by
        show (if _ then _ else _) = _
        rw [if_pos (by rw [exy])]
      rw [el]
      exact PySem.W.kat_yes ih
    · have nxy : ¬ x = y := by simpa using e1
      refine PySem.W.kat_no (oneLt_strs _ ⟨rfl, ?_⟩)
      show decide (ltS x y) = if _ then _ else _
      rw [if_neg fun z => nxy (Sum.inr.inj z)]
      rfl
/-- a tuple of these keys -/
def TupK (h : Heap) (v : Value) (ks : List Key) : Prop := ∃ (a : Addr) (o : Obj) (us : List Value) (n : Nat), v = .ref a ∧ h.get? a = some o ∧ o.cls = .type "tuple" ∧ o.data = .seq us.toArray n ∧ KeyVs ks us
theorem TupK.keeps {h h' : Heap} {v : Value} {ks : List Key} (x : TupK h v ks) (k : ∀ b o, h.get? b = some o → o.cls = .type "tuple" → h'.get? b = some o) : TupK h' v ks := by
  obtain ⟨a, o, us, n, e, ho, hc, r⟩ := x
  exact ⟨a, o, us, n, e, k a o ho hc, hc, r⟩
theorem tup_cmp {vs : List Value} {k : Value → List Key} (hp : ∀ v ∈ vs, TupK s.heap v (k v)) (al : ∀ v ∈ vs, ∀ u ∈ vs, AlikeK (k v) (k u) ∧ (k v).length = (k u).length) :
    SrtO.Cmp prog w A s (tuples' true) (fun p => p.1 ∈ vs) (SrtO.lt2 fun v u => lexK (k v) (k u)) := by
  intro p q hm hm'
  show wpAny (model prog w) A (keyLt' (tuples' true) p.1 q.1) (fun r s' => s' = s ∧ r = lexK (k p.1) (k q.1)) (fun _ _ => False) s
  obtain ⟨a, o, us, n, e, ho, _, hd, h1⟩ := hp _ hm
  obtain ⟨a', o', us', n', e', ho', _, hd', h2⟩ := hp _ hm'
  have ak := al _ hm _ hm'
  generalize k p.1 = ks at h1 ak ⊢
  generalize k q.1 = ms at h2 ak ⊢
  rw [e, e']
  refine PySem.W.kat_lt ho hd ho' hd' ?_
  have l1 := h1.len
  have l2 := h2.len
  exact lex_run true 0 _ h1 h2 ak.1 ak.2 (by rw [List.size_toArray, List.size_toArray, l1, l2, ak.2]; exact decide_eq_false (Nat.lt_irrefl _))
theorem firstK {h : Heap} : ∀ {vs : List Value} {k : Value → List Key}, (∀ v ∈ vs, TupK h v (k v) ∧ k v ≠ []) → ∃ fs, PySem.W.KatTups h vs fs ∧ fs.length = vs.length ∧ ∀ f ∈ fs, ∃ v ∈ vs, ∃ x r, k v = x :: r ∧ ((∃ i t, x = .inl i ∧ f = .int i t) ∨ ∃ z t, x = .inr z ∧ f = .str z t)
  | [], _, _ => ⟨[], .nil, rfl, fun f hf => nomatch hf⟩
  | v :: vs, k, hp => by
    obtain ⟨fs, h1, h2, h3⟩ := firstK (vs := vs) (k := k) fun u hu => hp u (List.mem_cons_of_mem _ hu)
    obtain ⟨⟨a, o, us, n, e, ho, hc, hd, kv⟩, ne⟩ := hp v (List.mem_cons_self ..)
    have more : ∀ f ∈ fs, ∃ v' ∈ v :: vs, ∃ x r, k v' = x :: r ∧ ((∃ i t, x = .inl i ∧ f = .int i t) ∨ ∃ z t, x = .inr z ∧ f = .str z t) := fun f hf => by
      obtain ⟨v', hv, r⟩ := h3 f hf
      exact ⟨v', List.mem_cons_of_mem _ hv, r⟩
    cases hk : k v with
    | nil => exact absurd hk ne
    | cons x r =>
      rw [hk] at kv
      cases kv with
      | @int i t _ us' kv' =>
        refine ⟨.int i t :: fs, ?_, by rw [List.length_cons, h2, List.length_cons], fun f hf => ?_⟩
        · rw [e]
          exact .cons ho hc hd (by simp) h1
        · rcases List.mem_cons.mp hf with rfl | hf
          · exact ⟨v, List.mem_cons_self .., _, _, hk, .inl ⟨i, t, rfl, rfl⟩⟩
          · exact more f hf
      | @str z t _ us' kv' =>
        refine ⟨.str z t :: fs, ?_, by rw [List.length_cons, h2, List.length_cons], fun f hf => ?_⟩
        · rw [e]
          exact .cons ho hc hd (by simp) h1
        · rcases List.mem_cons.mp hf with rfl | hf
          · exact ⟨v, List.mem_cons_self .., _, _, hk, .inr ⟨z, t, rfl, rfl⟩⟩
          · exact more f hf
theorem tup_sortable {a : Addr} {vs : List Value} {k : Value → List Key} (h0 : 0 < vs.length) (hp : ∀ v ∈ vs, TupK s.heap v (k v) ∧ k v ≠ []) (al : ∀ v ∈ vs, ∀ u ∈ vs, AlikeK (k v) (k u) ∧ (k v).length = (k u).length)
    (ha : ∀ o, s.heap.get? a = some o → o.cls ≠ .type "tuple") : SrtO.SortableO prog w A s a vs fun v u => lexK (k v) (k u) := by
  intro h' keep
  have hp' : ∀ v ∈ vs, TupK h' v (k v) ∧ k v ≠ [] := fun v hm => ⟨(hp v hm).1.keeps fun b o e c => keep b o (fun z => by subst z; exact ha o e c) e, (hp v hm).2⟩
  obtain ⟨fs, h1, h2, h3⟩ := firstK hp'
  refine ⟨tuples' true, fun Q E hq => ?_, tup_cmp (fun v hm => (hp' v hm).1) al⟩
  have sort : ∀ f ∈ fs, ∀ g ∈ fs, (∃ i t j u, f = .int i t ∧ g = .int j u) ∨ ∃ y t z u, f = .str y t ∧ g = .str z u := fun f hf g hg => by
    obtain ⟨v, hv, x, r, e1, c1⟩ := h3 f hf
    obtain ⟨u, hu, y, r', e2, c2⟩ := h3 g hg
    have q := (al v hv u hu).1
    rw [e1, e2] at q
    rcases c1 with ⟨i, t, rfl, rfl⟩ | ⟨z, t, rfl, rfl⟩
    · rcases c2 with ⟨j, t2, rfl, rfl⟩ | ⟨z2, t2, rfl, rfl⟩
      · exact .inl ⟨_, _, _, _, rfl, rfl⟩
      · exact nomatch (show true = false from q.1)
    · rcases c2 with ⟨j, t2, rfl, rfl⟩ | ⟨z2, t2, rfl, rfl⟩
      · exact nomatch (show false = true from q.1)
      · exact .inr ⟨_, _, _, _, rfl, rfl⟩
  cases fs with
  | nil => exact absurd (h2 ▸ h0) (Nat.lt_irrefl _)
  | cons f fr =>
    rcases sort f (List.mem_cons_self ..) f (List.mem_cons_self ..) with ⟨i, t, _, _, ef, _⟩ | ⟨y, t, _, _, ef, _⟩
    · refine PySem.W.kat_kind (T := .type "int") h1 (Nat.succ_pos _) (fun g hm => ?_) (by rfl) ?_
      · rcases sort f (List.mem_cons_self ..) g hm with ⟨_, _, j, u, _, rfl⟩ | ⟨_, _, _, _, e, _⟩
        · exact PySem.W.Looks.now
        · rw [ef] at e
          cases e
      · have e : (Value.type "int" != Value.type "tuple") = true := by first | decide +kernel | rfl | decide
        rw [e]
        exact hq
    · refine PySem.W.kat_kind (T := .type "str") h1 (Nat.succ_pos _) (fun g hm => ?_) (by rfl) ?_
      · rcases sort f (List.mem_cons_self ..) g hm with ⟨_, _, _, _, e, _⟩ | ⟨_, _, j, u, _, rfl⟩
        · rw [ef] at e
          cases e
        · exact PySem.W.Looks.now
      · have e : (Value.type "str" != Value.type "tuple") = true := by first | decide +kernel | rfl | decide
        rw [e]
        exact hq
theorem sorted_tups {E : Value → Shared → Prop} {l : Addr} {vs : List Value} {k : Value → List Key} {Q : Value → Shared → Prop} (hl : s.heap.IsList l vs.toArray) (hz : vs.length ≤ sizeLine) (hp : ∀ v ∈ vs, TupK s.heap v (k v) ∧ k v ≠ [])
    (al : ∀ v ∈ vs, ∀ u ∈ vs, AlikeK (k v) (k u) ∧ (k v).length = (k u).length)
    (h : ∀ (h' : Heap) (d : Addr) (out : List Value), SrtO.Srtd (fun v u => lexK (k v) (k u)) out → SrtO.Stb (fun v u => lexK (k v) (k u)) out vs → (∀ b o, s.heap.get? b = some o → h'.get? b = some o) → s.heap.objs.size ≤ d → (∃ n, h'.get? d = some (seqObj "list" out.toArray n)) → Q (.ref d) { s with heap := h' }) :
    wpAny (model prog w) A (call (.builtin "sorted") [.ref l]) Q E s := by
  refine SrtO.sorted_ord (lexK_swo k) hl hz (fun h2 h₁ a ha kk => tup_sortable (s := { s with heap := h₁ }) (by omega) (fun v hm => ⟨(hp v hm).1.keeps fun b o e _ => (kk b o e).2, (hp v hm).2⟩) al fun o e c => ?_) fun out hs hb => ?_
  · have e' : some o = some (seqObj "list" vs.toArray 0) := e.symm.trans ha
    cases e'
    exact absurd (Value.type.inj c) (by decide)
  · exact h _ _ out hs hb (fun b o e => sortedAll_old e) (Nat.le_succ _) (sortedAll_at s.heap vs out.toArray)
end
/-! ### the rule -/
section
variable {X : Cx}
theorem keyVs_of : ∀ {ks : List Key} {us : List Value}, Vals (ks.map kV) us → KeyVs ks us
  | [], _, .nil => .nil
  | .inl i :: ks, _ :: us, .cons r t => by
    obtain ⟨tk, rfl⟩ := r
    exact .int (keyVs_of t)
  | .inr z :: ks, _ :: us, .cons r t => by
    obtain ⟨tk, rfl⟩ := r
    exact .str (keyVs_of t)
def adr : Value → Addr
  | .ref a => a
  | _ => 0
theorem refs_of : ∀ {ts : List Addr} {us : List Value}, Vals (ts.map V.ref) us → us = ts.map Value.ref
  | [], _, .nil => rfl
  | t :: ts, u :: us, .cons r h => by
    obtain rfl : u = Value.ref t := r
    rw [refs_of h]
    rfl
theorem refs_vals : ∀ ts : List Addr, Vals (ts.map V.ref) (ts.map Value.ref)
  | [] => .nil
  | t :: ts => .cons rfl (refs_vals ts)
/-- sorted(xs): ts the places of the tuples, ks what they hold -/
def rSortK (K : PySem.W.Frag) : List V → Hp → VK → Prop := fun vs H Q => ∃ (a : Addr) (ts : List Addr) (k : Addr → List Key), vs = [V.ref a] ∧ SqL K H a (ts.map V.ref) ∧ (∀ t ∈ ts, SqT K H t ((k t).map kV) ∧ k t ≠ []) ∧
  (∀ t ∈ ts, ∀ u ∈ ts, AlikeK (k t) (k u) ∧ (k t).length = (k u).length) ∧
  ∀ (us : List Addr) (p : Addr), us.Perm ts → (us.Pairwise fun t u => lexK (k u) (k t) = false) → H p = none → Q (.ref p) (upd H p (.lst (us.map V.ref)))
theorem cr_sortK : CallR X (.builtin "sorted") (rSortK X.K) := by
  rintro pins s σ H _ us Q inv rel ⟨a, ts, k, rfl, sq, tup, al, q⟩
  rw [Vals.ref1 rel]
  obtain ⟨its, vals, hl, fit⟩ := inv.list sq
  have eits := refs_of vals
  subst eits
  have sz : (ts.map Value.ref).length ≤ sizeLine := by
    rw [List.length_map] at fit ⊢
    exact fit
  refine sorted_tups (k := fun v => k (adr v)) hl.isList sz (fun v hv => ?_) (fun v hv u hu => ?_) fun h' d out srt stb kp le at1 => ?_
  · obtain ⟨t, ht, rfl⟩ := List.mem_map.mp hv
    obtain ⟨sqt1, ne⟩ := tup t ht
    obtain ⟨us2, vs2, ⟨o, ho, hc, n, hd⟩, _⟩ := inv.tuple sqt1
    exact ⟨⟨t, o, us2, n, rfl, ho, hc, hd, keyVs_of vs2⟩, ne⟩
  · obtain ⟨t, ht, rfl⟩ := List.mem_map.mp hv
    obtain ⟨t2, ht2, rfl⟩ := List.mem_map.mp hu
    exact al t ht t2 ht2
  · have pm : (out.map adr).Perm ts := by
      have z := stb.perm.map adr
      rw [List.map_map, show (adr ∘ Value.ref) = id from rfl, List.map_id] at z
      exact z
    have eo : out = (out.map adr).map Value.ref := by
      have z : ∀ v ∈ out, Value.ref (adr v) = v := fun v hv => by
        obtain ⟨t, _, rfl⟩ := List.mem_map.mp (stb.perm.mem_iff.mp hv)
        rfl
      rw [List.map_map]
      have z2 : out.map (Value.ref ∘ adr) = out.map id := List.map_congr_left z
      rw [z2, List.map_id]
    obtain ⟨n, at1⟩ := at1
    have pw : (out.map adr).Pairwise fun t u => lexK (k u) (k t) = false := List.pairwise_map.mpr srt
    rw [eo] at at1
    generalize out.map adr = us at pm pw at1
    have fitU : (us.map V.ref).length ≤ sizeLine := by
      rw [List.length_map, pm.length_eq, ← List.length_map (f := V.ref)]
      exact fit
    exact ⟨.ref d, upd H d (.lst (us.map V.ref)), inv.laid (t' := s.toks) kp le (show ObjOk X.prog X.w _ _ _ (.lst (us.map V.ref)) from ⟨fitU, _, n, refs_vals us, at1⟩), rfl, q us d pm pw (inv.hok.fresh le)⟩
theorem cSortK {K : PySem.W.Frag} (e : X.K = K) : CallR X (.builtin "sorted") (rSortK K) := by
  subst e
  exact cr_sortK
end
end Lt

set_option Elab.async false
set_option linter.all false
set_option maxRecDepth 100000
set_option maxHeartbeats 4000000
namespace Lt
open PySem PySem.Spec PyProof.Rows L2
section
variable {P : Program} {w : World} {K : PySem.W.Frag} {mg : Str → Option Value} {base : Heap} {X : Cx}
def TpS (K : PySem.W.Frag) (H : Hp) (a : Addr) (xs : List V) : Prop := SqT K H a xs
theorem TpS.sqt {K : PySem.W.Frag} {H : Hp} {a : Addr} {xs : List V} (h : TpS K H a xs) : SqT K H a xs := h
theorem TpS.same {K : PySem.W.Frag} {H H' : Hp} {a : Addr} {xs : List V} (h : TpS K H a xs) (s : Same H H') : TpS K H' a xs := same_tup s h
theorem TpS.but {K : PySem.W.Frag} {T : Addr} {H H' : Hp} {a : Addr} {xs : List V} (h : TpS K H a xs) (s : SameT T H H') (n : ∀ u, H T = some u → (∀ ys, u ≠ .tup ys) ∧ ∀ o ys, u ≠ .frz o (.tup ys)) : TpS K H' a xs := by
  rcases h with (h | ⟨o, h⟩) | h
  · exact .inl (.inl (s _ _ (fun e => (n _ (e ▸ h)).1 _ rfl) h))
  · exact .inl (.inr ⟨o, s _ _ (fun e => (n _ (e ▸ h)).2 _ _ rfl) h⟩)
  · exact .inr h
theorem TpO.tps {K : PySem.W.Frag} {H : Hp} {a : Addr} {xs : List V} (h : TpO H a xs) : TpS K H a xs := h.sqt
def spBehindT (K : PySem.W.Frag) : Sp := fun vs H Q _ => ∃ (p r : Addr) (bs rs : List Str), vs = [.ref p, .ref r] ∧ TpO H p (bs.map V.str) ∧ TpS K H r (rs.map V.str) ∧ bs.length ≤ 1000 ∧ (∀ b ∈ rs, b ∈ bs) ∧
  ∀ (q : Addr) (H' : Hp), Same H H' → TpO H' q ((behindM bs rs).map V.str) → Q (.ref q) H'
def spLiftedT (K : PySem.W.Frag) : Sp := fun vs H Q _ => ∃ (p r : Addr) (bs rs : List Str), vs = [.ref p, .ref r] ∧ TpO H p (bs.map V.str) ∧ TpS K H r (rs.map V.str) ∧ bs.length ≤ 1000 ∧ rs.length ≤ 1000 ∧ (∀ b ∈ rs, b ∈ bs) ∧
  ∀ (l : Addr) (H' : Hp), Same H H' → H l = none → H' l = some (.lst ((liftedM bs rs).map natV)) → Q (.ref l) H'
def spPassT (K : PySem.W.Frag) : Sp := fun vs H Q _ => ∃ (p r : Addr) (bs rs : List Str), vs = [.ref p, .ref r] ∧ TpO H p (bs.map V.str) ∧ TpS K H r (rs.map V.str) ∧ bs.length ≤ 7 ∧ rs.length ≤ 60 ∧ (∀ b ∈ rs, b ∈ bs) ∧
  ∀ (l : Addr) (H' : Hp) (ys : List Str) (xs : List V), Same H H' → H l = none → ys.Perm bs → sortedS ys = true → H' l = some (.lst xs) → DpAll K H' xs ((prs ys ys.length).map (tri (rowsM bs rs))) → Q (.ref l) H'
def spReadT (K : PySem.W.Frag) : Sp := fun vs H Q _ => ∃ (p r : Addr) (bs rs : List Str), vs = [.ref p, .ref r] ∧ (SqL K H p (bs.map V.str) ∨ SqT K H p (bs.map V.str)) ∧ TpS K H r (rs.map V.str) ∧ bs.length ≤ 7 ∧ rs.length ≤ 60 ∧ (∀ b ∈ rs, b ∈ bs) ∧
  ∀ (t a n o : Addr) (H' : Hp) (ts : List Addr), Same H H' → H' t = some (.tup [.ref a, .ref n, .ref o]) → H' a = some (.tup ((behindM bs rs).map V.str)) → H' n = some (.lst ((liftedM bs rs).map natV)) →
    H' o = some (.lst (ts.map V.ref)) → PairsL H' ts (rowsM bs rs) → Q (.ref t) H'
def spTwoT (K : PySem.W.Frag) : Sp := fun vs H Q _ => ∃ (p r : Addr) (bs : List Str) (ts : List Addr) (rows : List (Str × Str)), vs = [.ref p, .ref r] ∧ SqL K H p (bs.map V.str) ∧ bs.length ≤ 7 ∧ (∀ b ∈ bs, PyData.strOk b = true) ∧
  H r = some (.lst (ts.map V.ref)) ∧ PairsL H ts rows ∧ rows.length ≤ 900 ∧ (∀ z ∈ rows, PyData.strOk z.1 = true ∧ PyData.strOk z.2 = true) ∧
  ∀ (l : Addr) (H' : Hp) (ys : List Str) (xs : List V), Same H H' → H l = none → ys.Perm bs → sortedS ys = true → H' l = some (.lst xs) → DpAll K H' xs ((prs ys ys.length).map (tri rows)) → Q (.ref l) H'
structure IsWants (m n : Nat) (ws : List (Str × Nat)) : Prop where
  sub : (ws.map (·.1)).Sublist (books.take m)
  pos : ∀ p ∈ ws, 0 < p.2
  some_ : ws ≠ []
  few : (ws.map (·.2)).sum ≤ n
def WL (H : Hp) (ts : List Addr) (ws : List (Str × Nat)) : Prop := ts.length = ws.length ∧ ∀ (i : Nat) (t : Addr) (p : Str × Nat), ts[i]? = some t → ws[i]? = some p → H t = some (.tup [.str p.1, natV p.2])
theorem WL.move {H H' : Hp} {ts : List Addr} {ws : List (Str × Nat)} (h : WL H ts ws) (k : ∀ t xs, H t = some (.tup xs) → H' t = some (.tup xs)) : WL H' ts ws := ⟨h.1, fun i t p a b => k _ _ (h.2 i t p a b)⟩
theorem WL.snoc {H : Hp} {ts : List Addr} {ws : List (Str × Nat)} {t : Addr} {p : Str × Nat} (h : WL H ts ws) (ht : H t = some (.tup [.str p.1, natV p.2])) : WL H (ts ++ [t]) (ws ++ [p]) := by
  refine ⟨by rw [List.length_append, List.length_append, h.1]; rfl, fun i t' p' a b => ?_⟩
  rcases Nat.lt_or_ge i ts.length with hi | hi
  · rw [List.getElem?_append_left hi] at a
    rw [List.getElem?_append_left (by rw [← h.1]; exact hi)] at b
    exact h.2 i t' p' a b
  · rw [List.getElem?_append_right hi] at a
    rw [List.getElem?_append_right (by rw [← h.1]; exact hi), ← h.1] at b
    cases e : i - ts.length with
    | zero =>
      rw [e] at a b
      cases a
      cases b
      exact ht
    | succ k =>
      rw [e] at a
      cases a
def WAt (H : Hp) (W : Addr) (ws : List (Str × Nat)) : Prop := ∃ ts, TpO H W (ts.map V.ref) ∧ WL H ts ws
theorem WAt.same {H H' : Hp} {W : Addr} {ws : List (Str × Nat)} (h : WAt H W ws) (s : Same H H') : WAt H' W ws := by
  obtain ⟨ts, a, b⟩ := h
  exact ⟨ts, a.same s, b.move fun t xs e => s _ _ e⟩
theorem WAt.sameT {T : Addr} {H H' : Hp} {W : Addr} {ws : List (Str × Nat)} (h : WAt H W ws) {xs : List V} (hT : H T = some (.lst xs)) (s : SameT T H H') : WAt H' W ws := by
  obtain ⟨ts, a, b⟩ := h
  exact ⟨ts, a.sameT s (a.ne hT fun o z => nomatch z), b.move fun t ys e => s _ _ (ne_of e hT fun z => nomatch z) e⟩
theorem sameT_new {T : Addr} {H H' : Hp} {p : Addr} {o : HO} (s : SameT T H H') (h : H p = none) : SameT T H (upd H' p o) := fun b u n q => by
  rw [upd_ne (ne_of_none q h)]
  exact s b u n q
def spWants : Sp := fun vs H Q _ => ∃ (T S : Addr) (ns : List Int) (m n : Nat), vs = [.ref T, .int m, .int n] ∧ Tape H T S ns ∧ 0 < m ∧ m ≤ 7 ∧ 0 < n ∧ n ≤ 1000 ∧
  ∀ (W : Addr) (H' : Hp) (ws : List (Str × Nat)), SameT T H H' → Tape H' T S ns → H W = none → WAt H' W ws → IsWants m n ws → Q (.ref W) H'
def flat : List (Str × Nat) → List Str
  | [] => []
  | p :: r => List.replicate p.2 p.1 ++ flat r
theorem flat_append : ∀ a b : List (Str × Nat), flat (a ++ b) = flat a ++ flat b
  | [], b => rfl
  | p :: r, b => by
    show _ ++ flat (r ++ b) = (_ ++ flat r) ++ flat b
    rw [flat_append r b, List.append_assoc]
theorem flat_len : ∀ ws : List (Str × Nat), (flat ws).length = (ws.map (·.2)).sum
  | [] => rfl
  | p :: r => by
    show (List.replicate p.2 p.1 ++ flat r).length = p.2 + _
    rw [List.length_append, List.length_replicate, flat_len r]
    rfl
theorem flat_mem : ∀ {ws : List (Str × Nat)} {b : Str}, b ∈ flat ws → b ∈ ws.map (·.1)
  | p :: r, b, h => by
    rcases List.mem_append.mp h with h | h
    · rw [(List.mem_replicate.mp h).2]
      exact List.mem_cons_self
    · exact List.mem_cons_of_mem _ (flat_mem h)
theorem mem_flat : ∀ {ws : List (Str × Nat)} {b : Str}, (∀ p ∈ ws, 0 < p.2) → b ∈ ws.map (·.1) → b ∈ flat ws
  | p :: r, b, pos, h => by
    rcases List.mem_cons.mp h with h | h
    · have p0 := pos p List.mem_cons_self
      exact List.mem_append_left _ (List.mem_replicate.mpr ⟨by omega, h⟩)
    · exact List.mem_append_right _ (mem_flat (fun q hq => pos q (List.mem_cons_of_mem _ hq)) h)
theorem flat_take {ws : List (Str × Nat)} (i : Nat) : (flat (ws.take i)).length ≤ (flat ws).length := by
  have e := flat_append (ws.take i) (ws.drop i)
  rw [List.take_append_drop] at e
  rw [e, List.length_append]
  omega
theorem refs_get {ts : List Addr} {i : Nat} {x : V} (h : (ts.map V.ref)[i]? = some x) : ∃ t, ts[i]? = some t ∧ x = .ref t := by
  rw [List.getElem?_map] at h
  cases e : ts[i]? with
  | none =>
    rw [e] at h
    cases h
  | some t =>
    rw [e] at h
    cases h
    exact ⟨t, rfl, rfl⟩
def spDay : Sp := fun vs H Q _ => ∃ (T S W : Addr) (ns : List Int) (ws : List (Str × Nat)), vs = [.ref T, .ref W] ∧ Tape H T S ns ∧ WAt H W ws ∧ ws.length ≤ 7 ∧ (flat ws).length ≤ 100 ∧
  ∀ (D : Addr) (H' : Hp) (rs : List Str), SameT T H H' → Tape H' T S ns → H D = none → TpO H' D (rs.map V.str) → rs.Perm (flat ws) → Q (.ref D) H'
abbrev wnames (ws : List (Str × Nat)) : List Str := ws.map fun x => x.1
theorem merge_has (k : Key) : ∀ (kvs acc : List (Key × V)), (valV (mergeK acc kvs) k).isSome = true ↔ (valV acc k).isSome = true ∨ k ∈ kvs.map Prod.fst
  | [], acc => ⟨fun h => .inl h, fun h => h.elim (fun h => h) fun h => nomatch h⟩
  | x :: r, acc => by
    show (valV (mergeK (putK acc x.1 x.2) r) k).isSome = true ↔ _
    rw [merge_has k r, valV_put, List.map_cons, List.mem_cons]
    by_cases e : k = x.1
    · rw [if_pos e]
      exact ⟨fun _ => .inr (.inl e), fun _ => .inl rfl⟩
    · rw [if_neg e]
      exact ⟨fun h => h.elim .inl fun h => .inr (.inr h), fun h => h.elim .inl fun h => h.elim (fun h => absurd h e) .inr⟩
def wkvs (ws : List (Str × Nat)) : List (Key × V) := ws.map fun p => (Sum.inr p.1, natV p.2)
theorem wkvs_has (ws : List (Str × Nat)) (b : Str) : (valV (mergeK [] (wkvs ws)) (Sum.inr b)).isSome = decide (b ∈ wnames ws) := by
  rw [Bool.eq_iff_iff, merge_has, decide_eq_true_iff]
  unfold wkvs
  rw [List.map_map]
  constructor
  · rintro (h | h)
    · cases h
    · obtain ⟨p, hp, e⟩ := List.mem_map.mp h
      exact List.mem_map.mpr ⟨p, hp, Sum.inr.inj e⟩
  · intro h
    obtain ⟨p, hp, e⟩ := List.mem_map.mp h
    exact .inr (List.mem_map.mpr ⟨p, hp, by show Sum.inr p.1 = _; rw [e]⟩)
theorem nodup_le : ∀ {l m : List Str}, l.Nodup → (∀ z ∈ l, z ∈ m) → l.length ≤ m.length
  | [], m, _, _ => Nat.zero_le _
  | a :: l, m, nd, h => by
    obtain ⟨n1, n2⟩ := List.nodup_cons.mp nd
    have ha := h a List.mem_cons_self
    have z := nodup_le (m := m.erase a) n2 fun z hz => (List.mem_erase_of_ne (a := z) (b := a) fun e : z = a => n1 (e ▸ hz)).mpr (h z (List.mem_cons_of_mem _ hz))
    have z2 := List.length_erase_of_mem ha
    have z3 := List.length_pos_of_mem ha
    rw [List.length_cons]
    omega
theorem cut_any (xs : List V) (j : Nat) : ∃ k, cutV xs none (some (j : Int)) = xs.take k := by
  refine ⟨min j xs.length, ?_⟩
  unfold cutV
  rw [HT.sIx_none, HT.sIx_nat]
  simp
theorem WL.paired {K : PySem.W.Frag} {H : Hp} : ∀ {ts : List Addr} {ws : List (Str × Nat)}, WL H ts ws → Paired (fun p (kv : Key × V) => SqT K H p [kV kv.1, kv.2]) ts (wkvs ws)
  | [], [], _ => .nil
  | [], _ :: _, h => nomatch h.1
  | _ :: _, [], h => nomatch h.1
  | t :: ts, p :: ws, h => .cons (sqt (h.2 0 t p rfl rfl)) (WL.paired (ts := ts) (ws := ws) ⟨by simpa using h.1, fun i t' p' a b => h.2 (i + 1) t' p' (by simpa using a) (by simpa using b)⟩)
theorem cDictT (e : X.K = K) (c : X.calm = true) : CallR X (.type "dict") (rDictT K) := by
  subst e
  exact call_dictT c
def spBelow : Sp := fun vs H Q _ => ∃ (T S W : Addr) (ns : List Int) (ws : List (Str × Nat)), vs = [.ref T, .ref W] ∧ Tape H T S ns ∧ WAt H W ws ∧ (wnames ws).Sublist books ∧
  ∀ (p : Addr) (H' : Hp) (bs : List Str), SameT T H H' → Tape H' T S ns → H p = none → TpO H' p (bs.map V.str) → bs.Nodup → bs.length ≤ 7 → (∀ b ∈ bs, b ∈ books) → (∀ b ∈ wnames ws, b ∈ bs) → Q (.ref p) H'
theorem sum_nat (l : List Nat) : (l.map fun k : Nat => (k : Int)).sum = (l.sum : Int) := by
  induction l with
  | nil => rfl
  | cons a r ih =>
    rw [List.map_cons, List.sum_cons, List.sum_cons, ih]
    omega
theorem lifted_small {bs rs : List Str} (h : ∀ b ∈ rs, b ∈ bs) : (liftedM bs rs).sum ≤ rs.length * bs.length := by
  rw [← rows_count rs h]
  exact rowsM_len rs h
def spFarP (K : PySem.W.Frag) : Sp := fun vs H Q _ => ∃ (p r : Addr) (bs rs : List Str) (d : Int), vs = [.ref p, .ref r, .int d] ∧ TpO H p (bs.map V.str) ∧ TpS K H r (rs.map V.str) ∧ bs.length ≤ 1000 ∧ (∀ b ∈ rs, b ∈ bs) ∧
  ∀ (q : Addr) (H' : Hp), Same H H' → TpO H' q ((if 0 < d then behindM bs rs else bs).map V.str) → Q (.ref q) H'
def spFarL (K : PySem.W.Frag) : Sp := fun vs H Q _ => ∃ (p r : Addr) (bs rs : List Str) (d : Int), vs = [.ref p, .ref r, .int d] ∧ TpO H p (bs.map V.str) ∧ TpS K H r (rs.map V.str) ∧ bs.length ≤ 7 ∧ rs.length ≤ 60 ∧ (∀ b ∈ rs, b ∈ bs) ∧
  ∀ H' : Hp, Same H H' → Q (.int (if d ≤ 0 then 0 else ((liftedM bs rs).sum : Int) + (d - 1) * ((liftedM (behindM bs rs) rs).sum : Int))) H'
theorem wn_len (ws : List (Str × Nat)) : (wnames ws).length = ws.length := List.length_map ..
def spLater (K : PySem.W.Frag) : Sp := fun vs H Q _ => ∃ (W r : Addr) (ws : List (Str × Nat)) (rs : List Str), vs = [.ref W, .ref r] ∧ WAt H W ws ∧ TpS K H r (rs.map V.str) ∧ ws.length ≤ 7 ∧ rs.length ≤ 60 ∧ (∀ b ∈ rs, b ∈ wnames ws) ∧
  ∀ (t a n o : Addr) (H' : Hp) (ts : List Addr), Same H H' → H' t = some (.tup [.ref a, .ref n, .ref o]) → H' a = some (.tup ((behindM (behindM (wnames ws) rs) rs).map V.str)) → H' n = some (.lst ((liftedM (behindM (wnames ws) rs) rs).map natV)) →
    H' o = some (.lst (ts.map V.ref)) → PairsL H' ts (rowsM (behindM (wnames ws) rs) rs) → Q (.ref t) H'
end
end Lt

set_option Elab.async false
set_option linter.all false
set_option maxRecDepth 100000
set_option maxHeartbeats 4000000
namespace Lt
open PySem PySem.Spec PyProof.Rows L2
/-! ### the day of turns: first a reader of each book, then a second one of each that has one .. -/
def turnsM (ws : List (Str × Nat)) : List (Nat × Str) := ws.flatMap fun p => (List.range p.2).map fun t => (t, p.1)
def roundM (ws : List (Str × Nat)) (t : Nat) : List (Nat × Str) := (ws.filter fun p => decide (t < p.2)).map fun p => (t, p.1)
def mostT (ws : List (Str × Nat)) (M : Nat) : List (Nat × Str) := (List.range M).flatMap (roundM ws)
def topW (ws : List (Str × Nat)) : Nat := (ws.map (·.2)).sum
def mostM (ws : List (Str × Nat)) : List Str := (mostT ws (topW ws)).map (·.2)
def tk2 (q : Nat × Str) : List Key := [.inl (q.1 : Int), .inr q.2]
theorem tk2_inj {q r : Nat × Str} (h : tk2 q = tk2 r) : q = r := by
  obtain ⟨a, b⟩ := q
  obtain ⟨c, d⟩ := r
  have h1 := List.cons.inj h
  have h2 := List.cons.inj h1.2
  have e1 : (a : Int) = c := Sum.inl.inj h1.1
  have e2 : b = d := Sum.inr.inj h2.1
  rw [e2, show a = c by omega]
theorem le_top : ∀ {ws : List (Str × Nat)} {p : Str × Nat}, p ∈ ws → p.2 ≤ topW ws
  | q :: ws, p, h => by
    show p.2 ≤ ((q :: ws).map (·.2)).sum
    rw [List.map_cons, List.sum_cons]
    rcases List.mem_cons.mp h with e | h
    · rw [e]
      omega
    · have := le_top h
      unfold topW at this
      omega
theorem fm_append {α β : Type} (f g : α → List β) : ∀ l : List α, (l.flatMap fun x => f x ++ g x).Perm (l.flatMap f ++ l.flatMap g)
  | [] => .nil
  | a :: l => by
    rw [List.flatMap_cons, List.flatMap_cons, List.flatMap_cons, List.append_assoc, List.append_assoc]
    refine List.Perm.append_left _ ?_
    exact ((fm_append f g l).append_left (g a)).trans (List.perm_append_comm_assoc _ _ _)
theorem one_col (x : Str) (n : Nat) : ∀ M : Nat, ((List.range M).flatMap fun t => if t < n then [(t, x)] else []) = (List.range (min n M)).map fun t => (t, x)
  | 0 => by
    rw [Nat.min_zero]
    rfl
  | M + 1 => by
    rw [List.range_succ, List.flatMap_append, one_col x n M]
    show _ ++ ((if M < n then [(M, x)] else []) ++ []) = _
    rw [List.append_nil]
    by_cases h : M < n
    · rw [if_pos h, Nat.min_eq_right (by omega), Nat.min_eq_right (by omega), List.range_succ, List.map_append]
      rfl
    · rw [if_neg h, List.append_nil, Nat.min_eq_left (by omega), Nat.min_eq_left (by omega)]
theorem round_cons (p : Str × Nat) (ws : List (Str × Nat)) (t : Nat) : roundM (p :: ws) t = (if t < p.2 then [(t, p.1)] else []) ++ roundM ws t := by
  unfold roundM
  by_cases h : t < p.2
  · rw [if_pos h, List.filter_cons_of_pos (by simpa using h)]
    rfl
  · rw [if_neg h, List.filter_cons_of_neg (by simpa using h)]
    rfl
theorem most_perm : ∀ (ws : List (Str × Nat)) (M : Nat), (∀ p ∈ ws, p.2 ≤ M) → (mostT ws M).Perm (turnsM ws)
  | [], M, _ => by
    have e : mostT [] M = [] := by
      show (List.range M).flatMap (fun _ => []) = []
      induction M with
      | zero => rfl
      | succ M ih => rw [List.range_succ, List.flatMap_append, ih fun p hp => nomatch hp]; rfl
    rw [e]
    exact .nil
  | p :: ws, M, h => by
    have e : mostT (p :: ws) M = (List.range M).flatMap fun t => (if t < p.2 then [(t, p.1)] else []) ++ roundM ws t := by
      unfold mostT
      congr 1
      funext t
      exact round_cons p ws t
    rw [e]
    refine (fm_append _ _ _).trans ?_
    rw [one_col, Nat.min_eq_left (h p List.mem_cons_self)]
    exact (most_perm ws M fun q hq => h q (List.mem_cons_of_mem _ hq)).append_left _
theorem round_at {ws : List (Str × Nat)} {t : Nat} {q : Nat × Str} (h : q ∈ roundM ws t) : q.1 = t := by
  obtain ⟨p, _, rfl⟩ := List.mem_map.mp h
  rfl
theorem most_at {ws : List (Str × Nat)} {M : Nat} {q : Nat × Str} (h : q ∈ mostT ws M) : q.1 < M := by
  obtain ⟨t, ht, hq⟩ := List.mem_flatMap.mp h
  rw [round_at hq]
  exact List.mem_range.mp ht
theorem lex_far {t u : Nat} {a b : Str} (h : t < u) : lexK (tk2 (u, a)) (tk2 (t, b)) = false := by
  have h1 : lexK (tk2 (t, b)) (tk2 (u, a)) = true := by
    have e : ltKey (.inl (t : Int)) (.inl (u : Int)) = true := decide_eq_true (by omega)
    have ne : ¬ (Sum.inl (t : Int) : Key) = Sum.inl (u : Int) := fun z => by
      have := Sum.inl.inj z
      omega
    show (if (Sum.inl (t : Int) : Key) = Sum.inl (u : Int) then _ else ltKey _ _) = true
    rw [if_neg ne]
    exact e
  exact lexK_asym h1
theorem lex_near {t : Nat} {a b : Str} (h : ltS a b) : lexK (tk2 (t, b)) (tk2 (t, a)) = false := by
  have h1 : lexK (tk2 (t, a)) (tk2 (t, b)) = true := by
    have e : ltKey (.inr a) (.inr b) = true := decide_eq_true h
    have ne : ¬ (Sum.inr a : Key) = Sum.inr b := fun z => ltS_irrefl a (by rw [← Sum.inr.inj z] at h; exact h)
    show (if (Sum.inl (t : Int) : Key) = Sum.inl (t : Int) then (if (Sum.inr a : Key) = Sum.inr b then _ else ltKey _ _) else _) = true
    rw [if_pos rfl, if_neg ne]
    exact e
  exact lexK_asym h1
theorem most_pw {ws : List (Str × Nat)} (so : (wnames ws).Pairwise ltS) : ∀ M : Nat, (mostT ws M).Pairwise fun x y => lexK (tk2 y) (tk2 x) = false
  | 0 => List.Pairwise.nil
  | M + 1 => by
    have e : mostT ws (M + 1) = mostT ws M ++ roundM ws M := by
      unfold mostT
      rw [List.range_succ, List.flatMap_append]
      show _ ++ (roundM ws M ++ []) = _
      rw [List.append_nil]
    rw [e]
    refine List.pairwise_append.mpr ⟨most_pw so M, ?_, fun x hx y hy => ?_⟩
    · unfold roundM
      rw [List.pairwise_map]
      have z : (ws.Pairwise fun p q => ltS p.1 q.1) := List.pairwise_map.mp so
      exact (z.sublist List.filter_sublist).imp fun h => lex_near h
    · obtain ⟨t, a⟩ := x
      obtain ⟨u, b⟩ := y
      have h1 := most_at hx
      have h2 := round_at hy
      exact lex_far (by simp at h1 h2; omega)
theorem turns_one {ws : List (Str × Nat)} (so : (wnames ws).Pairwise ltS) {us : List (Nat × Str)} (p : us.Perm (turnsM ws)) (s : us.Pairwise fun x y => lexK (tk2 y) (tk2 x) = false) : us.map (·.2) = mostM ws := by
  have e : us = mostT ws (topW ws) := List.Perm.eq_of_pairwise (le := fun x y => lexK (tk2 y) (tk2 x) = false) (fun a b _ _ h1 h2 => tk2_inj (lexK_tri h2 h1)) s (most_pw so _) (p.trans (most_perm ws _ fun q hq => le_top hq).symm)
  rw [e]
  rfl
theorem turns_flat : ∀ ws : List (Str × Nat), (turnsM ws).map (·.2) = flat ws
  | [] => rfl
  | p :: ws => by
    show ((List.range p.2).map _ ++ turnsM ws).map _ = List.replicate p.2 p.1 ++ flat ws
    rw [List.map_append, turns_flat ws, List.map_map]
    congr 1
    refine List.eq_replicate_iff.mpr ⟨by simp, fun b hb => ?_⟩
    obtain ⟨t, _, e⟩ := List.mem_map.mp hb
    exact e.symm
theorem most_flat (ws : List (Str × Nat)) : (mostM ws).Perm (flat ws) := by
  rw [← turns_flat]
  exact (most_perm ws _ fun q hq => le_top hq).map _
/-! ### two books of that day -/
def alt (x y : Str) : Nat → List Str
  | 0 => []
  | k + 1 => x :: y :: alt x y k
theorem alt_snoc (x y : Str) : ∀ k : Nat, alt x y (k + 1) = alt x y k ++ [x, y]
  | 0 => rfl
  | k + 1 => by
    show x :: y :: alt x y (k + 1) = x :: y :: (alt x y k ++ [x, y])
    rw [alt_snoc x y k]
def wrd (x y : Str) (a b M : Nat) : List Str := (List.range M).flatMap fun t => (if t < a then [x] else []) ++ (if t < b then [y] else [])
theorem wrd_eq (x y : Str) (a b : Nat) : ∀ M : Nat, wrd x y a b M = alt x y (min (min a b) M) ++ (List.replicate (min a M - min b M) x ++ List.replicate (min b M - min a M) y)
  | 0 => by
    simp [wrd, alt]
  | M + 1 => by
    have e : wrd x y a b (M + 1) = wrd x y a b M ++ ((if M < a then [x] else []) ++ (if M < b then [y] else [])) := by
      unfold wrd
      rw [List.range_succ, List.flatMap_append]
      simp
    rw [e, wrd_eq x y a b M]
    by_cases ha : M < a
    · by_cases hb : M < b
      · rw [if_pos ha, if_pos hb, show min (min a b) M = M by omega, show min (min a b) (M + 1) = M + 1 by omega, show min a M - min b M = 0 by omega, show min b M - min a M = 0 by omega,
          show min a (M + 1) - min b (M + 1) = 0 by omega, show min b (M + 1) - min a (M + 1) = 0 by omega, alt_snoc]
        simp
      · rw [if_pos ha, if_neg hb, show min (min a b) M = b by omega, show min (min a b) (M + 1) = b by omega, show min b M - min a M = 0 by omega, show min b (M + 1) - min a (M + 1) = 0 by omega,
          show min a (M + 1) - min b (M + 1) = (min a M - min b M) + 1 by omega, List.replicate_succ']
        simp
    · by_cases hb : M < b
      · rw [if_neg ha, if_pos hb, show min (min a b) M = a by omega, show min (min a b) (M + 1) = a by omega, show min a M - min b M = 0 by omega, show min a (M + 1) - min b (M + 1) = 0 by omega,
          show min b (M + 1) - min a (M + 1) = (min b M - min a M) + 1 by omega, List.replicate_succ']
        simp
      · rw [if_neg ha, if_neg hb, show min (min a b) M = min a b by omega, show min (min a b) (M + 1) = min a b by omega, show min a M = a by omega, show min b M = b by omega, show min a (M + 1) = a by omega, show min b (M + 1) = b by omega]
        simp
theorem adj_rep (z : Str) : ∀ n : Nat, adj (z :: List.replicate n z) = 0
  | 0 => rfl
  | n + 1 => by
    show (if z = z then 0 else 1) + adj (z :: List.replicate n z) = 0
    rw [if_pos rfl, adj_rep z n]
theorem adj_alt {x y : Str} (ne : x ≠ y) (r : List Str) : ∀ k : Nat, adj (y :: (alt x y k ++ r)) = 2 * k + adj (y :: r)
  | 0 => by
    show adj (y :: r) = _
    omega
  | k + 1 => by
    show (if y = x then 0 else 1) + ((if x = y then 0 else 1) + adj (y :: (alt x y k ++ r))) = _
    rw [if_neg ne.symm, if_neg ne, adj_alt ne r k]
    omega
theorem last_rep {l : List Str} {z : Str} {n : Nat} : l ++ List.replicate (n + 1) z = (l ++ List.replicate n z) ++ [z] := by
  rw [List.replicate_succ', List.append_assoc]
theorem cyc_wrd {x y : Str} (ne : x ≠ y) {a b M : Nat} (ha : 0 < a) (hb : 0 < b) (am : a ≤ M) (bm : b ≤ M) : cyc (wrd x y a b M) = 2 * min a b := by
  rw [wrd_eq, show min (min a b) M = min a b by omega, show min a M = a by omega, show min b M = b by omega]
  obtain ⟨k, hk⟩ : ∃ k, min a b = k + 1 := ⟨min a b - 1, by omega⟩
  by_cases h : a ≤ b
  · rw [show a - b = 0 by omega, List.replicate_zero, List.nil_append]
    have e : adj (y :: (alt x y (min a b) ++ List.replicate (b - a) y)) = 2 * min a b := by
      rw [adj_alt ne, adj_rep]
      rfl
    cases hn : b - a with
    | zero =>
      rw [hn] at e
      rw [hk] at e ⊢
      rw [List.replicate_zero, List.append_nil] at e ⊢
      rw [alt_snoc, show [x, y] = [x] ++ [y] from rfl, ← List.append_assoc] at e ⊢
      rw [cyc_snoc]
      exact e
    | succ n =>
      rw [hn] at e
      rw [last_rep] at e ⊢
      rw [cyc_snoc]
      exact e
  · rw [show b - a = 0 by omega, List.replicate_zero, List.append_nil]
    obtain ⟨n, hn⟩ : ∃ n, a - b = n + 1 := ⟨a - b - 1, by omega⟩
    have e : adj (x :: (alt x y (min a b) ++ List.replicate (a - b) x)) = 2 * min a b := by
      rw [hk, hn]
      show (if x = x then 0 else 1) + ((if x = y then 0 else 1) + adj (y :: (alt x y k ++ List.replicate (n + 1) x))) = _
      rw [if_pos rfl, if_neg ne, adj_alt ne]
      show 0 + (1 + (2 * k + ((if y = x then 0 else 1) + adj (x :: List.replicate n x)))) = _
      rw [if_neg ne.symm, adj_rep]
      omega
    rw [hn] at e ⊢
    rw [last_rep] at e ⊢
    rw [cyc_snoc]
    exact e
theorem cyc_two {x y : Str} (ne : x ≠ y) {a b : Nat} (ha : 0 < a) (hb : 0 < b) : cyc (List.replicate a x ++ List.replicate b y) = 2 := by
  obtain ⟨n, rfl⟩ : ∃ n, b = n + 1 := ⟨b - 1, by omega⟩
  obtain ⟨m, rfl⟩ : ∃ m, a = m + 1 := ⟨a - 1, by omega⟩
  rw [last_rep, cyc_snoc, ← last_rep]
  have e : y :: (List.replicate (m + 1) x ++ List.replicate (n + 1) y) = (y :: List.replicate m x) ++ x :: y :: List.replicate n y := by
    rw [List.replicate_succ', List.replicate_succ]
    simp
  rw [e, adj_append]
  have e1 : (y :: List.replicate m x) ++ [x] = y :: x :: List.replicate m x := by
    show y :: (List.replicate m x ++ [x]) = _
    rw [← List.replicate_succ', List.replicate_succ]
  rw [e1]
  show ((if y = x then 0 else 1) + adj (x :: List.replicate m x)) + ((if x = y then 0 else 1) + adj (y :: List.replicate n y)) = 2
  rw [if_neg ne.symm, if_neg ne, adj_rep, adj_rep]
/-- where two books stand among the wants -/
theorem two_at : ∀ {ws : List (Str × Nat)} {x y : Str} {a b : Nat}, (wnames ws).Nodup → (x, a) ∈ ws → (y, b) ∈ ws → x ≠ y →
    (∃ l1 l2 l3, ws = l1 ++ (x, a) :: (l2 ++ (y, b) :: l3) ∧ ∀ p ∈ l1 ++ l2 ++ l3, ¬ (p.1 = x ∨ p.1 = y)) ∨ ∃ l1 l2 l3, ws = l1 ++ (y, b) :: (l2 ++ (x, a) :: l3) ∧ ∀ p ∈ l1 ++ l2 ++ l3, ¬ (p.1 = x ∨ p.1 = y) := by
  intro ws x y a b nd hx hy ne
  have key : ∀ {x y : Str} {a b : Nat} {l r : List (Str × Nat)}, (wnames (l ++ (x, a) :: r)).Nodup → (y, b) ∈ r → ∃ l2 l3, r = l2 ++ (y, b) :: l3 ∧ ∀ p ∈ l ++ l2 ++ l3, ¬ (p.1 = x ∨ p.1 = y) := by
    intro x y a b l r nd h
    obtain ⟨l2, l3, rfl⟩ := List.append_of_mem h
    refine ⟨l2, l3, rfl, fun p hp z => ?_⟩
    unfold wnames at nd
    simp only [List.map_append, List.map_cons] at nd
    have hp' : p.1 ∈ l.map (fun x => x.1) ∨ p.1 ∈ l2.map (fun x => x.1) ∨ p.1 ∈ l3.map (fun x => x.1) := by
      rcases List.mem_append.mp hp with hp | hp
      · rcases List.mem_append.mp hp with hp | hp
        · exact .inl (List.mem_map.mpr ⟨p, hp, rfl⟩)
        · exact .inr (.inl (List.mem_map.mpr ⟨p, hp, rfl⟩))
      · exact .inr (.inr (List.mem_map.mpr ⟨p, hp, rfl⟩))
    obtain ⟨_, n2, n3⟩ := List.nodup_append.mp nd
    obtain ⟨n4, n5⟩ := List.nodup_cons.mp n2
    obtain ⟨_, n6, n7⟩ := List.nodup_append.mp n5
    obtain ⟨n8, _⟩ := List.nodup_cons.mp n6
    rcases z with z | z
    · rw [z] at hp'
      rcases hp' with h | h | h
      · exact n3 _ h _ List.mem_cons_self rfl
      · exact n4 (List.mem_append_left _ h)
      · exact n4 (List.mem_append_right _ (List.mem_cons_of_mem _ h))
    · rw [z] at hp'
      rcases hp' with h | h | h
      · exact n3 _ h _ (List.mem_cons_of_mem _ (List.mem_append_right _ List.mem_cons_self)) rfl
      · exact n7 _ h _ List.mem_cons_self rfl
      · exact n8 h
  obtain ⟨l, r, rfl⟩ := List.append_of_mem hx
  rcases List.mem_append.mp hy with h | h
  · obtain ⟨l1, l2, rfl⟩ := List.append_of_mem h
    right
    have nd2 : (wnames (l1 ++ (y, b) :: (l2 ++ (x, a) :: r))).Nodup := by simpa using nd
    obtain ⟨m2, m3, e, q⟩ := key (l := l1) (r := l2 ++ (x, a) :: r) nd2 (List.mem_append_right _ List.mem_cons_self)
    refine ⟨l1, m2, m3, by rw [← e]; simp, fun p hp z => q p hp z.symm⟩
  · left
    rcases List.mem_cons.mp h with h | h
    · exact absurd (congrArg Prod.fst h).symm ne
    · obtain ⟨l2, l3, e, q⟩ := key nd h
      exact ⟨l, l2, l3, by rw [e], q⟩
theorem two_comm (x y : Str) (l : List Str) : two x y l = two y x l := by
  unfold two
  congr 1
  funext z
  exact decide_eq_decide.mpr or_comm
theorem two_none {x y : Str} : ∀ {l : List Str}, (∀ z ∈ l, ¬ (z = x ∨ z = y)) → two x y l = []
  | [], _ => rfl
  | z :: l, h => by rw [two_out (h z List.mem_cons_self), two_none fun u hu => h u (List.mem_cons_of_mem _ hu)]
theorem two_rep {x y : Str} (z : Str) (h : z = x ∨ z = y) : ∀ n : Nat, two x y (List.replicate n z) = List.replicate n z
  | 0 => rfl
  | n + 1 => by rw [List.replicate_succ, two_in h, two_rep z h n]
theorem flat_none {x y : Str} {l : List (Str × Nat)} (h : ∀ p ∈ l, ¬ (p.1 = x ∨ p.1 = y)) : two x y (flat l) = [] := two_none fun z hz => by
  obtain ⟨p, hp, rfl⟩ := List.mem_map.mp (flat_mem hz)
  exact h p hp
theorem round_none {x y : Str} {l : List (Str × Nat)} (h : ∀ p ∈ l, ¬ (p.1 = x ∨ p.1 = y)) (t : Nat) : two x y ((roundM l t).map (·.2)) = [] := two_none fun z hz => by
  obtain ⟨q, hq, rfl⟩ := List.mem_map.mp hz
  obtain ⟨p, hp, rfl⟩ := List.mem_map.mp hq
  exact h p (List.mem_filter.mp hp).1
theorem round_app (l r : List (Str × Nat)) (t : Nat) : roundM (l ++ r) t = roundM l t ++ roundM r t := by
  unfold roundM
  rw [List.filter_append, List.map_append]
theorem two_flat {x y : Str} {a b : Nat} {l1 l2 l3 : List (Str × Nat)} (h : ∀ p ∈ l1 ++ l2 ++ l3, ¬ (p.1 = x ∨ p.1 = y)) : two x y (flat (l1 ++ (x, a) :: (l2 ++ (y, b) :: l3))) = List.replicate a x ++ List.replicate b y := by
  have h1 : ∀ p ∈ l1, ¬ (p.1 = x ∨ p.1 = y) := fun p hp => h p (List.mem_append_left _ (List.mem_append_left _ hp))
  have h2 : ∀ p ∈ l2, ¬ (p.1 = x ∨ p.1 = y) := fun p hp => h p (List.mem_append_left _ (List.mem_append_right _ hp))
  have h3 : ∀ p ∈ l3, ¬ (p.1 = x ∨ p.1 = y) := fun p hp => h p (List.mem_append_right _ hp)
  rw [flat_append]
  show two x y (flat l1 ++ (List.replicate a x ++ flat (l2 ++ (y, b) :: l3))) = _
  rw [flat_append]
  show two x y (flat l1 ++ (List.replicate a x ++ (flat l2 ++ (List.replicate b y ++ flat l3)))) = _
  rw [two_append, two_append, two_append, two_append, flat_none h1, flat_none h2, flat_none h3, two_rep x (.inl rfl), two_rep y (.inr rfl)]
  simp
theorem two_most {x y : Str} {a b M : Nat} {l1 l2 l3 : List (Str × Nat)} (h : ∀ p ∈ l1 ++ l2 ++ l3, ¬ (p.1 = x ∨ p.1 = y)) : two x y ((mostT (l1 ++ (x, a) :: (l2 ++ (y, b) :: l3)) M).map (·.2)) = wrd x y a b M := by
  have h1 : ∀ p ∈ l1, ¬ (p.1 = x ∨ p.1 = y) := fun p hp => h p (List.mem_append_left _ (List.mem_append_left _ hp))
  have h2 : ∀ p ∈ l2, ¬ (p.1 = x ∨ p.1 = y) := fun p hp => h p (List.mem_append_left _ (List.mem_append_right _ hp))
  have h3 : ∀ p ∈ l3, ¬ (p.1 = x ∨ p.1 = y) := fun p hp => h p (List.mem_append_right _ hp)
  unfold mostT wrd
  rw [List.map_flatMap]
  unfold two
  rw [List.filter_flatMap]
  congr 1
  funext t
  show two x y ((roundM (l1 ++ (x, a) :: (l2 ++ (y, b) :: l3)) t).map (·.2)) = _
  rw [round_app, round_cons, round_app, round_cons, List.map_append, List.map_append, List.map_append, List.map_append, two_append, two_append, two_append, two_append, round_none h1, round_none h2, round_none h3]
  have one : ∀ (c : Prop) [Decidable c] (z : Str), (z = x ∨ z = y) → two x y ((if c then [(t, z)] else []).map (·.2)) = if c then [z] else [] := fun c _ z hz => by
    by_cases hc : c
    · rw [if_pos hc, if_pos hc]
      exact two_in hz []
    · rw [if_neg hc, if_neg hc]
      rfl
  rw [one _ x (.inl rfl), one _ y (.inr rfl)]
  simp
theorem least_cyc {ws : List (Str × Nat)} {x y : Str} {a b : Nat} (nd : (wnames ws).Nodup) (hx : (x, a) ∈ ws) (hy : (y, b) ∈ ws) (ne : x ≠ y) (ha : 0 < a) (hb : 0 < b) : cyc (two x y (flat ws)) = 2 := by
  rcases two_at nd hx hy ne with ⟨l1, l2, l3, rfl, h⟩ | ⟨l1, l2, l3, rfl, h⟩
  · rw [two_flat h, cyc_two ne ha hb]
  · rw [two_comm, two_flat fun p hp z => h p hp z.symm, cyc_two ne.symm hb ha]
theorem most_cyc {ws : List (Str × Nat)} {x y : Str} {a b : Nat} (nd : (wnames ws).Nodup) (hx : (x, a) ∈ ws) (hy : (y, b) ∈ ws) (ne : x ≠ y) (ha : 0 < a) (hb : 0 < b) : cyc (two x y (mostM ws)) = 2 * min a b := by
  have la : a ≤ topW ws := le_top hx
  have lb : b ≤ topW ws := le_top hy
  unfold mostM
  rcases two_at nd hx hy ne with ⟨l1, l2, l3, e, h⟩ | ⟨l1, l2, l3, e, h⟩
  · generalize topW ws = M at la lb
    rw [e, two_most h, cyc_wrd ne ha hb la lb]
  · generalize topW ws = M at la lb
    rw [e, two_comm, two_most fun p hp z => h p hp z.symm, cyc_wrd ne.symm hb ha lb la, Nat.min_comm]
end Lt

set_option Elab.async false
set_option linter.all false
set_option maxRecDepth 100000
set_option maxHeartbeats 4000000
namespace Lt
open PySem PySem.Spec PyProof.Rows L2
/-! ### tables that grow -/
def Tabs (H : Hp) (Ps : List Addr) : Prop := ∀ P ∈ Ps, GxR.TabG H P
theorem Tabs.same {H H' : Hp} {Ps : List Addr} (t : Tabs H Ps) (s : Same H H') : Tabs H' Ps := fun P h => tabG_same (t P h) s
theorem Tabs.but {T : Addr} {H H' : Hp} {Ps : List Addr} (t : Tabs H Ps) (s : SameT T H H') (h : ∃ xs, H T = some (.lst xs)) : Tabs H' Ps := fun P hp => tabG_but (t P hp) s h
theorem Tabs.tab {P : Addr} {H H' : Hp} {Ps : List Addr} (t : Tabs H Ps) (s : GxR.Tabbed P H H') : Tabs H' Ps := fun P' hp => tabG_tab (t P' hp) s
theorem WL.moveN {H H' : Hp} {ts : List Addr} {ws : List (Str × Nat)} (h : WL H ts ws) (s : SameN H H') : WL H' ts ws := h.move fun t xs e => s.tupH e
theorem WAt.sameN {H H' : Hp} {W : Addr} {ws : List (Str × Nat)} (h : WAt H W ws) (s : SameN H H') : WAt H' W ws := by
  obtain ⟨ts, h1, h2⟩ := h
  exact ⟨ts, h1.sameN s, h2.moveN s⟩
theorem TpS.sameN {K : PySem.W.Frag} {H H' : Hp} {a : Addr} {xs : List V} (h : TpS K H a xs) (s : SameN H H') : TpS K H' a xs := s.tup h
/-! ### wants in order -/
theorem pw_rising : ∀ (p : Str) (l : List Str), (p :: l).Pairwise ltS → risingS p l = true
  | _, [], _ => rfl
  | p, x :: r, h => by
    obtain ⟨h1, h2⟩ := List.pairwise_cons.mp h
    show (!ltCps x.cps.toList p.cps.toList && risingS x r) = true
    rw [pw_rising x r h2, Bool.and_true, ltCps_eq, decide_eq_false (ltS_asymm (h1 x List.mem_cons_self))]
    rfl
theorem pw_sorted {l : List Str} (h : l.Pairwise ltS) : sortedS l = true := by
  cases l with
  | nil => rfl
  | cons x r => exact pw_rising x r h
structure WOk (ws : List (Str × Nat)) : Prop where
  up : (wnames ws).Pairwise ltS
  pos : ∀ p ∈ ws, 0 < p.2
  len : ws.length ≤ 7
  few : topW ws ≤ 60
  ok : ∀ b ∈ wnames ws, PyData.strOk b = true
theorem WOk.nd {ws : List (Str × Nat)} (h : WOk ws) : (wnames ws).Nodup := h.up.imp fun {a b} (l : ltS a b) (e : a = b) => ltS_irrefl a (by rw [← e] at l; exact l)
theorem WOk.so {ws : List (Str × Nat)} (h : WOk ws) : sortedS (wnames ws) = true := pw_sorted h.up
theorem WOk.mostIn {ws : List (Str × Nat)} (h : WOk ws) : ∀ b ∈ mostM ws, b ∈ wnames ws := fun b hb => flat_mem ((most_flat ws).mem_iff.mp hb)
theorem WOk.mostAll {ws : List (Str × Nat)} (h : WOk ws) : ∀ b ∈ wnames ws, b ∈ mostM ws := fun b hb => (most_flat ws).mem_iff.mpr (mem_flat h.pos hb)
theorem top_flat (ws : List (Str × Nat)) : (flat ws).length = topW ws := flat_len ws
theorem WOk.mostLen {ws : List (Str × Nat)} (h : WOk ws) : (mostM ws).length ≤ 60 := by
  rw [(most_flat ws).length_eq, top_flat]
  exact h.few
theorem WOk.flatLen {ws : List (Str × Nat)} (h : WOk ws) : (flat ws).length ≤ 60 := by
  rw [top_flat]
  exact h.few
/-! ### promises -/
def spSettledN (K : PySem.W.Frag) (Ps : List Addr) : Sp := fun vs H Q _ => ∃ (W r : Addr) (ws : List (Str × Nat)) (rs : List Str), vs = [.ref W, .ref r] ∧ WAt H W ws ∧ TpS K H r (rs.map V.str) ∧ ws.length ≤ 7 ∧ (∀ b ∈ rs, b ∈ wnames ws) ∧ Tabs H Ps ∧
  ∀ (q : Addr) (H' : Hp), SameN H H' → Tabs H' Ps → TpO H' q ((behindM (wnames ws) rs).map V.str) → Q (.ref q) H'
/-- what each day asks -/
def eachV (ns rs : List Str) : Nat := (liftedM (behindM ns rs) rs).sum
def spEachN (K : PySem.W.Frag) (Ps : List Addr) : Sp := fun vs H Q _ => ∃ (W r : Addr) (ws : List (Str × Nat)) (rs : List Str), vs = [.ref W, .ref r] ∧ WAt H W ws ∧ TpS K H r (rs.map V.str) ∧ ws.length ≤ 7 ∧ rs.length ≤ 60 ∧ (∀ b ∈ rs, b ∈ wnames ws) ∧ Tabs H Ps ∧
  ∀ H' : Hp, SameN H H' → Tabs H' Ps → Q (.int (eachV (wnames ws) rs : Int)) H'
abbrev dayD (ns rs : List Str) : List PyData := (prs ns ns.length).map (tri (rowsM (behindM ns rs) rs))
def spDayPN (K : PySem.W.Frag) (Ps : List Addr) : Sp := fun vs H Q _ => ∃ (W r : Addr) (ws : List (Str × Nat)) (rs : List Str), vs = [.ref W, .ref r] ∧ WAt H W ws ∧ TpS K H r (rs.map V.str) ∧ WOk ws ∧ rs.length ≤ 60 ∧ (∀ b ∈ rs, b ∈ wnames ws) ∧ Tabs H Ps ∧
  ∀ (l : Addr) (H' : Hp) (xs : List V), SameN H H' → Tabs H' Ps → H' l = some (.lst xs) → DpAll K H' xs (dayD (wnames ws) rs) → Q (.ref l) H'
def spMostDay (Ps : List Addr) : Sp := fun vs H Q _ => ∃ (W : Addr) (ws : List (Str × Nat)), vs = [.ref W] ∧ WAt H W ws ∧ WOk ws ∧ Tabs H Ps ∧ ∀ (D : Addr) (H' : Hp), SameN H H' → Tabs H' Ps → TpO H' D ((mostM ws).map V.str) → Q (.ref D) H'
def spLeastDay (Ps : List Addr) : Sp := fun vs H Q _ => ∃ (W : Addr) (ws : List (Str × Nat)), vs = [.ref W] ∧ WAt H W ws ∧ WOk ws ∧ Tabs H Ps ∧ ∀ (D : Addr) (H' : Hp), SameN H H' → Tabs H' Ps → TpO H' D ((flat ws).map V.str) → Q (.ref D) H'
def spMost (Ps : List Addr) : Sp := fun vs H Q _ => ∃ (W : Addr) (ws : List (Str × Nat)), vs = [.ref W] ∧ WAt H W ws ∧ WOk ws ∧ Tabs H Ps ∧ ∀ (H' : Hp), SameN H H' → Tabs H' Ps → Q (.int (eachV (wnames ws) (mostM ws) : Int)) H'
def spLeast (Ps : List Addr) : Sp := fun vs H Q _ => ∃ (W : Addr) (ws : List (Str × Nat)), vs = [.ref W] ∧ WAt H W ws ∧ WOk ws ∧ Tabs H Ps ∧ ∀ (H' : Hp), SameN H H' → Tabs H' Ps → Q (.int (eachV (wnames ws) (flat ws) : Int)) H'
def spMostP (K : PySem.W.Frag) (Ps : List Addr) : Sp := fun vs H Q _ => ∃ (W : Addr) (ws : List (Str × Nat)), vs = [.ref W] ∧ WAt H W ws ∧ WOk ws ∧ Tabs H Ps ∧
  ∀ (l : Addr) (H' : Hp) (xs : List V), SameN H H' → Tabs H' Ps → H' l = some (.lst xs) → DpAll K H' xs (dayD (wnames ws) (mostM ws)) → Q (.ref l) H'
end Lt

set_option Elab.async false
set_option linter.all false
set_option maxRecDepth 100000
set_option maxHeartbeats 4000000
namespace Lt
open PySem PySem.Spec PyProof.Rows L2
/-! ### lists of tuples -/
def RowsL {α : Type} (f : α → List V) (H : Hp) (ts : List Addr) (qs : List α) : Prop := ts.length = qs.length ∧ ∀ (i : Nat) (t : Addr) (q : α), ts[i]? = some t → qs[i]? = some q → H t = some (.tup (f q))
theorem RowsL.nil {α : Type} {f : α → List V} (H : Hp) : RowsL f H [] [] := ⟨rfl, fun i t q h => by simp at h⟩
theorem RowsL.move {α : Type} {f : α → List V} {H H' : Hp} {ts : List Addr} {qs : List α} (h : RowsL f H ts qs) (k : KeepT H H') : RowsL f H' ts qs := ⟨h.1, fun i t q a b => k _ _ (h.2 i t q a b)⟩
theorem RowsL.snoc {α : Type} {f : α → List V} {H : Hp} {ts : List Addr} {qs : List α} {t : Addr} {q : α} (h : RowsL f H ts qs) (ht : H t = some (.tup (f q))) : RowsL f H (ts ++ [t]) (qs ++ [q]) := by
  obtain ⟨h1, h2⟩ := h
  refine ⟨by rw [List.length_append, List.length_append, h1]; rfl, fun i u r a b => ?_⟩
  by_cases hi : i < ts.length
  · rw [List.getElem?_append_left hi] at a
    rw [List.getElem?_append_left (by omega)] at b
    exact h2 i u r a b
  · rw [List.getElem?_append_right (by omega)] at a
    rw [List.getElem?_append_right (by omega), ← h1] at b
    cases e : i - ts.length with
    | zero =>
      rw [e] at a b
      cases a
      cases b
      exact ht
    | succ n =>
      rw [e] at a
      cases a
theorem RowsL.mem {α : Type} {f : α → List V} {H : Hp} {ts : List Addr} {qs : List α} (h : RowsL f H ts qs) {t : Addr} (ht : t ∈ ts) : ∃ q ∈ qs, H t = some (.tup (f q)) := by
  obtain ⟨i, hi, rfl⟩ := List.mem_iff_getElem.mp ht
  have hq : i < qs.length := by
    rw [← h.1]
    exact hi
  exact ⟨qs[i], List.getElem_mem hq, h.2 i _ _ (List.getElem?_eq_getElem hi) (List.getElem?_eq_getElem hq)⟩
abbrev turnV (q : Nat × Str) : List V := [natV q.1, .str q.2]
/-- the pair that stands there -/
def pairAt (H : Hp) (t : Addr) : Nat × Str := match H t with
  | some (.tup [.int i, .str b]) => (i.toNat, b)
  | _ => (0, Str.empty)
theorem pairAt_eq {H : Hp} {t : Addr} {q : Nat × Str} (h : H t = some (.tup (turnV q))) : pairAt H t = q := by
  unfold pairAt
  rw [h]
  show (((q.1 : Nat) : Int).toNat, q.2) = q
  rw [Int.toNat_natCast]
theorem rows_pairs {H : Hp} : ∀ {ts : List Addr} {qs : List (Nat × Str)}, RowsL turnV H ts qs → ts.map (pairAt H) = qs := by
  intro ts qs h
  refine List.ext_getElem (by rw [List.length_map]; exact h.1) fun i h1 h2 => ?_
  rw [List.getElem_map]
  exact pairAt_eq (h.2 i _ _ (List.getElem?_eq_getElem _) (List.getElem?_eq_getElem _))
theorem turns_take {ws : List (Str × Nat)} {i : Nat} {p : Str × Nat} (h : ws[i]? = some p) : turnsM (ws.take (i + 1)) = turnsM (ws.take i) ++ (List.range p.2).map fun t => (t, p.1) := by
  rw [List.take_add_one, h]
  unfold turnsM
  rw [List.flatMap_append]
  show _ ++ ((List.range p.2).map _ ++ []) = _
  rw [List.append_nil]
theorem turns_len (ws : List (Str × Nat)) : (turnsM ws).length = topW ws := by
  rw [← top_flat, ← turns_flat, List.length_map]
theorem top_take (ws : List (Str × Nat)) (i : Nat) : topW (ws.take i) ≤ topW ws := by
  rw [← top_flat, ← top_flat]
  exact flat_take i
end Lt

set_option Elab.async false
set_option linter.all false
set_option maxRecDepth 100000
set_option maxHeartbeats 4000000
/-! list(range(i, j, 2)) -/
namespace Lt
open PySem PySem.Spec PyProof.Rows L2
section
variable {X : Cx}
/-- i, i + 2, .. below j -/
def nEv (i j : Nat) : Nat := if i < j then (j - i - 1) / 2 + 1 else 0
theorem nEv_le (i j : Nat) : nEv i j ≤ j := by
  unfold nEv
  split <;> omega
def evens (i j : Nat) : List Nat := (List.range (nEv i j)).map fun t => i + 2 * t
theorem size_two (i j : Nat) : Builtin.Range.rangeSize (i : Int) (j : Int) 2 = (nEv i j : Int) := by
  unfold Builtin.Range.rangeSize nEv
  rw [if_pos (show (2 : Int) > 0 by decide)]
  by_cases h : i < j
  · rw [if_pos h, if_pos (show (i : Int) < j by omega)]
    omega
  · rw [if_neg h, if_neg (show ¬ (i : Int) < j by omega)]
    rfl
theorem fitsL {i : Int} (h1 : 0 ≤ i) (h2 : i ≤ 1000000) : Builtin.Range.rangeFitsLong i = true := by
  unfold Builtin.Range.rangeFitsLong
  rw [decide_eq_true (show -(2 ^ 63) ≤ i by omega), decide_eq_true (show i < 2 ^ 63 by omega)]
  rfl
theorem rg_two {i j : Nat} (hi : i ≤ 1000) (hj : j ≤ 1000) : RgC (i : Int) (j : Int) 2 (nEv i j) := by
  refine ⟨by decide, by decide, ?_, size_two i j⟩
  unfold Builtin.Range.small
  have hn := nEv_le i j
  rw [size_two, if_pos (show (2 : Int) > 0 by decide), fitsL (i := (i : Int)) (by omega) (by omega), fitsL (i := (j : Int)) (by omega) (by omega), fitsL (i := 2) (by omega) (by omega), fitsL (i := (nEv i j : Int)) (by omega) (by omega), fitsL (i := (j : Int) + (2 - 1)) (by omega) (by omega), Bool.or_true]
  rfl
def tLR3 (ta : TA) : TE := fun σ H Q => ta σ H fun vs H1 => ∃ i j : Nat, vs = [natV i, natV j, .int 2] ∧ i ≤ 1000 ∧ j ≤ 1000 ∧ ∀ q, H1 q = none → Q (.ref q) (upd H1 q (.lst ((evens i j).map natV)))
theorem pe_listR3 {a b c : Expr} {ta : TA} {p pos p2 pos2 : Pos} (hc : X.calm = true) (hg : Gl X "list") (hm : X.mg "list" = none) (hg2 : Gl X "range") (hm2 : X.mg "range" = none) (ha : PA X [a, b, c] ta)
    (hs : starEach [a, b, c] X.env = (false, eval a X.env) :: starEach [b, c] X.env := by rfl) (hpl : (backTo pos2 (starEach [b, c] X.env)).any (·.1) = false := by rfl)
    (na : starEach [.Call (.Name "range" p2) [a, b, c] [] pos2] X.env = (false, eval (.Call (.Name "range" p2) [a, b, c] [] pos2) X.env) :: starEach [] X.env := by rfl) :
    PE X (.Call (.Name "list" p) [.Call (.Name "range" p2) [a, b, c] [] pos2] [] pos) (tLR3 ta) := by
  refine ⟨fun pins s σ H Q I h => ?_⟩
  refine Call_ (ld_blt I hg hm boot_list (PyProof.Rows.callWith_type1 (args_cons (Call_ (ld_blt I hg2 hm2 boot_range (PyProof.Rows.callWith_type1 (thn (ha.run pos2 pins s σ H _ I h) fun us s1 ⟨vs, H1, I1, r1, q1⟩ => ?_) hs hpl))) na) na))
  obtain ⟨i, j, e, hi, hj, q⟩ := q1
  subst e
  cases r1 with
  | cons r rr =>
    cases rr with
    | cons r' rr =>
      cases rr with
      | cons r'' rr =>
        cases rr
        obtain ⟨t, rfl⟩ := r
        obtain ⟨t', rfl⟩ := r'
        obtain ⟨t'', rfl⟩ := r''
        obtain ⟨c0, c1, c2, c3⟩ := rg_two hi hj
        refine call_range_3 c0 ?_ (.inl (PyProof.noPylong_small c1))
        have I2 : Inv X pins σ H1 { s1 with heap := s1.heap.push { cls := .type "range", data := .fields #[.int (i : Int) t, .int (j : Int) t', .int 2 t''] } } := I1.kept (t' := s1.toks) fun b o e => Heap.get?_push_of_some _ e
        refine args_nil ?_
        refine call_list_range (n := nEv i j) (I2.ok.hd hc) (IsRange.new ..) c2 c3 (by have := nEv_le i j; omega) fun h' tk acc c' hk e' it => ?_
        have vals : Vals ((evens i j).map natV) acc.toList := by
          have el : acc.toList.length = nEv i j := by rw [Array.length_toList]; exact it.1
          unfold evens
          rw [← el, List.map_map]
          refine vals_of_get acc.toList _ fun k u hk => ?_
          obtain ⟨tt, rfl⟩ := it.2 k u (by rw [← hk, Array.getElem?_toList])
          refine ⟨tt, ?_⟩
          have e1 : (i : Int) + (k : Nat) * 2 = ((i + 2 * k : Nat) : Int) := by omega
          rw [e1]
        refine ⟨.ref _, _, I2.laid hk (Nat.le_refl _) (show ObjOk X.prog X.w _ _ _ (.lst ((evens i j).map natV)) from ⟨?_, acc.toList, c', vals, ?_⟩), rfl, q _ (I2.hok.fresh (Nat.le_refl _))⟩
        · rw [List.length_map]
          unfold evens
          rw [List.length_map, List.length_range]
          exact Nat.le_of_lt (small1000 (Nat.le_trans (nEv_le i j) hj))
        · rw [Array.toArray_toList]
          exact e'
end
end Lt

set_option Elab.async false
set_option linter.all false
set_option maxRecDepth 100000
set_option maxHeartbeats 4000000
namespace Lt
open PySem PySem.Spec PyProof.Rows L2
/-! ### what a day lifts, by its pairs -/
def eachS (ns rs : List Str) : Nat := ((prs ns ns.length).map fun q => cyc (two q.1 q.2 rs)).sum
theorem day_at {ns rs : List Str} (nd : ns.Nodup) (so : sortedS ns = true) (h : ∀ b ∈ rs, b ∈ ns) (all : ∀ b ∈ ns, b ∈ rs) {q : Str × Str} (hq : q ∈ prs ns ns.length) : cnt (rowsM (behindM ns rs) rs) q = cyc (two q.1 q.2 rs) := by
  obtain ⟨e, ne, h1, h2⟩ := prs_pair nd so hq
  have z := day_cyc nd h (all _ h1) h2 ne
  rw [e] at z
  exact z
theorem each_eq {ns rs : List Str} (nd : ns.Nodup) (so : sortedS ns = true) (h : ∀ b ∈ rs, b ∈ ns) (all : ∀ b ∈ ns, b ∈ rs) : eachV ns rs = eachS ns rs := by
  have pm := behindM_perm rs h
  unfold eachV eachS
  rw [day_sum (pm.nodup_iff.mpr nd) (fun b hb => pm.mem_iff.mpr (h b hb)) pm.symm so]
  congr 1
  exact List.map_congr_left fun q hq => day_at nd so h all hq
theorem sum_le {α : Type} {f g : α → Nat} : ∀ {l : List α}, (∀ x ∈ l, f x ≤ g x) → (l.map f).sum ≤ (l.map g).sum
  | [], _ => Nat.le_refl _
  | x :: r, h => by
    rw [List.map_cons, List.map_cons, List.sum_cons, List.sum_cons]
    have a := h x List.mem_cons_self
    have b := sum_le (l := r) fun y hy => h y (List.mem_cons_of_mem _ hy)
    omega
theorem sum_eq {α : Type} {f g : α → Nat} {l : List α} (h : ∀ x ∈ l, f x = g x) : (l.map f).sum = (l.map g).sum := by
  rw [List.map_congr_left h]
theorem sum_two {α : Type} {f : α → Nat} : ∀ {l : List α}, (∀ x ∈ l, f x = 2) → (l.map f).sum = 2 * l.length
  | [], _ => rfl
  | x :: r, h => by
    rw [List.map_cons, List.sum_cons, List.length_cons, h x List.mem_cons_self, sum_two (l := r) fun y hy => h y (List.mem_cons_of_mem _ hy)]
    omega
/-- one book more at the end -/
theorem prs_grow (f : Str × Str → Nat) {ys : List Str} {z : Str} : ∀ n, n ≤ ys.length → ((prs (ys ++ [z]) n).map f).sum = ((prs ys n).map f).sum + ((ys.take n).map fun x => f (x, z)).sum
  | 0, _ => rfl
  | n + 1, h => by
    have e : ys[n]? = some (ys[n]'(by omega)) := List.getElem?_eq_getElem _
    have e2 : (ys ++ [z])[n]? = some (ys[n]'(by omega)) := by rw [List.getElem?_append_left (by omega)]; exact e
    generalize ys[n]'(by omega) = a at e e2
    rw [prs_succ e, prs_succ e2, List.map_append, List.map_append, List.sum_append_nat, List.sum_append_nat, prs_grow f n (by omega), List.take_add_one, e, List.map_append, List.sum_append_nat, List.drop_append_of_le_length (by omega), List.map_append, List.map_append, List.sum_append_nat]
    show _ + _ + (_ + (f (a, z) + 0)) = _ + _ + (_ + (f (a, z) + 0))
    omega
theorem prs_more (f : Str × Str → Nat) (ys : List Str) (z : Str) : ((prs (ys ++ [z]) (ys ++ [z]).length).map f).sum = ((prs ys ys.length).map f).sum + (ys.map fun x => f (x, z)).sum := by
  rw [List.length_append]
  show ((prs (ys ++ [z]) (ys.length + 1)).map f).sum = _
  rw [prs_succ (a := z) (by rw [List.getElem?_append_right (Nat.le_refl _), Nat.sub_self]; rfl), List.drop_of_length_le (by rw [List.length_append]; exact Nat.le_refl _), List.map_nil, List.append_nil, prs_grow f _ (Nat.le_refl _), List.take_length]
/-! ### most, least -/
theorem want_of {ws : List (Str × Nat)} {x : Str} (h : x ∈ wnames ws) : ∃ a, (x, a) ∈ ws := by
  obtain ⟨p, hp, rfl⟩ := List.mem_map.mp h
  exact ⟨p.2, hp⟩
theorem WOk.flatAll {ws : List (Str × Nat)} (h : WOk ws) : ∀ b ∈ wnames ws, b ∈ flat ws := fun b hb => mem_flat h.pos hb
theorem mostV_eq {ws : List (Str × Nat)} (h : WOk ws) : eachV (wnames ws) (mostM ws) = eachS (wnames ws) (mostM ws) := each_eq h.nd h.so h.mostIn h.mostAll
theorem leastV_eq {ws : List (Str × Nat)} (h : WOk ws) : eachV (wnames ws) (flat ws) = eachS (wnames ws) (flat ws) := each_eq h.nd h.so (fun b hb => flat_mem hb) h.flatAll
theorem WOk.mostC {ws : List (Str × Nat)} (h : WOk ws) {q : Str × Str} (hq : q ∈ prs (wnames ws) (wnames ws).length) : ∃ a b, (q.1, a) ∈ ws ∧ (q.2, b) ∈ ws ∧ q.1 ≠ q.2 ∧ cyc (two q.1 q.2 (mostM ws)) = 2 * min a b := by
  obtain ⟨_, ne, h1, h2⟩ := prs_pair h.nd h.so hq
  obtain ⟨a, ha⟩ := want_of h1
  obtain ⟨b, hb⟩ := want_of h2
  exact ⟨a, b, ha, hb, ne, most_cyc h.nd ha hb ne (h.pos _ ha) (h.pos _ hb)⟩
theorem WOk.leastC {ws : List (Str × Nat)} (h : WOk ws) {q : Str × Str} (hq : q ∈ prs (wnames ws) (wnames ws).length) : cyc (two q.1 q.2 (flat ws)) = 2 := by
  obtain ⟨_, ne, h1, h2⟩ := prs_pair h.nd h.so hq
  obtain ⟨a, ha⟩ := want_of h1
  obtain ⟨b, hb⟩ := want_of h2
  exact least_cyc h.nd ha hb ne (h.pos _ ha) (h.pos _ hb)
theorem least_is {ws : List (Str × Nat)} (h : WOk ws) : eachV (wnames ws) (flat ws) = 2 * (prs (wnames ws) (wnames ws).length).length := by
  rw [leastV_eq h]
  exact sum_two fun q hq => h.leastC hq
theorem least_most {ws : List (Str × Nat)} (h : WOk ws) : eachV (wnames ws) (flat ws) ≤ eachV (wnames ws) (mostM ws) := by
  rw [leastV_eq h, mostV_eq h]
  refine sum_le fun q hq => ?_
  obtain ⟨a, b, ha, hb, _, e⟩ := h.mostC hq
  have a0 := h.pos _ ha
  have b0 := h.pos _ hb
  rw [h.leastC hq, e]
  have a1 : 0 < a := a0
  have b1 : 0 < b := b0
  omega
/-- as many or more of each book -/
def Grow (ws vs : List (Str × Nat)) : Prop := wnames vs = wnames ws ∧ ∀ x a, (x, a) ∈ ws → ∃ b, (x, b) ∈ vs ∧ a ≤ b
theorem grow_most {ws vs : List (Str × Nat)} (h : WOk ws) (h2 : WOk vs) (g : Grow ws vs) {q : Str × Str} (hq : q ∈ prs (wnames ws) (wnames ws).length) : cyc (two q.1 q.2 (mostM ws)) ≤ cyc (two q.1 q.2 (mostM vs)) := by
  obtain ⟨a, b, ha, hb, ne, e⟩ := h.mostC hq
  obtain ⟨a', ha', la⟩ := g.2 _ _ ha
  obtain ⟨b', hb', lb⟩ := g.2 _ _ hb
  rw [e, most_cyc h2.nd ha' hb' ne (h2.pos _ ha') (h2.pos _ hb')]
  omega
theorem most_grows {ws vs : List (Str × Nat)} (h : WOk ws) (h2 : WOk vs) (g : Grow ws vs) : eachV (wnames ws) (mostM ws) ≤ eachV (wnames vs) (mostM vs) := by
  rw [mostV_eq h, mostV_eq h2]
  unfold eachS
  rw [g.1]
  exact sum_le fun q hq => grow_most h h2 g hq
theorem least_stays {ws vs : List (Str × Nat)} (h : WOk ws) (h2 : WOk vs) (g : Grow ws vs) : eachV (wnames vs) (flat vs) = eachV (wnames ws) (flat ws) := by
  rw [least_is h, least_is h2, g.1]
theorem wn_snoc (ws : List (Str × Nat)) (z : Str) (n : Nat) : wnames (ws ++ [(z, n)]) = wnames ws ++ [z] := List.map_append ..
theorem most_wide {ws : List (Str × Nat)} {z : Str} (h : WOk ws) (h2 : WOk (ws ++ [(z, 1)])) : eachV (wnames (ws ++ [(z, 1)])) (mostM (ws ++ [(z, 1)])) = eachV (wnames ws) (mostM ws) + 2 * ws.length := by
  rw [mostV_eq h, mostV_eq h2]
  unfold eachS
  rw [wn_snoc, prs_more]
  have nd := h2.nd
  rw [wn_snoc] at nd
  have hz : (z, 1) ∈ ws ++ [(z, 1)] := List.mem_append_right _ List.mem_cons_self
  have e1 : ((wnames ws).map fun x => cyc (two x z (mostM (ws ++ [(z, 1)])))).sum = 2 * ws.length := (sum_two fun x hx => by
    obtain ⟨a, ha⟩ := want_of hx
    have ne : x ≠ z := fun e => (List.nodup_append.mp nd).2.2 x hx z List.mem_cons_self e
    rw [most_cyc h2.nd (List.mem_append_left _ ha) hz ne (h.pos _ ha) (by decide)]
    have a0 : 0 < a := h.pos _ ha
    omega).trans (by rw [wn_len])
  rw [e1]
  congr 1
  refine sum_eq fun q hq => ?_
  obtain ⟨a, b, ha, hb, ne, e⟩ := h.mostC hq
  rw [e, most_cyc h2.nd (List.mem_append_left _ ha) (List.mem_append_left _ hb) ne (h.pos _ ha) (h.pos _ hb)]
theorem least_wide {ws : List (Str × Nat)} {z : Str} (h : WOk ws) (h2 : WOk (ws ++ [(z, 1)])) : eachV (wnames (ws ++ [(z, 1)])) (flat (ws ++ [(z, 1)])) = eachV (wnames ws) (flat ws) + 2 * ws.length := by
  have e := prs_more (fun _ => 2) (wnames ws) z
  have t : ∀ l : List (Str × Str), (l.map fun _ => 2).sum = 2 * l.length := fun l => sum_two fun _ _ => rfl
  have t2 : ((wnames ws).map fun _ => 2).sum = 2 * ws.length := (sum_two fun _ _ => rfl).trans (by rw [wn_len])
  rw [t, t, t2] at e
  rw [least_is h, least_is h2, wn_snoc, e]
/-! ### other names -/
theorem idx_map {f : Str → Str} (inj : ∀ a b, f a = f b → a = b) (b : Str) : ∀ l : List Str, (l.map f).idxOf (f b) = l.idxOf b
  | [] => rfl
  | x :: r => by
    rw [List.map_cons, List.idxOf_cons, List.idxOf_cons, idx_map inj b r]
    have e : (f x == f b) = (x == b) := by
      rw [Bool.eq_iff_iff, beq_iff_eq, beq_iff_eq]
      exact ⟨inj _ _, fun e => by rw [e]⟩
    rw [e]
theorem lay_ren {f : Str → Str} (inj : ∀ a b, f a = f b → a = b) (l : List Str) (b : Str) : lay (l.map f) (f b) = (lay l b).map f := by
  unfold lay
  rw [idx_map inj, List.map_cons, erase_map]
theorem over_ren {f : Str → Str} (inj : ∀ a b, f a = f b → a = b) (l : List Str) (b : Str) : over (l.map f) (f b) = (over l b).map f := by
  unfold over
  rw [idx_map inj, List.map_take]
theorem behind_ren {f : Str → Str} (inj : ∀ a b, f a = f b → a = b) : ∀ (rs l : List Str), behindM (l.map f) (rs.map f) = (behindM l rs).map f
  | [], l => rfl
  | b :: r, l => by
    show behindM (lay (l.map f) (f b)) (r.map f) = _
    rw [lay_ren inj, behind_ren inj r]
    rfl
theorem lifted_ren {f : Str → Str} (inj : ∀ a b, f a = f b → a = b) : ∀ (rs l : List Str), liftedM (l.map f) (rs.map f) = liftedM l rs
  | [], l => rfl
  | b :: r, l => by
    show (l.map f).idxOf (f b) :: liftedM (lay (l.map f) (f b)) (r.map f) = _
    rw [lay_ren inj, lifted_ren inj r, idx_map inj]
    rfl
def both (f : Str → Str) (q : Str × Str) : Str × Str := (f q.1, f q.2)
theorem rows_ren {f : Str → Str} (inj : ∀ a b, f a = f b → a = b) : ∀ (rs l : List Str), rowsM (l.map f) (rs.map f) = (rowsM l rs).map (both f)
  | [], l => rfl
  | b :: r, l => by
    show (over (l.map f) (f b)).map (fun o => (f b, o)) ++ rowsM (lay (l.map f) (f b)) (r.map f) = ((over l b).map (fun o => (b, o)) ++ rowsM (lay l b) r).map (both f)
    rw [lay_ren inj, rows_ren inj r, over_ren inj, List.map_append, List.map_map, List.map_map]
    rfl
theorem each_ren {f : Str → Str} (inj : ∀ a b, f a = f b → a = b) (ns rs : List Str) : eachV (ns.map f) (rs.map f) = eachV ns rs := by
  unfold eachV
  rw [behind_ren inj, lifted_ren inj]
theorem pair_ren {f : Str → Str} (mono : ∀ a b, ltS (f a) (f b) ↔ ltS a b) (q : Str × Str) : asPair (both f q) = both f (asPair q) := by
  unfold asPair both
  by_cases h : ltS q.1 q.2
  · rw [if_pos h, if_pos ((mono _ _).mpr h)]
  · rw [if_neg h, if_neg fun z => h ((mono _ _).mp z)]
theorem both_inj {f : Str → Str} (inj : ∀ a b, f a = f b → a = b) {q r : Str × Str} (h : both f q = both f r) : q = r := by
  obtain ⟨h1, h2⟩ := Prod.mk.inj h
  exact Prod.ext (inj _ _ h1) (inj _ _ h2)
theorem cnt_ren {f : Str → Str} (inj : ∀ a b, f a = f b → a = b) (mono : ∀ a b, ltS (f a) (f b) ↔ ltS a b) (rows : List (Str × Str)) (q : Str × Str) : cnt (rows.map (both f)) (both f q) = cnt rows q := by
  unfold cnt
  rw [List.filter_map, List.length_map]
  congr 1
  apply List.filter_congr
  intro r _
  show decide (asPair (both f r) = both f q) = decide (asPair r = q)
  rw [pair_ren mono, decide_eq_decide]
  exact ⟨both_inj inj, fun e => by rw [e]⟩
theorem prs_out {ys : List Str} {i : Nat} (h : ys[i]? = none) : prs ys (i + 1) = prs ys i := by
  show prs ys i ++ (match ys[i]? with | some a => (ys.drop (i + 1)).map fun b => (a, b) | none => []) = _
  rw [h]
  exact List.append_nil _
theorem prs_ren (f : Str → Str) (ys : List Str) : ∀ n, prs (ys.map f) n = (prs ys n).map (both f)
  | 0 => rfl
  | n + 1 => by
    cases e : ys[n]? with
    | none =>
      have e2 : (ys.map f)[n]? = none := by rw [List.getElem?_map, e]; rfl
      rw [prs_out e, prs_out e2, prs_ren f ys n]
    | some a =>
      rw [prs_succ e, prs_succ (a := f a) (by rw [List.getElem?_map, e]; rfl), prs_ren f ys n, List.map_append, List.map_map, ← List.map_drop, List.map_map]
      rfl
/-! the names with an x ahead -/
def xs_ (b : Str) : Str := ("x" : Str) ++ b
theorem xs_cps (b : Str) : (xs_ b).cps.toList = 120 :: b.cps.toList := by
  show ((("x" : Str).cps ++ b.cps)).toList = _
  rw [Array.toList_append]
  rfl
theorem xs_inj (a b : Str) (h : xs_ a = xs_ b) : a = b := by
  apply str_ext
  have e := congrArg (fun z : Str => z.cps.toList) h
  simp only [xs_cps] at e
  exact (List.cons.inj e).2
theorem xs_mono (a b : Str) : ltS (xs_ a) (xs_ b) ↔ ltS a b := by
  unfold ltS
  rw [xs_cps, xs_cps, List.cons_lt_cons_iff]
  constructor
  · rintro (h | h)
    · exact absurd h (Nat.lt_irrefl _)
    · exact h.2
  · exact fun h => .inr ⟨rfl, h⟩
def xw (ws : List (Str × Nat)) : List (Str × Nat) := ws.map fun p => (xs_ p.1, p.2)
theorem xw_names (ws : List (Str × Nat)) : wnames (xw ws) = (wnames ws).map xs_ := by
  unfold xw wnames
  rw [List.map_map, List.map_map]
  rfl
theorem xw_flat : ∀ ws : List (Str × Nat), flat (xw ws) = (flat ws).map xs_
  | [] => rfl
  | p :: r => by
    show List.replicate p.2 (xs_ p.1) ++ flat (xw r) = (List.replicate p.2 p.1 ++ flat r).map xs_
    rw [xw_flat r, List.map_append, List.map_replicate]
theorem xw_top (ws : List (Str × Nat)) : topW (xw ws) = topW ws := by
  unfold topW xw
  rw [List.map_map]
  rfl
theorem xw_most (ws : List (Str × Nat)) : mostM (xw ws) = (mostM ws).map xs_ := by
  unfold mostM mostT
  rw [xw_top, List.map_map, List.map_flatMap, List.map_flatMap]
  congr 1
  funext t
  unfold roundM xw
  rw [List.filter_map, List.map_map, List.map_map, List.map_map]
  rfl
theorem xw_len (ws : List (Str × Nat)) : (xw ws).length = ws.length := List.length_map ..
/-- the rows of the renamed day -/
def xtri (rows : List (Str × Str)) (q : Str × Str) : PyData := .tuple [.str (xs_ q.1), .str (xs_ q.2), .int (cnt rows q : Nat)]
theorem day_ren (ns rs : List Str) : dayD (ns.map xs_) (rs.map xs_) = (prs ns ns.length).map (xtri (rowsM (behindM ns rs) rs)) := by
  show (prs (ns.map xs_) (ns.map xs_).length).map _ = _
  rw [prs_ren, List.length_map, List.map_map, behind_ren xs_inj, rows_ren xs_inj]
  apply List.map_congr_left
  intro q _
  show PyData.tuple [.str (xs_ q.1), .str (xs_ q.2), .int (cnt _ (both xs_ q) : Nat)] = _
  rw [cnt_ren xs_inj xs_mono]
  rfl
/-! books that nobody wants -/
theorem rows_low (rest : List Str) : ∀ (rs : List Str) {l : List Str}, (∀ b ∈ rs, b ∈ l) → rowsM (l ++ rest) rs = rowsM l rs
  | [], l, _ => rfl
  | b :: r, l, h => by
    have hb := h b List.mem_cons_self
    have i : (l ++ rest).idxOf b = l.idxOf b := by rw [List.idxOf_append, if_pos hb]
    have il := idx_lt hb
    have e1 : over (l ++ rest) b = over l b := by
      unfold over
      rw [i, List.take_append_of_le_length (by omega)]
    have e2 : lay (l ++ rest) b = lay l b ++ rest := by
      unfold lay
      rw [i, List.eraseIdx_append_of_lt_length il]
      rfl
    show (over (l ++ rest) b).map _ ++ rowsM (lay (l ++ rest) b) r = (over l b).map _ ++ rowsM (lay l b) r
    rw [e1, e2, rows_low rest r fun c hc => (lay_perm hb).mem_iff.mpr (h c (List.mem_cons_of_mem _ hc))]
theorem cnt_zero {rows : List (Str × Str)} {q : Str × Str} {l : List Str} (h : ∀ z ∈ rows, z.1 ∈ l ∧ z.2 ∈ l) (n : q.1 ∉ l ∨ q.2 ∉ l) : cnt rows q = 0 := by
  unfold cnt
  rw [List.length_eq_zero_iff, List.filter_eq_nil_iff]
  intro z hz
  obtain ⟨h1, h2⟩ := h z hz
  rw [decide_eq_true_iff]
  intro e
  unfold asPair at e
  split at e
  · rw [← e] at n
    exact n.elim (fun n => n h1) fun n => n h2
  · rw [← e] at n
    exact n.elim (fun n => n h2) fun n => n h1
theorem day_split {bs ns rs : List Str} (nd : bs.Nodup) (nn : ns.Nodup) (h : ∀ b ∈ rs, b ∈ bs) (h2 : ∀ b ∈ rs, b ∈ ns) (all : ∀ b ∈ ns, b ∈ rs) :
    ∃ l, l.Perm ns ∧ behindM bs rs = l ++ bs.filter fun z => decide (z ∉ ns) := by
  refine ⟨nub rs.reverse, ?_, ?_⟩
  · refine (List.perm_ext_iff_of_nodup (nub_nodup _) nn).mpr fun z => ?_
    rw [nub_mem, List.mem_reverse]
    exact ⟨h2 z, all z⟩
  · rw [behind_is nd rs h]
    congr 1
    apply List.filter_congr
    intro z _
    rw [decide_eq_decide]
    exact ⟨fun n m => n (all z m), fun n m => n (h2 z m)⟩
theorem evens_last {i j : Nat} (h : i < j) : (evens i j).getLast? = some (i + 2 * ((j - i - 1) / 2)) := by
  unfold evens nEv
  rw [if_pos h, List.range_succ, List.map_append]
  exact List.getLast?_concat
end Lt

set_option Elab.async false
set_option linter.all false
set_option maxRecDepth 100000
set_option maxHeartbeats 4000000
namespace Lt
open PySem PySem.Spec PyProof.Rows L2
/-! ### how often two books pass one another on any day -/
abbrev isB (x u : Str) : Nat := if u = x then 1 else 0
def lastW (u : Str) : List Str → Str
  | [] => u
  | v :: r => lastW v r
theorem lastW_snoc (z : Str) : ∀ (u : Str) (l : List Str), lastW u (l ++ [z]) = z
  | u, [] => rfl
  | u, v :: r => lastW_snoc z v r
theorem adj_most {x y : Str} (ne : x ≠ y) : ∀ (r : List Str) (u : Str), (∀ c ∈ u :: r, c = x ∨ c = y) → adj (u :: r) + isB x u + isB x (lastW u r) ≤ 2 * (u :: r).count x
  | [], u, h => by
    show 0 + isB x u + isB x u ≤ 2 * [u].count x
    rw [List.count_singleton]
    unfold isB
    by_cases e : u = x
    · rw [if_pos e, e, beq_self_eq_true, if_pos rfl]
      decide
    · rw [if_neg e]
      omega
  | v :: r, u, h => by
    have ih := adj_most ne r v fun c hc => h c (List.mem_cons_of_mem _ hc)
    have eA : adj (u :: v :: r) = (if u = v then 0 else 1) + adj (v :: r) := rfl
    have eL : lastW u (v :: r) = lastW v r := rfl
    have eC : (u :: v :: r).count x = (v :: r).count x + isB x u := by
      rw [List.count_cons]
      unfold isB
      by_cases e : u = x
      · rw [if_pos e, e, beq_self_eq_true, if_pos rfl]
      · rw [if_neg e, if_neg (by simpa using e)]
    rw [eA, eL, eC]
    have key : (if u = v then 0 else 1) + isB x u ≤ 2 * isB x u + isB x v := by
      unfold isB
      by_cases e : u = v
      · rw [if_pos e]
        split <;> omega
      · rw [if_neg e]
        by_cases ux : u = x
        · rw [if_pos ux]
          omega
        · have uy : u = y := (h u List.mem_cons_self).resolve_left ux
          have vx : v = x := (h v (List.mem_cons_of_mem _ List.mem_cons_self)).resolve_right fun z => e (uy.trans z.symm)
          rw [if_neg ux, if_pos vx]
          omega
    omega
theorem adj_even {x y : Str} : ∀ (r : List Str) (u : Str), (∀ c ∈ u :: r, c = x ∨ c = y) → adj (u :: r) % 2 = if u = lastW u r then 0 else 1
  | [], u, h => by
    show 0 % 2 = if u = u then 0 else 1
    rw [if_pos rfl]
  | v :: r, u, h => by
    have ih := adj_even r v fun c hc => h c (List.mem_cons_of_mem _ hc)
    have eA : adj (u :: v :: r) = (if u = v then 0 else 1) + adj (v :: r) := rfl
    have eL : lastW u (v :: r) = lastW v r := rfl
    have hl : lastW v r = x ∨ lastW v r = y := by
      have key : ∀ (l : List Str) (w : Str), lastW w l ∈ w :: l := by
        intro l
        induction l with
        | nil => exact fun w => List.mem_cons_self
        | cons z t ih => exact fun w => List.mem_cons_of_mem _ (ih z)
      exact h _ (List.mem_cons_of_mem _ (key r v))
    have hu := h u List.mem_cons_self
    have hv := h v (List.mem_cons_of_mem _ List.mem_cons_self)
    rw [eA, eL]
    by_cases e : u = v
    · rw [if_pos e, e, ← ih]
      omega
    · rw [if_neg e]
      by_cases c : v = lastW v r
      · rw [if_pos c] at ih
        rw [if_neg fun z => e (z.trans c.symm)]
        omega
      · rw [if_neg c] at ih
        have z : u = lastW v r := by
          rcases hu with a | a <;> rcases hv with b | b <;> rcases hl with d | d
          · exact absurd (a.trans b.symm) e
          · exact absurd (a.trans b.symm) e
          · exact a.trans d.symm
          · exact absurd (b.trans d.symm) c
          · exact absurd (b.trans d.symm) c
          · exact a.trans d.symm
          · exact absurd (a.trans b.symm) e
          · exact absurd (a.trans b.symm) e
        rw [if_pos z]
        omega
theorem adj_zero : ∀ (r : List Str) (u : Str), adj (u :: r) = 0 → ∀ c ∈ r, c = u
  | [], u, _, c, hc => nomatch hc
  | v :: r, u, h, c, hc => by
    have eA : adj (u :: v :: r) = (if u = v then 0 else 1) + adj (v :: r) := rfl
    rw [eA] at h
    by_cases e : u = v
    · rw [if_pos e] at h
      rcases List.mem_cons.mp hc with hc | hc
      · rw [hc, e]
      · rw [e]
        exact adj_zero r v (by omega) c hc
    · rw [if_neg e] at h
      omega
theorem cyc_any {x y : Str} (ne : x ≠ y) {l : List Str} (h : ∀ c ∈ l, c = x ∨ c = y) (hx : x ∈ l) (hy : y ∈ l) : 2 ≤ cyc l ∧ cyc l ≤ 2 * l.count x ∧ cyc l % 2 = 0 := by
  obtain ⟨m, z, rfl⟩ := snoc_of (List.ne_nil_of_mem hx)
  rw [cyc_snoc]
  have hz := h z (List.mem_append_right _ List.mem_cons_self)
  have h2 : ∀ c ∈ z :: (m ++ [z]), c = x ∨ c = y := fun c hc => (List.mem_cons.mp hc).elim (fun e => e ▸ hz) (h c)
  have ev := adj_even (m ++ [z]) z h2
  rw [lastW_snoc, if_pos rfl] at ev
  have mo := adj_most ne (m ++ [z]) z h2
  rw [lastW_snoc] at mo
  have eC : (z :: (m ++ [z])).count x = (m ++ [z]).count x + isB x z := by
    rw [List.count_cons]
    unfold isB
    by_cases e : z = x
    · rw [if_pos e, e, beq_self_eq_true, if_pos rfl]
    · rw [if_neg e, if_neg (by simpa using e)]
  rw [eC] at mo
  have nz : adj (z :: (m ++ [z])) ≠ 0 := fun e => by
    have a := adj_zero _ _ e
    exact ne ((a x hx).trans (a y hy).symm)
  omega
theorem flat_count : ∀ {ws : List (Str × Nat)} {x : Str} {a : Nat}, (wnames ws).Nodup → (x, a) ∈ ws → (flat ws).count x = a
  | p :: r, x, a, nd, h => by
    obtain ⟨n1, n2⟩ := List.nodup_cons.mp nd
    show (List.replicate p.2 p.1 ++ flat r).count x = a
    rw [List.count_append]
    rcases List.mem_cons.mp h with e | h
    · subst e
      rw [List.count_replicate_self, List.count_eq_zero.mpr fun z => n1 (flat_mem z)]
      rfl
    · have np : p.1 ≠ x := fun e => n1 (by show p.1 ∈ wnames r; rw [e]; exact List.mem_map.mpr ⟨(x, a), h, rfl⟩)
      rw [flat_count n2 h, List.count_replicate, if_neg (by simpa using np)]
      omega
theorem two_count {x y : Str} (l : List Str) : (two x y l).count x = l.count x := by
  unfold two
  rw [List.count_filter (by simp)]
/-- on any day: twice at least, evenly often, no more than told -/
theorem WOk.dayC {ws : List (Str × Nat)} (h : WOk ws) {rs : List Str} (p : rs.Perm (flat ws)) {q : Str × Str} (hq : q ∈ prs (wnames ws) (wnames ws).length) :
    2 ≤ cyc (two q.1 q.2 rs) ∧ cyc (two q.1 q.2 rs) ≤ cyc (two q.1 q.2 (mostM ws)) ∧ cyc (two q.1 q.2 rs) % 2 = 0 := by
  obtain ⟨a, b, ha, hb, ne, e⟩ := h.mostC hq
  have mx : q.1 ∈ rs := p.mem_iff.mpr (mem_flat h.pos (List.mem_map.mpr ⟨_, ha, rfl⟩))
  have my : q.2 ∈ rs := p.mem_iff.mpr (mem_flat h.pos (List.mem_map.mpr ⟨_, hb, rfl⟩))
  have i1 : ∀ c ∈ two q.1 q.2 rs, c = q.1 ∨ c = q.2 := fun c hc => (two_mem.mp hc).2
  have m1 : q.1 ∈ two q.1 q.2 rs := two_mem.mpr ⟨mx, Or.inl rfl⟩
  have m2 : q.2 ∈ two q.1 q.2 rs := two_mem.mpr ⟨my, Or.inr rfl⟩
  obtain ⟨c1, c2, c3⟩ := cyc_any ne i1 m1 m2
  obtain ⟨_, d2, _⟩ := cyc_any ne.symm (fun c hc => (i1 c hc).symm) m2 m1
  rw [two_count, p.count_eq, flat_count h.nd ha] at c2
  have e2 : (two q.1 q.2 rs).count q.2 = b := by rw [two_comm, two_count, p.count_eq, flat_count h.nd hb]
  rw [e2] at d2
  rw [e]
  refine ⟨c1, ?_, c3⟩
  omega
end Lt

set_option Elab.async false
set_option linter.all false
set_option maxRecDepth 100000
set_option maxHeartbeats 4000000
namespace Lt
open PySem PySem.Spec PyProof.Rows L2
section
variable {P : Program} {w : World} {K : PySem.W.Frag} {mg : Str → Option Value} {base : Heap} {X : Cx}
def TupL (H : Hp) (ts : List Addr) (rws : List (List Str)) : Prop := ts.length = rws.length ∧ ∀ (i : Nat) (t : Addr) (r : List Str), ts[i]? = some t → rws[i]? = some r → TpO H t (r.map V.str)
theorem TupL.nil (H : Hp) : TupL H [] [] := ⟨rfl, fun i t q h => by simp at h⟩
theorem TupL.move {H H' : Hp} {ts : List Addr} {rws : List (List Str)} (h : TupL H ts rws) (k : Same H H') : TupL H' ts rws := ⟨h.1, fun i t q a b => (h.2 i t q a b).same k⟩
theorem TupL.put {H : Hp} {D : Addr} {xs : List V} {o : HO} {ts : List Addr} {rws : List (List Str)} (h : TupL H ts rws) (hD : H D = some (.lst xs)) : TupL (upd H D o) ts rws := by
  refine ⟨h.1, fun i t r a b => ?_⟩
  have z := h.2 i t r a b
  exact z.move fun u hu => by
    rw [upd_ne (z.ne hD fun o z => nomatch z)]
    exact hu
theorem TupL.app {H : Hp} {ts us : List Addr} {rws sws : List (List Str)} (a : TupL H ts rws) (b : TupL H us sws) : TupL H (ts ++ us) (rws ++ sws) := by
  refine ⟨by rw [List.length_append, List.length_append, a.1, b.1], fun k t z h1 h2 => ?_⟩
  by_cases hk : k < ts.length
  · rw [List.getElem?_append_left hk] at h1
    rw [List.getElem?_append_left (by rw [← a.1]; exact hk)] at h2
    exact a.2 k t z h1 h2
  · rw [List.getElem?_append_right (by omega)] at h1
    rw [List.getElem?_append_right (by rw [← a.1]; omega), ← a.1] at h2
    exact b.2 _ t z h1 h2
theorem TupL.one {H : Hp} {t : Addr} {r : List Str} (h : TpO H t (r.map V.str)) : TupL H [t] [r] := by
  refine ⟨rfl, fun i u z a b => ?_⟩
  cases i with
  | zero =>
    cases a
    cases b
    exact h
  | succ i => simp at a
theorem TupL.dp {K : PySem.W.Frag} {H : Hp} : ∀ {ts : List Addr} {rws : List (List Str)}, TupL H ts rws → DpAll K H (ts.map V.ref) (rws.map fun r => .tuple (r.map PyData.str))
  | [], [], _ => .nil
  | [], r :: rs, h => nomatch h.1
  | t :: ts, [], h => nomatch h.1
  | t :: ts, r :: rs, h => .cons (.tup (h.2 0 t r rfl rfl).sqt (dpAll_strs r)) (TupL.dp ⟨Nat.succ.inj h.1, fun i t q a b => h.2 (i + 1) t q a b⟩)
theorem TupL.get {H : Hp} {ts : List Addr} {rws : List (List Str)} (h : TupL H ts rws) {i : Nat} {x : V} (e : (ts.map V.ref)[i]? = some x) : ∃ (t : Addr) (r : List Str), x = .ref t ∧ ts[i]? = some t ∧ rws[i]? = some r ∧ TpO H t (r.map V.str) := by
  rw [List.getElem?_map] at e
  cases e1 : ts[i]? with
  | none =>
    rw [e1] at e
    cases e
  | some t =>
    rw [e1] at e
    cases e
    have hi := (List.getElem?_eq_some_iff.mp e1).1
    have hi2 : i < rws.length := by rw [← h.1]; exact hi
    exact ⟨t, rws[i], rfl, rfl, List.getElem?_eq_getElem hi2, h.2 i t _ e1 (List.getElem?_eq_getElem hi2)⟩
end
end Lt

set_option Elab.async false
set_option linter.all false
set_option maxRecDepth 100000
set_option maxHeartbeats 4000000
/-! list(reversed(t)), t a tuple. -/
namespace Lt
open PySem PySem.Spec PyProof.Rows L2 RT
theorem rv_noLen : typeLookup (.type "reversed") "__len__" = pure none := by
  rw [typeLookup_type, builtinLookup_eq_fast]
  kernel_rfl
theorem rv_hint : Slot "reversed" "__length_hint__" "reversed.__length_hint__" := by
  refine Slot.of (owner := "reversed") (n := "__length_hint__") ?_ (by decide +kernel) (by decide +kernel) (by decide +kernel) ?_ ?_
  · rw [typeLookup_type, builtinLookup_eq_fast]
    kernel_rfl
  · first
    | exact .inl (by decide +kernel)
    | exact .inr (by decide +kernel)
  · rw [isSubtype_type]
    kernel_rfl
theorem rv_hintE : entryFor table "reversed.__length_hint__" = some Builtin.«reversed.__length_hint__» := entryFor_of_tree (by kernel_rfl)
theorem rv_hintA (a : Value) : argsOk "reversed.__length_hint__" ⟨[a], []⟩ := by
  unfold argsOk
  rw [signature?_of (id := "reversed.__length_hint__") (n := ['_', '_', 't', 'n', 'i', 'h', '_', 'h', 't', 'g', 'n', 'e', 'l', '_', '_']) (o := ['d', 'e', 's', 'r', 'e', 'v', 'e', 'r']) (by kernel_rfl) owner_rt]
  kernel_rfl
section
variable {prog : Program} {w : World} {A : Around} {E : Value → Shared → Prop} {s : Shared}
theorem rv_walks (hh : A.handled = none) (I t : Addr) (ne : t ≠ I) (items : Array Value) (fit : items.size ≤ sizeLine) :
    Walks prog w A I [I, t] [I] items.size (fun i v => items[items.size - 1 - i]? = some v) (fun i h => i ≤ items.size ∧ IsRt h I t ((items.size : Int) - 1 - (i : Int)) ∧ IsTup h t items) := by
  refine ⟨fun b hb => ?_, fun i h h' z k => ?_, fun i s Q E hi z hQ => ?_, fun s Q E z hQ => ?_, fun i s Q E z hQ => iter_rt z.2.1 hQ⟩
  · rw [List.mem_singleton.mp hb]
    exact List.mem_cons_self ..
  · refine ⟨z.1, z.2.1.at fun o e => k I (by simp) o e, ?_⟩
    obtain ⟨o, e, c⟩ := z.2.2
    exact ⟨o, k t (by simp) o e, c⟩
  · obtain ⟨z0, z1, z2⟩ := z
    have at1 : (items.size : Int) - 1 - (i : Int) = ((items.size - 1 - i : Nat) : Int) := by omega
    rw [at1] at z1
    have lt : items.size - 1 - i < items.size := by omega
    have got : items[items.size - 1 - i]? = some items[items.size - 1 - i] := Array.getElem?_eq_getElem lt
    refine next_rt_item z1 z2 got fit fun h' z' same => ?_
    have at2 : ((items.size - 1 - i : Nat) : Int) - 1 = (items.size : Int) - 1 - ((i + 1 : Nat) : Int) := by omega
    rw [at2] at z'
    refine hQ _ h' (s.toks + 1) got ⟨hi, z', ?_⟩ fun b o hb e => (same.2 b fun q => hb (by rw [q]; exact List.mem_singleton.mpr rfl)).trans e
    obtain ⟨o, e, c⟩ := z2
    exact ⟨o, (same.2 t ne).trans e, c⟩
  · obtain ⟨_, z1, _⟩ := z
    have at1 : (items.size : Int) - 1 - (items.size : Int) = -1 := by omega
    rw [at1] at z1
    exact next_rt_end hh z1 fun h' ext => hQ h' s.toks fun b o hb e => ext b o (fun q => hb (by rw [q]; exact List.mem_singleton.mpr rfl)) e
theorem rv_len {t : Addr} {items : Array Value} {Q : Value → Shared → Prop} (ht : IsTup s.heap t items) (fit : items.size ≤ sizeLine) (h : Q (.int items.size (s.toks + 1)) { s with toks := s.toks + 1 + 1 }) :
    wpAny (model prog w) A (call (.builtin "len") [.ref t]) Q E s := len_tuple ht (by have z := line63; omega) h
theorem rv_hintC {it t : Addr} {items : Array Value} {i : Nat} {Q : Value → Shared → Prop} (hi : i < items.size ∨ i = items.size) (hit : IsRt s.heap it t ((i : Int) - 1)) (ht : IsTup s.heap t items) (fit : items.size ≤ sizeLine)
    (h : ∀ (s2 : Shared) (tk : Tok), (∃ k, s2 = { s with toks := k }) → Q (.int (i : Int) tk) s2) : wpAny (model prog w) A (call (.builtin "reversed.__length_hint__") [.ref it]) Q E s := by
  obtain ⟨o, ho, hc, hd⟩ := id hit
  refine wpAny_call_entry rv_hint hit.typeIs rv_hintE ?_ (rv_hintA _)
  unfold Builtin.«reversed.__length_hint__»
  refine wpAny_bind (wpAny_of_eq (a := Value.ref it) rfl ?_)
  refine wpAny_bind (wpAny_field ho hd (x := .ref t) rfl ?_)
  have no : (Value.ref t == Value.none) = false := rfl
  simp only [no, Bool.false_eq_true, if_false]
  refine wpAny_bind (rv_len ht fit ?_)
  refine wpAny_bind (m := asInt? _) (wpAny_pure ?_)
  refine wpAny_bind (wpAny_field (s := { s with toks := s.toks + 1 + 1 }) ho hd (x := rawInt ((i : Int) - 1)) rfl ?_)
  show wpAny _ _ (if ((items.size : Nat) : Int) < (i : Int) - 1 + 1 then _ else _) _ _ _
  rw [if_neg (by omega)]
  rw [show (i : Int) - 1 + 1 = (i : Int) by omega]
  unfold retInt
  refine wpAny_bind (wpAny_mkInt ?_)
  exact wpAny_pure ⟨_, rfl, h _ _ ⟨_, rfl⟩⟩
theorem rv_hintB {it t : Addr} {items : Array Value} {i : Nat} {Q : Bool → Shared → Prop} (hi : i < items.size ∨ i = items.size) (hit : IsRt s.heap it t ((i : Int) - 1)) (ht : IsTup s.heap t items) (fit : items.size ≤ sizeLine)
    (h : ∀ (b : Bool) (k : Nat), Q b { s with toks := k }) : wpAny (model prog w) A (Builtin.List.listLengthHint (.ref it)) Q E s := by
  unfold Builtin.List.listLengthHint
  refine wpAny_bind (wpAny_specialOf hit.typeIs rv_noLen ?_)
  show wpAny _ A (specialOf (Value.ref it) (Str.ofString "__length_hint__") >>= _) _ _ _
  refine wpAny_bind (wpAny_specialOf hit.typeIs rv_hint.lookup ?_)
  generalize hid : ("reversed.__length_hint__" : String) = id0
  wp_delta
  rw [show splitId id0 = some ("reversed", "__length_hint__") from by subst hid; decide +kernel]
  subst hid
  refine wpAny_bind (wpAny_isInstance (b := true) hit.typeIs (by rw [isSubtype_type]; kernel_rfl) ?_)
  refine wpAny_ite_split (fun hab => absurd hab (by decide)) (fun _ => ?_)
  refine wpAny_ite_split (fun hab => absurd hab (by decide +kernel)) (fun _ => ?_)
  refine wpAny_bind (wpAny_rule ?_)
  refine wpAny_bind (wpAny_of_eq (rv_hint.bind _) ?_)
  refine wpAny_bind (wpAny_attempt (rv_hintC hi hit ht fit fun s2 tk ⟨k, e⟩ => ?_))
  subst e
  have f0 : i ≤ sizeLine := by omega
  have f1 : Builtin.List.listFitsIndex (i : Int) = true := by
    have z := line63
    simp [Builtin.List.listFitsIndex]
    omega
  have f2 : Builtin.List.listTooLong ((i : Int).toNat) = false := by
    simp [Builtin.List.listTooLong]
    omega
  show wpAny _ _ (asInt? (Value.int (i : Int) tk) >>= _) _ _ _
  have ea : asInt? (Value.int (i : Int) tk) = pure (some (i : Int)) := rfl
  have f3 : ¬ (i : Int) < 0 := by omega
  generalize (i : Int) = j at ea f1 f2 f3 ⊢
  refine wpAny_bind ?_
  rw [ea]
  refine wpAny_pure ?_
  dsimp only
  refine wpAny_ite_split (fun hab => absurd hab (by rw [f1]; decide)) (fun _ => ?_)
  refine wpAny_ite_split (fun hab => absurd hab f3) (fun _ => ?_)
  rw [if_neg (by rw [f2]; decide)]
  exact wpAny_pure (h _ _)
theorem rv_extend {R : Result → Shared → Prop} {it t : Addr} {items : Array Value} (hh : A.handled = none) (hit : IsRt s.heap it t ((items.size : Int) - 1)) (ht : IsTup s.heap t items) (fit : items.size ≤ sizeLine) (ne : t ≠ it) (S : Addr) (c0 : Nat)
    (hS : s.heap.get? S = some { cls := .type "list", data := .seq #[] c0 })
    (hR : ∀ (h' : Heap) (tk : Nat) (acc : Array Value) (c : Nat), (∀ b o, b ≠ S → b ≠ it → s.heap.get? b = some o → h'.get? b = some o) → h'.get? S = some { cls := .type "list", dict := none, data := .seq acc c, slots := #[] } →
      ItemsOf (fun i v => items[items.size - 1 - i]? = some v) acc items.size → R (.ok (.ret .none)) { s with heap := h', toks := tk }) :
    wpAny (model prog w) A.in1 (Builtin.List.listExtendWith (.ref S) (.ref it) .none)
      (fun fin s' => match fin with | .done f => R (.ok f) s' | .again c' => c'.quiet = true ∧ codeAny (model prog w) A c' R s') (fun e s' => R (.error e) s') s := by
  have nSI : S ≠ it := fun e => by
    obtain ⟨o, ho, hc, _⟩ := hit
    rw [← e, hS] at ho
    cases ho
    exact absurd (show Value.type "list" = _ from hc) (by decide)
  have nST : S ≠ t := fun e => by
    obtain ⟨o, ho, hc, _⟩ := ht
    rw [← e, hS] at ho
    cases ho
    exact absurd (show Value.type "list" = _ from hc) (by decide)
  have out : S ∉ [it, t] := fun hm => by
    rcases List.mem_cons.mp hm with e | hm
    · exact nSI e
    · exact nST (List.mem_singleton.mp hm)
  have W := (rv_walks (prog := prog) (w := w) (A := A.in1) hh it t ne items fit).toS
  have go : ∀ (h : Heap) (c1 tk : Nat), IsRt h it t ((items.size : Int) - 1) → IsTup h t items → (∀ b o, b ≠ S → b ≠ it → s.heap.get? b = some o → h.get? b = some o) → h.get? S = some { cls := .type "list", data := .seq #[] c1 } →
      codeAny (model prog w) A (.builtin "list.extend.loop" ⟨[.ref S, .ref it, .none], []⟩) R { s with heap := h, toks := tk } := by
    intro h c1 tk i1 t1 k1 s1
    have e0 : (items.size : Int) - 1 - ((0 : Nat) : Int) = (items.size : Int) - 1 := by omega
    refine codeAny_extend_loopS W fit S out .none items.size 0 _ #[] c1 rfl (Nat.zero_le _) ⟨Nat.zero_le _, by rw [e0]; exact i1, t1⟩ s1 (ItemsOf.nil _) fun s' acc c' hm hS' hacc => ?_
    rw [Moved.eq_with hm]
    refine hR s'.heap s'.toks acc c' (fun b o nb ni e => hm.heap b o (fun hmem => ?_) (k1 b o nb ni e)) hS' hacc
    rcases List.mem_cons.mp hmem with e' | hmem
    · exact nb e'
    · exact ni (List.mem_singleton.mp hmem)
  unfold Builtin.List.listExtendWith
  refine wpAny_bind (wpAny_typeOf hit.typeIs ?_)
  have h1 : Builtin.List.listSameRef (.ref S) (.ref it) = false := by simp [Builtin.List.listSameRef, nSI]
  have h2 : (Value.type "reversed" == Value.type "list") = false := by decide
  have h3 : (Value.type "reversed" == Value.type "tuple") = false := by decide
  simp only [h1, h2, h3, Bool.or_false, Bool.false_eq_true, if_false]
  refine wpAny_bind (iter_rt hit ?_)
  refine wpAny_bind (wpAny_holding (rv_hintB (i := items.size) (.inr rfl) hit ht fit fun room tk => ?_))
  refine wpAny_ite_split (fun _ => ?_) (fun _ => wpAny_pure ⟨plainId_quiet F.plain_extend_loop _, go _ c0 _ hit ht (fun b o _ _ e => e) hS⟩)
  refine wpAny_bind (wpAny_rule ?_)
  refine wpAny_bind ?_
  show wpAny _ _ (updateSeq S (·.push .none) >>= fun _ => updateSeq S (·.pop)) _ _ _
  refine wpAny_bind (wpAny_updateSeq hS rfl ?_)
  have hS2 := Heap.get?_update_self (Obj.mapSeq (·.push Value.none)) hS rfl
  refine wpAny_updateSeq (hz := by seq_fits) hS2 rfl ?_
  have hS3 := Heap.get?_update_self (Obj.mapSeq (·.pop)) hS2 rfl
  have oth : ∀ b o, b ≠ S → s.heap.get? b = some o → ((s.heap.update S (Obj.mapSeq (·.push Value.none))).update S (Obj.mapSeq (·.pop))).get? b = some o :=
    fun b o hb e => (Heap.get?_update_other _ _ hb.symm).trans ((Heap.get?_update_other _ _ hb.symm).trans e)
  refine wpAny_pure ⟨plainId_quiet F.plain_extend_loop _, go _ _ _ (hit.at fun o e => oth it o nSI.symm e) ?_ (fun b o nb _ e => oth b o nb e) hS3⟩
  obtain ⟨o, ho, hc⟩ := ht
  exact ⟨o, oth t o nST.symm ho, hc⟩
theorem rv_init {R : Result → Shared → Prop} {it t : Addr} {items : Array Value} (hh : A.handled = none) (hit : IsRt s.heap it t ((items.size : Int) - 1)) (ht : IsTup s.heap t items) (fit : items.size ≤ sizeLine) (ne : t ≠ it) (S : Addr)
    (hS : s.heap.get? S = some { cls := .type "list", data := .seq #[] })
    (hR : ∀ (h' : Heap) (tk : Nat) (acc : Array Value) (c : Nat), (∀ b o, b ≠ S → b ≠ it → s.heap.get? b = some o → h'.get? b = some o) → h'.get? S = some { cls := .type "list", dict := none, data := .seq acc c, slots := #[] } →
      ItemsOf (fun i v => items[items.size - 1 - i]? = some v) acc items.size → R (.ok (.ret .none)) { s with heap := h', toks := tk }) :
    wpAny (model prog w) A.in1 (Builtin.«list.__init__» ⟨[.ref S, .ref it], []⟩)
      (fun fin s' => match fin with | .done f => R (.ok f) s' | .again c' => c'.quiet = true ∧ codeAny (model prog w) A c' R s') (fun e s' => R (.error e) s') s := by
  show wpAny _ _ (do let old ← Builtin.List.listItems (.ref S); Builtin.List.listUpdate (.ref S) (fun _ => #[]); letGo old.toList.reverse; Builtin.List.listExtendWith (.ref S) (.ref it) .none) _ _ s
  refine wpAny_bind ?_
  unfold Builtin.List.listItems
  refine wpAny_bind (wpAny_seqItems hS rfl (wpAny_pure ?_))
  show wpAny _ _ (updateSeq S (fun _ => #[]) >>= fun _ => letGo (#[] : Array Value).toList.reverse >>= fun _ => Builtin.List.listExtendWith (.ref S) (.ref it) .none) _ _ s
  refine wpAny_bind (wpAny_updateSeq hS rfl ?_)
  have hS2 := Heap.get?_update_self (Obj.mapSeq (fun _ => (#[] : Array Value))) hS rfl
  have oth : ∀ b o, b ≠ S → s.heap.get? b = some o → (s.heap.update S (Obj.mapSeq (fun _ => (#[] : Array Value)))).get? b = some o := fun b o hb e => (Heap.get?_update_other _ _ hb.symm).trans e
  have nSI : it ≠ S := fun e => by
    obtain ⟨o, ho, hc, _⟩ := hit
    rw [e, hS] at ho
    cases ho
    exact absurd (show Value.type "list" = _ from hc) (by decide)
  have nST : t ≠ S := fun e => by
    obtain ⟨o, ho, hc, _⟩ := ht
    rw [e, hS] at ho
    cases ho
    exact absurd (show Value.type "list" = _ from hc) (by decide)
  refine wpAny_bind (wpAny_letGo ?_)
  refine rv_extend hh (hit.at fun o e => oth it o nSI e) ?_ fit ne S _ hS2 fun h' tk acc c kp hS' hacc => hR h' tk acc c (fun b o nb ni e => kp b o nb ni (oth b o nb e)) hS' hacc
  obtain ⟨o, ho, hc⟩ := ht
  exact ⟨o, oth t o nST ho, hc⟩
theorem rv_list {it t : Addr} {items : Array Value} {Q : Value → Shared → Prop} (hh : A.handled = none) (hit : IsRt s.heap it t ((items.size : Int) - 1)) (ht : IsTup s.heap t items) (fit : items.size ≤ sizeLine) (ne : t ≠ it)
    (hQ : ∀ (h' : Heap) (tk : Nat) (acc : Array Value) (c : Nat), (∀ b o, b ≠ it → s.heap.get? b = some o → h'.get? b = some o) → h'.get? s.heap.objs.size = some { cls := .type "list", dict := none, data := .seq acc c, slots := #[] } →
      ItemsOf (fun i v => items[items.size - 1 - i]? = some v) acc items.size → Q (.ref s.heap.objs.size) { s with heap := h', toks := tk }) :
    wpAny (model prog w) A (call (.type "list") [.ref it]) Q E s := by
  refine callType_codes (Q₁ := fun obj s₁ => obj = .ref s.heap.objs.size ∧ s₁ = { s with heap := s.heap.push { cls := .type "list", data := .seq #[] } }) F.called_list (F.typeCall_list_1 _) F.entry_list_init
    (code_list_new _ ⟨rfl, rfl⟩) fun obj s₁ h₁ => ?_
  obtain ⟨rfl, rfl⟩ := h₁
  have hS : (s.heap.push { cls := .type "list", data := .seq #[] }).get? s.heap.objs.size = some { cls := .type "list", data := .seq #[] } := Heap.get?_push_size _ rfl
  have up : ∀ b o, s.heap.get? b = some o → (s.heap.push { cls := .type "list", data := .seq #[] }).get? b = some o := fun b o e => Heap.get?_push_of_some _ e
  refine ⟨⟨_, hS, rfl⟩, F.args_list_init_2 _ _, rv_init (A := A.in1) hh (hit.at fun o e => up _ o e) ?_ fit ne _ hS fun h' tk acc c kp hS' hacc => ⟨rfl, hQ h' tk acc c (fun b o ni e => kp b o (Nat.ne_of_lt (Heap.lt_size e)) ni (up b o e)) hS' hacc⟩⟩
  obtain ⟨o, ho, hc⟩ := ht
  exact ⟨o, up t o ho, hc⟩
end
section
variable {X : Cx}
/-- list(reversed(t)), t a tuple: a new list -/
def tListRev (K : PySem.W.Frag) (te : TE) : TE := fun σ H Q => te σ H fun v H1 => ∃ (a : Addr) (xs : List V), v = .ref a ∧ SqT K H1 a xs ∧ ∀ q, H1 q = none → Q (.ref q) (upd H1 q (.lst xs.reverse))
theorem pe_listRev {e : Expr} {te : TE} {p p2 pos pos2 : Pos} (hc : X.calm = true) (hg : Gl X "list") (hm : X.mg "list" = none) (hg2 : Gl X "reversed") (hm2 : X.mg "reversed" = none) (he : PE X e te)
    (hs : starEach [e] X.env = (false, eval e X.env) :: starEach [] X.env := by rfl)
    (hs2 : starEach [.Call (.Name "reversed" p2) [e] [] pos2] X.env = (false, eval (.Call (.Name "reversed" p2) [e] [] pos2) X.env) :: starEach [] X.env := by rfl) :
    PE X (.Call (.Name "list" p) [.Call (.Name "reversed" p2) [e] [] pos2] [] pos) (tListRev X.K te) := by
  refine ⟨fun pins s σ H Q I h => Call_ (ld_blt I hg hm (show bootBuiltins "list" = some (.type "list") by decide +kernel) (PyProof.Rows.callWith_type1 (args_cons (Call_ (ld_blt I hg2 hm2 PyProof.Rows.boot_reversed (PyProof.Rows.callWith_type1 (args_cons (thn (he.run pins s σ H _ I h) fun u s1 ⟨v, H1, I1, r1, q1⟩ => args_nil ?_) hs) hs rfl))) hs2) hs2 rfl))⟩
  obtain ⟨a, xs, ev, sq, q⟩ := q1
  subst ev
  obtain rfl : u = Value.ref a := r1
  obtain ⟨its, vals, tup, fit⟩ := I1.tuple sq
  have fitA : its.toArray.size ≤ sizeLine := by rw [List.size_toArray, ← vals.length]; exact fit
  refine call_reversed_tup tup (fun A E Q k => rv_len tup fitA k) (args_nil ?_)
  have old : ∀ b o, s1.heap.get? b = some o → (s1.heap.push (rtObj a ((its.toArray.size : Int) - 1))).get? b = some o := fun b o e => Heap.get?_push_of_some _ e
  have lt : a < s1.heap.objs.size := by
    obtain ⟨o, ho, _⟩ := tup
    exact Heap.lt_size ho
  have tup2 : IsTup (s1.heap.push (rtObj a ((its.toArray.size : Int) - 1))) a its.toArray := by
    obtain ⟨o, ho, r⟩ := tup
    exact ⟨o, old a o ho, r⟩
  refine rv_list (s := { s1 with heap := s1.heap.push (rtObj a ((its.toArray.size : Int) - 1)), toks := s1.toks + 1 + 1 }) (I1.ok.hd hc) ⟨_, Heap.get?_push_size _ rfl, rfl, rfl⟩ tup2 fitA (Nat.ne_of_lt lt) fun h' tk acc c kp new hacc => ?_
  have keep : ∀ b o, s1.heap.get? b = some o → h'.get? b = some o := fun b o e => kp b o (Nat.ne_of_lt (Heap.lt_size e)) (old b o e)
  have sz : (s1.heap.push (rtObj a ((its.toArray.size : Int) - 1))).objs.size = s1.heap.objs.size + 1 := Heap.size_push ..
  have lay : s1.heap.objs.size ≤ (s1.heap.push (rtObj a ((its.toArray.size : Int) - 1))).objs.size := by omega
  exact ⟨.ref _, upd H1 _ (.lst xs.reverse), I1.laid (t' := tk) keep lay (show ObjOk X.prog X.w _ _ _ (.lst xs.reverse) from ⟨by rw [List.length_reverse]; exact fit, acc.toList, c, vals_rev vals hacc, by rw [Array.toArray_toList]; exact new⟩), rfl, q _ (I1.hok.fresh lay)⟩
end
end Lt

set_option Elab.async false
set_option linter.all false
set_option maxRecDepth 100000
set_option maxHeartbeats 4000000
namespace Lt
open PySem PySem.Spec PyProof.Rows L2
/-! ### readings undone -/
/-- the pile ahead of the reading that lifted k -/
def putM (bs : List Str) (k : Nat) : List Str := (bs.drop 1).take k ++ bs.take 1 ++ bs.drop (k + 1)
theorem putM_cons (t : Str) (r : List Str) (k : Nat) : putM (t :: r) k = r.take k ++ t :: r.drop k := by
  show r.take k ++ [t] ++ r.drop k = _
  rw [List.append_assoc]
  rfl
theorem putM_nil (k : Nat) : putM [] k = [] := by
  unfold putM
  simp
theorem putM_perm : ∀ (bs : List Str) (k : Nat), (putM bs k).Perm bs
  | [], k => by rw [putM_nil]
  | t :: r, k => by
    rw [putM_cons]
    have z : (r.take k ++ t :: r.drop k).Perm (t :: (r.take k ++ r.drop k)) := List.perm_middle
    rw [List.take_append_drop] at z
    exact z
theorem putM_len (bs : List Str) (k : Nat) : (putM bs k).length = bs.length := (putM_perm bs k).length_eq
theorem put_lay {bs : List Str} {b : Str} (h : b ∈ bs) : putM (lay bs b) (bs.idxOf b) = bs := by
  have i := idx_lt h
  unfold lay
  rw [putM_cons, List.eraseIdx_eq_take_drop_succ, List.take_left' (by rw [List.length_take]; omega), List.drop_left' (by rw [List.length_take]; omega)]
  exact (split_at h).1.symm
theorem lay_put {t : Str} {r : List Str} {k : Nat} (nd : (t :: r).Nodup) (h : k < (t :: r).length) : (putM (t :: r) k).idxOf t = k ∧ lay (putM (t :: r) k) t = t :: r := by
  have nt := (List.nodup_cons.mp nd).1
  have lk : (r.take k).length = k := by
    rw [List.length_take]
    rw [List.length_cons] at h
    omega
  have e : (putM (t :: r) k).idxOf t = k := by
    rw [putM_cons, idx_mid (fun z => nt (List.mem_of_mem_take z)), lk]
  refine ⟨e, ?_⟩
  unfold lay
  rw [e, putM_cons, List.eraseIdx_append_of_length_le (by omega), lk, Nat.sub_self, List.eraseIdx_cons_zero, List.take_append_drop]
def unR : List Str → List Nat → List Str
  | bs, [] => bs
  | bs, k :: ks => unR (putM bs k) ks
def hdR : List Str → List Nat → List Str
  | _, [] => []
  | bs, k :: ks => bs.take 1 ++ hdR (putM bs k) ks
theorem unR_snoc (bs : List Str) (k : Nat) : ∀ ks : List Nat, unR bs (ks ++ [k]) = putM (unR bs ks) k := by
  intro ks
  induction ks generalizing bs with
  | nil => rfl
  | cons a r ih => exact ih (putM bs a)
theorem hdR_snoc (bs : List Str) (k : Nat) : ∀ ks : List Nat, hdR bs (ks ++ [k]) = hdR bs ks ++ (unR bs ks).take 1 := by
  intro ks
  induction ks generalizing bs with
  | nil =>
    show bs.take 1 ++ [] = [] ++ bs.take 1
    rw [List.append_nil, List.nil_append]
  | cons a r ih =>
    show bs.take 1 ++ hdR (putM bs a) (r ++ [k]) = (bs.take 1 ++ hdR (putM bs a) r) ++ (unR (putM bs a) r).take 1
    rw [ih, List.append_assoc]
theorem unR_perm : ∀ (bs : List Str) (ks : List Nat), (unR bs ks).Perm bs
  | bs, [] => List.Perm.refl _
  | bs, k :: ks => (unR_perm (putM bs k) ks).trans (putM_perm bs k)
theorem hdR_len : ∀ (bs : List Str) (ks : List Nat), 0 < bs.length → (hdR bs ks).length = ks.length
  | bs, [], _ => rfl
  | bs, k :: ks, h => by
    show (bs.take 1 ++ hdR (putM bs k) ks).length = _
    rw [List.length_append, hdR_len (putM bs k) ks (by rw [putM_len]; exact h), List.length_take, List.length_cons]
    omega
theorem hdR_mem : ∀ (bs : List Str) (ks : List Nat), ∀ b ∈ hdR bs ks, b ∈ bs
  | bs, [], b, h => nomatch h
  | bs, k :: ks, b, h => by
    rcases List.mem_append.mp (show b ∈ bs.take 1 ++ hdR (putM bs k) ks from h) with h | h
    · exact List.mem_of_mem_take h
    · exact (putM_perm bs k).mem_iff.mp (hdR_mem (putM bs k) ks b h)
/-- from the pile behind and the numbers: the pile ahead and the readings -/
theorem undo_of {bs : List Str} : ∀ rs : List Str, (∀ b ∈ rs, b ∈ bs) → unR (behindM bs rs) (liftedM bs rs).reverse = bs ∧ hdR (behindM bs rs) (liftedM bs rs).reverse = rs.reverse := by
  refine snoc_ind (p := fun rs => (∀ b ∈ rs, b ∈ bs) → unR (behindM bs rs) (liftedM bs rs).reverse = bs ∧ hdR (behindM bs rs) (liftedM bs rs).reverse = rs.reverse) (fun _ => ⟨rfl, rfl⟩) (fun rs b ih h => ?_)
  have h1 : ∀ c ∈ rs, c ∈ bs := fun c hc => h c (List.mem_append_left _ hc)
  have hb : b ∈ behindM bs rs := (behindM_perm rs h1).mem_iff.mpr (h b (List.mem_append_right _ (List.mem_singleton.mpr rfl)))
  obtain ⟨i1, i2⟩ := ih h1
  rw [behindM_snoc, liftedM_snoc, List.reverse_append, List.reverse_singleton, List.reverse_append, List.reverse_singleton]
  constructor
  · show unR (putM (lay (behindM bs rs) b) ((behindM bs rs).idxOf b)) (liftedM bs rs).reverse = bs
    rw [put_lay hb]
    exact i1
  · show [b] ++ hdR (putM (lay (behindM bs rs) b) ((behindM bs rs).idxOf b)) (liftedM bs rs).reverse = _
    rw [put_lay hb, i2]
/-- any numbers below how many books there are: they are lifted by the readings that they tell -/
theorem redo_of : ∀ (ks : List Nat) {bs : List Str}, bs.Nodup → (∀ k ∈ ks, k < bs.length) → behindM (unR bs ks) (hdR bs ks).reverse = bs ∧ liftedM (unR bs ks) (hdR bs ks).reverse = ks.reverse
  | [], bs, _, _ => ⟨rfl, rfl⟩
  | k :: ks, bs, nd, h => by
    have hk := h k (List.mem_cons_self ..)
    cases bs with
    | nil => exact absurd hk (Nat.not_lt_zero _)
    | cons t r =>
      have nd2 : (putM (t :: r) k).Nodup := (putM_perm _ _).nodup_iff.mpr nd
      obtain ⟨i1, i2⟩ := redo_of ks nd2 fun j hj => by rw [putM_len]; exact h j (List.mem_cons_of_mem _ hj)
      obtain ⟨l1, l2⟩ := lay_put nd hk
      have e : (hdR (t :: r) (k :: ks)).reverse = (hdR (putM (t :: r) k) ks).reverse ++ [t] := by
        show ([t] ++ hdR (putM (t :: r) k) ks).reverse = _
        rw [List.reverse_append]
        rfl
      rw [e, behindM_snoc, liftedM_snoc]
      show lay (behindM (unR (putM (t :: r) k) ks) _) t = _ ∧ liftedM (unR (putM (t :: r) k) ks) _ ++ [(behindM (unR (putM (t :: r) k) ks) _).idxOf t] = _
      rw [i1, i2, l1, l2, List.reverse_cons]
      exact ⟨rfl, rfl⟩
theorem putM_inj {bs cs : List Str} {k : Nat} (l : bs.length = cs.length) (h : putM bs k = putM cs k) : bs = cs := by
  cases bs with
  | nil =>
    cases cs with
    | nil => rfl
    | cons _ _ => cases l
  | cons t r =>
    cases cs with
    | nil => cases l
    | cons u q =>
      rw [putM_cons, putM_cons] at h
      have lr : r.length = q.length := Nat.succ.inj l
      obtain ⟨h1, h2⟩ := List.append_inj h (by rw [List.length_take, List.length_take, lr])
      obtain ⟨h3, h4⟩ := List.cons.inj h2
      rw [h3, ← List.take_append_drop k r, h1, h4, List.take_append_drop]
theorem unR_inj : ∀ (ks : List Nat) {bs cs : List Str}, bs.length = cs.length → unR bs ks = unR cs ks → bs = cs
  | [], _, _, _, h => h
  | k :: ks, bs, cs, l, h => putM_inj l (unR_inj ks (by rw [putM_len, putM_len, l]) h)
/-! ### readings by numbers -/
def nth (bs : List Str) (k : Nat) : Str := (bs[k]?).getD Str.empty
theorem nth_get {bs : List Str} {k : Nat} (h : k < bs.length) : bs[k]? = some (nth bs k) := by
  unfold nth
  rw [List.getElem?_eq_getElem h]
  rfl
theorem nth_mem {bs : List Str} {k : Nat} (h : k < bs.length) : nth bs k ∈ bs := List.mem_of_getElem? (nth_get h)
theorem nth_idx {bs : List Str} {b : Str} (h : b ∈ bs) : nth bs (bs.idxOf b) = b := by
  unfold nth
  rw [idx_get h]
  rfl
theorem idx_nth {bs : List Str} {k : Nat} (nd : bs.Nodup) (h : k < bs.length) : bs.idxOf (nth bs k) = k := nd_ix nd (idx_get (nth_mem h)) (nth_get h)
def readM : List Str → List Nat → List Str
  | _, [] => []
  | bs, k :: ks => nth bs k :: readM (lay bs (nth bs k)) ks
theorem readM_snoc (k : Nat) : ∀ (ks : List Nat) (bs : List Str), readM bs (ks ++ [k]) = readM bs ks ++ [nth (behindM bs (readM bs ks)) k]
  | [], bs => rfl
  | j :: ks, bs => by
    show nth bs j :: readM (lay bs (nth bs j)) (ks ++ [k]) = nth bs j :: (readM (lay bs (nth bs j)) ks ++ [nth (behindM (lay bs (nth bs j)) (readM (lay bs (nth bs j)) ks)) k])
    rw [readM_snoc k ks]
theorem readM_mem : ∀ (ks : List Nat) {bs : List Str}, (∀ k ∈ ks, k < bs.length) → ∀ b ∈ readM bs ks, b ∈ bs
  | [], _, _, b, hb => nomatch hb
  | k :: ks, bs, h, b, hb => by
    have hk := h k (List.mem_cons_self ..)
    have p := lay_perm (nth_mem hk)
    rcases List.mem_cons.mp (show b ∈ nth bs k :: readM (lay bs (nth bs k)) ks from hb) with e | hb
    · rw [e]
      exact nth_mem hk
    · exact p.mem_iff.mp (readM_mem ks (fun j hj => by rw [p.length_eq]; exact h j (List.mem_cons_of_mem _ hj)) b hb)
theorem readM_len : ∀ (ks : List Nat) (bs : List Str), (readM bs ks).length = ks.length
  | [], _ => rfl
  | k :: ks, bs => congrArg (· + 1) (readM_len ks (lay bs (nth bs k)))
theorem read_lifted : ∀ (rs : List Str) {bs : List Str}, (∀ b ∈ rs, b ∈ bs) → readM bs (liftedM bs rs) = rs
  | [], _, _ => rfl
  | b :: r, bs, h => by
    have hb := h b (List.mem_cons_self ..)
    show nth bs (bs.idxOf b) :: readM (lay bs (nth bs (bs.idxOf b))) (liftedM (lay bs b) r) = b :: r
    rw [nth_idx hb, read_lifted r fun c hc => (lay_perm hb).mem_iff.mpr (h c (List.mem_cons_of_mem _ hc))]
theorem lifted_read : ∀ (ks : List Nat) {bs : List Str}, bs.Nodup → (∀ k ∈ ks, k < bs.length) → liftedM bs (readM bs ks) = ks
  | [], _, _, _ => rfl
  | k :: ks, bs, nd, h => by
    have hk := h k (List.mem_cons_self ..)
    have p := lay_perm (nth_mem hk)
    show bs.idxOf (nth bs k) :: liftedM (lay bs (nth bs k)) (readM (lay bs (nth bs k)) ks) = k :: ks
    rw [idx_nth nd hk, lifted_read ks (p.nodup_iff.mpr nd) fun j hj => by rw [p.length_eq]; exact h j (List.mem_cons_of_mem _ hj)]
end Lt

set_option Elab.async false
set_option linter.all false
set_option maxRecDepth 100000
set_option maxHeartbeats 4000000
namespace Lt
open PySem PySem.Spec PyProof.Rows L2
/-! ### all orders, a book put in at each place -/
def insAll (b : Str) (o : List Str) : List (List Str) := (List.range (o.length + 1)).map fun i => o.take i ++ [b] ++ o.drop i
def ordP (l : List Str) : List (List Str) := l.foldl (fun os b => os.flatMap (insAll b)) [[]]
theorem ordP_snoc (l : List Str) (b : Str) : ordP (l ++ [b]) = (ordP l).flatMap (insAll b) := by
  unfold ordP
  rw [List.foldl_append]
  rfl
theorem ins_mem {b : Str} {o x : List Str} : x ∈ insAll b o ↔ ∃ p q, o = p ++ q ∧ x = p ++ b :: q := by
  unfold insAll
  rw [List.mem_map]
  constructor
  · rintro ⟨i, _, rfl⟩
    exact ⟨o.take i, o.drop i, (List.take_append_drop i o).symm, by rw [List.append_assoc]; rfl⟩
  · rintro ⟨p, q, rfl, rfl⟩
    refine ⟨p.length, List.mem_range.mpr (by rw [List.length_append]; omega), ?_⟩
    rw [List.take_left, List.drop_left, List.append_assoc]
    rfl
theorem ordP_mem : ∀ l x : List Str, x ∈ ordP l ↔ x.Perm l := by
  refine snoc_ind (p := fun l => ∀ x : List Str, x ∈ ordP l ↔ x.Perm l) (fun x => ?_) (fun l b ih x => ?_)
  · show x ∈ [[]] ↔ _
    rw [List.mem_singleton]
    exact ⟨fun h => by rw [h], fun h => h.eq_nil⟩
  · rw [ordP_snoc, List.mem_flatMap]
    constructor
    · rintro ⟨o, ho, hx⟩
      obtain ⟨p, q, rfl, rfl⟩ := ins_mem.mp hx
      have z := (ih _).mp ho
      exact (List.perm_middle.trans (z.cons b)).trans (List.perm_append_singleton b l).symm
    · intro h
      have hb : b ∈ x := h.mem_iff.mpr (List.mem_append_right _ (List.mem_singleton.mpr rfl))
      obtain ⟨p, q, rfl⟩ := List.append_of_mem hb
      refine ⟨p ++ q, (ih _).mpr ?_, ins_mem.mpr ⟨p, q, rfl, rfl⟩⟩
      have z : (b :: (p ++ q)).Perm (b :: l) := (List.perm_middle.symm.trans h).trans (List.perm_append_singleton b l)
      exact z.cons_inv
theorem ins_nodup {b : Str} {o : List Str} (h : b ∉ o) : (insAll b o).Nodup := by
  unfold insAll
  rw [List.nodup_iff_pairwise_ne, List.pairwise_map]
  refine (List.nodup_range (n := o.length + 1)).imp_of_mem fun {i j} hi hj ne e => ne ?_
  have hi' := List.mem_range.mp hi
  have hj' := List.mem_range.mp hj
  have idx : ∀ k, k ≤ o.length → (o.take k ++ [b] ++ o.drop k).idxOf b = k := fun k hk => by
    have z := idx_mid (l := o.take k) (r := o.drop k) (b := b) fun z => h (List.mem_of_mem_take z)
    rw [List.append_assoc]
    show (o.take k ++ b :: o.drop k).idxOf b = k
    rw [z, List.length_take]
    omega
  rw [← idx i (by omega), e, idx j (by omega)]
theorem ordP_nodup : ∀ l : List Str, l.Nodup → (ordP l).Nodup := by
  refine snoc_ind (p := fun l => l.Nodup → (ordP l).Nodup) (fun _ => ?_) (fun l b ih nd => ?_)
  · show [[]].Nodup
    exact List.nodup_cons.mpr ⟨(fun h => nomatch h), List.nodup_nil⟩
  · have nd1 : l.Nodup := nd.sublist (List.sublist_append_left _ _)
    have nb : b ∉ l := fun h => (List.nodup_append.mp nd).2.2 b h b (List.mem_singleton.mpr rfl) rfl
    rw [ordP_snoc]
    have key : ∀ os : List (List Str), os.Nodup → (∀ o ∈ os, b ∉ o) → (os.flatMap (insAll b)).Nodup := by
      intro os
      induction os with
      | nil => intro _ _; exact List.nodup_nil
      | cons o t ih2 =>
        intro h hb
        obtain ⟨h1, h2⟩ := List.nodup_cons.mp h
        rw [List.flatMap_cons]
        refine List.nodup_append.mpr ⟨ins_nodup (hb o (List.mem_cons_self ..)), ih2 h2 fun o' ho => hb o' (List.mem_cons_of_mem _ ho), fun x hx y hy e => ?_⟩
        obtain ⟨o2, ho2, hy2⟩ := List.mem_flatMap.mp hy
        obtain ⟨p, q, e1, e2⟩ := ins_mem.mp hx
        obtain ⟨p2, q2, e3, e4⟩ := ins_mem.mp hy2
        have ne1 : b ∉ p := fun z => hb o (List.mem_cons_self ..) (by rw [e1]; exact List.mem_append_left _ z)
        have ne2 : b ∉ p2 := fun z => hb o2 (List.mem_cons_of_mem _ ho2) (by rw [e3]; exact List.mem_append_left _ z)
        have l1 := idx_mid (r := q) ne1
        have l2 := idx_mid (r := q2) ne2
        rw [e2, e4] at e
        rw [e, l2] at l1
        obtain ⟨a1, a2⟩ := List.append_inj e l1.symm
        have a3 := (List.cons.inj a2).2
        rw [e1, a1, a3, ← e3] at h1
        exact h1 ho2
    exact key _ (ih nd1) fun o ho z => nb (((ordP_mem l o).mp ho).mem_iff.mp z)
def fac : Nat → Nat
  | 0 => 1
  | n + 1 => fac n * (n + 1)
theorem ordP_len : ∀ l : List Str, (ordP l).length = fac l.length := by
  refine snoc_ind (p := fun l => (ordP l).length = fac l.length) rfl (fun l b ih => ?_)
  rw [ordP_snoc, List.length_append]
  show _ = fac l.length * (l.length + 1)
  rw [← ih]
  have key : ∀ os : List (List Str), (∀ o ∈ os, o.length = l.length) → (os.flatMap (insAll b)).length = os.length * (l.length + 1) := by
    intro os
    induction os with
    | nil => intro _; simp
    | cons o t ih2 =>
      intro h
      rw [List.flatMap_cons, List.length_append, ih2 fun o' ho => h o' (List.mem_cons_of_mem _ ho)]
      unfold insAll
      rw [List.length_map, List.length_range, h o (List.mem_cons_self ..), List.length_cons, Nat.succ_mul]
      omega
  exact key _ fun o ho => ((ordP_mem l o).mp ho).length_eq
theorem fac_le {n : Nat} (h : n ≤ 5) : fac n ≤ 120 := by
  match n, h with
  | 0, _ => decide
  | 1, _ => decide
  | 2, _ => decide
  | 3, _ => decide
  | 4, _ => decide
  | 5, _ => decide
  | n + 6, h => omega
/-! ### all orders, by the first book -/
def ordL : Nat → List Str → List (List Str)
  | 0, _ => [[]]
  | n + 1, l => (List.range l.length).flatMap fun i => (ordL n (l.eraseIdx i)).map fun r => (l[i]?).getD Str.empty :: r
theorem erase_perm {l : List Str} {i : Nat} (h : i < l.length) : (l[i] :: l.eraseIdx i).Perm l := by
  have e : l.take i ++ l[i] :: l.drop (i + 1) = l := by rw [List.getElem_cons_drop, List.take_append_drop]
  have z : (l.take i ++ l[i] :: l.drop (i + 1)).Perm (l[i] :: (l.take i ++ l.drop (i + 1))) := List.perm_middle
  rw [e, ← List.eraseIdx_eq_take_drop_succ] at z
  exact z.symm
theorem ordL_mem : ∀ (n : Nat) (l : List Str), l.length = n → ∀ x, x ∈ ordL n l ↔ x.Perm l
  | 0, l, h, x => by
    have e := List.eq_nil_of_length_eq_zero h
    subst e
    show x ∈ [[]] ↔ _
    rw [List.mem_singleton]
    exact ⟨fun h => by rw [h], fun h => h.eq_nil⟩
  | n + 1, l, h, x => by
    show x ∈ (List.range l.length).flatMap _ ↔ _
    rw [List.mem_flatMap]
    constructor
    · rintro ⟨i, hi, hx⟩
      have hi' := List.mem_range.mp hi
      obtain ⟨r, hr, rfl⟩ := List.mem_map.mp hx
      have z := (ordL_mem n (l.eraseIdx i) (by rw [List.length_eraseIdx_of_lt hi', h]; rfl) r).mp hr
      rw [List.getElem?_eq_getElem hi']
      show (l[i] :: r).Perm l
      exact (z.cons _).trans (erase_perm hi')
    · intro p
      cases x with
      | nil =>
        have z := p.length_eq
        rw [h] at z
        cases z
      | cons b r =>
        have hb : b ∈ l := p.mem_iff.mp (List.mem_cons_self ..)
        have hi := idx_lt hb
        refine ⟨l.idxOf b, List.mem_range.mpr hi, List.mem_map.mpr ⟨r, (ordL_mem n _ (by rw [List.length_eraseIdx_of_lt hi, h]; rfl) r).mpr ?_, by rw [idx_get hb]; rfl⟩⟩
        have z := erase_perm hi
        rw [List.getElem_idxOf] at z
        exact (p.trans z.symm).cons_inv
abbrev tk (bs : List Str) : List Key := bs.map Sum.inr
theorem tk_inj {a b : List Str} (h : tk a = tk b) : a = b := by
  induction a generalizing b with
  | nil =>
    cases b with
    | nil => rfl
    | cons _ _ => cases h
  | cons x r ih =>
    cases b with
    | nil => cases h
    | cons y t =>
      obtain ⟨h1, h2⟩ := List.cons.inj h
      rw [Sum.inr.inj h1, ih h2]
theorem alike_tk : ∀ a b : List Str, AlikeK (tk a) (tk b)
  | [], _ => by
    unfold AlikeK
    trivial
  | _ :: _, [] => trivial
  | x :: r, y :: t => ⟨rfl, alike_tk r t⟩
theorem lex_head {a b : Str} {r t : List Str} (h : ltS a b) : lexK (tk (a :: r)) (tk (b :: t)) = true := by
  show (if (Sum.inr a : Key) = Sum.inr b then _ else ltKey (Sum.inr a) (Sum.inr b)) = true
  rw [if_neg fun e => ltS_irrefl a (by rw [Sum.inr.inj e] at h; rw [Sum.inr.inj e]; exact h)]
  exact decide_eq_true h
theorem lex_tail {a : Str} {r t : List Str} (h : lexK (tk r) (tk t) = true) : lexK (tk (a :: r)) (tk (a :: t)) = true := by
  show (if (Sum.inr a : Key) = Sum.inr a then _ else _) = true
  rw [if_pos rfl]
  exact h
theorem pw_flat {α β : Type} {R : β → β → Prop} {f : α → List β} : ∀ {l : List α}, (∀ a ∈ l, (f a).Pairwise R) → l.Pairwise (fun a b => ∀ x ∈ f a, ∀ y ∈ f b, R x y) → (l.flatMap f).Pairwise R
  | [], _, _ => List.Pairwise.nil
  | a :: l, h1, h2 => by
    obtain ⟨g1, g2⟩ := List.pairwise_cons.mp h2
    rw [List.flatMap_cons]
    refine List.pairwise_append.mpr ⟨h1 a (List.mem_cons_self ..), pw_flat (fun b hb => h1 b (List.mem_cons_of_mem _ hb)) g2, fun x hx y hy => ?_⟩
    obtain ⟨b, hb, hy⟩ := List.mem_flatMap.mp hy
    exact g1 b hb x hx y hy
theorem ordL_rises : ∀ (n : Nat) (l : List Str), l.length = n → l.Pairwise ltS → (ordL n l).Pairwise fun x y => lexK (tk x) (tk y) = true
  | 0, l, _, _ => List.pairwise_singleton _ _
  | n + 1, l, h, hs => by
    refine pw_flat (fun i hi => ?_) ?_
    · have hi' := List.mem_range.mp hi
      refine List.pairwise_map.mpr ((ordL_rises n (l.eraseIdx i) (by rw [List.length_eraseIdx_of_lt hi', h]; rfl) (hs.sublist (List.eraseIdx_sublist ..))).imp fun z => lex_tail z)
    · refine List.Pairwise.imp_of_mem (R := fun a b => a < b) (fun {i j} hi hj lt => ?_) List.pairwise_lt_range
      have hi' := List.mem_range.mp hi
      have hj' := List.mem_range.mp hj
      intro x hx y hy
      obtain ⟨r, _, rfl⟩ := List.mem_map.mp hx
      obtain ⟨t, _, rfl⟩ := List.mem_map.mp hy
      rw [List.getElem?_eq_getElem hi', List.getElem?_eq_getElem hj']
      exact lex_head (List.pairwise_iff_getElem.mp hs i j hi' hj' lt)
/-! ### the piles from which numbers come -/
def starts (bs rs : List Str) (ns : List Nat) : List (List Str) := (ordP ((behindM bs rs).drop (dist rs))).map fun b => unR ((behindM bs rs).take (dist rs) ++ b) ns.reverse
abbrev fits (rs : List Str) (ns : List Nat) (x : List Str) : Bool := decide (liftedM x rs = ns)
theorem dist_rev (rs : List Str) : dist rs.reverse = dist rs := by
  unfold dist
  have p : (nub rs.reverse).Perm (nub rs) := by
    rw [List.perm_ext_iff_of_nodup (nub_nodup _) (nub_nodup _)]
    intro z
    rw [nub_mem, nub_mem, List.mem_reverse]
  exact p.length_eq
theorem starts_perm {bs rs : List Str} {ns : List Nat} : ∀ x ∈ starts bs rs ns, (∀ b ∈ rs, b ∈ bs) → x.Perm bs := fun x hx hm => by
  obtain ⟨b, hb, rfl⟩ := List.mem_map.mp hx
  have z := (ordP_mem _ _).mp hb
  have z2 := (z.append_left ((behindM bs rs).take (dist rs)))
  rw [List.take_append_drop] at z2
  exact (unR_perm _ _).trans (z2.trans (behindM_perm rs hm))
theorem starts_nodup {bs rs : List Str} {ns : List Nat} (nd : bs.Nodup) (hm : ∀ b ∈ rs, b ∈ bs) : (starts bs rs ns).Nodup := by
  unfold starts
  have nb : (behindM bs rs).Nodup := (behindM_perm rs hm).nodup_iff.mpr nd
  rw [List.nodup_iff_pairwise_ne, List.pairwise_map]
  refine (ordP_nodup _ (nb.sublist (List.drop_sublist _ _))).imp_of_mem fun {x y} hx hy ne e => ne ?_
  have z := unR_inj _ (by rw [List.length_append, List.length_append, ((ordP_mem _ _).mp hx).length_eq, ((ordP_mem _ _).mp hy).length_eq]) e
  exact List.append_cancel_left z
theorem starts_all {bs rs x : List Str} {ns : List Nat} (nd : bs.Nodup) (hm : ∀ b ∈ rs, b ∈ bs) (p : x.Perm bs) (h : liftedM x rs = ns) : x ∈ starts bs rs ns := by
  have ndx : x.Nodup := p.nodup_iff.mpr nd
  have hx : ∀ b ∈ rs, b ∈ x := fun b hb => p.mem_iff.mpr (hm b hb)
  have e1 := behind_is nd rs hm
  have e2 := behind_is ndx rs hx
  have dl : (nub rs.reverse).length = dist rs := dist_rev rs
  have t1 : (behindM bs rs).take (dist rs) = nub rs.reverse := by rw [e1, List.take_left' dl]
  have d1 : (behindM bs rs).drop (dist rs) = bs.filter fun z => decide (z ∉ rs) := by rw [e1, List.drop_left' dl]
  refine List.mem_map.mpr ⟨x.filter fun z => decide (z ∉ rs), (ordP_mem _ _).mpr ?_, ?_⟩
  · rw [d1]
    exact p.filter _
  · rw [t1, ← e2, ← h]
    exact (undo_of rs hx).1
theorem piles_perm {bs rs ys : List Str} {ns : List Nat} (nd : bs.Nodup) (hm : ∀ b ∈ rs, b ∈ bs) (py : ys.Perm bs) (so : ys.Pairwise ltS) : ((starts bs rs ns).filter (fits rs ns)).Perm ((ordL ys.length ys).filter (fits rs ns)) := by
  have nd2 : (ordL ys.length ys).Nodup := (ordL_rises ys.length ys rfl so).imp fun {a b} h e => by
    rw [e] at h
    rw [(lexK_swo (fun x : List Key => x)).refl (tk b)] at h
    cases h
  rw [List.perm_ext_iff_of_nodup ((starts_nodup nd hm).sublist List.filter_sublist) (nd2.sublist List.filter_sublist)]
  intro x
  rw [List.mem_filter, List.mem_filter, ordL_mem _ _ rfl]
  constructor
  · rintro ⟨h1, h2⟩
    exact ⟨(starts_perm x h1 hm).trans py.symm, h2⟩
  · rintro ⟨h1, h2⟩
    exact ⟨starts_all nd hm (h1.trans py) (of_decide_eq_true h2), h2⟩
/-- put in order: these rows alone -/
theorem piles_one {bs rs ys : List Str} {ns : List Nat} {cs : List (List Str)} (nd : bs.Nodup) (hm : ∀ b ∈ rs, b ∈ bs) (py : ys.Perm bs) (so : ys.Pairwise ltS) (pc : cs.Perm ((starts bs rs ns).filter (fits rs ns))) (sc : cs.Pairwise fun x y => lexK (tk y) (tk x) = false) :
    cs = (ordL ys.length ys).filter (fits rs ns) := by
  refine List.Perm.eq_of_pairwise (le := fun x y => lexK (tk y) (tk x) = false) (fun a b _ _ h1 h2 => tk_inj (lexK_tri h2 h1)) sc ?_ (pc.trans (piles_perm nd hm py so))
  exact ((ordL_rises ys.length ys rfl so).sublist List.filter_sublist).imp fun h => lexK_asym h
theorem piles_self {bs rs ys : List Str} (hm : ∀ b ∈ rs, b ∈ bs) (py : ys.Perm bs) : bs ∈ (ordL ys.length ys).filter (fits rs (liftedM bs rs)) :=
  List.mem_filter.mpr ⟨(ordL_mem _ _ rfl _).mpr py.symm, decide_eq_true rfl⟩
theorem all_one {α : Type} {l : List α} {x : α} (nd : l.Nodup) (h : x ∈ l) (only : ∀ y ∈ l, y = x) : l = [x] := by
  cases l with
  | nil => cases h
  | cons a r =>
    have ea := only a (List.mem_cons_self ..)
    cases r with
    | nil => rw [ea]
    | cons b t =>
      have eb := only b (List.mem_cons_of_mem _ (List.mem_cons_self ..))
      have n1 := (List.nodup_cons.mp nd).1
      rw [ea, eb] at n1
      exact absurd (List.mem_cons_self ..) n1
theorem perm_short {a b : List Str} (p : a.Perm b) (h : b.length ≤ 1) : a = b := by
  cases b with
  | nil => exact p.eq_nil
  | cons x r =>
    cases r with
    | nil => exact List.perm_singleton.mp p
    | cons y t =>
      rw [List.length_cons, List.length_cons] at h
      omega
theorem piles_sole {bs rs ys : List Str} (nd : bs.Nodup) (hm : ∀ b ∈ rs, b ∈ bs) (py : ys.Perm bs) (so : ys.Pairwise ltS) (h : bs.length - 1 ≤ dist rs) : (ordL ys.length ys).filter (fits rs (liftedM bs rs)) = [bs] := by
  have pp := piles_perm (ns := liftedM bs rs) nd hm py so
  have ndf : ((ordL ys.length ys).filter (fits rs (liftedM bs rs))).Nodup := pp.nodup_iff.mp ((starts_nodup nd hm).sublist List.filter_sublist)
  refine all_one ndf (piles_self hm py) fun x hx => ?_
  obtain ⟨b, hb, rfl⟩ := List.mem_map.mp (List.mem_filter.mp (pp.mem_iff.mpr hx)).1
  have z := (ordP_mem _ _).mp hb
  have zl : ((behindM bs rs).drop (dist rs)).length ≤ 1 := by
    rw [List.length_drop, (behindM_perm rs hm).length_eq]
    omega
  rw [perm_short z zl, List.take_append_drop]
  exact (undo_of rs hm).1
end Lt

set_option Elab.async false
set_option linter.all false
set_option maxRecDepth 100000
set_option maxHeartbeats 4000000
namespace Lt
open PySem PySem.Spec PyProof.Rows L2
/-! ### the lowest books that lie in the other's order already -/
/-- how many of the first of os come in l one behind the other -/
def gre (os l : List Str) : Nat := l.foldl (fun k b => if os[k]? = some b then k + 1 else k) 0
theorem gre_snoc (os l : List Str) (b : Str) : gre os (l ++ [b]) = if os[gre os l]? = some b then gre os l + 1 else gre os l := by
  unfold gre
  rw [List.foldl_append]
  rfl
theorem gre_mono (os l : List Str) (b : Str) : gre os l ≤ gre os (l ++ [b]) := by
  rw [gre_snoc]
  split <;> omega
theorem gre_sub (os : List Str) : ∀ l : List Str, gre os l ≤ os.length ∧ (os.take (gre os l)).Sublist l := by
  refine snoc_ind (p := fun l => gre os l ≤ os.length ∧ (os.take (gre os l)).Sublist l) ⟨Nat.zero_le _, by show (os.take 0).Sublist []; rw [List.take_zero]; exact List.Sublist.refl _⟩ (fun l b ih => ?_)
  rw [gre_snoc]
  by_cases c : os[gre os l]? = some b
  · rw [if_pos c]
    have lt := (List.getElem?_eq_some_iff.mp c).1
    refine ⟨lt, ?_⟩
    rw [List.take_add_one, c]
    exact ih.2.append (List.Sublist.refl _)
  · rw [if_neg c]
    exact ⟨ih.1, ih.2.trans (List.sublist_append_left _ _)⟩
theorem gre_best (os : List Str) : ∀ (l : List Str) (k : Nat), k ≤ os.length → (os.take k).Sublist l → k ≤ gre os l := by
  refine snoc_ind (p := fun l => ∀ k : Nat, k ≤ os.length → (os.take k).Sublist l → k ≤ gre os l) (fun k hk h => ?_) (fun l b ih k hk h => ?_)
  · have z := h.length_le
    rw [List.length_take, List.length_nil] at z
    omega
  · cases k with
    | zero => exact Nat.zero_le _
    | succ j =>
      have hj : os[j]? = some os[j] := List.getElem?_eq_getElem (by omega)
      rw [List.take_add_one, hj] at h
      obtain ⟨r1, r2, e, h1, h2⟩ := List.sublist_append_iff.mp h
      rcases List.sublist_cons_iff.mp h2 with h3 | ⟨r, er, h3⟩
      · have e2 : r2 = [] := List.eq_nil_of_sublist_nil h3
        rw [e2, List.append_nil] at e
        have q := ih (j + 1) hk (by rw [List.take_add_one, hj]; rw [← e] at h1; exact h1)
        exact Nat.le_trans q (gre_mono os l b)
      · have er0 : r = [] := List.eq_nil_of_sublist_nil h3
        rw [er, er0] at e
        obtain ⟨e1, e2⟩ := List.append_inj' e rfl
        have eb : os[j] = b := by
          have z : [os[j]] = [b] := e2
          exact (List.cons.inj z).1
        rw [← e1] at h1
        have q := ih j (by omega) h1
        rw [gre_snoc]
        by_cases c : j = gre os l
        · rw [← c, hj, eb, if_pos rfl]
          omega
        · split <;> omega
theorem gre_iff (os l : List Str) {k : Nat} (hk : k ≤ os.length) : (os.take k).Sublist l ↔ k ≤ gre os l :=
  ⟨gre_best os l k hk, fun h => ((List.take_sublist_take_left h).trans (gre_sub os l).2)⟩
/-- how many of the lowest books of os lie in its order in bs -/
def stay (bs os : List Str) : Nat := gre os.reverse bs.reverse
theorem stay_le (bs os : List Str) : stay bs os ≤ os.length := by
  have z := (gre_sub os.reverse bs.reverse).1
  rw [List.length_reverse] at z
  exact z
theorem low_rev (os : List Str) {k : Nat} (hk : k ≤ os.length) : os.drop (os.length - k) = (os.reverse.take k).reverse := by
  rw [List.take_reverse, List.reverse_reverse]
theorem low_sub {bs os : List Str} {k : Nat} (hk : k ≤ os.length) : (os.drop (os.length - k)).Sublist bs ↔ k ≤ stay bs os := by
  rw [low_rev os hk]
  refine Iff.trans ?_ (gre_iff os.reverse bs.reverse (by rw [List.length_reverse]; exact hk))
  constructor
  · intro h
    have z := h.reverse
    rw [List.reverse_reverse] at z
    exact z
  · intro h
    have z := h.reverse
    rw [List.reverse_reverse] at z
    exact z
theorem filter_sub {bs ss : List Str} (nd : bs.Nodup) (h : ss.Sublist bs) : bs.filter (fun z => decide (z ∈ ss)) = ss := by
  have s1 : ss.Sublist (bs.filter fun z => decide (z ∈ ss)) := by
    have z := h.filter fun z => decide (z ∈ ss)
    rw [List.filter_eq_self.mpr (fun z hz => by simpa using hz)] at z
    exact z
  refine (s1.eq_of_length ?_).symm
  have p : ss.Perm (bs.filter fun z => decide (z ∈ ss)) := by
    rw [List.perm_ext_iff_of_nodup (nd.sublist h) (nd.sublist List.filter_sublist)]
    intro z
    rw [List.mem_filter]
    exact ⟨fun hz => ⟨h.subset hz, by simpa using hz⟩, fun hz => by simpa using hz.2⟩
  exact p.length_eq
theorem filter_iff {bs ss : List Str} (nd : bs.Nodup) : bs.filter (fun z => decide (z ∈ ss)) = ss ↔ ss.Sublist bs :=
  ⟨fun h => by rw [← h]; exact List.filter_sublist, filter_sub nd⟩
theorem nub_self {l : List Str} (nd : l.Nodup) : nub l = l := by
  refine snoc_ind (p := fun l => l.Nodup → nub l = l) (fun _ => rfl) (fun l x ih nd => ?_) l nd
  have nd1 : l.Nodup := nd.sublist (List.sublist_append_left _ _)
  have nx : x ∉ l := fun h => (List.nodup_append.mp nd).2.2 x h x (List.mem_singleton.mpr rfl) rfl
  rw [nub_snoc, ih nd1, if_neg nx]
theorem nub_full (l : List Str) : (nub l).length = l.length → nub l = l := by
  refine snoc_ind (p := fun l => (nub l).length = l.length → nub l = l) (fun _ => rfl) (fun l x ih h => ?_) l
  have z := dist_le l
  unfold dist at z
  rw [nub_snoc] at h ⊢
  by_cases c : x ∈ nub l
  · rw [if_pos c, List.length_append, List.length_singleton] at h
    omega
  · rw [if_neg c] at h ⊢
    rw [List.length_append, List.length_append] at h
    rw [ih (by simpa using h)]
/-- the fewest readings -/
def few (bs os : List Str) : List Str := (os.take (os.length - stay bs os)).reverse
theorem few_len (bs os : List Str) : (few bs os).length = os.length - stay bs os := by
  unfold few
  rw [List.length_reverse, List.length_take]
  omega
theorem few_mem {bs os : List Str} (p : os.Perm bs) : ∀ b ∈ few bs os, b ∈ bs := fun b hb => by
  unfold few at hb
  exact p.mem_iff.mp (List.mem_of_mem_take (List.mem_reverse.mp hb))
theorem few_leads {bs os : List Str} (nd : bs.Nodup) (p : os.Perm bs) : behindM bs (few bs os) = os := by
  have ndo : os.Nodup := p.nodup_iff.mpr nd
  have hs := stay_le bs os
  have sub := (low_sub (bs := bs) (os := os) (k := stay bs os) hs).mpr (Nat.le_refl _)
  rw [behind_is nd _ (few_mem p)]
  unfold few
  rw [List.reverse_reverse, nub_self (ndo.sublist (List.take_sublist _ _))]
  have e : bs.filter (fun z => decide (z ∉ (os.take (os.length - stay bs os)).reverse)) = os.drop (os.length - stay bs os) := by
    refine Eq.trans ?_ (filter_sub nd sub)
    apply List.filter_congr
    intro z hz
    have hz2 : z ∈ os := p.mem_iff.mpr hz
    rw [← List.take_append_drop (os.length - stay bs os) os] at hz2 ndo
    have dj := (List.nodup_append.mp ndo).2.2
    rw [decide_eq_decide, List.mem_reverse]
    constructor
    · intro h
      exact (List.mem_append.mp hz2).resolve_left h
    · intro h h2
      exact dj z h2 z h rfl
  rw [e, List.take_append_drop]
theorem few_least {bs os rs : List Str} (nd : bs.Nodup) (p : os.Perm bs) (hm : ∀ b ∈ rs, b ∈ bs) (h : behindM bs rs = os) : (few bs os).length ≤ rs.length ∧ (rs.length = (few bs os).length → rs = few bs os) := by
  rw [behind_is nd _ hm] at h
  have hd : os.drop (nub rs.reverse).length = bs.filter fun z => decide (z ∉ rs) := by rw [← h, List.drop_left]
  have ht : os.take (nub rs.reverse).length = nub rs.reverse := by rw [← h, List.take_left]
  have hle : (nub rs.reverse).length ≤ os.length := by
    rw [← h, List.length_append]
    omega
  have sub : (os.drop (os.length - (os.length - (nub rs.reverse).length))).Sublist bs := by
    rw [show os.length - (os.length - (nub rs.reverse).length) = (nub rs.reverse).length by omega, hd]
    exact List.filter_sublist
  have q := (low_sub (by omega)).mp sub
  have d := dist_le rs.reverse
  rw [List.length_reverse] at d
  unfold dist at d
  have s1 := stay_le bs os
  rw [few_len]
  refine ⟨by omega, fun e => ?_⟩
  have full : nub rs.reverse = rs.reverse := nub_full _ (by rw [List.length_reverse]; omega)
  unfold few
  rw [full, List.length_reverse] at ht
  rw [← e, ht, List.reverse_reverse]
/-! ### all readings of a length -/
def allRows (bs : List Str) : Nat → List (List Str)
  | 0 => [[]]
  | n + 1 => (allRows bs n).flatMap fun r => bs.map fun b => r ++ [b]
theorem allRows_mem (bs : List Str) : ∀ (n : Nat) (r : List Str), r ∈ allRows bs n ↔ r.length = n ∧ ∀ b ∈ r, b ∈ bs
  | 0, r => by
    show r ∈ [[]] ↔ _
    rw [List.mem_singleton]
    exact ⟨fun h => by rw [h]; exact ⟨rfl, fun b hb => nomatch hb⟩, fun h => List.eq_nil_of_length_eq_zero h.1⟩
  | n + 1, r => by
    show r ∈ (allRows bs n).flatMap _ ↔ _
    rw [List.mem_flatMap]
    constructor
    · rintro ⟨q, hq, hr⟩
      obtain ⟨b, hb, rfl⟩ := List.mem_map.mp hr
      obtain ⟨l, m⟩ := (allRows_mem bs n q).mp hq
      refine ⟨by rw [List.length_append, l]; rfl, fun c hc => ?_⟩
      rcases List.mem_append.mp hc with hc | hc
      · exact m c hc
      · rw [List.mem_singleton.mp hc]
        exact hb
    · rintro ⟨l, m⟩
      have ne : r ≠ [] := fun e => by rw [e] at l; cases l
      have er : r.dropLast ++ [r.getLast ne] = r := List.dropLast_concat_getLast ne
      refine ⟨r.dropLast, (allRows_mem bs n _).mpr ⟨by rw [List.length_dropLast, l]; rfl, fun c hc => m c ((List.dropLast_sublist r).subset hc)⟩, List.mem_map.mpr ⟨r.getLast ne, m _ (List.getLast_mem ne), er⟩⟩
theorem allRows_nodup {bs : List Str} (nd : bs.Nodup) : ∀ n, (allRows bs n).Nodup
  | 0 => by
    show [[]].Nodup
    exact List.nodup_cons.mpr ⟨fun h => (nomatch h), List.nodup_nil⟩
  | n + 1 => by
    show ((allRows bs n).flatMap fun r => bs.map fun b => r ++ [b]).Nodup
    have ih := allRows_nodup nd n
    have key : ∀ ls : List (List Str), ls.Nodup → (ls.flatMap fun r => bs.map fun b => r ++ [b]).Nodup := by
      intro ls
      induction ls with
      | nil => intro _; exact List.nodup_nil
      | cons q t ih2 =>
        intro h
        obtain ⟨h1, h2⟩ := List.nodup_cons.mp h
        rw [List.flatMap_cons]
        refine List.nodup_append.mpr ⟨?_, ih2 h2, ?_⟩
        · rw [List.nodup_iff_pairwise_ne, List.pairwise_map]
          exact nd.imp fun hne e => hne (List.cons.inj (List.append_cancel_left e)).1
        · intro x hx y hy e
          obtain ⟨b, _, rfl⟩ := List.mem_map.mp hx
          obtain ⟨q2, hq2, hy2⟩ := List.mem_flatMap.mp hy
          obtain ⟨b2, _, rfl⟩ := List.mem_map.mp hy2
          have e2 := (List.append_inj' e rfl).1
          rw [e2] at h1
          exact h1 hq2
    exact key _ ih
theorem allRows_len (bs : List Str) : ∀ n, (allRows bs n).length = bs.length ^ n
  | 0 => rfl
  | n + 1 => by
    have key : ∀ ls : List (List Str), (ls.flatMap fun r => bs.map fun b => r ++ [b]).length = ls.length * bs.length := by
      intro ls
      induction ls with
      | nil => rw [List.flatMap_nil, List.length_nil, Nat.zero_mul]
      | cons q t ih => rw [List.flatMap_cons, List.length_append, List.length_map, ih, List.length_cons, Nat.succ_mul, Nat.add_comm]
    show ((allRows bs n).flatMap fun r => bs.map fun b => r ++ [b]).length = _
    rw [key, allRows_len bs n, Nat.pow_succ]
theorem filter_one {α : Type} [DecidableEq α] {l : List α} {x : α} (nd : l.Nodup) (h : x ∈ l) : l.filter (fun z => decide (z = x)) = [x] := by
  induction l with
  | nil => cases h
  | cons a r ih =>
    obtain ⟨n1, n2⟩ := List.nodup_cons.mp nd
    by_cases e : a = x
    · rw [List.filter_cons_of_pos (by simpa using e), e]
      congr 1
      rw [List.filter_eq_nil_iff]
      intro z hz c
      have c' : z = x := of_decide_eq_true c
      rw [e, ← c'] at n1
      exact n1 hz
    · rw [List.filter_cons_of_neg (by simpa using e)]
      exact ih n2 ((List.mem_cons.mp h).resolve_left fun z => e z.symm)
/-- of all readings as long as the fewest, these alone -/
theorem few_only {bs os : List Str} (nd : bs.Nodup) (p : os.Perm bs) : (allRows bs (few bs os).length).filter (fun r => decide (behindM bs r = os)) = [few bs os] := by
  have e : (allRows bs (few bs os).length).filter (fun r => decide (behindM bs r = os)) = (allRows bs (few bs os).length).filter fun r => decide (r = few bs os) := by
    apply List.filter_congr
    intro r hr
    obtain ⟨l, m⟩ := (allRows_mem bs _ r).mp hr
    rw [decide_eq_decide]
    exact ⟨fun h => (few_least nd p m h).2 l, fun h => by rw [h]; exact few_leads nd p⟩
  rw [e]
  exact filter_one (allRows_nodup nd _) ((allRows_mem bs _ _).mpr ⟨rfl, few_mem p⟩)
theorem few_none {bs os : List Str} (nd : bs.Nodup) (p : os.Perm bs) {n : Nat} (h : n < (few bs os).length) : (allRows bs n).filter (fun r => decide (behindM bs r = os)) = [] := by
  rw [List.filter_eq_nil_iff]
  intro r hr c
  obtain ⟨l, m⟩ := (allRows_mem bs _ r).mp hr
  have z := (few_least nd p m (of_decide_eq_true c)).1
  omega
end Lt

set_option Elab.async false
set_option linter.all false
set_option maxRecDepth 100000
set_option maxHeartbeats 4000000
/-! sum(y for x, y in t), t a tuple of pairs whose second things are whole numbers. -/
namespace Lt
open PySem PySem.Spec PyProof.Rows L2
section
variable {X : Cx} {pins : List (Addr × Obj)} {σ : L2.St} {H : Hp} {s : Shared}
def tSumG (K : PySem.W.Frag) (P : Addr) (te : TE) : TE := fun σ H Q => te σ H fun v H1 => ∃ (a : Addr) (ts : List Addr) (ps : List (V × Int)), v = .ref a ∧ SqT K H1 a (ts.map V.ref) ∧ ts.length = ps.length ∧
  (∀ (i : Nat) (t : Addr) (p : V × Int), ts[i]? = some t → ps[i]? = some p → SqT K H1 t [p.1, .int p.2]) ∧ (∀ l : List Int, l = ps.map (·.2) → ∀ j, j < l.length → InLong (l.getD j 0) ∧ InLong ((l.take (j + 1)).sum)) ∧ GxR.TabG H1 P ∧ ∀ H2, GxR.Tabbed P H1 H2 → Q (.int (ps.map (·.2)).sum) H2
theorem pe_sumG {c P : Addr} {x y : Str} {iter : Expr} {px py pt pe p pos gpos : Pos} {kt : Nat} {scope : Scope} {te : TE} {k : Nat} (hr : Room k X.A) (hg : Gl X "sum") (hm : X.mg "sum" = none) (TB : GxR.TabB X.base X.mg c P) (hc : X.env.code = .ref c) (S : GenTwo scope x y) (hi : PE X iter te)
    (hs : ∀ v, genFold iter X.env v = pure v := by intro _; rfl) (hd : (y == ("__debug__" : Str)) = false := by decide)
    (he : starEach [.GeneratorExp (.Name y pe) [⟨.Tuple [.Name x px, .Name y py] kt pt, iter, [], 0⟩] scope gpos] X.env = (false, eval (.GeneratorExp (.Name y pe) [⟨.Tuple [.Name x px, .Name y py] kt pt, iter, [], 0⟩] scope gpos) X.env) :: starEach [] X.env := by rfl) :
    PE X (.Call (.Name "sum" p) [.GeneratorExp (.Name y pe) [⟨.Tuple [.Name x px, .Name y py] kt pt, iter, [], 0⟩] scope gpos] [] pos) (tSumG X.K P te) := by
  obtain ⟨kind, co, loc, dot, one, two, ne⟩ := S
  have hv : bootBuiltins ("sum" : Str) = some (.builtin "sum") := by decide +kernel
  refine ⟨fun pins s σ H Q inv h => wpAny_Call_Name_kw (ld_blt inv hg hm hv (PyProof.Rows.callWith_builtin1 ?_ he (by rfl)))⟩
  rw [he]
  show wpAny _ _ (spliced ((false, _) :: backTo pos (starEach [] X.env))) _ _ s
  refine Calls.spliced_cons ?_
  refine wpAny_GeneratorExp_walksQT hr.hd co (closure_ok fun z hz e => by rw [loc z hz] at e; cases e) (fun z hz e => by rw [loc z hz] at e; cases e) dot one two ne kind (by have := hr.dp; omega) ?_ hs
  refine thn (hi.run pins s σ H _ inv h) fun xv s1 ⟨v, H1, inv1, rel, q1⟩ => ?_
  obtain ⟨a, ts, ps, rfl, sq, len, each, few, ⟨tb, hP, ht⟩, q⟩ := q1
  cases rel
  obtain ⟨its, vals, tupA, fit⟩ := inv1.tuple sq
  have nits : its.length = ts.length := by rw [← vals.length, List.length_map]
  have pairs : ∀ i, ∃ u : Array Value, i < ts.length → ∃ (t : Addr) (p : V × Int) (va vb : Value), ts[i]? = some t ∧ ps[i]? = some p ∧ u = #[va, vb] ∧ RelV (.int p.2) vb ∧ s1.heap.IsTuple t u := by
    intro i
    by_cases hi : i < ts.length
    · have e1 := List.getElem?_eq_getElem hi
      have e2 : ps[i]? = some (ps[i]'(by omega)) := List.getElem?_eq_getElem _
      obtain ⟨us, vs2, tp, _⟩ := inv1.tuple (each i _ _ e1 e2)
      obtain ⟨va, vb, rfl, r1, r2⟩ := vs2.two
      exact ⟨#[va, vb], fun _ => ⟨_, _, va, vb, e1, e2, rfl, r2, tp⟩⟩
    · exact ⟨#[], fun z => absurd z hi⟩
  obtain ⟨us, hus⟩ := Classical.axiomOfChoice pairs
  have ats : ∀ i, i < ts.length → its.toArray[i]? = some (.ref ((ts[i]?).getD 0)) ∧ s1.heap.IsTuple ((ts[i]?).getD 0) (us i) := by
    intro i hi
    obtain ⟨t, pp, va, vb, e1, e2, _, _, tp⟩ := hus i hi
    obtain ⟨u2, g1, g2⟩ := vals.get (i := i) (x := .ref t) (by rw [List.getElem?_map, e1]; rfl)
    obtain rfl : u2 = .ref t := g2
    rw [e1]
    exact ⟨by simpa using g1, tp⟩
  have sz : its.toArray.size = ts.length := by rw [List.size_toArray, nits]
  have lt1 : ∀ {b : Addr} {u : Array Value}, s1.heap.IsTuple b u → b < s1.heap.objs.size := fun t => by
    obtain ⟨o, e, _⟩ := t
    exact Heap.lt_size e
  have at0 : s1.heap.get? P = some { cls := .none, data := .fields tb } := inv1.hok P _ hP
  have ltP : P < s1.heap.objs.size := Heap.lt_size at0
  have neP : ∀ {b : Addr} {u : Array Value}, s1.heap.IsTuple b u → b ≠ P := fun t e => by
    obtain ⟨o, e1, e2, _⟩ := t
    rw [e, at0] at e1
    cases e1
    cases e2
  refine wpAny_pyIter_tuple tupA ⟨inv1.nolimit.push _, gen_code inv1 TB hc hP ht fun code h3 tk more ext big at3 tri => ?_⟩
  have keep : ∀ b u, b ≠ P → s1.heap.get? b = some u → h3.get? b = some u := fun b u nb e => ext b u nb (Heap.get?_push_of_some _ e)
  have it3 : h3.IsTupleIter s1.heap.objs.size a 0 := ⟨_, ext _ _ (Nat.ne_of_gt ltP) (Heap.get?_push_size _ rfl), rfl, rfl⟩
  have nst : cStatics ≠ P ∧ cStatics < s1.heap.objs.size := by
    obtain ⟨_, ns, _⟩ := inv1.nolimit
    refine ⟨fun e => ?_, ns.lt⟩
    obtain ⟨o', es, ep, ho, hd', _⟩ := ns
    rw [e, at0] at ho
    cases ho
    cases hd'
  have isT : s1.heap.IsTuple a its.toArray := tupA
  have tup3 : h3.IsTuple a its.toArray := isT.at fun o e => keep _ _ (neP isT) e
  have ats3 : ∀ i, i < ts.length → h3.IsTuple ((ts[i]?).getD 0) (us i) := fun i hi => (ats i hi).2.at fun o e => keep _ _ (neP (ats i hi).2) e
  have up : s1.heap.objs.size < h3.objs.size := big
  have W0 : ∀ A' : Around, A'.handled = none → WalksU X.prog X.w A' s1.heap.objs.size _ [s1.heap.objs.size] ts.length _ _ _ :=
    fun A' hA => walk_tups (sz ▸ Walks.tuple hA s1.heap.objs.size a (Nat.ne_of_lt (lt1 tupA)) its.toArray) (fun i => (ts[i]?).getD 0) us
      (fun i v hi e => Option.some.inj (e.symm.trans (ats i hi).1)) (fun i hi z => Nat.ne_of_lt (lt1 (ats i hi).2) (List.mem_singleton.mp z))
      (fun e i v s' Q' E' st q' => by
        obtain ⟨o, ho, hc', hd'⟩ := st.1
        exact letGo_of_cls ho hc' hd' (by decide) q')
  refine ⟨s1.heap.objs.size, _, [s1.heap.objs.size], ts.length, _, _, _, fun _ => true, fun i z => i < ts.length ∧ ∃ va vb, us i = #[va, vb] ∧ z = vb, rfl, W0, ?two, ⟨⟨it3, tup3⟩, ats3⟩, ?fp, (inv1.nolimit.push _).extBut ext nst.1, fun z => Nat.ne_of_lt nst.2 (List.mem_singleton.mp z), ?quiet, ?rest⟩
  case two =>
    rintro i vs ⟨hi, rfl⟩
    obtain ⟨_, _, va, vb, _, _, e, _⟩ := hus i hi
    exact ⟨va, vb, e⟩
  case fp =>
    intro b hb
    rcases List.mem_append.mp hb with z | z
    · rcases List.mem_cons.mp z with z | z
      · rw [z]
        exact up
      · rw [List.mem_singleton.mp z]
        exact Nat.lt_trans (lt1 tupA) up
    · obtain ⟨i, hi, rfl⟩ := List.mem_map.mp z
      exact Nat.lt_trans (lt1 (ats i (List.mem_range.mp hi)).2) up
  case quiet =>
    intro href _
    refine ⟨fun A' E' i va vb s2 m2 hA hp hn ha hb hk => ?_, fun A' E' i va vb s2 m2 hA hp hz hn ha hb hk => ?_⟩
    · simp only [List.forIn_nil]
      exact wpAny_pure ⟨rfl, GxR.keeps_refl _⟩
    · exact wpAny_Name (wpAny_loadName_local kind (show scope.names.lookup y = some .local from two) hn hb ⟨⟨hp.1, va, vb, hp.2.symm, rfl⟩, GxR.keeps_refl _⟩) hd
  case rest =>
    intro g h5 tk5 gs bare hag hsz keep5 W gat
    rw [GxR.passing_true, List.length_range] at W
    have W1 := WalksS.of_in1 (A := X.A.in1) (WalksS.of_in1 (A := X.A.in1.in1) (WalksS.of_in1 (A := X.A.in1.in1.in1) W))
    have vals2 : ∀ i u, (∃ j, (List.range ts.length)[i]? = some j ∧ j < ts.length ∧ ∃ va vb, us j = #[va, vb] ∧ u = vb) → ∃ t, u = .int ((ps.map (·.2)).getD i 0) t := by
      rintro i u ⟨j, hj, lj, va, vb, e1, rfl⟩
      have li : i < ts.length := by
        have z := (List.getElem?_eq_some_iff.mp hj).1
        rw [List.length_range] at z
        exact z
      obtain rfl : i = j := by
        rw [List.getElem?_range li] at hj
        exact Option.some.inj hj
      obtain ⟨_, p2, va2, vb2, _, f2, f3, ⟨t, f4⟩, _⟩ := hus i li
      rw [f3] at e1
      have e3 : vb2 = u := by
        have z := congrArg Array.toList e1
        simpa using (List.cons.inj (List.cons.inj z).2).1
      refine ⟨t, ?_⟩
      rw [List.getD_eq_getElem?_getD, List.getElem?_map, f2, ← e3, f4]
      rfl
    refine Calls.spliced_nil (call_sum_walkS (W1.self 0 _ _ _ gat ⟨_, _, _, _, _, _, _, fun i => (ps.map (·.2)).getD i 0, rfl, W1, gat, fun b hb => ?_, vals2, fun j hj => ?_, fun s' t' moved => ?_⟩))
    · show b < h5.objs.size
      have e5 : h5.objs.size = g + 1 := hsz
      have g3 : h3.objs.size < g := hag
      rcases List.mem_cons.mp hb with z | z
      · rw [z, e5]
        exact Nat.lt_succ_self g
      · rcases List.mem_cons.mp z with z | z
        · rw [z, e5]
          exact Nat.lt_succ_of_lt g3
        · rw [e5]
          exact Nat.lt_succ_of_lt (Nat.lt_trans (List.mem_range.mp z) g3)
    · have lens : (ps.map (·.2)).length = ts.length := by rw [List.length_map, ← len]
      rw [preSum_getD]
      exact few (ps.map (·.2)) rfl j (by omega)
    · have old : ∀ b u, s1.heap.get? b = some u → b ∉ [h3.objs.size, s1.heap.objs.size] := fun b u e hb => by
        have l := Heap.lt_size e
        rcases List.mem_cons.mp hb with z | z
        · exact Nat.lt_asymm up (by rw [← z]; exact l)
        · rw [List.mem_singleton.mp z] at l
          exact Nat.lt_irrefl _ l
      have inv2 := GxR.inv_tab (more := more) (h' := s'.heap) (g' := s'.gens) (d' := s'.drawn) (t' := s'.toks) inv1 hP (fun b u nb e => moved.heap b u (old b u e) (keep5 b u (keep b u nb e))) (moved.heap P _ (old P _ at0) (keep5 P _ at3)) (AllBare.movedS (inv1.bare.push bare) moved)
      rw [GxR.sh_eta s1 s' moved.os] at inv2
      have lens : (ps.map (·.2)).length = ts.length := by rw [List.length_map, ← len]
      refine ⟨.int (ps.map (·.2)).sum, _, inv2, ⟨t', ?_⟩, q _ ⟨⟨_, upd_same, tri⟩, fun b nb => upd_ne nb⟩⟩
      rw [preSum_getD, ← lens, List.take_length]

end
end Lt

set_option Elab.async false
set_option linter.all false
set_option maxRecDepth 100000
set_option maxHeartbeats 4000000
/-! sorted(set(xs)), xs a list of texts: the set's own table is told all the while, so that it can be walked. -/
namespace Lt
open PySem PySem.Spec PyProof.Rows L2
def entryT (P : Program) (w : World) (z : Str) (t : Tok) : Int × Value := ((PySem.strKind P w).hash z, .str z t)
def textOf (e : Int × Value) : Str := match e.2 with
  | .str z _ => z
  | _ => Str.empty
/-- a set whose things are these texts, and how its table stands -/
structure TxtAt (P : Program) (w : World) (h : Heap) (a : Addr) (o : Obj) (es : Array (Int × Value)) (ep : Nat) (tb : SetTable) (zs : List Str) : Prop where
  here : h.get? a = some o
  kind : o.ExactSet
  data : o.data = .set es ep tb
  each : ∀ e ∈ es.toList, ∃ z t, e = entryT P w z t
  once : (es.toList.map textOf).Nodup
  mem : ∀ z, z ∈ es.toList.map textOf ↔ z ∈ zs
  small : es.size < scanBound
  fits : tb.fits es.size = true
  ris : Ris tb.place.toList
  led : w.params.followText "set-order" = true ∨ tb.led = true
def TxtSet (P : Program) (w : World) (h : Heap) (a : Addr) (zs : List Str) : Prop := ∃ o es ep tb, TxtAt P w h a o es ep tb zs
section
variable {P : Program} {w : World} {A : Around} {E : Value → Shared → Prop} {s : Shared} {a : Addr}
theorem elems_txt {es : List (Int × Value)} (h : ∀ e ∈ es, ∃ z t, e = entryT P w z t) : ElemsOf (PySem.strKind P w) es := fun e he => by
  obtain ⟨z, t, rfl⟩ := h e he
  exact ⟨⟨z, strKind_is P w z t, rfl⟩, rfl⟩
theorem TxtAt.few {h : Heap} {o : Obj} {es : Array (Int × Value)} {ep : Nat} {tb : SetTable} {zs : List Str} (x : TxtAt P w h a o es ep tb zs) : es.size ≤ zs.length := by
  have z := nodup_le x.once fun y hy => (x.mem y).mp hy
  rw [List.length_map] at z
  exact z
theorem TxtSet.keep {h h' : Heap} {zs : List Str} (x : TxtSet P w h a zs) (k : ∀ o, h.get? a = some o → h'.get? a = some o) : TxtSet P w h' a zs := by
  obtain ⟨o, es, ep, tb, y⟩ := x
  exact ⟨o, es, ep, tb, { y with here := k o y.here }⟩
/-- one text more: stored, and the table perhaps laid anew -/
theorem txt_store {o : Obj} {es : Array (Int × Value)} {ep : Nat} {tb : SetTable} (ho : s.heap.get? a = some o) (ex : o.ExactSet) (hd : o.data = .set es ep tb) {ns : Array (Int × Value)} {nt : SetTable} {zs : List Str}
    (each : ∀ e ∈ ns.toList, ∃ z t, e = entryT P w z t) (once : (ns.toList.map textOf).Nodup) (mem : ∀ z, z ∈ ns.toList.map textOf ↔ z ∈ zs) (small : ns.size < scanBound) (fits : nt.fits ns.size = true) (ris : Ris nt.place.toList)
    (led : w.params.followText "set-order" = true ∨ nt.led = true) {grow : Bool} {tell : Bool → Sem Unit} (quiet : ∀ (b : Bool) (s1 : Shared) (Q : Unit → Shared → Prop), Q () s1 → wpAny (model P w) A (tell b) Q E s1) {R : Option Bool → Shared → Prop}
    (hR : ∀ h', Heap.SameBut a s.heap h' → TxtSet P w h' a zs → R (some true) { s with heap := h' }) :
    wpAny (model P w) A (do
      storeSet a ns nt
      if grow = true then do
        tell (relayAll nt ns (SetTable.grown ns.size)).2.2
        storeSet a (relayAll nt ns (SetTable.grown ns.size)).1 (relayAll nt ns (SetTable.grown ns.size)).2.1
        pure (some true)
      else pure (some true)) R E s := by
  have at1 := store_at (es' := ns) (t' := nt) ho hd
  have but1 := Heap.SameBut.update s.heap a (Obj.putSet ns nt)
  refine wpAny_bind (wpAny_storeSet_of ho hd ?_ (fits_of_scanBound small))
  cases grow with
  | false =>
    rw [if_neg Bool.false_ne_true]
    exact wpAny_pure (hR _ but1 ⟨_, ns, _, nt, at1, ex, rfl, each, once, mem, small, fits, ris, led⟩)
  | true =>
    rw [if_pos rfl]
    have perm := relayAll_perm nt ns (SetTable.grown ns.size)
    have fits2 := relayAll_fits nt ns (SetTable.grown ns.size)
    have ris2 := relayAll_ris nt ns (SetTable.grown ns.size)
    have led2 := relayAll_led nt ns (SetTable.grown ns.size)
    have many : (relayAll nt ns (SetTable.grown ns.size)).1.size = ns.size := by
      have z := perm.length_eq
      rwa [Array.length_toList, Array.length_toList] at z
    refine wpAny_bind (quiet _ _ _ (wpAny_bind (wpAny_storeSet_of at1 rfl (wpAny_pure (hR _ (but1.trans (Heap.SameBut.update _ a _)) ⟨_, _, _, _, store_at at1 rfl, ex, rfl, fun e he => each e (perm.mem_iff.mp he), (perm.map textOf).nodup_iff.mpr once, fun z => ((perm.map textOf).mem_iff).trans (mem z), ?_, fits2, ris2, ?_⟩)) (fits_of_scanBound ?_))))
    · rw [many]
      exact small
    · rw [led2]
      exact led
    · rw [many]
      exact small
theorem txt_add {z : Str} {t : Tok} {zs : List Str} {Q : Bool → Shared → Prop} (x : TxtSet P w s.heap a zs) (room : zs.length + 1 < scanBound) (hQ : ∀ b h', Heap.SameBut a s.heap h' → TxtSet P w h' a (zs ++ [z]) → Q b { s with heap := h' }) :
    wpAny (model P w) A (setAddHashed a (.str z t) ((PySem.strKind P w).hash z)) Q E s := by
  obtain ⟨o, es, ep, tb, y⟩ := x
  have el := elems_txt y.each
  have few := y.few
  unfold setAddHashed setAddHashedIn
  refine wpAny_holding (wpAny_bind (wpAny_setState_of y.here y.data y.fits ?_))
  dsimp only
  rw [byScan_of (x := .str z t) rfl y.small el]
  simp only [↓reduceIte]
  unfold setAddByScan
  refine wpAny_bind (wpAny_bind (wpAny_rule (wpAny_bind (wpAny_setScan_of (strKind_is P w z t) y.here y.data y.fits el ?_))))
  cases found : es.toList.findIdx? (fun e => (PySem.strKind P w).is z e.2) with
  | some j =>
    obtain ⟨hj, isz, _⟩ := List.findIdx?_eq_some_iff_getElem.mp found
    have inz : z ∈ zs := by
      refine (y.mem z).mp (List.mem_map.mpr ⟨es.toList[j], List.getElem_mem hj, ?_⟩)
      obtain ⟨z2, t2, e2⟩ := y.each _ (List.getElem_mem hj)
      rw [e2] at isz ⊢
      have e3 : z2 = z := by
        have y : (PySem.strKind P w).is z (.str z2 t2) = true := isz
        simpa [PySem.strKind, Value.isStrOf] using y
      exact e3
    dsimp only
    refine wpAny_pure (wpAny_pure (hQ _ s.heap (Heap.SameBut.refl a s.heap) ⟨o, es, ep, tb, { y with mem := fun v => ?_ }⟩))
    rw [y.mem v, List.mem_append, List.mem_singleton]
    exact ⟨.inl, fun h => h.elim id fun e => by rw [e]; exact inz⟩
  | none =>
    have noz : z ∉ es.toList.map textOf := fun h => by
      obtain ⟨e, he, e2⟩ := List.mem_map.mp h
      obtain ⟨z2, t2, rfl⟩ := y.each e he
      have z3 : z2 = z := e2
      have c := List.findIdx?_eq_none_iff.mp found _ he
      rw [z3] at c
      have c1 : ¬ (PySem.strKind P w).is z (entryT P w z t2).2 = true := by simpa using c
      exact c1 (strKind_is P w z t2)
    have perm := layNew_perm tb es ((PySem.strKind P w).hash z) (.str z t)
    have fits1 := layNew_fits tb es ((PySem.strKind P w).hash z) (.str z t)
    have ris1 := layNew_ris tb es ((PySem.strKind P w).hash z) (.str z t) y.ris
    have led1 := layNew_led tb es ((PySem.strKind P w).hash z) (.str z t)
    generalize layNew tb es ((PySem.strKind P w).hash z) (.str z t) = Z at perm fits1 ris1 led1 ⊢
    obtain ⟨ns, nt, dummy, gave⟩ := Z
    dsimp only at perm fits1 ris1 led1 ⊢
    rw [Array.toList_push] at perm
    have perm2 : ns.toList.Perm (entryT P w z t :: es.toList) := perm.trans (List.perm_append_singleton _ _)
    have names : (ns.toList.map textOf).Perm (z :: es.toList.map textOf) := perm2.map textOf
    have many : ns.size = es.size + 1 := by
      have q := perm2.length_eq
      rwa [Array.length_toList, List.length_cons, Array.length_toList] at q
    have quiet : ∀ (b : Bool) (s1 : Shared) (Q : Unit → Shared → Prop), Q () s1 → wpAny (model P w) A (match b with | true => rule "set.scan.the-table-gave-way" | false => pure ()) Q E s1 := fun b s1 Q q => by
      cases b
      · exact wpAny_pure q
      · exact wpAny_rule q
    have each1 : ∀ e ∈ ns.toList, ∃ z t, e = entryT P w z t := fun e he => by
      rcases List.mem_cons.mp (perm2.mem_iff.mp he) with h | h
      · exact ⟨z, t, h⟩
      · exact y.each e h
    have once1 : (ns.toList.map textOf).Nodup := names.nodup_iff.mpr (List.nodup_cons.mpr ⟨noz, y.once⟩)
    have mem1 : ∀ v, v ∈ ns.toList.map textOf ↔ v ∈ zs ++ [z] := fun v => by
      rw [names.mem_iff, List.mem_cons, y.mem v, List.mem_append, List.mem_singleton]
      exact Or.comm
    have small1 : ns.size < scanBound := by omega
    have ledN : w.params.followText "set-order" = true ∨ nt.led = true := by
      rw [led1]
      exact y.led
    refine wpAny_bind (quiet _ _ _ ?_)
    have off : ∀ c : Bool, (if c = true then nt else { nt with plain := false }).fits ns.size = true ∧ Ris (if c = true then nt else { nt with plain := false }).place.toList ∧ (w.params.followText "set-order" = true ∨ (if c = true then nt else { nt with plain := false }).led = true) := fun c => by
      cases c with
      | true => exact ⟨fits1, ris1, ledN⟩
      | false => exact ⟨SetTable.fits_plain_off fits1, ris1, ledN⟩
    split
    · refine wpAny_bind ?_
      rw [hashByValue_scannable 8 (x := .str z t) rfl]
      refine wpAny_pure ?_
      obtain ⟨o1, o2, o3⟩ := off (plainKind (.str z t))
      exact txt_store y.here y.kind y.data each1 once1 mem1 small1 o1 o2 o3 quiet fun h' sb x => wpAny_pure (hQ true h' sb x)
    · refine wpAny_bind (wpAny_pure ?_)
      obtain ⟨o1, o2, o3⟩ := off true
      exact txt_store y.here y.kind y.data each1 once1 mem1 small1 o1 o2 o3 quiet fun h' sb x => wpAny_pure (hQ true h' sb x)
end
section
variable {prog : Program} {w : World} {A : Around} {R : Result → Shared → Prop} {I : Addr} {fp wr : List Addr} {G : Array GenState → Array GenState → Prop} {n : Nat} {P : Nat → Value → Prop} {St : Nat → Shared → Prop}
theorem txs_loop (W : WalksS prog w A.in1 I fp wr G n P St) (S : Addr) (off : S ∉ fp) (ss : List Str) (len : n = ss.length) (room : n + 1 < scanBound) (val : ∀ i v, P i v → ∃ z t, ss[i]? = some z ∧ v = .str z t) :
    ∀ (m i : Nat) (s : Shared), i + m = n → St i s → TxtSet prog w s.heap S (ss.take i) →
      (∀ s', Moved (S :: wr) G s s' → TxtSet prog w s'.heap S ss → R (.ok (.ret .none)) s') →
      codeAny (model prog w) A (.builtin "set.update.loop" ⟨[.ref S, .ref I], []⟩) R s := by
  have offW : S ∉ wr := fun h => off (W.sub _ h)
  have more : ∀ b ∈ wr, b ∈ S :: wr := fun b hb => .tail _ hb
  have carry : ∀ {s1 s2 : Shared} {zs : List Str}, Moved wr G s1 s2 → TxtSet prog w s1.heap S zs → TxtSet prog w s2.heap S zs := fun mv st => st.keep fun o e => mv.heap S _ offW e
  intro m
  induction m with
  | zero =>
    intro i s him st set done
    have hin : i = n := by omega
    subst hin
    refine codeAny_builtin F.entry_set_update_loop ?_
    rw [Around.under_plainId F.plain_set_update_loop _]
    show wpAny _ A.in1 (pyNext (.ref I) >>= _) _ _ s
    refine wpAny_bind (W.done s _ _ st fun s2 mv => ?_)
    rw [List.take_of_length_le (Nat.le_of_eq len.symm)] at set
    exact wpAny_pure (done s2 (mv.mono more) (carry mv set))
  | succ m ih =>
    intro i s him st set done
    refine codeAny_builtin F.entry_set_update_loop ?_
    rw [Around.under_plainId F.plain_set_update_loop _]
    show wpAny _ A.in1 (pyNext (.ref I) >>= _) _ _ s
    refine wpAny_bind (W.item i s _ _ (by omega) st fun v s2 pv st2 mv => ?_)
    obtain ⟨z, t, hz, rfl⟩ := val i v pv
    have isz : (PySem.strKind prog w).is z (.str z t) = true := strKind_is _ _ _ _
    have few : dist (ss.take i) ≤ i := Nat.le_trans (dist_le _) (by rw [List.length_take]; omega)
    have set2 := carry mv set
    show wpAny _ A.in1 (holding [Value.str z t] (setAdd S (.str z t)) >>= _) _ _ s2
    refine wpAny_bind (wpAny_holding ?_)
    unfold setAdd
    have e1 : ss.take (i + 1) = ss.take i ++ [z] := by
      rw [List.take_add_one, hz]
      rfl
    refine wpAny_holding (wpAny_bind ((PySem.strKind prog w).pyHash (k := z) isz (txt_add (s := { s2 with toks := s2.toks + 1 }) set2 (by rw [List.length_take]; omega) fun b0 h3 same set3 => ?_)))
    have set4 : TxtSet prog w h3 S (ss.take (i + 1)) := by
      rw [e1]
      exact set3
    have keep : ∀ b o, b ≠ S → s2.heap.get? b = some o → h3.get? b = some o := fun b o hb e => (same.2 b hb).trans e
    refine wpAny_pure ⟨plainId_quiet F.plain_set_update_loop _, ih (i + 1) _ (by omega) (W.frame _ s2 _ _ st2 (Nat.le_succ _) fun b hb o e => keep b o (fun h => off (h ▸ hb)) e) set4 fun s5 mv5 set5 => ?_⟩
    exact done s5 (Moved.trans W.gtrans ((mv.mono more).then_heap (Nat.le_succ _) fun b o hb e => keep b o (fun h => hb (h ▸ List.mem_cons_self)) e) mv5) set5
end
section
variable {prog : Program} {w : World} {A : Around} {E : Value → Shared → Prop} {s : Shared}
theorem set_led {v : Value} {Q : Value → Shared → Prop} (fill : wpAny (model prog w) A.in1.in1 (Builtin.«set.__init__» ⟨[.ref s.heap.objs.size, v], []⟩)
      (fun fin s' => match fin with
        | .done f => wants (fun r s2 => r = .none ∧ Q (.ref s.heap.objs.size) s2) E (.ok f) s'
        | .again c => c.quiet = true ∧ codeAny (model prog w) A.in1 c (wants (fun r s2 => r = .none ∧ Q (.ref s.heap.objs.size) s2) E) s')
      (fun e s' => wants (fun r s2 => r = .none ∧ Q (.ref s.heap.objs.size) s2) E (.error e) s')
      { s with heap := s.heap.push { cls := .type "set", dict := none, data := .set #[] 0 (.fresh 0 0 (!w.params.followText "set-order")) } }) : wpAny (model prog w) A (call (.type "set") [v]) Q E s := by
  have ft := PySem.F.called_set
  obtain ⟨c, tl, mro⟩ := ft.mro
  have made := ft.made
  have sub := ft.sub
  have notT := ft.notType
  have can := ft.canCreate
  have okT := PySem.F.typeCall_set_1 v
  refine wpAny_call (codeAny_of_tree (show wpAny _ _ (callAny (.type "set") _) _ _ _ from wpAny_pure ⟨Code.quiet_builtin _ (by decide +kernel), codeAny_builtin PySem.F.entry_type_call ?_⟩))
  rw [Around.under_plain (weight_type_call_type "set" [v] []) rfl]
  repeat (any_goals (first | assumption | wp_step))
  refine codeAny_mono (code_set_led1 v (E := E) (Q₁ := fun obj s1 => obj = .ref s.heap.objs.size ∧ s1 = { s with heap := s.heap.push { cls := .type "set", dict := none, data := .set #[] 0 (.fresh 0 0 (!w.params.followText "set-order")) } }) ⟨rfl, rfl⟩) fun r s1 got => ?_
  cases r with
  | error e => exact got
  | ok fl =>
    cases fl with
    | ret obj =>
      obtain ⟨rfl, rfl⟩ := got
      have isSet : Shared.TypeIs { s with heap := s.heap.push { cls := .type "set", dict := none, data := .set #[] 0 (.fresh 0 0 (!w.params.followText "set-order")) } } (.ref s.heap.objs.size) "set" := ⟨_, Heap.get?_push_size _ rfl, rfl⟩
      have look := ft.init.lookup
      have bound := ft.init.bind (.ref s.heap.objs.size)
      repeat (any_goals (first | assumption | wp_step))
      refine codeAny_mono (codeAny_call_builtin ft.init.plain PySem.F.entry_set_init (check_set_init_1 isSet fill)) fun r2 s2 got2 => ?_
      cases r2 with
      | error e => exact got2
      | ok fl2 =>
        cases fl2 with
        | ret r =>
          obtain ⟨rfl, q⟩ := got2
          repeat (any_goals (first | assumption | wp_step))
        | _ => exact got2.elim
    | _ => exact got.elim
theorem set_txs {l : Addr} {items : Array Value} {ss : List Str} {Q : Value → Shared → Prop} (calm : A.handled = none) (hl : s.heap.IsList l items) (val : ∀ (i : Nat) (v : Value), items[i]? = some v → ∃ z t, ss[i]? = some z ∧ v = .str z t)
    (len : items.size = ss.length) (room : items.size + 1 < scanBound)
    (h : ∀ (h' : Heap) (tk : Nat), TxtSet prog w h' s.heap.objs.size ss → (∀ b o, s.heap.get? b = some o → h'.get? b = some o) → Q (.ref s.heap.objs.size) { s with heap := h', toks := tk }) :
    wpAny (model prog w) A (call (.type "set") [.ref l]) Q E s := by
  refine set_led ?_
  have below : (l : Nat) < s.heap.objs.size := by
    obtain ⟨o, ho, _⟩ := hl
    exact Heap.lt_size ho
  have atS : (s.heap.push { cls := .type "set", dict := none, data := .set #[] 0 (.fresh 0 0 (!w.params.followText "set-order")) }).get? s.heap.objs.size = some { cls := .type "set", dict := none, data := .set #[] 0 (.fresh 0 0 (!w.params.followText "set-order")) } := Heap.get?_push_size _ rfl
  have hl1 : (s.heap.push { cls := .type "set", dict := none, data := .set #[] 0 (.fresh 0 0 (!w.params.followText "set-order")) }).IsList l items := hl.push _
  obtain ⟨⟨oc, od, odt, osl⟩, ho1, hc1, n1, hd1⟩ := id hl1
  simp only at hc1 hd1
  subst hc1 hd1
  have no1 := PySem.F.sub_list_set
  have no2 := PySem.F.sub_list_frozenset
  have no3 : (Value.type "list" == Value.type "dict") = false := by decide
  unfold Builtin.«set.__init__» noKeywords Builtin.Frozenset.updateFrom
  generalize hPI : pyIter = PI
  wp_walk
  subst hPI
  refine wpAny_pyIter_list hl1 (wpAny_bind (wpAny_runValue ?_))
  have top1 : (s.heap.push { cls := .type "set", dict := none, data := .set #[] 0 (.fresh 0 0 (!w.params.followText "set-order")) }).objs.size = s.heap.objs.size + 1 := Heap.size_push _ _
  have calm3 : A.in1.in1.in1.handled = none := by simp [calm]
  have neI : l ≠ (s.heap.push { cls := .type "set", dict := none, data := .set #[] 0 (.fresh 0 0 (!w.params.followText "set-order")) }).objs.size := by
    rw [top1]
    exact Nat.ne_of_lt (Nat.lt_succ_of_lt below)
  have offS : s.heap.objs.size ∉ [(s.heap.push { cls := .type "set", dict := none, data := .set #[] 0 (.fresh 0 0 (!w.params.followText "set-order")) }).objs.size, l] := by
    rw [top1]
    intro z
    rcases List.mem_cons.mp z with e | e
    · exact Nat.succ_ne_self _ e.symm
    · exact absurd (List.mem_singleton.mp e) (Nat.ne_of_gt below)
  refine txs_loop ((Walks.list calm3 _ l neI items).toS) s.heap.objs.size offS ss len room val items.size 0 _ (Nat.zero_add _) ⟨⟨_, Heap.get?_push_size _ rfl, rfl, rfl⟩, hl1.push _⟩ ?empty ?filled
  case empty =>
    refine ⟨_, #[], 0, _, Heap.get?_push_of_some _ atS, ⟨rfl, rfl, rfl⟩, rfl, (fun e he => nomatch he), List.nodup_nil, fun z => Iff.rfl, by unfold scanBound; decide, rfl, List.Pairwise.nil, ?_⟩
    show _ ∨ (!w.params.followText "set-order") = true
    cases w.params.followText "set-order"
    · exact .inr rfl
    · exact .inl rfl
  case filled =>
    intro s5 mv set5
    obtain ⟨h5, g5, d5, tk5, os5⟩ := s5
    obtain rfl : g5 = s.gens := mv.gens
    obtain rfl : d5 = s.drawn := mv.drawn
    obtain rfl : os5 = s.os := mv.os
    show wpAny _ _ _ _ _ _
    refine wpAny_pure (show wpAny _ _ (ret Value.none) _ _ _ from wpAny_pure ⟨rfl, h h5 tk5 set5 fun b o e => ?_⟩)
    have lt : b < s.heap.objs.size := Heap.lt_size e
    refine mv.heap b o (fun z => ?_) (Heap.get?_push_of_some _ (Heap.get?_push_of_some _ e))
    rcases List.mem_cons.mp z with e2 | e2
    · exact absurd e2 (Nat.ne_of_lt lt)
    · rw [List.mem_singleton.mp e2, top1] at lt
      exact absurd lt (Nat.not_lt.mpr (Nat.le_succ _))
end
section
variable {X : Cx}
def tSortSet (K : PySem.W.Frag) (ta : TE) : TE := fun σ H Q => ta σ H fun x H1 => ∃ (l : Addr) (ss : List Str), x = .ref l ∧ SqL K H1 l (ss.map V.str) ∧ ss.length < 64 ∧ ∀ (ys : List Str) (p : Addr), sortedS ys = true → ys.Nodup → (∀ z, z ∈ ys ↔ z ∈ ss) → H1 p = none → Q (.ref p) (upd H1 p (.lst (ys.map V.str)))
theorem pe_sortSet {a : Expr} {ta : TE} {p p2 q pos : Pos} (hcalm : X.calm = true) (g1 : Gl X "sorted") (m1 : X.mg "sorted" = none) (g2 : Gl X "set") (m2 : X.mg "set" = none) (ha : PE X a ta)
    (one : starEach [a] X.env = (false, eval a X.env) :: starEach [] X.env := by rfl) : PE X (.Call (.Name "sorted" p) [.Call (.Name "set" p2) [a] [] q] [] pos) (tSortSet X.K ta) := by
  have bs : bootBuiltins ("sorted" : Str) = some (.builtin "sorted") := by decide +kernel
  refine ⟨fun pins s σ H Q inv h => Call_ (ld_blt inv g1 m1 bs (callWith_builtin1 (args_cons ?_ rfl) rfl rfl))⟩
  refine Call_ (ld_blt inv g2 m2 boot_set (callWith_type1 (args_cons (thn (ha.run pins s σ H _ inv h) fun v s1 ⟨x, H1, inv1, rel, l, ss, ev, sq, few, q1⟩ => args_nil ?_) one) one rfl))
  subst ev
  cases rel
  obtain ⟨its, vals, pl, _⟩ := inv1.list sq
  have len : its.toArray.size = ss.length := by rw [List.size_toArray, ← vals.length, List.length_map]
  refine set_txs (ss := ss) (inv1.ok.hd hcalm) pl.isList (fun i v e => ?_) len (by rw [len]; unfold scanBound; omega) fun h' tk set kept => args_nil ?_
  · have e' : its[i]? = some v := by simpa using e
    have hi : i < ss.length := by
      have z := (List.getElem?_eq_some_iff.mp e').1
      rw [← len, List.size_toArray]
      exact z
    obtain ⟨u, g3, t, g4⟩ := vals.get (i := i) (x := .str ss[i]) (by simp [hi])
    rw [e'] at g3
    cases g3
    exact ⟨ss[i], t, List.getElem?_eq_getElem hi, g4⟩
  · obtain ⟨o, es, ep, tb, y⟩ := set
    have inv2 : Inv X pins σ H1 { s1 with heap := h', toks := tk } := inv1.kept kept
    refine Calls.call_function_entry kind_sorted plain_sorted entry_sorted (args_sorted1 _) (wpAny_bind (m := checkCount "sorted" 1 1 _) (wpAny_pure
      (wpAny_bind (collect_set (A := X.A.in1) (inv1.ok.hd hcalm) ⟨o, y.here, y.kind.1, y.data⟩ y.fits y.small y.ris y.led fun s3 out keep3 grow3 gens3 os3 perm3 => ?_))))
    have form : ∀ v ∈ out, ∃ z t, v = .str z t ∧ textOf (0, v) = z := fun v hv => by
      obtain ⟨e, he, e2⟩ := List.mem_map.mp (perm3.mem_iff.mp hv)
      obtain ⟨z, t, rfl⟩ := y.each e he
      exact ⟨z, t, e2.symm, by rw [← e2]; rfl⟩
    have rels : Vals ((out.map fun v => textOf (0, v)).map V.str) out := by
      have key : ∀ l : List Value, (∀ v ∈ l, ∃ z t, v = .str z t ∧ textOf (0, v) = z) → Vals ((l.map fun v => textOf (0, v)).map V.str) l := by
        intro l
        induction l with
        | nil => exact fun _ => .nil
        | cons v r ih =>
          intro h
          obtain ⟨z, t, e1, e2⟩ := h v List.mem_cons_self
          refine .cons ?_ (ih fun u hu => h u (List.mem_cons_of_mem _ hu))
          show RelV (V.str (textOf (0, v))) v
          rw [e2, e1]
          exact ⟨t, rfl⟩
      exact key out form
    have names : (out.map fun v => textOf (0, v)).Perm (es.toList.map textOf) := by
      have z := perm3.map fun v => textOf (0, v)
      rw [List.map_map] at z
      exact z
    have few2 : out.length < 64 := by
      have z : out.length = es.size := perm3.length_eq.trans ((List.length_map ..).trans Array.length_toList)
      have z2 := y.few
      exact Nat.lt_of_le_of_lt (by rw [z]; exact z2) few
    have txt : StrsAre out (out.map fun v => textOf (0, v)) := rels.strs
    have fitsO : out.length ≤ sizeLine := small64 few2
    refine wpAny_bind (wpAny_newList ?_ fitsO)
    have lst : (s3.heap.push (seqObj "list" out.toArray 0)).get? s3.heap.objs.size = some (seqObj "list" out.toArray 0) := Heap.get?_push_size _ rfl
    refine wpAny_bind (wpAny_holding (wpAny_call_entry slot_list_sort ⟨_, lst, rfl⟩ entry_list_sort (list_sort_treeK strKind_oneLt (s := { s3 with heap := s3.heap.push (seqObj "list" out.toArray 0) }) lst txt.keysOf
      (fun v1 v2 rest e => keyKind_strs (by rw [← e]; exact txt)) few2 fun st perm ord => ⟨_, rfl, ?_⟩) (args_list_sort _)))
    obtain ⟨ys, are, permS, ordS⟩ := sorted_out_str txt perm ord
    obtain ⟨ep5, at5⟩ := sortedHeap_at (vs := out) (out := (arrOf st).map (·.2)) lst
    have lys : (ys.map V.str).length ≤ sizeLine := by
      rw [List.length_map, permS.length_eq, List.length_map]
      exact small64 few2
    have fresh : s1.heap.objs.size ≤ s3.heap.objs.size := by
      have z := Heap.lt_size y.here
      exact Nat.le_trans (Nat.le_of_lt z) grow3
    have stay : ∀ b u, h'.get? b = some u → (sortedHeap (s3.heap.push (seqObj "list" out.toArray 0)) s3.heap.objs.size out ((arrOf st).map (·.2))).get? b = some u := fun b u e => by
      have e3 := keep3 b u e
      have lt : b < s3.heap.objs.size := Heap.lt_size e3
      rw [sortedHeap_old (Nat.ne_of_lt lt) (by rw [size_push']; exact Nat.lt_succ_of_lt lt)]
      exact Heap.get?_push_of_some _ e3
    have new : H1 s3.heap.objs.size = none := inv2.hok.fresh grow3
    refine wpAny_pure ⟨_, rfl, .ref s3.heap.objs.size, upd H1 s3.heap.objs.size (.lst (ys.map V.str)), ?_, rfl, q1 ys _ ordS ((permS.trans names).nodup_iff.mpr y.once) (fun z => ((permS.trans names).mem_iff).trans (y.mem z)) new⟩
    refine inv2.call' (ch := []) os3 (Un.laid stay grow3 new) (inv2.hok.laid stay grow3 (show ObjOk X.prog X.w _ _ _ (.lst (ys.map V.str)) from ⟨lys, _, ep5, vals_of_strs are, by rw [Array.toArray_toList]; exact at5⟩)) ?_ fun _ z => nomatch z
    show AllBare s3.gens
    rw [gens3]
    exact inv2.bare
end
end Lt

set_option Elab.async false
set_option linter.all false
set_option maxRecDepth 100000
set_option maxHeartbeats 4000000
namespace Lt
open PySem PySem.Spec PyProof.Rows L2
/-! ### wants, as data -/
def wholeD : PyData → Bool
  | .int _ => true
  | _ => false
def fewD : PyData → Bool
  | .int k => decide (1 ≤ k) && decide (k ≤ 4)
  | _ => false
def wantD : PyData → Bool
  | .tuple [n, m] => nameD n && fewD m
  | _ => false
def pairs_ (ds : List PyData) : List (Str × Int) := ds.filterMap fun d => match d with
  | .tuple [.str z, .int k] => some (z, k)
  | _ => none
def wantsD : PyData → Bool
  | .tuple ds => decide (1 ≤ ds.length) && decide (ds.length ≤ 5) && ds.all wantD && decide (((pairs_ ds).map (·.1)).Pairwise ltS) && decide (((pairs_ ds).map (·.2)).sum ≤ 7)
  | _ => false
theorem wantsD_tup (ds : List PyData) : wantsD (.tuple ds) = (decide (1 ≤ ds.length) && decide (ds.length ≤ 5) && ds.all wantD && decide (((pairs_ ds).map (·.1)).Pairwise ltS) && decide (((pairs_ ds).map (·.2)).sum ≤ 7)) := rfl
theorem wants_no {d : PyData} (h : ∀ ds, d ≠ .tuple ds) : wantsD d = false := by
  cases d with
  | tuple ds => exact absurd rfl (h ds)
  | _ => rfl
theorem want_no {d : PyData} (h : ∀ ds, d ≠ .tuple ds) : wantD d = false := by
  cases d with
  | tuple ds => exact absurd rfl (h ds)
  | _ => rfl
theorem want_two {ds : List PyData} (h : ds.length ≠ 2) : wantD (.tuple ds) = false := by
  match ds, h with
  | [], _ => rfl
  | [_], _ => rfl
  | [_, _], h => exact absurd rfl h
  | _ :: _ :: _ :: _, _ => rfl
theorem few_int {d : PyData} (h : fewD d = true) : ∃ k : Int, d = .int k ∧ 1 ≤ k ∧ k ≤ 4 := by
  cases d with
  | int k =>
    have z : (decide (1 ≤ k) && decide (k ≤ 4)) = true := h
    rw [Bool.and_eq_true] at z
    exact ⟨k, rfl, of_decide_eq_true z.1, of_decide_eq_true z.2⟩
  | _ => cases h
theorem want_is {d : PyData} (h : wantD d = true) : ∃ (z : Str) (k : Int), d = .tuple [.str z, .int k] ∧ nameD (.str z) = true ∧ 1 ≤ k ∧ k ≤ 4 := by
  cases d with
  | tuple ds =>
    match ds, h with
    | [n, m], h =>
      have y : (nameD n && fewD m) = true := h
      rw [Bool.and_eq_true] at y
      obtain ⟨z, rfl⟩ := name_str y.1
      obtain ⟨k, rfl, k1, k2⟩ := few_int y.2
      exact ⟨z, k, rfl, y.1, k1, k2⟩
  | _ => cases h
theorem pairs_all : ∀ {ds : List PyData}, (∀ d ∈ ds, wantD d = true) → ds = (pairs_ ds).map fun p => .tuple [.str p.1, .int p.2]
  | [], _ => rfl
  | d :: r, h => by
    obtain ⟨z, k, rfl, _⟩ := want_is (h d List.mem_cons_self)
    have ih := pairs_all fun d hd => h d (List.mem_cons_of_mem _ hd)
    show _ = PyData.tuple [.str z, .int k] :: (pairs_ r).map _
    rw [← ih]
theorem pairs_want {ds : List PyData} (h : ∀ d ∈ ds, wantD d = true) : ∀ p ∈ pairs_ ds, nameD (.str p.1) = true ∧ 1 ≤ p.2 ∧ p.2 ≤ 4 := fun p hp => by
  have e := pairs_all h
  have m : (PyData.tuple [.str p.1, .int p.2]) ∈ ds := by
    rw [e]
    exact List.mem_map.mpr ⟨p, hp, rfl⟩
  obtain ⟨z, k, e2, h1, h2, h3⟩ := want_is (h _ m)
  cases e2
  exact ⟨h1, h2, h3⟩
theorem name_ok {z : Str} (h : nameD (.str z) = true) : PyData.strOk z = true := by
  rw [nameD_str] at h
  rw [Bool.and_eq_true] at h
  show z.cps.all (fun c => decide (c < 0x110000)) = true
  rw [Array.all_eq_true']
  intro c hc
  have y := List.all_eq_true.mp h.2 c (by simpa using hc)
  unfold small at y
  rw [Bool.and_eq_true] at y
  have y2 := of_decide_eq_true y.2
  exact decide_eq_true (by omega)
theorem rise_iff {l ys : List Str} (so : sortedS ys = true) (nd : ys.Nodup) (m : ∀ z, z ∈ ys ↔ z ∈ l) : decide (l = ys) = decide (l.Pairwise ltS) := by
  rw [decide_eq_decide]
  constructor
  · rintro rfl
    have p := sorted_pw so
    exact (p.and nd).imp fun {a b} h => Classical.byContradiction fun c => h.2 (ltS_tri c h.1)
  · intro p
    have nl : l.Nodup := p.imp fun {a b} (h : ltS a b) (e : a = b) => ltS_irrefl a (by rw [← e] at h; exact h)
    have q : l.Perm ys := (List.perm_ext_iff_of_nodup nl nd).mpr fun z => (m z).symm
    exact sorted_one (pw_sorted p) so q
end Lt
namespace Lt
open PySem L2
theorem bl_same2 {p : Prop} [Decidable p] (h : p) : V.bl (!decide p) = V.bl false := by
  rw [decide_eq_true h]
  rfl
theorem bl_not2 {p : Prop} [Decidable p] (h : ¬ p) : V.bl (!decide p) = V.bl true := by
  rw [decide_eq_false h]
  rfl
end Lt

set_option Elab.async false
set_option linter.all false
set_option maxRecDepth 100000
set_option maxHeartbeats 4000000
/-! f(k = v, ..): keywords alone, in the parameters' order or backward. -/
namespace Lt
open PySem PySem.Spec PyProof.Rows L2
def turnK {α : Type} (b : Bool) (l : List α) : List α := if b = true then l.reverse else l
theorem vals_turn {b : Bool} {vs : List V} {us : List Value} (h : Vals vs us) : Vals (turnK b vs) (turnK b us) := by
  cases b with
  | false => exact h
  | true => exact Vals.reverse h
def HasK (P : Program) (w : World) (K : PySem.W.Frag) (mg : Str → Option Value) (base : Heap) (k : Nat) (x : Str) (ps : List Str) (b : Bool) (sp : Sp) : Prop :=
  ∃ (f : Addr) (fd : FuncData), FnOk P w K mg base CX0 k f fd ps sp ∧ mg x = some (.ref f) ∧ PySem.W.keepIn K (.ref f) = true ∧ ∀ (s : Shared) (ws : List Value), ws.length = ps.length → BindsTo s fd ⟨[], (turnK b ps).zip ws⟩ (ps.zip (turnK b ws))
section
variable {X : Cx}
def tKw (b : Bool) (n : Nat) (sp : Sp) (tk : TA) : TE := fun σ H Q => tk σ H fun zs H1 => zs.length = n ∧ sp (turnK b zs) H1 Q E0
theorem pe_kw {k j : Nat} {x : Str} {ps : List Str} {b : Bool} {sp : Sp} {kws : List Keyword} {p pos : Pos} {tk : TA} (c : HasK X.prog X.w X.K X.mg X.base k x ps b sp) (hr : Room j X.A) (hk : k ≤ j) (hg : Gl X x) (hkw : PK X kws tk)
    (hall : (backToKw pos (keywordEach kws X.env)).all (·.1.isSome) = true := by rfl) (hks : (backToKw pos (keywordEach kws X.env)).filterMap (·.1) = turnK b ps := by rfl) (hdb : (x == ("__debug__" : Str)) = false := by decide)
    (hpl : ((backTo pos (starEach [] X.env)).any (·.1) || (backToKw pos (keywordEach kws X.env)).any (·.1.isNone)) = false := by rfl) :
    PE X (.Call (.Name x p) [] kws pos) (tKw b ps.length sp tk) := by
  obtain ⟨f, fd, F, m, kp, bd⟩ := c
  have lp : (turnK b ps).length = ps.length := by
    cases b
    · rfl
    · exact List.length_reverse
  refine ⟨fun pins s σ H Q I h => wpAny_Call_Name_kw (ld_glob I hg m (PySem.W.callWith_KW0 (h₀ := X.base) I.ok.mod.kin kp hall (thn (hkw.run pos pins s σ H _ I h) fun ws s2 ⟨zs, H2, I2, rz, lz, q2⟩ => ⟨I2.kIn, ?_⟩) hpl) hdb)⟩
  rw [hks]
  refine run_fnN (n := 0) (ks := turnK b ps) (g := fun _ ws => turnK b ws) (gV := fun _ zs => turnK b zs) F (hr.mono hk) ⟨fun s us ws _ l1 l2 => ?_, fun _ r => vals_turn r⟩ pass0 I2 (vs := []) (us := []) .nil rz rfl (by rw [lp]; exact lz) q2
  rw [List.eq_nil_of_length_eq_zero l1]
  exact bd s ws (by rw [l2, lp])
end
end Lt

set_option Elab.async false
set_option linter.all false
set_option maxRecDepth 100000
set_option maxHeartbeats 4000000
/-! a tuple times a number, one among them -/
namespace Lt
open PySem PySem.Spec PyProof.Rows L2
theorem mul_one_tup (l : Addr) (items : Array Value) (n : Nat) (sl : Array (Option Value)) (dd : Option Addr) (u : Tok) (some_ : items.isEmpty = false) :
    Meets (Builtin.«tuple.__mul__» ⟨[.ref l, .int 1 u], []⟩) (fun _ R s => s.heap.get? l = some { cls := .type "tuple", dict := dd, data := .seq items n, slots := sl } ∧ R (.ok (.ret (Value.ref l))) s) :=
  .of_wp fun prog w A R s h => by
    obtain ⟨hp, g, d, tk, os⟩ := s
    obtain ⟨hl, h⟩ := h
    have f1 := AutoSeq1.idx_int
    have c1 : (items.isEmpty || (1 : Int) == 1) = true := by rw [some_]; rfl
    wp_walk using AutoSeq1.wpAny_loadPart' hl
    repeat (first
      | (refine wpAny_ite_true (decide_eq_true c1) ?_; wp_walk using AutoSeq1.wpAny_loadPart' hl))
    exact ⟨_, rfl, h⟩
section
variable {X : Cx}
def rRepY (K : PySem.W.Frag) : R2 := fun x y H Q => ∃ (l : Addr) (k : Nat) (xs : List V), x = .ref l ∧ y = natV k ∧ SqT K H l xs ∧ xs ≠ [] ∧ 1 ≤ k ∧ k ≤ 1000 ∧ xs.length ≤ 1000 ∧ ∀ (p : Addr) (H' : Hp), Same H H' → SqT K H' p (List.replicate k xs).flatten → Q (.ref p) H'
theorem op_repY : OpR X (binaryOp .Mult) (rRepY X.K) := by
  rintro pins s σ H x y v u Q I rx ry ⟨l, k, xs, rfl, rfl, hT, ne, k1, k2, lx, q⟩
  by_cases one : k = 1
  · subst one
    have q1 := q l H (fun _ _ h => h) (by rw [List.replicate_one, List.flatten_cons, List.flatten_nil, List.append_nil]; exact hT)
    cases rx
    obtain ⟨t, rfl⟩ := ry
    obtain ⟨its, r, ⟨⟨cls, dd, data, sl⟩, ho, hc, n, hd⟩, hs⟩ := I.tuple hT
    simp only at hc hd
    subst hc hd
    have full : its.toArray.isEmpty = false := by
      have z := r.length
      cases its with
      | nil => exact absurd (List.eq_nil_of_length_eq_zero z) ne
      | cons a b => rfl
    exact wpAny_binaryOp_repeat_ref (T := "tuple") (U := "int") (by decide) ⟨_, ho, rfl⟩ (fun s' => typeIs_int s' 1 t) noFill_tuple_mul F.fills_int_mul F.slot_int_rmul repeat_tuple F.slot_int_index.lookup
      (call_meets F.slot_int_rmul (typeIs_int s 1 t) F.entry_int_rmul (F.args_int_rmul_2 _ _) (int_rmul_tuple 1 t l its.toArray n dd sl)
        ⟨ho, rfl, ⟨_, ho, rfl⟩, call_meets F.slot_tuple_mul ⟨_, ho, rfl⟩ F.entry_tuple_mul (F.args_tuple_mul_2 _ _) (mul_one_tup l its.toArray n sl dd t full) ⟨ho, .ref l, H, I, rfl, q1⟩⟩)
  · exact op_repT pins s σ H _ _ v u Q I rx ry ⟨l, (k : Int), xs, rfl, rfl, hT, ne, by omega, by omega, lx, fun p hp => by
      rw [Int.toNat_natCast]
      exact q p _ (same_new hp _) (sqt upd_same)⟩
end
end Lt

set_option Elab.async false
set_option linter.all false
set_option maxRecDepth 100000
set_option maxHeartbeats 4000000
namespace Lt
open PySem PySem.Spec PyProof.Rows L2
section
variable {P : Program} {w : World} {K : PySem.W.Frag} {mg : Str → Option Value} {base : Heap} {X : Cx}
def top (i : Nat) : Stmt := PySem.Challenge.pw_laidontop_k11_written_cases_and_names.main.body.getD i (.Pass ⟨0, 0, 0, 0⟩)
abbrev sIsName : Stmt := top 2
abbrev sWhole : Stmt := top 3
abbrev sIsPile : Stmt := top 6
abbrev sBehind : Stmt := top 7
abbrev sLifted : Stmt := top 8
abbrev sPassings : Stmt := top 9
abbrev sLaid : Stmt := top 10
abbrev sAbove : Stmt := top 11
abbrev sPairs : Stmt := top 12
abbrev sAsPair : Stmt := top 13
abbrev sReadBy : Stmt := top 15
abbrev sUndone : Stmt := top 16
abbrev sPilesFor : Stmt := top 17
abbrev sFew : Stmt := top 18
abbrev sLiftable : Stmt := top 19
abbrev sPut : Stmt := top 20
abbrev sOrdersOf : Stmt := top 21
abbrev sAreWants : Stmt := top 26
abbrev sFarP : Stmt := top 27
abbrev sFarL : Stmt := top 28
abbrev sEach : Stmt := top 29
abbrev sDayP : Stmt := top 30
abbrev sIsWant : Stmt := top 31
abbrev sRise : Stmt := top 32
abbrev sSettled : Stmt := top 33
abbrev sMost : Stmt := top 35
abbrev sLeast : Stmt := top 36
abbrev sMostP : Stmt := top 37
abbrev sAmounts : Stmt := top 38
abbrev sMostDay : Stmt := top 39
abbrev sLeastDay : Stmt := top 40
abbrev sDraw : Stmt := top 42
abbrev sLike : Stmt := top 43
abbrev sThree : Stmt := top 44
abbrev sTwoR : Stmt := top 45
abbrev sLaw : Stmt := top 46
theorem scDraw : FnScope ["tape", "many", "prime", "cell", "found"] ["tape", "many"] (defScope sDraw) := ⟨rfl, rfl, rfl, by decide +kernel, rfl, by decide +kernel, by decide +kernel⟩
theorem ok_draw {f : Addr} {fd : FuncData} (F : Fun K "_law_draw" "_law_draw" sDraw f fd) (ml : mg "len" = none) : FnOk P w K mg base CX0 1 f fd ["tape", "many"] spDraw := by
  refine F.ok scDraw (fun vs H Q E h => ?_) (fun cdv A outer s H vs Q E hr h => ?_)
  · obtain ⟨T, S, ns, m, rfl, _⟩ := h
    rfl
  obtain ⟨T, S, ns, m, rfl, tp, m0, m1, q⟩ := h
  obtain ⟨i, c, hT⟩ := tp.at_
  have hS := tp.scr
  refine ⟨_, pss_cons (ps_set (i := 2) scDraw.nd rfl (.inl rfl) pe_int)
    (Evl.pss_cut (ps_if (pt_cmpR op_lt (pe_ix ix_list (pv 0) pe_int (fun _ _ => rfl)) (pv 1) (nomark _))
      (pss_cons (ps_set (i := 3) scDraw.nd rfl (.inl rfl) pe_int)
      (Evl.pss_cut (ps_if (pt_cmpR op_gt (pe_callB call_len_seq (by rfl) ml PySem.boot_len (pa_cons (pe_ix ix_list (pv 0) pe_int (fun _ _ => rfl)) pa_nil)) pe_int (nomark _))
        (pss_one (ps_set (i := 3) scDraw.nd rfl (.inl rfl) (pe_ix ix_list (pe_ix ix_list (pv 0) pe_int (fun _ _ => rfl))
          (pe_op op_mod (pe_ix ix_list (pv 0) pe_int (fun _ _ => rfl)) (pe_callB call_len_seq (by rfl) ml PySem.boot_len (pa_cons (pe_ix ix_list (pv 0) pe_int (fun _ _ => rfl)) pa_nil))) (fun _ _ => rfl)))) pss_nil)
      (Evl.pss_cut (ps_if (PW.pt (pw_or (pt_cmpR op_ge (pe_ix ix_list (pv 0) pe_int (fun _ _ => rfl)) (pe_callB call_len_seq (by rfl) ml PySem.boot_len (pa_cons (pe_ix ix_list (pv 0) pe_int (fun _ _ => rfl)) pa_nil)) (nomark _))
          (pw_or1 (pt_cmpR op_lt (pv 3) (pe_op op_pow pe_int pe_int) (nomark _)))))
        (pss_cons (ps_set (i := 3) scDraw.nd rfl (.inl rfl) (pe_op op_mod (pe_op op_add (pv 3) (pe_op op_mul pe_int (pe_ix ix_list (pv 0) pe_int (fun _ _ => rfl)))) (pv 2)))
        (pss_cons (ps_set (i := 3) scDraw.nd rfl (.inl rfl) (pe_op op_mod (pe_op op_add (pe_op op_add (pe_op op_mul (pv 3) (pv 3)) (pe_op op_mul pe_int (pv 3))) pe_int) (pv 2)))
        (pss_one (ps_set (i := 3) scDraw.nd rfl (.inl rfl) (pe_op op_mod (pe_op op_add (pe_op op_mul (pv 3) (pv 3)) pe_int) (pv 2)))))) pss_nil)
      (pss_cons (ps_asg (pe_op op_add (pe_ix ix_list (pv 0) pe_int (fun _ _ => rfl)) pe_int) (pg_sub (pv 0) pe_int set_list))
      (pss_one (ps_asg (pv 3) (pg_sub (pv 0) pe_int set_list))))))) pss_nil)
    (pss_cons (ps_set (i := 4) scDraw.nd rfl (.inl rfl) (pe_op op_mod (pe_ix ix_list (pv 0) pe_int (fun _ _ => rfl)) (pv 1)))
    (pss_cons (ps_asg (pe_op op_fdivW (pe_ix ix_list (pv 0) pe_int (fun _ _ => rfl)) (pv 1)) (pg_sub (pv 0) pe_int set_list))
    (pss_one (ps_ret (pv 4)))))), ?_⟩
  have lenE : ((ns.map V.int).length : Int) = ns.length := by rw [List.length_map]
  refine ⟨fun σ H' => ∃ (y3 : Option V) (i' c' : Int), σ = [some (.ref T), some (.int m), some (.int 2305843009213693951), y3, none] ∧ H' = upd H T (.lst [.ref S, .int i', .int c']), ?_, ?_⟩
  · refine ⟨_, rfl, T, _, 2, _, rfl, rfl, sql hT, rfl, _, rfl, _, _, rfl, rfl, _, rfl, ite2 (fun _ => ?_) (fun _ => ?_)⟩
    · -- the cell
      refine ⟨fun σ H' => ∃ c0 : Int, σ = [some (.ref T), some (.int m), some (.int 2305843009213693951), some (.int c0), none] ∧ H' = H, ?_, ?_⟩
      · refine ⟨_, rfl, T, _, 0, _, rfl, rfl, sql hT, rfl, S, _, rfl, .inl (sql hS), _, _, rfl, rfl, _, rfl, ite2 (fun g => ?_) (fun _ => ?_)⟩
        · have g1 : (0 : Int) < ((ns.map V.int).length : Int) := of_decide_eq_true g
          rw [lenE] at g1
          have e0 : 0 ≤ i % (ns.length : Int) := Int.emod_nonneg _ (by omega)
          have e1 : i % (ns.length : Int) < (ns.length : Int) := Int.emod_lt_of_pos _ g1
          have hk : (i % (ns.length : Int)).toNat < ns.length := by omega
          refine ⟨_, rfl, T, _, 0, _, rfl, rfl, sql hT, rfl, _, rfl, T, _, 1, _, rfl, rfl, sql hT, rfl, _, rfl, T, _, 0, _, rfl, rfl, sql hT, rfl, S, _, rfl, .inl (sql hS), _, _, rfl, rfl, ?_, S, _, _, .int ns[(i % (ns.length : Int)).toNat], rfl, rfl, sql hS, ?_, ?_⟩
          · show (0 : Int) < ((ns.map V.int).length : Int)
            rw [lenE]
            exact g1
          · show atI (ns.map V.int) (i % ((ns.map V.int).length : Int)) = _
            rw [lenE]
            exact at_of (j := (i % (ns.length : Int)).toNat) (by omega) (by rw [List.getElem?_map, List.getElem?_eq_getElem hk]; rfl)
          · exact ⟨_, rfl, rfl⟩
        · exact ⟨_, rfl, rfl⟩
      · rintro σ' H' ⟨c0, rfl, rfl⟩
        refine ⟨fun σ H2 => ∃ c1 : Int, σ = [some (.ref T), some (.int m), some (.int 2305843009213693951), some (.int c1), none] ∧ H2 = H', ?_, ?_⟩
        · refine ⟨_, rfl, T, _, 1, _, rfl, rfl, sql hT, rfl, _, rfl, T, _, 0, _, rfl, rfl, sql hT, rfl, S, _, rfl, .inl (sql hS), _, _, rfl, rfl, _, rfl, ?_⟩
          have near : ∀ x : Int, -(2 ^ 64) < x % 2305843009213693951 ∧ x % 2305843009213693951 < 2 ^ 64 := fun x => by
            have a1 := Int.emod_nonneg x (b := 2305843009213693951) (by decide)
            have a2 := Int.emod_lt_of_pos x (b := 2305843009213693951) (by decide)
            omega
          refine ite2 (fun _ => ?_) (fun _ => ⟨_, rfl, _, _, rfl, rfl, ⟨by decide, by decide, by decide⟩, _, _, rfl, rfl, _, rfl, ite2 (fun _ => ?_) (fun _ => ?_)⟩)
          · refine iteT ⟨_, rfl, _, rfl, T, _, 1, _, rfl, rfl, sql hT, rfl, _, _, rfl, rfl, .inl ⟨by decide, by decide⟩, _, _, rfl, rfl, _, rfl, _, _, rfl, rfl, (by decide : (0 : Int) < 2305843009213693951), ?_⟩
            refine ⟨_, rfl, _, rfl, _, _, rfl, rfl, .inl (near _), _, rfl, _, _, rfl, rfl, .inl ⟨by decide, by decide⟩, _, _, rfl, rfl, _, _, rfl, rfl, _, rfl, _, _, rfl, rfl, (by decide : (0 : Int) < 2305843009213693951), ?_⟩
            refine ⟨_, rfl, _, rfl, _, _, rfl, rfl, .inl (near _), _, _, rfl, rfl, _, rfl, _, _, rfl, rfl, (by decide : (0 : Int) < 2305843009213693951), ?_⟩
            exact ⟨_, rfl, rfl⟩
          · refine ⟨_, rfl, _, rfl, T, _, 1, _, rfl, rfl, sql hT, rfl, _, _, rfl, rfl, .inl ⟨by decide, by decide⟩, _, _, rfl, rfl, _, rfl, _, _, rfl, rfl, (by decide : (0 : Int) < 2305843009213693951), ?_⟩
            refine ⟨_, rfl, _, rfl, _, _, rfl, rfl, .inl (near _), _, rfl, _, _, rfl, rfl, .inl ⟨by decide, by decide⟩, _, _, rfl, rfl, _, _, rfl, rfl, _, rfl, _, _, rfl, rfl, (by decide : (0 : Int) < 2305843009213693951), ?_⟩
            refine ⟨_, rfl, _, rfl, _, _, rfl, rfl, .inl (near _), _, _, rfl, rfl, _, rfl, _, _, rfl, rfl, (by decide : (0 : Int) < 2305843009213693951), ?_⟩
            exact ⟨_, rfl, rfl⟩
          · exact ⟨_, rfl, rfl⟩
        · rintro σ' H2 ⟨c1, rfl, rfl⟩
          refine ⟨_, rfl, T, _, 1, _, rfl, rfl, sql hT, rfl, _, _, rfl, rfl, _, rfl, T, _, 1, 1, rfl, rfl, hT, rfl, ?_⟩
          refine ⟨_, rfl, _, rfl, T, _, 2, 2, rfl, rfl, upd_same, rfl, ?_⟩
          exact ⟨_, _, _, rfl, by rw [upd_upd]; rfl⟩
    · exact ⟨none, i, c, rfl, (upd_self hT).symm⟩
  · rintro σ' H' ⟨y3, i', c', rfl, rfl⟩
    refine ⟨_, rfl, T, _, 2, _, rfl, rfl, sql upd_same, rfl, _, rfl, _, _, rfl, rfl, m0, ?_⟩
    refine ⟨_, rfl, T, _, 2, _, rfl, rfl, sql upd_same, rfl, _, rfl, _, _, rfl, rfl, ⟨by omega, log_of m0 m1⟩, _, rfl, T, _, 2, 2, rfl, rfl, upd_same, rfl, ?_⟩
    refine ⟨_, rfl, ?_⟩
    rw [upd_upd]
    exact q _ _ _ (Int.emod_nonneg _ (by omega)) (Int.emod_lt_of_pos _ m0)
theorem scLike : FnScope ["one", "two", "k"] ["one", "two"] (defScope sLike) := ⟨rfl, rfl, rfl, by decide +kernel, rfl, by decide +kernel, by decide +kernel⟩
theorem like_step {f : Addr} {fd : FuncData} {n : Nat} (F : Fun K "_law_like" "_law_like" sLike f fd) (B : Bi mg) (cI : Has P w K mg base n "_law_like" ["one", "two"] (spLike K n)) :
    FnOk P w K mg base CX0 (n + 1) f fd ["one", "two"] (spLike K (n + 1)) := by
  refine F.ok scLike (fun vs H Q E h => ?_) (fun cdv A outer s H vs Q E hr h => ?_)
  · obtain ⟨v1, v2, d, m, _, rfl, _⟩ := h
    rfl
  obtain ⟨v1, v2, d, m, hn, rfl, h1, h2, fine, q⟩ := h
  cases hn
  refine ⟨_, pss_cons (ps_if (pt_val (pe_callB call_isiT (by rfl) B.isinstance (by decide +kernel) (pa_cons (pv 0) (pa_cons (pe_tup (pa_cons (pe_bltn (v := .ty "list") (by rfl) B.list (by decide +kernel) rfl) (pa_cons (pe_bltn (v := .ty "tuple") (by rfl) B.tuple (by decide +kernel) rfl) pa_nil))) pa_nil))))
      (pss_cons (ps_if (PW.pt (pw_or (pt_cmpR op_ne (pe_callB call_isi (by rfl) B.isinstance (by decide +kernel) (pa_cons (pv 0) (pa_cons (pe_bltn (v := .ty "list") (by rfl) B.list (by decide +kernel) rfl) pa_nil)))
            (pe_callB call_isi (by rfl) B.isinstance (by decide +kernel) (pa_cons (pv 1) (pa_cons (pe_bltn (v := .ty "list") (by rfl) B.list (by decide +kernel) rfl) pa_nil))) (nomark _))
          (pw_or1 (pt_cmpR op_ne (pe_callB call_isi (by rfl) B.isinstance (by decide +kernel) (pa_cons (pv 0) (pa_cons (pe_bltn (v := .ty "tuple") (by rfl) B.tuple (by decide +kernel) rfl) pa_nil)))
            (pe_callB call_isi (by rfl) B.isinstance (by decide +kernel) (pa_cons (pv 1) (pa_cons (pe_bltn (v := .ty "tuple") (by rfl) B.tuple (by decide +kernel) rfl) pa_nil))) (nomark _))))) (pss_one (ps_ret pe_bl)) pss_nil)
      (pss_cons (ps_if (pt_cmpR op_ne (pe_callB call_len_seq (by rfl) B.len PySem.boot_len (pa_cons (pv 0) pa_nil)) (pe_callB call_len_seq (by rfl) B.len PySem.boot_len (pa_cons (pv 1) pa_nil)) (nomark _)) (pss_one (ps_ret pe_bl)) pss_nil)
      (pss_one (ps_ret (pe_cmpR (op_eqD hr.units) (pe_lc (own := [("k", 2)]) (g := gName 2) (tt := tNot (tB (tCall (spLike K n) [] E0 (tCons (tOp (rIx K) (tVar 0) (tVar 2)) (tCons (tOp (rIx K) (tVar 1) (tVar 2)) tNil)))))
          (by rfl) scLike.nd (pi_range1 (by rfl) B.range (pa_cons (pe_callB call_len_seq (by rfl) B.len PySem.boot_len (pa_cons (pv 0) pa_nil)) pa_nil)) (blkOk_by (own := [("k", 2)]) (N := ["one", "two", "k"]) (sc := defScope sLike) (by decide +kernel))
          (fun _ _ _ _ _ => pg_name (i := 2) scLike.nd rfl (.inl rfl))
          (fun _ _ _ _ _ => pts_one (pt_not (pt_val (pe_go cI hr (Nat.le_refl _) rfl (pa_cons (pe_ix (ixS (K := K) rfl) (pv 0) (pv 2) (fun _ _ => rfl)) (pa_cons (pe_ix (ixS (K := K) rfl) (pv 1) (pv 2) (fun _ _ => rfl)) pa_nil))))))
          (fun _ _ _ _ _ => pv 2)) (pe_lst pa_nil) (nomark _)))))) pss_nil)
    (pss_cons (ps_if (pt_val (pe_callB call_isiT (by rfl) B.isinstance (by decide +kernel) (pa_cons (pv 1) (pa_cons (pe_tup (pa_cons (pe_bltn (v := .ty "list") (by rfl) B.list (by decide +kernel) rfl) (pa_cons (pe_bltn (v := .ty "tuple") (by rfl) B.tuple (by decide +kernel) rfl) pa_nil))) pa_nil)))) (pss_one (ps_ret pe_bl)) pss_nil)
    (pss_one (ps_ret (pe_and (pe_cmpR op_eq (pe_callB call_isi (by rfl) B.isinstance (by decide +kernel) (pa_cons (pv 0) (pa_cons (pe_bltn (v := .ty "bool") (by rfl) B.bool (by decide +kernel) rfl) pa_nil)))
        (pe_callB call_isi (by rfl) B.isinstance (by decide +kernel) (pa_cons (pv 1) (pa_cons (pe_bltn (v := .ty "bool") (by rfl) B.bool (by decide +kernel) rfl) pa_nil))) (nomark _)) (pe_one (pe_cmpR (op_eqD hr.units) (pv 0) (pv 1) (nomark _))))))), ?_⟩
  have cls2 : Paired ClsV [V.ty "list", V.ty "tuple"] [Value.type "list", Value.type "tuple"] := .cons (.ty _) (.cons (.ty _) .nil)
  have kinds : (∃ (T : String) (bl : Bool), (∀ H', Same H H' → TyX K H' v1 (.type T) ∧ TyX K H' v2 (.type T)) ∧ kitB T "list" = some false ∧ kitB T "tuple" = some false ∧ kitB T "bool" = some bl ∧ SeqAt.shaped d = true ∧ PyData.eqv d d = true) ∨
      ∃ (T : String) (l : Bool) (a b : Addr) (xs ys : List V) (ds : List PyData) (m : Nat), (∀ H', Same H H' → TyX K H' v1 (.type T) ∧ TyX K H' v2 (.type T)) ∧ kitB T "list" = some l ∧ kitB T "tuple" = some (!l) ∧ v1 = .ref a ∧ v2 = .ref b ∧
        (∀ H', Same H H' → SqL K H' a xs ∨ SqT K H' a xs) ∧ (∀ H', Same H H' → SqL K H' b ys ∨ SqT K H' b ys) ∧ DpAll K H xs ds ∧ DpAll K H ys ds ∧ ds.length ≤ 1000 ∧ n = m + 1 ∧ ∀ d ∈ ds, Fine m d := by
    have both : ∀ H', Same H H' → TyX K H' v1 (.type (kindName d)) ∧ TyX K H' v2 (.type (kindName d)) := fun H' s' => ⟨ty_dp (dp_same s' h1), ty_dp (dp_same s' h2)⟩
    cases d with
    | none => exact .inl ⟨"NoneType", false, both, by decide +kernel, by decide +kernel, by decide +kernel, by decide +kernel, by simp [PyData.eqv]⟩
    | bool b => exact .inl ⟨"bool", true, both, by decide +kernel, by decide +kernel, by decide +kernel, shaped_of (by simp [PyData.canLay0]) (by simp [PyData.depth]), by simp [PyData.eqv]⟩
    | int i => exact .inl ⟨"int", false, both, by decide +kernel, by decide +kernel, by decide +kernel, shaped_of (by simp [PyData.canLay0]) (by simp [PyData.depth]), by simp [PyData.eqv]⟩
    | str x =>
      have fx : PyData.strOk x = true := by
        cases n <;> exact fine
      exact .inl ⟨"str", false, both, by decide +kernel, by decide +kernel, by decide +kernel, shaped_of (by simp [PyData.canLay0, fx]) (by simp [PyData.depth]), by simp [PyData.eqv]⟩
    | dict kvs => cases h1
    | list ds =>
      cases n with
      | zero => exact fine.elim
      | succ m =>
        cases h1 with
        | lst g1 a1 =>
          cases h2 with
          | lst g2 a2 => exact .inr ⟨"list", true, _, _, _, _, ds, m, both, by decide +kernel, by decide +kernel, rfl, rfl, fun H' s' => .inl (s'.seq g1), fun H' s' => .inl (s'.seq g2), a1, a2, fine.1, rfl, fine.2⟩
    | tuple ds =>
      cases n with
      | zero => exact fine.elim
      | succ m =>
        cases h1 with
        | tup g1 a1 =>
          cases h2 with
          | tup g2 a2 => exact .inr ⟨"tuple", false, _, _, _, _, ds, m, both, by decide +kernel, by decide +kernel, rfl, rfl, fun H' s' => .inr (same_tup s' g1), fun H' s' => .inr (same_tup s' g2), a1, a2, fine.1, rfl, fine.2⟩
  rcases kinds with ⟨T, bl, ty, k1, k2, kb, sh, ev⟩ | ⟨T, l, a, b, xs, ys, ds, m, ty, k1, k2, rfl, rfl, sa, sb, da, db, hl, rfl, fd'⟩
  · refine ⟨_, rfl, (by show 2 ≤ sizeLine; decide), fun tp htp => ?_⟩
    have s1 := same_new htp (.tup [V.ty "list", V.ty "tuple"])
    refine ⟨v1, tp, _, _, _, false, rfl, upd_same, cls2, (ty _ s1).1, kit_no k1 (kit_no k2 rfl), _, rfl, ?_⟩
    refine ⟨_, rfl, (by show 2 ≤ sizeLine; decide), fun tp2 htp2 => ?_⟩
    have s2 := s1.trans (same_new htp2 (.tup [V.ty "list", V.ty "tuple"]))
    refine ⟨v2, tp2, _, _, _, false, rfl, upd_same, cls2, (ty _ s2).2, kit_no k1 (kit_no k2 rfl), _, rfl, ?_⟩
    refine ⟨_, rfl, v1, _, _, _, bl, rfl, .ty _, (ty _ s2).1, kit_ty kb, _, rfl, v2, _, _, _, bl, rfl, .ty _, (ty _ s2).2, kit_ty kb, rfl, true, ?_, ?_⟩
    · rw [decide_eq_true rfl]
    · refine ⟨_, rfl, _, rfl, d, d, dp_same s2 h1, dp_same s2 h2, sh, sh, ?_⟩
      rw [ev]
      exact q _ s2
  · have lx := dpAll_len da
    have ly := dpAll_len db
    refine ⟨_, rfl, (by show 2 ≤ sizeLine; decide), fun tp htp => ?_⟩
    have s1 := same_new htp (.tup [V.ty "list", V.ty "tuple"])
    have anyT : PySem.W.kitAny K (.type T) [Value.type "list", Value.type "tuple"] = some true := by
      cases l with
      | true => exact kit_yes k1
      | false => exact kit_no k1 (kit_yes k2)
    refine ⟨.ref a, tp, _, _, _, true, rfl, upd_same, cls2, (ty _ s1).1, anyT, _, rfl, ?_⟩
    refine ⟨_, rfl, .ref a, _, _, _, l, rfl, .ty _, (ty _ s1).1, kit_ty k1, _, rfl, .ref b, _, _, _, l, rfl, .ty _, (ty _ s1).2, kit_ty k1, rfl, false, ?_, ?_⟩
    · rw [decide_eq_true rfl]
      rfl
    refine ⟨_, rfl, .ref a, _, _, _, !l, rfl, .ty _, (ty _ s1).1, kit_ty k2, _, rfl, .ref b, _, _, _, !l, rfl, .ty _, (ty _ s1).2, kit_ty k2, rfl, false, ?_, ?_⟩
    · rw [decide_eq_true rfl]
      rfl
    refine ⟨_, rfl, a, xs, rfl, sa _ s1, _, rfl, b, ys, rfl, sb _ s1, rfl, false, ?_, ?_⟩
    · rw [lx, ly, decide_eq_true rfl]
      rfl
    refine ⟨_, rfl, a, xs, rfl, sa _ s1, _, rfl, by omega, by omega, fun D hD => lc_range (lo := 0) (n := (xs.length : Int).toNat) (fun i H' => Same H H' ∧ H' D = some (.lst [])) ⟨s1.trans (same_new hD _), upd_same⟩ ?_ ?_⟩
    · rintro i H' hi ⟨s', hD'⟩
      have hi' : i < xs.length := by omega
      have gx : xs[i]? = some xs[i] := List.getElem?_eq_getElem hi'
      have gy : ys[i]? = some (ys[i]'(by omega)) := List.getElem?_eq_getElem (by omega)
      obtain ⟨d1, e1, p1⟩ := dpAll_get da gx
      obtain ⟨d2, e2, p2⟩ := dpAll_get db gy
      rw [e1] at e2
      cases e2
      have ea : atI xs (0 + (i : Int)) = some xs[i] := at_of (j := i) (by omega) gx
      have eb : atI ys (0 + (i : Int)) = some (ys[i]'(by omega)) := at_of (j := i) (by omega) gy
      rcases sa _ s' with za | za <;> rcases sb _ s' with zb | zb
      · refine ⟨rfl, _, rfl, _, rfl, .inl ⟨a, xs, _, _, rfl, rfl, za, ea, _, rfl, _, rfl, .inl ⟨b, ys, _, _, rfl, rfl, zb, eb, ?_⟩⟩⟩
        exact ⟨_, _, d1, m, rfl, rfl, dp_same s' p1, dp_same s' p2, fd' d1 (List.mem_of_getElem? e1), fun H2 s2 => ⟨true, rfl, s'.trans s2, s2 _ _ hD'⟩⟩
      · refine ⟨rfl, _, rfl, _, rfl, .inl ⟨a, xs, _, _, rfl, rfl, za, ea, _, rfl, _, rfl, .inr (.inl ⟨b, ys, _, _, rfl, rfl, zb, eb, ?_⟩)⟩⟩
        exact ⟨_, _, d1, m, rfl, rfl, dp_same s' p1, dp_same s' p2, fd' d1 (List.mem_of_getElem? e1), fun H2 s2 => ⟨true, rfl, s'.trans s2, s2 _ _ hD'⟩⟩
      · refine ⟨rfl, _, rfl, _, rfl, .inr (.inl ⟨a, xs, _, _, rfl, rfl, za, ea, _, rfl, _, rfl, .inl ⟨b, ys, _, _, rfl, rfl, zb, eb, ?_⟩⟩)⟩
        exact ⟨_, _, d1, m, rfl, rfl, dp_same s' p1, dp_same s' p2, fd' d1 (List.mem_of_getElem? e1), fun H2 s2 => ⟨true, rfl, s'.trans s2, s2 _ _ hD'⟩⟩
      · refine ⟨rfl, _, rfl, _, rfl, .inr (.inl ⟨a, xs, _, _, rfl, rfl, za, ea, _, rfl, _, rfl, .inr (.inl ⟨b, ys, _, _, rfl, rfl, zb, eb, ?_⟩)⟩)⟩
        exact ⟨_, _, d1, m, rfl, rfl, dp_same s' p1, dp_same s' p2, fd' d1 (List.mem_of_getElem? e1), fun H2 s2 => ⟨true, rfl, s'.trans s2, s2 _ _ hD'⟩⟩
    · rintro H' ⟨s', hD'⟩
      refine ⟨Nat.zero_le _, fun e he => ?_⟩
      have s5 := same_new he (.lst [])
      refine ⟨.list [], .list [], .lst (sql (s5 _ _ hD')) .nil, .lst (sql upd_same) .nil, by decide +kernel, by decide +kernel, ?_⟩
      have ev : PyData.eqv (.list []) (.list []) = true := by simp [PyData.eqv, PyData.eqvAll]
      rw [ev]
      exact q _ (s'.trans s5)
theorem like_all {f : Addr} {fd : FuncData} (F : Fun K "_law_like" "_law_like" sLike f fd) (B : Bi mg) (m : mg "_law_like" = some (.ref f)) (b : Binds K fd ["one", "two"] []) :
    ∀ n : Nat, FnOk P w K mg base CX0 n f fd ["one", "two"] (spLike K n)
  | 0 => by
    have no : ∀ vs H Q E, ¬ spLike K 0 vs H Q E := fun vs H Q E h => by
      obtain ⟨_, _, _, m, h, _⟩ := h
      cases h
    exact ⟨fun vs H Q E h => absurd h (no vs H Q E), fun A outer s H args us vs Q E _ _ _ _ h => absurd h (no vs H Q E)⟩
  | n + 1 => like_step F B ⟨f, fd, like_all F B m b n, m, F.kp, b⟩
theorem scLaid : FnScope ["pile", "book", "at"] ["pile", "book"] (defScope sLaid) := ⟨rfl, rfl, rfl, by decide +kernel, rfl, by decide +kernel, by decide +kernel⟩
theorem ok_laid {f : Addr} {fd : FuncData} (F : Fun K "laid_on_top" "laid_on_top" sLaid f fd) : FnOk P w K mg base CX0 1 f fd ["pile", "book"] spLaid := by
  refine F.ok scLaid (fun vs H Q E h => ?_) (fun cdv A outer s H vs Q E hr h => ?_)
  · obtain ⟨p, bs, b, rfl, _⟩ := h
    rfl
  obtain ⟨p, bs, b, rfl, hp, hb, hl, q⟩ := h
  refine ⟨_, pss_cons (ps_set (i := 2) scLaid.nd rfl (.inl rfl) (pe_tm PySem.F.slot_tuple_index PySem.F.type_tuple_index mt_tup_index (pv 0) (pa_cons (pv 1) pa_nil)))
    (pss_one (ps_ret (pe_op op_catZ (pe_op op_catZ (pe_tupZ (pa_cons (pv 1) pa_nil)) (pe_slice sl_tupA (pv 0) po_none (po_some (pv 2))))
      (pe_slice sl_tupA (pv 0) (po_some (pe_op op_add (pv 2) pe_int)) po_none)))), ?_⟩
  have ib := idx_lt hb
  have lm : (bs.map V.str).length = bs.length := List.length_map _
  refine ⟨_, rfl, ⟨p, _, rfl, hp⟩, _, rfl, p, bs, b, bs.idxOf b, rfl, rfl, hp.sqt, idx_get hb, idx_first, ?_⟩
  refine ⟨_, rfl, (by show 1 ≤ sizeLine; decide), fun t u ht hu => ?_⟩
  have s1 : Same H (upd H t u) := same_new ht _
  have g1 : ¬ (HT.sIx (bs.map V.str).length 0 none = 0 ∧ HT.sIx (bs.map V.str).length (bs.map V.str).length (some ((bs.idxOf b : Nat) : Int)) = (bs.map V.str).length) := by
    rw [HT.sIx_nat, lm]
    omega
  refine ⟨_, rfl, _, rfl, _, rfl, p, _, rfl, (hp.same s1).sqt, fun z => absurd z g1, fun _ a ha => ?_⟩
  rw [cut_to (by rw [lm]; omega), ← List.map_take]
  have s2 := same_new ha (.tup ((bs.take (bs.idxOf b)).map V.str))
  have t2 : TpO (upd (upd H t u) a (.tup ((bs.take (bs.idxOf b)).map V.str))) t [V.str b] := (TpO.new hu).same s2
  have ha2 : upd (upd H t u) a (.tup ((bs.take (bs.idxOf b)).map V.str)) a = some (.tup ((bs.take (bs.idxOf b)).map V.str)) := upd_same
  have s12 := s1.trans s2
  generalize upd (upd H t u) a (.tup ((bs.take (bs.idxOf b)).map V.str)) = H2 at s12 t2 ha2 ⊢
  have fin : ∀ (c : Addr) (H3 : Hp), Same H H3 → TpO H3 c ([V.str b] ++ (bs.take (bs.idxOf b)).map V.str) → ∀ σ : L2.St, σ = [some (.ref p), some (.str b), some (.int ((bs.idxOf b : Nat) : Int))] →
      tSl (rSlA K) (tVar 0) (tPart (tOp (rI0 fun i j => .int (i + j)) (tVar 2) (tC (.int 1)))) tNoPart σ H3 fun y H4 => rCatZ K (.ref c) y H4 Q := by
    rintro c H3 s3 hc σ rfl
    have g2 : ¬ (HT.sIx (bs.map V.str).length 0 (some (((bs.idxOf b : Nat) : Int) + 1)) = 0 ∧ HT.sIx (bs.map V.str).length (bs.map V.str).length none = (bs.map V.str).length) := by
      have e : (((bs.idxOf b : Nat) : Int) + 1) = ((bs.idxOf b + 1 : Nat) : Int) := by omega
      rw [e, HT.sIx_nat, lm]
      omega
    refine ⟨_, rfl, _, rfl, _, _, rfl, rfl, _, rfl, p, _, rfl, (hp.same s3).sqt, fun z => absurd z g2, fun _ d hd => ?_⟩
    have ecut : cutV (bs.map V.str) (some (((bs.idxOf b : Nat) : Int) + 1)) none = (bs.drop (bs.idxOf b + 1)).map V.str := by
      have e : (((bs.idxOf b : Nat) : Int) + 1) = ((bs.idxOf b + 1 : Nat) : Int) := by omega
      rw [e, cut_from (by rw [lm]; omega), List.map_drop]
    rw [ecut]
    have s4 := same_new hd (.tup ((bs.drop (bs.idxOf b + 1)).map V.str))
    refine ⟨c, d, _, _, rfl, rfl, (hc.same s4).sqt, sqt upd_same, by simp, ?_, fun z => ?_, fun _ r v hr' hv => ?_⟩
    · rw [List.length_append, List.length_map, List.length_map, List.length_take, List.length_drop, List.length_singleton]
      exact Nat.le_of_lt (small1000 (by omega))
    · refine q c _ (s3.trans s4) ?_
      have e : (lay bs b).map V.str = [V.str b] ++ (bs.take (bs.idxOf b)).map V.str := by rw [lay_map, z, List.append_nil]
      rw [e]
      exact hc.same s4
    · refine q r _ (s3.trans (s4.trans (same_new hr' _))) ?_
      rw [lay_map, ← List.append_assoc]
      exact TpO.new hv
  refine ⟨t, a, _, _, rfl, rfl, t2.sqt, sqt ha2, by simp, ?_, fun z => ?_, fun _ c v hc hv => ?_⟩
  · rw [List.length_map, List.length_take, List.length_singleton]
    exact Nat.le_of_lt (small1000 (by omega))
  · refine fin t H2 s12 ?_ _ rfl
    rw [z, List.append_nil]
    exact t2
  · exact fin c _ (s12.trans (same_new hc _)) (TpO.new hv) _ rfl
theorem scAbove : FnScope ["pile", "book"] ["pile", "book"] (defScope sAbove) := ⟨rfl, rfl, rfl, by decide +kernel, rfl, by decide +kernel, by decide +kernel⟩
theorem ok_above {f : Addr} {fd : FuncData} (F : Fun K "books_above" "books_above" sAbove f fd) : FnOk P w K mg base CX0 1 f fd ["pile", "book"] spAbove := by
  refine F.ok scAbove (fun vs H Q E h => ?_) (fun cdv A outer s H vs Q E hr h => ?_)
  · obtain ⟨p, bs, b, rfl, _⟩ := h
    rfl
  obtain ⟨p, bs, b, rfl, hp, hb, q⟩ := h
  refine ⟨_, pss_one (ps_ret (pe_slice sl_tupA (pv 0) po_none (po_some (pe_tm PySem.F.slot_tuple_index PySem.F.type_tuple_index mt_tup_index (pv 0) (pa_cons (pv 1) pa_nil))))), ?_⟩
  have ib := idx_lt hb
  have lm : (bs.map V.str).length = bs.length := List.length_map _
  refine ⟨_, rfl, _, rfl, ⟨p, _, rfl, hp⟩, _, rfl, p, bs, b, bs.idxOf b, rfl, rfl, hp.sqt, idx_get hb, idx_first, _, rfl, p, _, rfl, hp.sqt, fun z => ?_, fun _ a ha => ?_⟩
  · exfalso
    rw [HT.sIx_nat, lm] at z
    omega
  · refine q a _ (same_new ha _) ?_
    rw [upd_same, cut_to (by rw [lm]; omega), ← List.map_take]
    rfl
theorem scAsPair : FnScope ["book", "passed"] ["book", "passed"] (defScope sAsPair) := ⟨rfl, rfl, rfl, by decide +kernel, rfl, by decide +kernel, by decide +kernel⟩
theorem ok_asPair {f : Addr} {fd : FuncData} (F : Fun K "as_pair" "as_pair" sAsPair f fd) : FnOk P w K mg base CX0 1 f fd ["book", "passed"] spAsPair := by
  refine F.ok scAsPair (fun vs H Q E h => ?_) (fun cdv A outer s H vs Q E hr h => ?_)
  · obtain ⟨a, b, rfl, _⟩ := h
    rfl
  obtain ⟨a, b, rfl, q⟩ := h
  refine ⟨_, pss_one (ps_ret (pe_ifExp (pt_cmpR op_lt_str (pv 0) (pv 1) (nomark _)) (pe_tup (pa_cons (pv 0) (pa_cons (pv 1) pa_nil))) (pe_tup (pa_cons (pv 1) (pa_cons (pv 0) pa_nil))))), ?_⟩
  refine ⟨_, rfl, _, rfl, _, _, rfl, rfl, _, rfl, ite2 (fun c => ?_) (fun c => ?_)⟩
  · have c' : ltS a b := of_decide_eq_true c
    refine ⟨_, rfl, _, rfl, (by show 2 ≤ sizeLine; decide), fun t ht => ?_⟩
    have z := q t ht
    unfold asPair at z
    rw [if_pos c'] at z
    exact z
  · have c' : ¬ ltS a b := of_decide_eq_false (Bool.eq_false_iff.mpr c)
    refine ⟨_, rfl, _, rfl, (by show 2 ≤ sizeLine; decide), fun t ht => ?_⟩
    have z := q t ht
    unfold asPair at z
    rw [if_neg c'] at z
    exact z
theorem scBehind : FnScope ["pile", "readings", "order", "book"] ["pile", "readings"] (defScope sBehind) := ⟨rfl, rfl, rfl, by decide +kernel, rfl, by decide +kernel, by decide +kernel⟩
theorem ok_behindT {f : Addr} {fd : FuncData} (F : Fun K "behind" "behind" sBehind f fd) (cL : Has P w K mg base 1 "laid_on_top" ["pile", "book"] spLaid) : FnOk P w K mg base CX0 2 f fd ["pile", "readings"] (spBehindT K) := by
  refine F.ok scBehind (fun vs H Q E h => ?_) (fun cdv A outer s H vs Q E hr h => ?_)
  · obtain ⟨p, r, bs, rs, rfl, _⟩ := h
    rfl
  obtain ⟨p, r, bs, rs, rfl, hp, hrr, hl, hm, q⟩ := h
  refine ⟨_, pss_cons (ps_set (i := 2) scBehind.nd rfl (.inl rfl) (pv 0))
    (pss_cons (ps_for PassesOwn.never rfl (pi_tup (pv 1)) (pg_name (i := 3) scBehind.nd rfl (.inl rfl))
      (pss_one (ps_set (i := 2) scBehind.nd rfl (.inl rfl) (pe_go cL hr (by decide) rfl (pa_cons (pv 2) (pa_cons (pv 3) pa_nil))))))
    (pss_one (ps_ret (pv 2)))), ?_⟩
  refine ⟨_, rfl, _, rfl, r, rfl, ⟨_, hrr.sqt⟩, for_tup (K := K) (a := r) (xs := rs.map V.str) (fun i σ H' => ∃ (o : Addr) (y3 : Option V), σ = [some (.ref p), some (.ref r), some (.ref o), y3] ∧ Same H H' ∧ TpO H' o ((behindM bs (rs.take i)).map V.str))
    ⟨p, none, rfl, Same.refl _, hp⟩ (fun i σ H' _ ⟨_, _, _, sm, _⟩ => (hrr.same sm).sqt) ?_ ?_⟩
  · rintro i x σ H' hx ⟨o, y3, rfl, sm, ho⟩
    obtain ⟨b, hb, rfl⟩ := strs_get hx
    have pm := behindM_perm (rs.take i) (take_sub hm i)
    refine ⟨_, rfl, _, rfl, o, _, b, rfl, ho, pm.mem_iff.mpr (hm b (List.mem_of_getElem? hb)), by rw [pm.length_eq]; exact hl, fun o2 H2 s2 h2 => ?_⟩
    refine ⟨o2, _, rfl, sm.trans s2, ?_⟩
    rw [take_step hb, behindM_snoc]
    exact h2
  · rintro σ H' ⟨o, y3, rfl, sm, ho⟩
    rw [List.length_map, List.take_length] at ho
    exact ⟨_, rfl, q o H' sm ho⟩
theorem scLifted : FnScope ["pile", "readings", "numbers", "order", "book"] ["pile", "readings"] (defScope sLifted) := ⟨rfl, rfl, rfl, by decide +kernel, rfl, by decide +kernel, by decide +kernel⟩
theorem ok_liftedT {f : Addr} {fd : FuncData} (F : Fun K "lifted" "lifted" sLifted f fd) (cL : Has P w K mg base 1 "laid_on_top" ["pile", "book"] spLaid) : FnOk P w K mg base CX0 2 f fd ["pile", "readings"] (spLiftedT K) := by
  refine F.ok scLifted (fun vs H Q E h => ?_) (fun cdv A outer s H vs Q E hr h => ?_)
  · obtain ⟨p, r, bs, rs, rfl, _⟩ := h
    rfl
  obtain ⟨p, r, bs, rs, rfl, hp, hrr, hl, hl2, hm, q⟩ := h
  refine ⟨_, pss_cons (ps_set (i := 2) scLifted.nd rfl (.inl rfl) (pe_lst pa_nil))
    (pss_cons (ps_set (i := 3) scLifted.nd rfl (.inl rfl) (pv 0))
    (pss_cons (ps_for PassesOwn.never rfl (pi_tup (pv 1)) (pg_name (i := 4) scLifted.nd rfl (.inl rfl))
      (pss_cons (ps_expr (pe_bm PySem.F.plainAttrs_list PySem.F.slot_list_append PySem.F.type_list_append mt_append (pv 2) (pa_cons (pe_tm PySem.F.slot_tuple_index PySem.F.type_tuple_index mt_tup_index (pv 3) (pa_cons (pv 4) pa_nil)) pa_nil)))
      (pss_one (ps_set (i := 3) scLifted.nd rfl (.inl rfl) (pe_go cL hr (by decide) rfl (pa_cons (pv 3) (pa_cons (pv 4) pa_nil)))))))
    (pss_one (ps_ret (pv 2))))), ?_⟩
  refine ⟨Nat.zero_le _, fun L hL => ?_⟩
  have s1 : Same H (upd H L (.lst [])) := same_new hL _
  refine ⟨_, rfl, _, rfl, r, rfl, ⟨_, (hrr.same s1).sqt⟩, for_tup (K := K) (a := r) (xs := rs.map V.str) (fun i σ H' => ∃ (o : Addr) (y4 : Option V), σ = [some (.ref p), some (.ref r), some (.ref L), some (.ref o), y4] ∧ Same H H' ∧ TpO H' o ((behindM bs (rs.take i)).map V.str) ∧ H' L = some (.lst ((liftedM bs (rs.take i)).map natV)))
    ⟨p, none, rfl, s1, hp.same s1, upd_same⟩ (fun i σ H' _ ⟨_, _, _, sm, _⟩ => (hrr.same sm).sqt) ?_ ?_⟩
  · rintro i x σ H' hx ⟨o, y4, rfl, sm, ho, hL'⟩
    obtain ⟨b, hb, rfl⟩ := strs_get hx
    have pm := behindM_perm (rs.take i) (take_sub hm i)
    have hbm := pm.mem_iff.mpr (hm b (List.mem_of_getElem? hb))
    have nLo : L ≠ o := fun e => by
      subst e
      obtain ⟨u, h1, o1, rfl, _⟩ := ho
      rw [hL'] at h1
      cases h1
    refine ⟨_, rfl, .inl ⟨rfl, _, sql hL'⟩, _, rfl, ⟨o, _, rfl, ho⟩, _, rfl, o, _, b, _, rfl, rfl, ho.sqt, idx_get hbm, idx_first, L, _, _, rfl, rfl, hL', ?_, ?_⟩
    · rw [List.length_map, liftedM_len, List.length_take]
      exact small1000 (by omega)
    · have ho2 : TpO (upd H' L (.lst ((liftedM bs (rs.take i)).map natV ++ [natV ((behindM bs (rs.take i)).idxOf b)]))) o ((behindM bs (rs.take i)).map V.str) := ho.move fun u h => by
        rw [upd_ne nLo.symm]
        exact h
      refine ⟨_, rfl, _, rfl, o, _, b, rfl, ho2, hbm, by rw [pm.length_eq]; exact hl, fun o2 H2 s2 h2 => ?_⟩
      refine ⟨o2, _, rfl, (same_put sm hL).trans s2, ?_, ?_⟩
      · rw [take_step hb, behindM_snoc]
        exact h2
      · rw [take_step hb, liftedM_snoc, List.map_append]
        exact s2 _ _ upd_same
  · rintro σ H' ⟨o, y4, rfl, sm, ho, hL'⟩
    rw [List.length_map, List.take_length] at hL'
    exact ⟨_, rfl, q L H' sm hL hL'⟩
theorem scPairs : FnScope ["books", "ordered", "at", "one", "other"] ["books"] (defScope sPairs) := ⟨rfl, rfl, rfl, by decide +kernel, rfl, by decide +kernel, by decide +kernel⟩
theorem ok_pairs {f : Addr} {fd : FuncData} (F : Fun K "pairs_of" "pairs_of" sPairs f fd) (B : Bi mg) : FnOk P w K mg base CX0 1 f fd ["books"] (spPairs K) := by
  refine F.ok scPairs (fun vs H Q E h => ?_) (fun cdv A outer s H vs Q E hr h => ?_)
  · obtain ⟨p, bs, rfl, _⟩ := h
    rfl
  obtain ⟨p, bs, rfl, hp, hl, q⟩ := h
  refine ⟨_, pss_cons (ps_set (i := 1) scPairs.nd rfl (.inr rfl) (pe_callB cr_sortedT (by rfl) B.sorted (by decide +kernel) (pa_cons (pv 0) pa_nil)))
    (pss_one (ps_ret (pe_lc2 (own := [("at", 2), ("one", 3), ("other", 4)]) (vs1 := [4]) (g := gTup K 2 (gCons (gName 2) (gCons (gName 3) gNil))) (tt := tYes) (g1 := gName 4) (tt1 := tYes)
      (wi1 := iList K (tSl (rSlL K) (tVar 1) (tPart (tOp (rI0 fun i j => .int (i + j)) (tVar 2) (tC (.int 1)))) tNoPart))
      (by rfl) scPairs.nd (pi_enum (by rfl) B.enumerate (pa_cons (pv 1) pa_nil))
      (blkOk_by (own := [("at", 2), ("one", 3), ("other", 4)]) (N := ["books", "ordered", "at", "one", "other"]) (sc := defScope sPairs) (by decide +kernel)) (by decide)
      (fun _ _ _ _ _ => pg_tup rfl (pgs_cons (pg_name (i := 2) scPairs.nd rfl (.inl rfl)) (pgs_cons (pg_name (i := 3) scPairs.nd rfl (.inl rfl)) pgs_nil)))
      (fun _ _ _ _ _ => pts_nil) (fun _ _ _ _ _ => pi_list (pe_slice sl_list (pv 1) (po_some (pe_op op_add (pv 2) pe_int)) po_none))
      (fun _ _ _ _ _ => pg_name (i := 4) scPairs.nd rfl (.inl rfl)) (fun _ _ _ _ _ => pts_nil)
      (fun _ _ _ _ _ => pe_tup (pa_cons (pv 3) (pa_cons (pv 4) pa_nil)))))), ?_⟩
  refine ⟨_, rfl, p, bs, rfl, hp, by omega, fun ys o pm so ho => ?_⟩
  have ly : ys.length = bs.length := pm.length_eq
  have s1 := same_new ho (.lst (ys.map V.str))
  have ho1 : upd H o (.lst (ys.map V.str)) o = some (.lst (ys.map V.str)) := upd_same
  generalize upd H o (.lst (ys.map V.str)) = H1 at s1 ho1 ⊢
  refine ⟨_, rfl, o, _, rfl, sql ho1, fun D hD => ?_⟩
  have plen : ∀ n, n ≤ ys.length → (prs ys n).length ≤ 400 := fun n hn => by
    have z := prs_len ys n
    have z2 : n * ys.length ≤ 20 * 20 := Nat.mul_le_mul (by omega) (by omega)
    omega
  refine in_it (walk_enum (K := K) (a := o) (xs := ys.map V.str)) (fun i H' => ∃ ts : List Addr, Same H1 H' ∧ H' D = some (.lst (ts.map V.ref)) ∧ PairsL H' ts (prs ys i))
    ⟨[], same_new hD _, upd_same, PairsL.nil _⟩ (fun i H' _ ⟨_, sm, _⟩ => sm.seq (sql ho1)) ?_ ?_
  · rintro i x H2 H3 hi ⟨ts, sm, hD2, pl⟩ ⟨T, x1, x2, rfl, nT, rfl, e1, e2⟩
    rw [List.length_map] at hi
    cases e1
    obtain ⟨a, ha, rfl⟩ := strs_get e2
    have s3 := same_new nT (.tup [natV i, .str a])
    have hD3 : upd H2 T (.tup [natV i, .str a]) D = some (.lst (ts.map V.ref)) := s3 _ _ hD2
    refine ⟨T, _, rfl, sqt upd_same, rfl, _, _, rfl, _, _, rfl, rfl, rfl, ?_⟩
    refine ⟨_, rfl, _, rfl, _, _, rfl, rfl, _, rfl, o, _, rfl, s3.seq (sm.seq (sql ho1)), fun c hc => ?_⟩
    have ecut : cutV (ys.map V.str) (some ((i : Int) + 1)) none = (ys.drop (i + 1)).map V.str := by
      rw [show ((i : Int) + 1) = ((i + 1 : Nat) : Int) by omega, cut_from (by rw [List.length_map]; omega), List.map_drop]
    rw [ecut]
    have s4 := same_new hc (.lst ((ys.drop (i + 1)).map V.str))
    have hc4 : upd (upd H2 T (.tup [natV i, .str a])) c (.lst ((ys.drop (i + 1)).map V.str)) c = some (.lst ((ys.drop (i + 1)).map V.str)) := upd_same
    have hD4 := s4 _ _ hD3
    have sm4 : Same H1 (upd (upd H2 T (.tup [natV i, .str a])) c (.lst ((ys.drop (i + 1)).map V.str))) := sm.trans (s3.trans s4)
    have pl4 := (pl.move (KeepT.of s3)).move (KeepT.of s4)
    have ncD : c ≠ D := (ne_of_none hD3 hc).symm
    generalize upd (upd H2 T (.tup [natV i, .str a])) c (.lst ((ys.drop (i + 1)).map V.str)) = H4 at hc4 hD4 sm4 pl4 ⊢
    refine ⟨c, rfl, ⟨_, sql hc4⟩, in_it (walk_list (K := K) (a := c) (xs := (ys.drop (i + 1)).map V.str)) (fun j H' => ∃ ts : List Addr, Same H1 H' ∧ H' D = some (.lst (ts.map V.ref)) ∧ H' c = some (.lst ((ys.drop (i + 1)).map V.str)) ∧ PairsL H' ts (prs ys i ++ ((ys.drop (i + 1)).take j).map fun b => (a, b)))
      ⟨ts, sm4, hD4, hc4, by rw [List.take_zero, List.map_nil, List.append_nil]; exact pl4⟩ (fun j H' _ ⟨_, _, _, h', _⟩ => sql h') ?_ ?_⟩
    · rintro j x H5 H6 hj ⟨ts5, sm5, hD5, hc5, pl5⟩ ⟨rfl, ex⟩
      rw [List.length_map] at hj
      obtain ⟨b, hb, rfl⟩ := strs_get ex
      refine ⟨rfl, _, rfl, _, rfl, (by show 2 ≤ sizeLine; decide), fun t ht => ?_⟩
      have s6 := same_new ht (.tup [.str a, .str b])
      have hD6 := s6 _ _ hD5
      have lts : ts5.length ≤ 500 := by
        rw [pl5.1, List.length_append, List.length_map, List.length_take]
        have z := plen i (by omega)
        have z2 : (ys.drop (i + 1)).length ≤ ys.length := by rw [List.length_drop]; omega
        omega
      refine ⟨_, hD6, ?_, ts5 ++ [t], ?_, ?_, ?_, ?_⟩
      · rw [List.length_map]
        exact small1000 (by omega)
      · exact same_put (sm5.trans s6) hD
      · rw [upd_same, List.map_append]
        rfl
      · rw [upd_ne ncD]
        exact s6 _ _ hc5
      · have z := ((pl5.move (KeepT.of s6)).snoc (t := t) (q := (a, b)) upd_same).move (KeepT.put (D := D) (o := .lst (ts5.map V.ref ++ [.ref t])) hD6 (fun xs z => nomatch z))
        rw [List.take_add_one, hb, List.map_append, ← List.append_assoc]
        exact z
    · rintro H5 ⟨ts5, sm5, hD5, hc5, pl5⟩
      rw [List.length_map, List.take_length] at pl5
      refine ⟨ts5, sm5, hD5, ?_⟩
      rw [prs_succ ha]
      exact pl5
  · rintro H5 ⟨ts, sm, hD5, pl⟩
    rw [List.length_map] at pl
    exact q D H5 ys ts (s1.trans sm) pm so (s1.free hD) hD5 pl
abbrev nPassings : List Str := ["pile", "readings", "pairs", "numbers", "order", "book", "passed", "pair", "one", "other"]
theorem scPassings : FnScope nPassings ["pile", "readings"] (defScope sPassings) := ⟨rfl, rfl, rfl, by decide +kernel, rfl, by decide +kernel, by decide +kernel⟩
theorem ok_passT {f : Addr} {fd : FuncData} (F : Fun K "passings" "passings" sPassings f fd) (cL : Has P w K mg base 1 "laid_on_top" ["pile", "book"] spLaid) (cA : Has P w K mg base 1 "books_above" ["pile", "book"] spAbove)
    (cP : Has P w K mg base 1 "pairs_of" ["books"] (spPairs K)) (cS : Has P w K mg base 1 "as_pair" ["book", "passed"] spAsPair) : FnOk P w K mg base CX0 2 f fd ["pile", "readings"] (spPassT K) := by
  refine F.ok scPassings (fun vs H Q E h => ?_) (fun cdv A outer s H vs Q E hr h => ?_)
  · obtain ⟨p, r, bs, rs, rfl, _⟩ := h
    rfl
  obtain ⟨p, r, bs, rs, rfl, hp, hrr, hl, hl2, hm, q⟩ := h
  refine ⟨_, pss_cons (ps_set (i := 2) scPassings.nd rfl (.inl rfl) (pe_go cP hr (by decide) rfl (pa_cons (pv 0) pa_nil)))
    (pss_cons (ps_set (i := 3) scPassings.nd rfl (.inr rfl) (pe_dcK (hu_of hr) (by rfl) (pv 2) (by decide +kernel) (by decide +kernel) (by decide +kernel) rfl))
    (pss_cons (ps_set (i := 4) scPassings.nd rfl (.inl rfl) (pv 0))
    (pss_cons (ps_for PassesOwn.never rfl (pi_tup (pv 1)) (pg_name (i := 5) scPassings.nd rfl (.inl rfl))
      (pss_cons (ps_for PassesOwn.never rfl (pi_tup (pe_go cA hr (by decide) rfl (pa_cons (pv 4) (pa_cons (pv 5) pa_nil)))) (pg_name (i := 6) scPassings.nd rfl (.inl rfl))
        (pss_one (ps_daug (hu_of hr) (pv 3) (pe_go cS hr (by decide) rfl (pa_cons (pv 5) (pa_cons (pv 6) pa_nil))) pe_int in_add (fun _ _ _ => rfl))))
      (pss_one (ps_set (i := 4) scPassings.nd rfl (.inl rfl) (pe_go cL hr (by decide) rfl (pa_cons (pv 4) (pa_cons (pv 5) pa_nil)))))))
    (pss_one (ps_ret (pe_lc (own := [("one", 8), ("other", 9)]) (g := gTup K 2 (gCons (gName 8) (gCons (gName 9) gNil))) (tt := tYes) (by rfl) scPassings.nd (pi_list (pv 2))
        (blkOk_by (own := [("one", 8), ("other", 9)]) (N := nPassings) (sc := defScope sPassings) (by decide +kernel))
        (fun _ _ _ _ _ => pg_tup rfl (pgs_cons (pg_name (i := 8) scPassings.nd rfl (.inl rfl)) (pgs_cons (pg_name (i := 9) scPassings.nd rfl (.inl rfl)) pgs_nil)))
        (fun _ _ _ _ _ => pts_nil)
        (fun _ _ _ _ _ => pe_tup (pa_cons (pv 8) (pa_cons (pv 9) (pa_cons (pe_dget (hu_of hr) (pv 3) (pe_tup (pa_cons (pv 8) (pa_cons (pv 9) pa_nil))) (fun _ _ => rfl)) pa_nil)))))))))), ?_⟩
  refine ⟨_, rfl, p, bs, rfl, hp.sqt, by omega, fun l H1 ys ts s1 pm so nl hl1 pl1 => ?_⟩
  have ly : ys.length = bs.length := pm.length_eq
  have lps : (prs ys ys.length).length ≤ 49 := by
    have z := prs_len ys ys.length
    have z2 : ys.length * ys.length ≤ 7 * 7 := Nat.mul_le_mul (by omega) (by omega)
    omega
  have inPs : ∀ {a b : Str}, a ∈ bs → b ∈ bs → a ≠ b → asPair (a, b) ∈ prs ys ys.length := fun {a b} ha hb ne => pair_in pm so ha hb ne
  generalize hps : prs ys ys.length = ps at pl1 lps inPs
  -- the dict
  refine ⟨_, rfl, l, ts, ps.map key, rfl, sql hl1, by rw [List.length_map]; exact pl1.1, fun i t k e1 e2 => ?_, by rw [List.length_map]; omega, fun D hD => ?_⟩
  · rw [List.getElem?_map] at e2
    cases e3 : ps[i]? with
    | none =>
      rw [e3] at e2
      cases e2
    | some q' =>
      rw [e3] at e2
      cases e2
      exact pl1.2 i t q' e1 e3
  have sm2 := same_new hD (.dT (consts 0 (ps.map key)))
  have hD2 : upd H1 D (.dT (consts 0 (ps.map key))) D = some (.dT (consts 0 (ps.map key))) := upd_same
  have lk2 : (consts 0 (ps.map key)).length ≤ ts.length := by
    have z := consts_len 0 (ps.map key)
    rw [List.length_map, ← pl1.1] at z
    exact z
  have hv2 : ∀ q ∈ ps, valV (consts 0 (ps.map key)) (key q) = some (natV 0) := fun q hq => consts_val 0 _ _ (List.mem_map.mpr ⟨q, hq, rfl⟩)
  generalize consts 0 (ps.map key) = kvs0 at sm2 hD2 lk2 hv2 ⊢
  generalize upd H1 D (.dT kvs0) = H2 at sm2 hD2 ⊢
  have c0 : Counts kvs0 ps (rowsM bs (rs.take 0)) := fun q hq => hv2 q hq
  -- the readings
  refine ⟨_, rfl, _, rfl, r, rfl, ⟨_, ((hrr.same s1).same sm2).sqt⟩, for_tup (K := K) (a := r) (xs := rs.map V.str)
    (fun i σ H' => ∃ (o : Addr) (y5 y6 : Option V) (kvs : List (List Key × V)), σ = [some (.ref p), some (.ref r), some (.ref l), some (.ref D), some (.ref o), y5, y6, none, none, none] ∧ Same H1 H' ∧
      TpO H' o ((behindM bs (rs.take i)).map V.str) ∧ H' D = some (.dT kvs) ∧ kvs.length ≤ 49 + (rowsM bs (rs.take i)).length ∧ Counts kvs ps (rowsM bs (rs.take i)))
    ⟨p, none, none, kvs0, rfl, sm2, (hp.same s1).same sm2, hD2, by rw [pl1.1] at lk2; omega, c0⟩ (fun i σ H' _ ⟨_, _, _, _, _, sm, _⟩ => ((hrr.same s1).same sm).sqt) ?_ ?_⟩
  · rintro i x σ H' hx ⟨o, y5, y6, kvs, rfl, sm, ho, hD', lk, ct⟩
    obtain ⟨b, hb, rfl⟩ := strs_get hx
    have hi : i < rs.length := (List.getElem?_eq_some_iff.mp hb).1
    have pmi := behindM_perm (rs.take i) (take_sub hm i)
    have hbs : b ∈ bs := hm b (List.mem_of_getElem? hb)
    have hbm := pmi.mem_iff.mpr hbs
    have rl : (rowsM bs (rs.take i)).length ≤ 420 := by
      have z := rowsM_len (rs.take i) (take_sub hm i)
      have z2 : (rs.take i).length * bs.length ≤ 60 * 7 := Nat.mul_le_mul (by rw [List.length_take]; omega) hl
      omega
    generalize hcur : behindM bs (rs.take i) = cur at ho pmi hbm
    have ol : (over cur b).length ≤ 7 := by
      unfold over
      rw [List.length_take, pmi.length_eq]
      omega
    refine ⟨_, rfl, _, rfl, o, cur, b, rfl, ho, hbm, fun a H3 s3 ha => ?_⟩
    refine ⟨a, rfl, ⟨_, sqt ha⟩, for_tup (K := K) (a := a) (xs := (over cur b).map V.str)
      (fun j σ H' => ∃ (y6 : Option V) (kvs : List (List Key × V)), σ = [some (.ref p), some (.ref r), some (.ref l), some (.ref D), some (.ref o), some (.str b), y6, none, none, none] ∧ Same H1 H' ∧ H' a = some (.tup ((over cur b).map V.str)) ∧
        TpO H' o (cur.map V.str) ∧ H' D = some (.dT kvs) ∧ kvs.length ≤ 49 + (rowsM bs (rs.take i)).length + j ∧ Counts kvs ps (rowsM bs (rs.take i) ++ ((over cur b).take j).map fun z => (b, z)))
      ⟨y6, kvs, rfl, sm.trans s3, ha, ho.same s3, s3 _ _ hD', lk, by rw [List.take_zero, List.map_nil, List.append_nil]; exact ct⟩ (fun j σ H' _ ⟨_, _, _, _, h', _⟩ => sqt h') ?_ ?_⟩
    · rintro j x σ H4 hx4 ⟨y6', kvs4, rfl, sm4, ha4, ho4, hD4, lk4, ct4⟩
      obtain ⟨z, hz, rfl⟩ := strs_get hx4
      have hj : j < (over cur b).length := (List.getElem?_eq_some_iff.mp hz).1
      have zo := List.mem_of_getElem? hz
      have zin : z ∈ bs := pmi.mem_iff.mp (over_mem zo)
      have hin := inPs hbs zin (over_ne zo).symm
      refine ⟨_, rfl, _, rfl, _, rfl, b, z, rfl, fun t ht => ?_⟩
      have s5 := same_new ht (.tup [.str (asPair (b, z)).1, .str (asPair (b, z)).2])
      have hk5 : upd H4 t (.tup [.str (asPair (b, z)).1, .str (asPair (b, z)).2]) t = some (.tup ((key (asPair (b, z))).map kV)) := upd_same
      have hD5 := s5 _ _ hD4
      refine ⟨D, natV (cnt (rowsM bs (rs.take i) ++ ((over cur b).take j).map fun z => (b, z)) (asPair (b, z))), rfl, ?_, _, _, rfl, rfl, _, DPut.t hD5 hk5 (small1000 (by omega)), ?_⟩
      · have g := DGet.t hD5 hk5
        rw [ct4 _ hin] at g
        exact g
      · refine ⟨_, _, rfl, same_put (sm4.trans s5) hD, ?_, ?_, upd_same, ?_, ?_⟩
        · exact (KeepT.put (D := D) hD5 (fun xs z => nomatch z)) _ _ (s5 _ _ ha4)
        · refine (ho4.same s5).move fun u h => ?_
          have ne : o ≠ D := fun e => by
            subst e
            obtain ⟨u2, h2, o2, rfl, _⟩ := ho4
            rw [hD4] at h2
            cases h2
          rw [upd_ne ne]
          exact h
        · have zz := length_putK kvs4 (key (asPair (b, z))) (V.int ((cnt (rowsM bs (rs.take i) ++ ((over cur b).take j).map fun z => (b, z)) (asPair (b, z)) : Int) + 1))
          exact Nat.le_trans zz (by omega)
        · have zz := ct4.more (r := (b, z)) hin
          rw [List.take_add_one, hz, List.map_append, ← List.append_assoc]
          exact zz
    · rintro σ H4 ⟨y6', kvs4, rfl, sm4, ha4, ho4, hD4, lk4, ct4⟩
      rw [List.length_map] at lk4 ct4
      rw [List.take_length] at ct4
      refine ⟨_, rfl, _, rfl, o, cur, b, rfl, ho4, hbm, by rw [pmi.length_eq]; omega, fun o2 H5 s5 ho5 => ?_⟩
      refine ⟨o2, _, _, kvs4, rfl, sm4.trans s5, ?_, s5 _ _ hD4, ?_, ?_⟩
      · rw [take_step hb, behindM_snoc, hcur]
        exact ho5
      · rw [take_step hb, rowsM_snoc, hcur, List.length_append, List.length_map]
        omega
      · rw [take_step hb, rowsM_snoc, hcur]
        exact ct4
  · rintro σ H3 ⟨o, y5, y6, kvs, rfl, sm3, ho3, hD3, lk3, ct3⟩
    rw [List.length_map, List.take_length] at ct3
    -- the answer
    refine ⟨_, rfl, l, rfl, ⟨_, sm3.seq (sql hl1)⟩, fun D2 hD2' => lc_list (K := K) (a := l) (xs := ts.map V.ref)
      (fun i H' => ∃ xs : List Addr, Same H3 H' ∧ H' D2 = some (.lst (xs.map V.ref)) ∧ TriL (rowsM bs rs) H' xs (ps.take i))
      ⟨[], same_new hD2' _, upd_same, rfl, fun i t q h => by simp at h⟩ (fun i H' _ ⟨_, sm, _⟩ => sm.seq (sm3.seq (sql hl1))) ?_ ?_⟩
    · rintro i x H4 hx ⟨xs, sm4, hx4, dp4⟩
      have hi : i < ts.length := by
        have z := (List.getElem?_eq_some_iff.mp hx).1
        rw [List.length_map] at z
        exact z
      rw [List.getElem?_map, List.getElem?_eq_getElem hi] at hx
      cases hx
      have hi2 : i < ps.length := by rw [← pl1.1]; exact hi
      have ht : H4 ts[i] = some (.tup [.str ps[i].1, .str ps[i].2]) := sm4 _ _ (sm3 _ _ (pl1.2 i _ _ (List.getElem?_eq_getElem hi) (List.getElem?_eq_getElem hi2)))
      refine ⟨ts[i], _, rfl, sqt ht, rfl, _, _, rfl, _, _, rfl, rfl, rfl, _, rfl, _, rfl, _, rfl, _, rfl, _, rfl, (by show 2 ≤ sizeLine; decide), fun k hk => ?_⟩
      have s5 := same_new hk (.tup [.str ps[i].1, .str ps[i].2])
      have hk5 : upd H4 k (.tup [.str ps[i].1, .str ps[i].2]) k = some (.tup ((key ps[i]).map kV)) := upd_same
      have g := DGet.t (s5 _ _ (sm4 _ _ hD3)) hk5
      rw [ct3 _ (List.getElem_mem hi2)] at g
      refine ⟨D, _, rfl, g, (by show 3 ≤ sizeLine; decide), fun t ht5 => ?_⟩
      have s6 := same_new ht5 (.tup [.str ps[i].1, .str ps[i].2, natV (cnt (rowsM bs rs) ps[i])])
      have hx6 := s6 _ _ (s5 _ _ hx4)
      have lx : xs.length ≤ 49 := by
        have z := dp4.1
        rw [List.length_take] at z
        omega
      refine ⟨_, hx6, by rw [List.length_map]; exact small1000 (by omega), xs ++ [t], same_put (sm4.trans (s5.trans s6)) hD2', by rw [upd_same, List.map_append]; rfl, ?_⟩
      rw [List.take_add_one, List.getElem?_eq_getElem hi2]
      exact ((dp4.move (KeepT.of (s5.trans s6))).snoc (t := t) (q := ps[i]) upd_same).move (KeepT.put hx6 (fun xs z => nomatch z))
    · rintro H4 ⟨xs, sm4, hx4, dp4⟩
      rw [List.length_map, pl1.1, List.take_length] at dp4
      exact q D2 H4 ys _ (s1.trans (sm3.trans sm4)) (s1.free (sm3.free hD2')) pm so hx4 (by rw [hps]; exact dp4.dp)
theorem scFarP : FnScope ["pile", "day", "days"] ["pile", "day", "days"] (defScope sFarP) := ⟨rfl, rfl, rfl, by decide +kernel, rfl, by decide +kernel, by decide +kernel⟩
theorem ok_farP {f : Addr} {fd : FuncData} (F : Fun K "far_pile" "far_pile" sFarP f fd) (cBe : Has P w K mg base 2 "behind" ["pile", "readings"] (spBehindT K)) : FnOk P w K mg base CX0 3 f fd ["pile", "day", "days"] (spFarP K) := by
  refine F.ok scFarP (fun vs H Q E h => ?_) (fun cdv A outer s H vs Q E hr h => ?_)
  · obtain ⟨p, r, bs, rs, d, rfl, _⟩ := h
    rfl
  obtain ⟨p, r, bs, rs, d, rfl, hp, hrr, hl, hm, q⟩ := h
  refine ⟨_, pss_one (ps_ret (pe_ifExp (pt_cmpR op_gt (pv 2) pe_int (nomark _)) (pe_go cBe hr (by decide) rfl (pa_cons (pv 0) (pa_cons (pv 1) pa_nil))) (pv 0))), ?_⟩
  refine ⟨_, rfl, _, _, rfl, rfl, _, rfl, ite2 (fun c => ?_) (fun c => ?_)⟩
  · have c' : 0 < d := of_decide_eq_true c
    rw [if_pos c'] at q
    exact ⟨_, rfl, _, rfl, p, r, bs, rs, rfl, hp, hrr, hl, hm, fun o H' s' ho => q o H' s' ho⟩
  · have c' : ¬ 0 < d := fun z => c (decide_eq_true z)
    rw [if_neg c'] at q
    exact ⟨_, rfl, q p H (Same.refl _) hp⟩
theorem scFarL : FnScope ["pile", "day", "days", "first", "later"] ["pile", "day", "days"] (defScope sFarL) := ⟨rfl, rfl, rfl, by decide +kernel, rfl, by decide +kernel, by decide +kernel⟩
theorem ok_farL {f : Addr} {fd : FuncData} (F : Fun K "far_lifted" "far_lifted" sFarL f fd) (B : Bi mg) (cBe : Has P w K mg base 2 "behind" ["pile", "readings"] (spBehindT K)) (cLi : Has P w K mg base 2 "lifted" ["pile", "readings"] (spLiftedT K)) :
    FnOk P w K mg base CX0 3 f fd ["pile", "day", "days"] (spFarL K) := by
  refine F.ok scFarL (fun vs H Q E h => ?_) (fun cdv A outer s H vs Q E hr h => ?_)
  · obtain ⟨p, r, bs, rs, d, rfl, _⟩ := h
    rfl
  obtain ⟨p, r, bs, rs, d, rfl, hp, hrr, hl, hl2, hm, q⟩ := h
  refine ⟨_, pss_cons (ps_if (pt_cmpR op_le (pv 2) pe_int (nomark _)) (pss_one (ps_ret pe_int)) pss_nil)
    (pss_cons (ps_set (i := 3) scFarL.nd rfl (.inl rfl) (pe_callB (cr_sum rfl) (by rfl) B.sum (by decide +kernel) (pa_cons (pe_go cLi hr (by decide) rfl (pa_cons (pv 0) (pa_cons (pv 1) pa_nil))) pa_nil)))
    (pss_cons (ps_set (i := 4) scFarL.nd rfl (.inl rfl) (pe_callB (cr_sum rfl) (by rfl) B.sum (by decide +kernel) (pa_cons (pe_go cLi hr (by decide) rfl (pa_cons (pe_go cBe hr (by decide) rfl (pa_cons (pv 0) (pa_cons (pv 1) pa_nil))) (pa_cons (pv 1) pa_nil))) pa_nil)))
    (pss_one (ps_ret (pe_op op_add (pv 3) (pe_op op_mul (pe_op op_sub (pv 2) pe_int) (pv 4))))))), ?_⟩
  refine ⟨_, rfl, _, _, rfl, rfl, _, rfl, ite2 (fun c => ?_) (fun c => ?_)⟩
  · have c' : d ≤ 0 := of_decide_eq_true c
    rw [if_pos c'] at q
    exact q H (Same.refl _)
  · have c' : ¬ d ≤ 0 := fun z => c (decide_eq_true z)
    rw [if_neg c'] at q
    have pm := behindM_perm rs hm
    have hm2 : ∀ b ∈ rs, b ∈ behindM bs rs := fun b hb => pm.mem_iff.mpr (hm b hb)
    refine ⟨_, rfl, _, rfl, p, r, bs, rs, rfl, hp, hrr, by omega, by omega, hm, fun l1 H1 s1 n1 h1 => ?_⟩
    rw [natV_map] at h1
    refine ⟨l1, _, rfl, sql h1, ?_⟩
    refine ⟨_, rfl, _, rfl, p, r, bs, rs, rfl, hp.same s1, hrr.same s1, by omega, hm, fun o H2 s2 ho => ⟨_, rfl, o, r, behindM bs rs, rs, rfl, ho, (hrr.same s1).same s2, by rw [pm.length_eq]; omega, by omega, hm2, fun l2 H3 s3 n3 h3 => ?_⟩⟩
    rw [natV_map] at h3
    refine ⟨l2, _, rfl, sql h3, ?_⟩
    rw [sum_nat, sum_nat]
    have sm := lifted_small hm2
    rw [pm.length_eq] at sm
    have sm2 : rs.length * bs.length ≤ 60 * 7 := Nat.mul_le_mul hl2 hl
    refine ⟨_, rfl, _, rfl, _, _, rfl, rfl, _, rfl, _, _, rfl, rfl, .inr ⟨by omega, by omega⟩, _, _, rfl, rfl, ?_⟩
    exact q H3 (s1.trans (s2.trans s3))
theorem ok_behind {f : Addr} {fd : FuncData} (F : Fun K "behind" "behind" sBehind f fd) (cL : Has P w K mg base 1 "laid_on_top" ["pile", "book"] spLaid) : FnOk P w K mg base CX0 2 f fd ["pile", "readings"] spBehind := by
  refine F.ok scBehind (fun vs H Q E h => ?_) (fun cdv A outer s H vs Q E hr h => ?_)
  · obtain ⟨p, r, bs, rs, rfl, _⟩ := h
    rfl
  obtain ⟨p, r, bs, rs, rfl, hp, hrr, hl, hm, q⟩ := h
  refine ⟨_, pss_cons (ps_set (i := 2) scBehind.nd rfl (.inl rfl) (pv 0))
    (pss_cons (ps_for PassesOwn.never rfl (pi_list (pv 1)) (pg_name (i := 3) scBehind.nd rfl (.inl rfl))
      (pss_one (ps_set (i := 2) scBehind.nd rfl (.inl rfl) (pe_go cL hr (by decide) rfl (pa_cons (pv 2) (pa_cons (pv 3) pa_nil))))))
    (pss_one (ps_ret (pv 2)))), ?_⟩
  refine ⟨_, rfl, _, rfl, r, rfl, ⟨_, sql hrr⟩, for_list (K := K) (a := r) (xs := rs.map V.str) (fun i σ H' => ∃ (o : Addr) (y3 : Option V), σ = [some (.ref p), some (.ref r), some (.ref o), y3] ∧ Same H H' ∧ TpO H' o ((behindM bs (rs.take i)).map V.str))
    ⟨p, none, rfl, Same.refl _, hp⟩ (fun i σ H' _ ⟨_, _, _, sm, _⟩ => sm.seq (sql hrr)) ?_ ?_⟩
  · rintro i x σ H' hx ⟨o, y3, rfl, sm, ho⟩
    obtain ⟨b, hb, rfl⟩ := strs_get hx
    have pm := behindM_perm (rs.take i) (take_sub hm i)
    refine ⟨_, rfl, _, rfl, o, _, b, rfl, ho, pm.mem_iff.mpr (hm b (List.mem_of_getElem? hb)), by rw [pm.length_eq]; exact hl, fun o2 H2 s2 h2 => ?_⟩
    refine ⟨o2, _, rfl, sm.trans s2, ?_⟩
    rw [take_step hb, behindM_snoc]
    exact h2
  · rintro σ H' ⟨o, y3, rfl, sm, ho⟩
    rw [List.length_map, List.take_length] at ho
    exact ⟨_, rfl, q o H' sm ho⟩
theorem ok_lifted {f : Addr} {fd : FuncData} (F : Fun K "lifted" "lifted" sLifted f fd) (cL : Has P w K mg base 1 "laid_on_top" ["pile", "book"] spLaid) : FnOk P w K mg base CX0 2 f fd ["pile", "readings"] spLifted := by
  refine F.ok scLifted (fun vs H Q E h => ?_) (fun cdv A outer s H vs Q E hr h => ?_)
  · obtain ⟨p, r, bs, rs, rfl, _⟩ := h
    rfl
  obtain ⟨p, r, bs, rs, rfl, hp, hrr, hl, hl2, hm, q⟩ := h
  refine ⟨_, pss_cons (ps_set (i := 2) scLifted.nd rfl (.inl rfl) (pe_lst pa_nil))
    (pss_cons (ps_set (i := 3) scLifted.nd rfl (.inl rfl) (pv 0))
    (pss_cons (ps_for PassesOwn.never rfl (pi_list (pv 1)) (pg_name (i := 4) scLifted.nd rfl (.inl rfl))
      (pss_cons (ps_expr (pe_bm PySem.F.plainAttrs_list PySem.F.slot_list_append PySem.F.type_list_append mt_append (pv 2) (pa_cons (pe_tm PySem.F.slot_tuple_index PySem.F.type_tuple_index mt_tup_index (pv 3) (pa_cons (pv 4) pa_nil)) pa_nil)))
      (pss_one (ps_set (i := 3) scLifted.nd rfl (.inl rfl) (pe_go cL hr (by decide) rfl (pa_cons (pv 3) (pa_cons (pv 4) pa_nil)))))))
    (pss_one (ps_ret (pv 2))))), ?_⟩
  refine ⟨Nat.zero_le _, fun L hL => ?_⟩
  have s1 : Same H (upd H L (.lst [])) := same_new hL _
  refine ⟨_, rfl, _, rfl, r, rfl, ⟨_, sql (s1 _ _ hrr)⟩, for_list (K := K) (a := r) (xs := rs.map V.str) (fun i σ H' => ∃ (o : Addr) (y4 : Option V), σ = [some (.ref p), some (.ref r), some (.ref L), some (.ref o), y4] ∧ Same H H' ∧ TpO H' o ((behindM bs (rs.take i)).map V.str) ∧ H' L = some (.lst ((liftedM bs (rs.take i)).map natV)))
    ⟨p, none, rfl, s1, hp.same s1, upd_same⟩ (fun i σ H' _ ⟨_, _, _, sm, _⟩ => sm.seq (sql hrr)) ?_ ?_⟩
  · rintro i x σ H' hx ⟨o, y4, rfl, sm, ho, hL'⟩
    obtain ⟨b, hb, rfl⟩ := strs_get hx
    have pm := behindM_perm (rs.take i) (take_sub hm i)
    have hbm := pm.mem_iff.mpr (hm b (List.mem_of_getElem? hb))
    have nLo : L ≠ o := fun e => by
      subst e
      obtain ⟨u, h1, o1, rfl, _⟩ := ho
      rw [hL'] at h1
      cases h1
    refine ⟨_, rfl, .inl ⟨rfl, _, sql hL'⟩, _, rfl, ⟨o, _, rfl, ho⟩, _, rfl, o, _, b, _, rfl, rfl, ho.sqt, idx_get hbm, idx_first, L, _, _, rfl, rfl, hL', ?_, ?_⟩
    · rw [List.length_map, liftedM_len, List.length_take]
      exact small1000 (by omega)
    · have ho2 : TpO (upd H' L (.lst ((liftedM bs (rs.take i)).map natV ++ [natV ((behindM bs (rs.take i)).idxOf b)]))) o ((behindM bs (rs.take i)).map V.str) := ho.move fun u h => by
        rw [upd_ne nLo.symm]
        exact h
      refine ⟨_, rfl, _, rfl, o, _, b, rfl, ho2, hbm, by rw [pm.length_eq]; exact hl, fun o2 H2 s2 h2 => ?_⟩
      refine ⟨o2, _, rfl, (same_put sm hL).trans s2, ?_, ?_⟩
      · rw [take_step hb, behindM_snoc]
        exact h2
      · rw [take_step hb, liftedM_snoc, List.map_append]
        exact s2 _ _ upd_same
  · rintro σ H' ⟨o, y4, rfl, sm, ho, hL'⟩
    rw [List.length_map, List.take_length] at hL'
    exact ⟨_, rfl, q L H' sm hL hL'⟩
theorem ok_passings {f : Addr} {fd : FuncData} (F : Fun K "passings" "passings" sPassings f fd) (cL : Has P w K mg base 1 "laid_on_top" ["pile", "book"] spLaid) (cA : Has P w K mg base 1 "books_above" ["pile", "book"] spAbove)
    (cP : Has P w K mg base 1 "pairs_of" ["books"] (spPairs K)) (cS : Has P w K mg base 1 "as_pair" ["book", "passed"] spAsPair) : FnOk P w K mg base CX0 2 f fd ["pile", "readings"] (spPassings K) := by
  refine F.ok scPassings (fun vs H Q E h => ?_) (fun cdv A outer s H vs Q E hr h => ?_)
  · obtain ⟨p, r, bs, rs, rfl, _⟩ := h
    rfl
  obtain ⟨p, r, bs, rs, rfl, hp, hrr, hl, hl2, hm, q⟩ := h
  refine ⟨_, pss_cons (ps_set (i := 2) scPassings.nd rfl (.inl rfl) (pe_go cP hr (by decide) rfl (pa_cons (pv 0) pa_nil)))
    (pss_cons (ps_set (i := 3) scPassings.nd rfl (.inr rfl) (pe_dcK (hu_of hr) (by rfl) (pv 2) (by decide +kernel) (by decide +kernel) (by decide +kernel) rfl))
    (pss_cons (ps_set (i := 4) scPassings.nd rfl (.inl rfl) (pv 0))
    (pss_cons (ps_for PassesOwn.never rfl (pi_list (pv 1)) (pg_name (i := 5) scPassings.nd rfl (.inl rfl))
      (pss_cons (ps_for PassesOwn.never rfl (pi_tup (pe_go cA hr (by decide) rfl (pa_cons (pv 4) (pa_cons (pv 5) pa_nil)))) (pg_name (i := 6) scPassings.nd rfl (.inl rfl))
        (pss_one (ps_daug (hu_of hr) (pv 3) (pe_go cS hr (by decide) rfl (pa_cons (pv 5) (pa_cons (pv 6) pa_nil))) pe_int in_add (fun _ _ _ => rfl))))
      (pss_one (ps_set (i := 4) scPassings.nd rfl (.inl rfl) (pe_go cL hr (by decide) rfl (pa_cons (pv 4) (pa_cons (pv 5) pa_nil)))))))
    (pss_one (ps_ret (pe_lc (own := [("one", 8), ("other", 9)]) (g := gTup K 2 (gCons (gName 8) (gCons (gName 9) gNil))) (tt := tYes) (by rfl) scPassings.nd (pi_list (pv 2))
        (blkOk_by (own := [("one", 8), ("other", 9)]) (N := nPassings) (sc := defScope sPassings) (by decide +kernel))
        (fun _ _ _ _ _ => pg_tup rfl (pgs_cons (pg_name (i := 8) scPassings.nd rfl (.inl rfl)) (pgs_cons (pg_name (i := 9) scPassings.nd rfl (.inl rfl)) pgs_nil)))
        (fun _ _ _ _ _ => pts_nil)
        (fun _ _ _ _ _ => pe_tup (pa_cons (pv 8) (pa_cons (pv 9) (pa_cons (pe_dget (hu_of hr) (pv 3) (pe_tup (pa_cons (pv 8) (pa_cons (pv 9) pa_nil))) (fun _ _ => rfl)) pa_nil)))))))))), ?_⟩
  refine ⟨_, rfl, p, bs, rfl, hp.sqt, by omega, fun l H1 ys ts s1 pm so nl hl1 pl1 => ?_⟩
  have ly : ys.length = bs.length := pm.length_eq
  have lps : (prs ys ys.length).length ≤ 49 := by
    have z := prs_len ys ys.length
    have z2 : ys.length * ys.length ≤ 7 * 7 := Nat.mul_le_mul (by omega) (by omega)
    omega
  have inPs : ∀ {a b : Str}, a ∈ bs → b ∈ bs → a ≠ b → asPair (a, b) ∈ prs ys ys.length := fun {a b} ha hb ne => pair_in pm so ha hb ne
  generalize hps : prs ys ys.length = ps at pl1 lps inPs
  -- the dict
  refine ⟨_, rfl, l, ts, ps.map key, rfl, sql hl1, by rw [List.length_map]; exact pl1.1, fun i t k e1 e2 => ?_, by rw [List.length_map]; omega, fun D hD => ?_⟩
  · rw [List.getElem?_map] at e2
    cases e3 : ps[i]? with
    | none =>
      rw [e3] at e2
      cases e2
    | some q' =>
      rw [e3] at e2
      cases e2
      exact pl1.2 i t q' e1 e3
  have sm2 := same_new hD (.dT (consts 0 (ps.map key)))
  have hD2 : upd H1 D (.dT (consts 0 (ps.map key))) D = some (.dT (consts 0 (ps.map key))) := upd_same
  have lk2 : (consts 0 (ps.map key)).length ≤ ts.length := by
    have z := consts_len 0 (ps.map key)
    rw [List.length_map, ← pl1.1] at z
    exact z
  have hv2 : ∀ q ∈ ps, valV (consts 0 (ps.map key)) (key q) = some (natV 0) := fun q hq => consts_val 0 _ _ (List.mem_map.mpr ⟨q, hq, rfl⟩)
  generalize consts 0 (ps.map key) = kvs0 at sm2 hD2 lk2 hv2 ⊢
  generalize upd H1 D (.dT kvs0) = H2 at sm2 hD2 ⊢
  have c0 : Counts kvs0 ps (rowsM bs (rs.take 0)) := fun q hq => hv2 q hq
  -- the readings
  refine ⟨_, rfl, _, rfl, r, rfl, ⟨_, sql (sm2 _ _ (s1 _ _ hrr))⟩, for_list (K := K) (a := r) (xs := rs.map V.str)
    (fun i σ H' => ∃ (o : Addr) (y5 y6 : Option V) (kvs : List (List Key × V)), σ = [some (.ref p), some (.ref r), some (.ref l), some (.ref D), some (.ref o), y5, y6, none, none, none] ∧ Same H1 H' ∧
      TpO H' o ((behindM bs (rs.take i)).map V.str) ∧ H' D = some (.dT kvs) ∧ kvs.length ≤ 49 + (rowsM bs (rs.take i)).length ∧ Counts kvs ps (rowsM bs (rs.take i)))
    ⟨p, none, none, kvs0, rfl, sm2, (hp.same s1).same sm2, hD2, by rw [pl1.1] at lk2; omega, c0⟩ (fun i σ H' _ ⟨_, _, _, _, _, sm, _⟩ => sm.seq (s1.seq (sql hrr))) ?_ ?_⟩
  · rintro i x σ H' hx ⟨o, y5, y6, kvs, rfl, sm, ho, hD', lk, ct⟩
    obtain ⟨b, hb, rfl⟩ := strs_get hx
    have hi : i < rs.length := (List.getElem?_eq_some_iff.mp hb).1
    have pmi := behindM_perm (rs.take i) (take_sub hm i)
    have hbs : b ∈ bs := hm b (List.mem_of_getElem? hb)
    have hbm := pmi.mem_iff.mpr hbs
    have rl : (rowsM bs (rs.take i)).length ≤ 420 := by
      have z := rowsM_len (rs.take i) (take_sub hm i)
      have z2 : (rs.take i).length * bs.length ≤ 60 * 7 := Nat.mul_le_mul (by rw [List.length_take]; omega) hl
      omega
    generalize hcur : behindM bs (rs.take i) = cur at ho pmi hbm
    have ol : (over cur b).length ≤ 7 := by
      unfold over
      rw [List.length_take, pmi.length_eq]
      omega
    refine ⟨_, rfl, _, rfl, o, cur, b, rfl, ho, hbm, fun a H3 s3 ha => ?_⟩
    refine ⟨a, rfl, ⟨_, sqt ha⟩, for_tup (K := K) (a := a) (xs := (over cur b).map V.str)
      (fun j σ H' => ∃ (y6 : Option V) (kvs : List (List Key × V)), σ = [some (.ref p), some (.ref r), some (.ref l), some (.ref D), some (.ref o), some (.str b), y6, none, none, none] ∧ Same H1 H' ∧ H' a = some (.tup ((over cur b).map V.str)) ∧
        TpO H' o (cur.map V.str) ∧ H' D = some (.dT kvs) ∧ kvs.length ≤ 49 + (rowsM bs (rs.take i)).length + j ∧ Counts kvs ps (rowsM bs (rs.take i) ++ ((over cur b).take j).map fun z => (b, z)))
      ⟨y6, kvs, rfl, sm.trans s3, ha, ho.same s3, s3 _ _ hD', lk, by rw [List.take_zero, List.map_nil, List.append_nil]; exact ct⟩ (fun j σ H' _ ⟨_, _, _, _, h', _⟩ => sqt h') ?_ ?_⟩
    · rintro j x σ H4 hx4 ⟨y6', kvs4, rfl, sm4, ha4, ho4, hD4, lk4, ct4⟩
      obtain ⟨z, hz, rfl⟩ := strs_get hx4
      have hj : j < (over cur b).length := (List.getElem?_eq_some_iff.mp hz).1
      have zo := List.mem_of_getElem? hz
      have zin : z ∈ bs := pmi.mem_iff.mp (over_mem zo)
      have hin := inPs hbs zin (over_ne zo).symm
      refine ⟨_, rfl, _, rfl, _, rfl, b, z, rfl, fun t ht => ?_⟩
      have s5 := same_new ht (.tup [.str (asPair (b, z)).1, .str (asPair (b, z)).2])
      have hk5 : upd H4 t (.tup [.str (asPair (b, z)).1, .str (asPair (b, z)).2]) t = some (.tup ((key (asPair (b, z))).map kV)) := upd_same
      have hD5 := s5 _ _ hD4
      refine ⟨D, natV (cnt (rowsM bs (rs.take i) ++ ((over cur b).take j).map fun z => (b, z)) (asPair (b, z))), rfl, ?_, _, _, rfl, rfl, _, DPut.t hD5 hk5 (small1000 (by omega)), ?_⟩
      · have g := DGet.t hD5 hk5
        rw [ct4 _ hin] at g
        exact g
      · refine ⟨_, _, rfl, same_put (sm4.trans s5) hD, ?_, ?_, upd_same, ?_, ?_⟩
        · exact (KeepT.put (D := D) hD5 (fun xs z => nomatch z)) _ _ (s5 _ _ ha4)
        · refine (ho4.same s5).move fun u h => ?_
          have ne : o ≠ D := fun e => by
            subst e
            obtain ⟨u2, h2, o2, rfl, _⟩ := ho4
            rw [hD4] at h2
            cases h2
          rw [upd_ne ne]
          exact h
        · have zz := length_putK kvs4 (key (asPair (b, z))) (V.int ((cnt (rowsM bs (rs.take i) ++ ((over cur b).take j).map fun z => (b, z)) (asPair (b, z)) : Int) + 1))
          exact Nat.le_trans zz (by omega)
        · have zz := ct4.more (r := (b, z)) hin
          rw [List.take_add_one, hz, List.map_append, ← List.append_assoc]
          exact zz
    · rintro σ H4 ⟨y6', kvs4, rfl, sm4, ha4, ho4, hD4, lk4, ct4⟩
      rw [List.length_map] at lk4 ct4
      rw [List.take_length] at ct4
      refine ⟨_, rfl, _, rfl, o, cur, b, rfl, ho4, hbm, by rw [pmi.length_eq]; omega, fun o2 H5 s5 ho5 => ?_⟩
      refine ⟨o2, _, _, kvs4, rfl, sm4.trans s5, ?_, s5 _ _ hD4, ?_, ?_⟩
      · rw [take_step hb, behindM_snoc, hcur]
        exact ho5
      · rw [take_step hb, rowsM_snoc, hcur, List.length_append, List.length_map]
        omega
      · rw [take_step hb, rowsM_snoc, hcur]
        exact ct4
  · rintro σ H3 ⟨o, y5, y6, kvs, rfl, sm3, ho3, hD3, lk3, ct3⟩
    rw [List.length_map, List.take_length] at ct3
    -- the answer
    refine ⟨_, rfl, l, rfl, ⟨_, sm3.seq (sql hl1)⟩, fun D2 hD2' => lc_list (K := K) (a := l) (xs := ts.map V.ref)
      (fun i H' => ∃ xs : List Addr, Same H3 H' ∧ H' D2 = some (.lst (xs.map V.ref)) ∧ TriL (rowsM bs rs) H' xs (ps.take i))
      ⟨[], same_new hD2' _, upd_same, rfl, fun i t q h => by simp at h⟩ (fun i H' _ ⟨_, sm, _⟩ => sm.seq (sm3.seq (sql hl1))) ?_ ?_⟩
    · rintro i x H4 hx ⟨xs, sm4, hx4, dp4⟩
      have hi : i < ts.length := by
        have z := (List.getElem?_eq_some_iff.mp hx).1
        rw [List.length_map] at z
        exact z
      rw [List.getElem?_map, List.getElem?_eq_getElem hi] at hx
      cases hx
      have hi2 : i < ps.length := by rw [← pl1.1]; exact hi
      have ht : H4 ts[i] = some (.tup [.str ps[i].1, .str ps[i].2]) := sm4 _ _ (sm3 _ _ (pl1.2 i _ _ (List.getElem?_eq_getElem hi) (List.getElem?_eq_getElem hi2)))
      refine ⟨ts[i], _, rfl, sqt ht, rfl, _, _, rfl, _, _, rfl, rfl, rfl, _, rfl, _, rfl, _, rfl, _, rfl, _, rfl, (by show 2 ≤ sizeLine; decide), fun k hk => ?_⟩
      have s5 := same_new hk (.tup [.str ps[i].1, .str ps[i].2])
      have hk5 : upd H4 k (.tup [.str ps[i].1, .str ps[i].2]) k = some (.tup ((key ps[i]).map kV)) := upd_same
      have g := DGet.t (s5 _ _ (sm4 _ _ hD3)) hk5
      rw [ct3 _ (List.getElem_mem hi2)] at g
      refine ⟨D, _, rfl, g, (by show 3 ≤ sizeLine; decide), fun t ht5 => ?_⟩
      have s6 := same_new ht5 (.tup [.str ps[i].1, .str ps[i].2, natV (cnt (rowsM bs rs) ps[i])])
      have hx6 := s6 _ _ (s5 _ _ hx4)
      have lx : xs.length ≤ 49 := by
        have z := dp4.1
        rw [List.length_take] at z
        omega
      refine ⟨_, hx6, by rw [List.length_map]; exact small1000 (by omega), xs ++ [t], same_put (sm4.trans (s5.trans s6)) hD2', by rw [upd_same, List.map_append]; rfl, ?_⟩
      rw [List.take_add_one, List.getElem?_eq_getElem hi2]
      exact ((dp4.move (KeepT.of (s5.trans s6))).snoc (t := t) (q := ps[i]) upd_same).move (KeepT.put hx6 (fun xs z => nomatch z))
    · rintro H4 ⟨xs, sm4, hx4, dp4⟩
      rw [List.length_map, pl1.1, List.take_length] at dp4
      exact q D2 H4 ys _ (s1.trans (sm3.trans sm4)) (s1.free (sm3.free hD2')) pm so hx4 (by rw [hps]; exact dp4.dp)
end
end Lt

set_option Elab.async false
set_option linter.all false
set_option maxRecDepth 100000
set_option maxHeartbeats 4000000
namespace Lt
open PySem PySem.Spec PyProof.Rows L2
section
variable {P : Program} {w : World} {K : PySem.W.Frag} {mg : Str → Option Value} {base : Heap} {X : Cx}
theorem scSettled : FnScope ["wants", "day"] ["wants", "day"] (defScope sSettled) := ⟨rfl, rfl, rfl, by decide +kernel, rfl, by decide +kernel, by decide +kernel⟩
theorem ok_settledN {f c Pt : Addr} {Ps : List Addr} {fd : FuncData} (F : Fun K "settled_pile" "settled_pile" sSettled f fd) (hc : fd.code = .ref c) (TB : GxR.TabB base mg c Pt) (hPt : Pt ∈ Ps) (B : Bi mg) (cBe : Has P w K mg base 2 "behind" ["pile", "readings"] (spBehindT K)) :
    FnOk P w K mg base CX0 3 f fd ["wants", "day"] (spSettledN K Ps) := by
  obtain ⟨oc, od, kV, doc, pm, an, cdv, ct, osl, rfl, lk, hcd⟩ := F.ex
  refine fn_of lk hcd scSettled (fun vs H Q E h => ?_) fun A outer s H vs Q E hr h => ?_
  · obtain ⟨W, r, ws, rs, rfl, _⟩ := h
    rfl
  obtain ⟨W, r, ws, rs, rfl, ⟨ts, hW, wl⟩, hrr, hl, hm, tg, q⟩ := h
  have hc' : cdv = .ref c := hc
  subst hc'
  refine ⟨_, PSs.nox (pss_one (ps_ret (pe_go cBe hr (by decide) rfl (pa_cons (pe_tupG hr (by rfl) B.tuple TB rfl ⟨rfl, rfl, by decide +kernel, rfl, rfl, rfl, by decide⟩ (pv 0)) (pa_cons (pv 1) pa_nil))))), ?_⟩
  refine ⟨_, rfl, W, ts, ws.map fun p => (V.str p.1, natV p.2), rfl, hW.sqt, by rw [List.length_map]; exact wl.1, fun i t p e1 e2 => ?_, tg Pt hPt, fun H2 a u tb ha hu => ?_⟩
  · rw [List.getElem?_map] at e2
    cases e3 : ws[i]? with
    | none =>
      rw [e3] at e2
      cases e2
    | some z =>
      rw [e3] at e2
      cases e2
      exact sqt (wl.2 i t z e1 e3)
  · have s2 : SameN H (upd H2 a u) := (SameN.tab (tg Pt hPt) tb).trans (SameN.of (same_new ha u))
    have e : (ws.map fun p => (V.str p.1, natV p.2)).map (·.1) = (wnames ws).map V.str := by
      show _ = (ws.map _).map _
      rw [List.map_map, List.map_map]
      rfl
    rw [e] at hu
    refine ⟨_, rfl, a, r, wnames ws, rs, rfl, TpO.new hu, hrr.sameN s2, ?_, hm, fun o H3 s3 ho => q o H3 (s2.trans (SameN.of s3)) (((tg.tab tb).same (same_new ha u)).same s3) ho⟩
    show (ws.map _).length ≤ 1000
    rw [List.length_map]
    omega
theorem scEach : FnScope ["wants", "day"] ["wants", "day"] (defScope sEach) := ⟨rfl, rfl, rfl, by decide +kernel, rfl, by decide +kernel, by decide +kernel⟩
theorem ok_eachN {f : Addr} {Ps : List Addr} {fd : FuncData} (F : Fun K "each_day" "each_day" sEach f fd) (B : Bi mg) (cSe : Has P w K mg base 3 "settled_pile" ["wants", "day"] (spSettledN K Ps)) (cLi : Has P w K mg base 2 "lifted" ["pile", "readings"] (spLiftedT K)) :
    FnOk P w K mg base CX0 4 f fd ["wants", "day"] (spEachN K Ps) := by
  refine F.ok scEach (fun vs H Q E h => ?_) (fun cdv A outer s H vs Q E hr h => ?_)
  · obtain ⟨W, r, ws, rs, rfl, _⟩ := h
    rfl
  obtain ⟨W, r, ws, rs, rfl, hW, hrr, hl, hl2, hm, tg, q⟩ := h
  refine ⟨_, pss_one (ps_ret (pe_callB (cr_sum rfl) (by rfl) B.sum (by decide +kernel) (pa_cons (pe_go cLi hr (by decide) rfl (pa_cons (pe_go cSe hr (by decide) rfl (pa_cons (pv 0) (pa_cons (pv 1) pa_nil))) (pa_cons (pv 1) pa_nil))) pa_nil))), ?_⟩
  refine ⟨_, rfl, _, rfl, W, r, ws, rs, rfl, hW, hrr, hl, hm, tg, fun o H1 s1 tg1 ho => ?_⟩
  have pm := behindM_perm rs hm
  refine ⟨_, rfl, o, r, _, rs, rfl, ho, hrr.sameN s1, by rw [pm.length_eq, wn_len]; omega, by omega, fun b hb => pm.mem_iff.mpr (hm b hb), fun l H2 s2 n2 h2 => ?_⟩
  rw [natV_map] at h2
  refine ⟨l, _, rfl, sql h2, ?_⟩
  rw [sum_nat]
  exact q H2 (s1.trans (SameN.of s2)) (tg1.same s2)
theorem scDayP : FnScope ["wants", "day"] ["wants", "day"] (defScope sDayP) := ⟨rfl, rfl, rfl, by decide +kernel, rfl, by decide +kernel, by decide +kernel⟩
theorem ok_dayPN {f : Addr} {Ps : List Addr} {fd : FuncData} (F : Fun K "day_passings" "day_passings" sDayP f fd) (cSe : Has P w K mg base 3 "settled_pile" ["wants", "day"] (spSettledN K Ps)) (cPa : Has P w K mg base 2 "passings" ["pile", "readings"] (spPassT K)) :
    FnOk P w K mg base CX0 4 f fd ["wants", "day"] (spDayPN K Ps) := by
  refine F.ok scDayP (fun vs H Q E h => ?_) (fun cdv A outer s H vs Q E hr h => ?_)
  · obtain ⟨W, r, ws, rs, rfl, _⟩ := h
    rfl
  obtain ⟨W, r, ws, rs, rfl, hW, hrr, wok, hl2, hm, tg, q⟩ := h
  refine ⟨_, pss_one (ps_ret (pe_go cPa hr (by decide) rfl (pa_cons (pe_go cSe hr (by decide) rfl (pa_cons (pv 0) (pa_cons (pv 1) pa_nil))) (pa_cons (pv 1) pa_nil)))), ?_⟩
  refine ⟨_, rfl, _, rfl, W, r, ws, rs, rfl, hW, hrr, wok.len, hm, tg, fun o H1 s1 tg1 ho => ?_⟩
  have pm := behindM_perm rs hm
  refine ⟨_, rfl, o, r, _, rs, rfl, ho, hrr.sameN s1, by rw [pm.length_eq, wn_len]; exact wok.len, hl2, fun b hb => pm.mem_iff.mpr (hm b hb), fun l H2 ys xs s2 n2 py so h2 d2 => ?_⟩
  rw [sorted_one so wok.so (py.trans pm)] at d2
  exact q l H2 xs (s1.trans (SameN.of s2)) (tg1.same s2) h2 d2
theorem scMost : FnScope ["wants"] ["wants"] (defScope sMost) := ⟨rfl, rfl, rfl, by decide +kernel, rfl, by decide +kernel, by decide +kernel⟩
theorem ok_most {f : Addr} {Ps : List Addr} {fd : FuncData} (F : Fun K "most" "most" sMost f fd) (cDy : Has P w K mg base 3 "most_day" ["wants"] (spMostDay Ps)) (cEa : Has P w K mg base 4 "each_day" ["wants", "day"] (spEachN K Ps)) :
    FnOk P w K mg base CX0 5 f fd ["wants"] (spMost Ps) := by
  refine F.ok scMost (fun vs H Q E h => ?_) (fun cdv A outer s H vs Q E hr h => ?_)
  · obtain ⟨W, ws, rfl, _⟩ := h
    rfl
  obtain ⟨W, ws, rfl, hW, wok, tg, q⟩ := h
  refine ⟨_, pss_one (ps_ret (pe_go cEa hr (by decide) rfl (pa_cons (pv 0) (pa_cons (pe_go cDy hr (by decide) rfl (pa_cons (pv 0) pa_nil)) pa_nil)))), ?_⟩
  refine ⟨_, rfl, _, rfl, W, ws, rfl, hW, wok, tg, fun D H1 s1 tg1 hD => ?_⟩
  exact ⟨W, D, ws, mostM ws, rfl, hW.sameN s1, hD.tps, wok.len, wok.mostLen, wok.mostIn, tg1, fun H2 s2 tg2 => q H2 (s1.trans s2) tg2⟩
theorem scLeast : FnScope ["wants"] ["wants"] (defScope sLeast) := ⟨rfl, rfl, rfl, by decide +kernel, rfl, by decide +kernel, by decide +kernel⟩
theorem ok_least {f : Addr} {Ps : List Addr} {fd : FuncData} (F : Fun K "least" "least" sLeast f fd) (cDy : Has P w K mg base 3 "least_day" ["wants"] (spLeastDay Ps)) (cEa : Has P w K mg base 4 "each_day" ["wants", "day"] (spEachN K Ps)) :
    FnOk P w K mg base CX0 5 f fd ["wants"] (spLeast Ps) := by
  refine F.ok scLeast (fun vs H Q E h => ?_) (fun cdv A outer s H vs Q E hr h => ?_)
  · obtain ⟨W, ws, rfl, _⟩ := h
    rfl
  obtain ⟨W, ws, rfl, hW, wok, tg, q⟩ := h
  refine ⟨_, pss_one (ps_ret (pe_go cEa hr (by decide) rfl (pa_cons (pv 0) (pa_cons (pe_go cDy hr (by decide) rfl (pa_cons (pv 0) pa_nil)) pa_nil)))), ?_⟩
  refine ⟨_, rfl, _, rfl, W, ws, rfl, hW, wok, tg, fun D H1 s1 tg1 hD => ?_⟩
  exact ⟨W, D, ws, flat ws, rfl, hW.sameN s1, hD.tps, wok.len, wok.flatLen, fun b hb => flat_mem hb, tg1, fun H2 s2 tg2 => q H2 (s1.trans s2) tg2⟩
theorem scMostP : FnScope ["wants"] ["wants"] (defScope sMostP) := ⟨rfl, rfl, rfl, by decide +kernel, rfl, by decide +kernel, by decide +kernel⟩
theorem ok_mostP {f : Addr} {Ps : List Addr} {fd : FuncData} (F : Fun K "most_passings" "most_passings" sMostP f fd) (cDy : Has P w K mg base 3 "most_day" ["wants"] (spMostDay Ps)) (cDp : Has P w K mg base 4 "day_passings" ["wants", "day"] (spDayPN K Ps)) :
    FnOk P w K mg base CX0 5 f fd ["wants"] (spMostP K Ps) := by
  refine F.ok scMostP (fun vs H Q E h => ?_) (fun cdv A outer s H vs Q E hr h => ?_)
  · obtain ⟨W, ws, rfl, _⟩ := h
    rfl
  obtain ⟨W, ws, rfl, hW, wok, tg, q⟩ := h
  refine ⟨_, pss_one (ps_ret (pe_go cDp hr (by decide) rfl (pa_cons (pv 0) (pa_cons (pe_go cDy hr (by decide) rfl (pa_cons (pv 0) pa_nil)) pa_nil)))), ?_⟩
  refine ⟨_, rfl, _, rfl, W, ws, rfl, hW, wok, tg, fun D H1 s1 tg1 hD => ?_⟩
  exact ⟨W, D, ws, mostM ws, rfl, hW.sameN s1, hD.tps, wok, wok.mostLen, wok.mostIn, tg1, fun l H2 xs s2 tg2 hl dl => q l H2 xs (s1.trans s2) tg2 hl dl⟩
theorem nd_turn : ([".0", "turn", "book"] : List Str).Nodup := by decide +kernel
abbrev nMostDay : List Str := ["wants", "turns", "book", "many", "turn"]
theorem scMostDay : FnScope nMostDay ["wants"] (defScope sMostDay) := ⟨rfl, rfl, rfl, by decide +kernel, rfl, by decide +kernel, by decide +kernel⟩
theorem ok_mostDay {f c Pm : Addr} {Ps : List Addr} {fd : FuncData} (F : Fun K "most_day" "most_day" sMostDay f fd) (hc : fd.code = .ref c) (TB : GxR.TabB base mg c Pm) (hPm : Pm ∈ Ps) (B : Bi mg) : FnOk P w K mg base CX0 3 f fd ["wants"] (spMostDay Ps) := by
  obtain ⟨oc, od, kv0, doc, pm, an, cdv, ct, osl, rfl, lk, hcd⟩ := F.ex
  refine fn_of lk hcd scMostDay (fun vs H Q E h => ?_) fun A outer s H vs Q E hr h => ?_
  · obtain ⟨W, ws, rfl, _⟩ := h
    rfl
  obtain ⟨W, ws, rfl, ⟨ts, hW, wl⟩, wok, tg, q⟩ := h
  have hc' : cdv = .ref c := hc
  subst hc'
  refine ⟨_, PSs.nox (pss_cons (ps_setLc2 (i := 1) (own := [("book", 2), ("many", 3), ("turn", 4)]) (vs1 := [4]) (g := gTup K 2 (gCons (gName 2) (gCons (gName 3) gNil))) (tt := tYes) (g1 := gName 4) (tt1 := tYes) (wi1 := iRng1 (tCons (tVar 3) tNil))
        (by rfl) scMostDay.nd rfl rfl (sw_true rfl rfl rfl (by decide +kernel)) (pi_tup (pv 0)) (blkOk_by (own := [("book", 2), ("many", 3), ("turn", 4)]) (N := nMostDay) (sc := defScope sMostDay) (by decide +kernel)) (by decide)
        (fun _ _ _ _ _ => pg_tup rfl (pgs_cons (pg_name (i := 2) scMostDay.nd rfl (.inl rfl)) (pgs_cons (pg_name (i := 3) scMostDay.nd rfl (.inl rfl)) pgs_nil)))
        (fun _ _ _ _ _ => pts_nil) (fun _ _ _ _ _ => pi_range1 (by rfl) B.range (pa_cons (pv 3) pa_nil))
        (fun _ _ _ _ _ => pg_name (i := 4) scMostDay.nd rfl (.inl rfl)) (fun _ _ _ _ _ => pts_nil)
        (fun _ _ _ _ _ => pe_tup (pa_cons (pv 4) (pa_cons (pv 2) pa_nil))))
    (pss_one (ps_ret (pe_tupM (pgen_exp (xs := ["turn", "book"]) (k := 0) (g := gTup K 2 (gCons (gName 1) (gCons (gName 2) gNil))) (tb := tEmit (tVar 2)) (body := emitS _) hr TB rfl ⟨rfl, rfl, by decide +kernel, rfl⟩
        (pi_list (pe_callB cr_sortK (by rfl) B.sorted (by decide +kernel) (pa_cons (pv 1) pa_nil))) (fun _ _ => den_one)
        (fun _ _ _ _ _ _ _ => pg_tup rfl (pgs_cons (pg_name (i := 1) nd_turn rfl (.inl rfl) (.inl rfl)) (pgs_cons (pg_name (i := 2) nd_turn rfl (.inl rfl) (.inl rfl)) pgs_nil)))
        (fun _ _ _ _ _ _ _ _ => gb_emit (fun _ _ z => z) (pv 2) rfl)) hr (by rfl) B.tuple)))), ?_⟩
  refine ⟨_, rfl, W, rfl, ⟨_, hW.sqt⟩, fun D hD => ?_⟩
  refine in_it (walk_tup (K := K) (a := W) (xs := ts.map V.ref)) (fun i H' => ∃ us : List Addr, Same H H' ∧ H' D = some (.lst (us.map V.ref)) ∧ RowsL turnV H' us (turnsM (ws.take i)))
    ⟨[], same_new hD _, upd_same, RowsL.nil _⟩ (fun i H' _ ⟨_, sm, _⟩ => (hW.same sm).sqt) ?_ ?_
  · rintro i x H2 H3 hi ⟨us, sm, hD2, rl⟩ ⟨rfl, ex⟩
    obtain ⟨t, ht, rfl⟩ := refs_get ex
    have hi' : i < ts.length := (List.getElem?_eq_some_iff.mp ht).1
    have hp : ws[i]? = some (ws[i]'(by rw [← wl.1]; exact hi')) := List.getElem?_eq_getElem _
    generalize ws[i]'(by rw [← wl.1]; exact hi') = p at hp
    have hT := sm _ _ (wl.2 i t p ht hp)
    have few : topW (ws.take i) + p.2 ≤ 60 := by
      have z := top_take ws (i + 1)
      have y := wok.few
      have e := congrArg List.length (turns_take hp)
      rw [List.length_append, turns_len, turns_len, List.length_map, List.length_range] at e
      omega
    refine ⟨t, _, rfl, sqt hT, rfl, _, _, rfl, _, _, rfl, rfl, rfl, ?_⟩
    refine ⟨_, rfl, (p.2 : Int), rfl, by omega, by omega, ?_⟩
    rw [Int.toNat_natCast]
    refine in_it (walk_range (lo := 0) (n := p.2)) (fun j H' => ∃ us : List Addr, Same H H' ∧ H' D = some (.lst (us.map V.ref)) ∧ RowsL turnV H' us (turnsM (ws.take i) ++ (List.range j).map fun t => (t, p.1)))
      ⟨us, sm, hD2, by rw [List.range_zero, List.map_nil, List.append_nil]; exact rl⟩ (fun _ _ _ _ => trivial) ?_ ?_
    · rintro j x H4 H5 hj ⟨us4, sm4, hD4, rl4⟩ ⟨rfl, rfl⟩
      refine ⟨rfl, _, rfl, _, rfl, (by show 2 ≤ sizeLine; decide), fun a ha => ?_⟩
      have s6 := same_new ha (.tup [.int (0 + (j : Int)), .str p.1])
      have hD6 := s6 _ _ hD4
      have lus : us4.length ≤ 60 := by
        rw [rl4.1, List.length_append, turns_len, List.length_map, List.length_range]
        omega
      refine ⟨_, hD6, ?_, us4 ++ [a], ?_, ?_, ?_⟩
      · rw [List.length_map]
        exact small1000 (by omega)
      · exact same_put (sm4.trans s6) hD
      · rw [upd_same, List.map_append]
        rfl
      · rw [List.range_succ, List.map_append, ← List.append_assoc]
        refine ((rl4.move (KeepT.of s6)).snoc (t := a) (q := (j, p.1)) ?_).move (KeepT.put (D := D) (o := .lst (us4.map V.ref ++ [.ref a])) hD6 (fun xs z => nomatch z))
        rw [upd_same, Int.zero_add]
    · rintro H4 ⟨us4, sm4, hD4, rl4⟩
      exact ⟨us4, sm4, hD4, by rw [turns_take hp]; exact rl4⟩
  · rintro H1 ⟨us, sm, hD1, rl⟩
    rw [List.length_map, wl.1, List.take_length] at rl
    have tg1 := tg.same sm
    have ptu : us.map (pairAt H1) = turnsM ws := rows_pairs rl
    have key : ∀ t ∈ us, SqT K H1 t ((tk2 (pairAt H1 t)).map kV) ∧ tk2 (pairAt H1 t) ≠ [] := fun t ht => by
      obtain ⟨qq, _, e⟩ := rl.mem ht
      rw [pairAt_eq e]
      exact ⟨sqt e, fun z => nomatch z⟩
    refine ⟨_, rfl, D, us, fun t => tk2 (pairAt H1 t), rfl, sql hD1, key, fun t _ u _ => ⟨⟨rfl, rfl, trivial⟩, rfl⟩, fun zs p pz pw hp => ?_⟩
    have mz : ∀ t ∈ zs, H1 t = some (.tup (turnV (pairAt H1 t))) := fun t ht => by
      obtain ⟨qq, _, e⟩ := rl.mem (pz.mem_iff.mp ht)
      rw [pairAt_eq e]
      exact e
    have ends : (zs.map fun t => V.str (pairAt H1 t).2) = (mostM ws).map V.str := by
      have z := turns_one wok.up (us := zs.map (pairAt H1)) (by rw [← ptu]; exact pz.map _) (List.pairwise_map.mpr pw)
      rw [← z, List.map_map, List.map_map]
      rfl
    have s2 := same_new hp (.lst (zs.map V.ref))
    refine ⟨p, rfl, ⟨_, sql upd_same⟩, (tg1.same s2) Pm hPm, fun I H3 tb => ?_⟩
    have n3 : SameN (upd H1 p (.lst (zs.map V.ref))) H3 := SameN.tab ((tg1.same s2) Pm hPm) tb
    have hp3 : H3 p = some (.lst (zs.map V.ref)) := n3.lstH upd_same
    have tg3 : Tabs H3 Ps := (tg1.same s2).tab tb
    have n13 : SameN H1 H3 := (SameN.of s2).trans n3
    refine ⟨zs.length, fun i ys σ H' => H' = H3 ∧ ys = (zs.take i).map (fun t => V.str (pairAt H1 t).2) ∧ ∃ a b, σ = [some (.ref I), a, b], ⟨rfl, rfl, none, none, rfl⟩, ?_, ?_⟩
    · rintro i ys σ H' hi ⟨rfl, rfl, a, b, rfl⟩
      have eg : (zs.map V.ref)[i]? = some (.ref zs[i]) := by rw [List.getElem?_map, List.getElem?_eq_getElem hi]; rfl
      refine ⟨⟨_, _, sql hp3, eg⟩, fun x H' y => ?_⟩
      obtain ⟨rfl, y2⟩ := y
      have y3 := y2 _ (sql hp3)
      rw [eg] at y3
      cases y3
      refine ⟨zs[i], _, rfl, sqt (n13.tupH (mz _ (List.getElem_mem hi))), rfl, _, _, rfl, _, _, rfl, rfl, ⟨?_, _, rfl, rfl, ?_, _, _, rfl⟩⟩
      · rw [List.length_map, List.length_take]
        have l1 := pz.length_eq
        have l2 := rl.1
        rw [turns_len] at l2
        have l3 := wok.few
        exact small1000 (by omega)
      · rw [List.take_add_one, List.getElem?_eq_getElem hi, List.map_append]
        rfl
    · rintro ys σ H' ⟨rfl, rfl, a, b, rfl⟩
      refine ⟨⟨_, sql hp3, by rw [List.length_map]; exact Nat.le_refl _⟩, fun d u hd hu => ?_⟩
      rw [List.take_length, ends] at hu
      exact q d _ (((SameN.of sm).trans n13).trans (SameN.of (same_new hd u))) (tg3.same (same_new hd u)) (TpO.new hu)
theorem nd_reader : ([".0", "book", "many", "reader"] : List Str).Nodup := by decide +kernel
theorem flat_step {ws : List (Str × Nat)} {i : Nat} {p : Str × Nat} (h : ws[i]? = some p) : flat (ws.take (i + 1)) = flat (ws.take i) ++ List.replicate p.2 p.1 := by
  rw [List.take_add_one, h, flat_append]
  show _ ++ (List.replicate p.2 p.1 ++ []) = _
  rw [List.append_nil]
theorem scLeastDay : FnScope ["wants"] ["wants"] (defScope sLeastDay) := ⟨rfl, rfl, rfl, by decide +kernel, rfl, by decide +kernel, by decide +kernel⟩
theorem ok_leastDay {f c Pm : Addr} {Ps : List Addr} {fd : FuncData} (F : Fun K "least_day" "least_day" sLeastDay f fd) (hc : fd.code = .ref c) (TB : GxR.TabB base mg c Pm) (hPm : Pm ∈ Ps) (B : Bi mg) : FnOk P w K mg base CX0 3 f fd ["wants"] (spLeastDay Ps) := by
  obtain ⟨oc, od, kv0, doc, pm, an, cdv, ct, osl, rfl, lk, hcd⟩ := F.ex
  refine fn_of lk hcd scLeastDay (fun vs H Q E h => ?_) fun A outer s H vs Q E hr h => ?_
  · obtain ⟨W, ws, rfl, _⟩ := h
    rfl
  obtain ⟨W, ws, rfl, ⟨ts, hW, wl⟩, wok, tg, q⟩ := h
  have hc' : cdv = .ref c := hc
  subst hc'
  refine ⟨_, PSs.nox (pss_one (ps_ret (pe_tupM (pgen_exp (xs := ["book", "many", "reader"]) (k := 0) (g := gTup K 2 (gCons (gName 1) (gCons (gName 2) gNil))) (tb := tIn (iRng1 (tCons (tVar 2) tNil)) (gName 3) (tEmit (tVar 1)))
        (body := fun env => inS _ _ env) hr TB rfl ⟨rfl, rfl, by decide +kernel, rfl⟩
        (pi_tup (pv 0)) (fun _ _ => den_out)
        (fun _ _ _ _ _ _ _ => pg_tup rfl (pgs_cons (pg_name (i := 1) nd_reader rfl (.inl rfl) (.inl rfl)) (pgs_cons (pg_name (i := 2) nd_reader rfl (.inl rfl) (.inl rfl)) pgs_nil)))
        (fun _ _ _ _ _ _ _ _ => gb_in (fun _ _ z => z) rfl (pi_range1 (by rfl) B.range (pa_cons (pv 2) pa_nil)) (pg_name (i := 3) nd_reader rfl (.inl rfl) (.inl rfl)) (gb_emit (fun _ _ z => z) (pv 1) rfl) (fun _ => rfl))) hr (by rfl) B.tuple))), ?_⟩
  refine ⟨_, rfl, W, rfl, ⟨_, hW.sqt⟩, tg Pm hPm, fun I H2 tb => ?_⟩
  have n2 : SameN H H2 := SameN.tab (tg Pm hPm) tb
  have hW2 := hW.sameN n2
  have wl2 := wl.moveN n2
  have tg2 : Tabs H2 Ps := tg.tab tb
  refine ⟨ts.length, fun i ys σ H' => H' = H2 ∧ ys = (flat (ws.take i)).map V.str ∧ ∃ a b d, σ = [some (.ref I), a, b, d], ⟨rfl, rfl, none, none, none, rfl⟩, ?_, ?_⟩
  · rintro i ys σ Hc hi ⟨e0, rfl, a, b, d, rfl⟩
    rw [e0]
    have eg : (ts.map V.ref)[i]? = some (.ref ts[i]) := by rw [List.getElem?_map, List.getElem?_eq_getElem hi]; rfl
    refine ⟨⟨_, _, hW2.sqt, eg⟩, fun x H' y => ?_⟩
    obtain ⟨e1, y2⟩ := y
    rw [e1]
    have y3 := y2 _ hW2.sqt
    rw [eg] at y3
    cases y3
    have hp : ws[i]? = some (ws[i]'(by rw [← wl.1]; exact hi)) := List.getElem?_eq_getElem _
    generalize ws[i]'(by rw [← wl.1]; exact hi) = p at hp
    have hT := wl2.2 i _ p (List.getElem?_eq_getElem hi) hp
    have fl : (flat (ws.take i)).length + p.2 ≤ 60 := by
      have z := flat_take (ws := ws) (i + 1)
      have y := wok.flatLen
      rw [flat_step hp, List.length_append, List.length_replicate] at z
      omega
    refine ⟨ts[i], _, rfl, sqt hT, rfl, _, _, rfl, _, _, rfl, rfl, ?_⟩
    refine ⟨_, rfl, (p.2 : Int), rfl, by omega, by omega, ?_⟩
    rw [Int.toNat_natCast]
    refine ⟨p.2, fun j ys σ H' => H' = H2 ∧ ys = (flat (ws.take i) ++ List.replicate j p.1).map V.str ∧ ∃ d, σ = [some (.ref I), some (.str p.1), some (natV p.2), d], ⟨rfl, by rw [List.replicate_zero, List.append_nil], _, rfl⟩, ?_, ?_⟩
    · rintro j ys σ H' hj ⟨rfl, rfl, d, rfl⟩
      refine ⟨hj, fun x H' y => ?_⟩
      obtain ⟨rfl, rfl⟩ := y
      refine ⟨?_, _, rfl, rfl, ?_, _, rfl⟩
      · rw [List.length_map, List.length_append, List.length_replicate]
        exact small1000 (by omega)
      · simp [List.replicate_succ']
    · rintro ys σ H' ⟨rfl, rfl, d, rfl⟩
      exact ⟨Nat.le_refl _, rfl, by rw [flat_step hp], _, _, _, rfl⟩
  · rintro ys σ H' ⟨rfl, rfl, a, b, d, rfl⟩
    refine ⟨⟨_, hW2.sqt, by rw [List.length_map]; exact Nat.le_refl _⟩, fun e u he hu => ?_⟩
    rw [wl.1, List.take_length] at hu
    exact q e _ (n2.trans (SameN.of (same_new he u))) (tg2.same (same_new he u)) (TpO.new hu)
abbrev leastV (ws : List (Str × Nat)) : Nat := eachV (wnames ws) (flat ws)
abbrev mostV (ws : List (Str × Nat)) : Nat := eachV (wnames ws) (mostM ws)
theorem each_small {ns rs : List Str} (h : ∀ b ∈ rs, b ∈ ns) (h1 : rs.length ≤ 60) (h2 : ns.length ≤ 7) : eachV ns rs ≤ 420 := by
  have pm := behindM_perm rs h
  have z := lifted_small (bs := behindM ns rs) (rs := rs) fun b hb => pm.mem_iff.mpr (h b hb)
  rw [pm.length_eq] at z
  have z2 : rs.length * ns.length ≤ 60 * 7 := Nat.mul_le_mul h1 h2
  unfold eachV
  omega
theorem WOk.mostV_le {ws : List (Str × Nat)} (h : WOk ws) : mostV ws ≤ 420 := each_small h.mostIn h.mostLen (by rw [wn_len]; exact h.len)
theorem WOk.leastV_le {ws : List (Str × Nat)} (h : WOk ws) : leastV ws ≤ 420 := each_small (fun b hb => flat_mem hb) h.flatLen (by rw [wn_len]; exact h.len)
def spAmounts (Ps : List Addr) : Sp := fun vs H Q _ => ∃ (W : Addr) (ws : List (Str × Nat)), vs = [.ref W] ∧ WAt H W ws ∧ WOk ws ∧ Tabs H Ps ∧
  ∀ (l : Addr) (H' : Hp), SameN H H' → Tabs H' Ps → H' l = some (.lst ((evens (leastV ws) (mostV ws + 1)).map natV)) → Q (.ref l) H'
theorem scAmounts : FnScope ["wants"] ["wants"] (defScope sAmounts) := ⟨rfl, rfl, rfl, by decide +kernel, rfl, by decide +kernel, by decide +kernel⟩
theorem ok_amounts {f : Addr} {Ps : List Addr} {fd : FuncData} (F : Fun K "amounts" "amounts" sAmounts f fd) (B : Bi mg) (cMo : Has P w K mg base 5 "most" ["wants"] (spMost Ps)) (cLe : Has P w K mg base 5 "least" ["wants"] (spLeast Ps)) :
    FnOk P w K mg base CX0 6 f fd ["wants"] (spAmounts Ps) := by
  refine F.ok scAmounts (fun vs H Q E h => ?_) (fun cdv A outer s H vs Q E hr h => ?_)
  · obtain ⟨W, ws, rfl, _⟩ := h
    rfl
  obtain ⟨W, ws, rfl, hW, wok, tg, q⟩ := h
  refine ⟨_, pss_one (ps_ret (pe_listR3 rfl (by rfl) B.list (by rfl) B.range (pa_cons (pe_go cLe hr (by decide) rfl (pa_cons (pv 0) pa_nil)) (pa_cons (pe_op op_add (pe_go cMo hr (by decide) rfl (pa_cons (pv 0) pa_nil)) pe_int) (pa_cons pe_int pa_nil))))), ?_⟩
  refine ⟨_, rfl, W, ws, rfl, hW, wok, tg, fun H1 s1 tg1 => ?_⟩
  refine ⟨_, rfl, W, ws, rfl, hW.sameN s1, wok, tg1, fun H2 s2 tg2 => ?_⟩
  have m := wok.mostV_le
  have l := wok.leastV_le
  refine ⟨_, _, rfl, rfl, leastV ws, mostV ws + 1, ?_, by omega, by omega, fun a ha => ?_⟩
  · show [natV (leastV ws), V.int ((mostV ws : Nat) + 1 : Int), .int 2] = _
    rfl
  · exact q a _ ((s1.trans s2).trans (SameN.of (same_new ha _))) (tg2.same (same_new ha _)) upd_same
theorem ints_get {ns : List Nat} {i : Nat} {x : V} (h : (ns.map natV)[i]? = some x) : ∃ k, ns[i]? = some k ∧ x = natV k := by
  rw [List.getElem?_map] at h
  cases e : ns[i]? with
  | none =>
    rw [e] at h
    cases h
  | some k =>
    rw [e] at h
    cases h
    exact ⟨k, rfl, rfl⟩
def spPut : Sp := fun vs H Q _ => ∃ (p : Addr) (bs : List Str) (k : Nat), vs = [.ref p, natV k] ∧ TpO H p (bs.map V.str) ∧ k < bs.length ∧ bs.length ≤ 1000 ∧
  ∀ (q : Addr) (H' : Hp), Same H H' → TpO H' q ((putM bs k).map V.str) → Q (.ref q) H'
theorem scPut : FnScope ["pile", "number"] ["pile", "number"] (defScope sPut) := ⟨rfl, rfl, rfl, by decide +kernel, rfl, by decide +kernel, by decide +kernel⟩
theorem ok_put {f : Addr} {fd : FuncData} (F : Fun K "put_back" "put_back" sPut f fd) : FnOk P w K mg base CX0 1 f fd ["pile", "number"] spPut := by
  refine F.ok scPut (fun vs H Q E h => ?_) (fun cdv A outer s H vs Q E hr h => ?_)
  · obtain ⟨p, bs, k, rfl, _⟩ := h
    rfl
  obtain ⟨p, bs, k, rfl, hp, hk, hl, q⟩ := h
  refine ⟨_, pss_one (ps_ret (pe_op op_catY (pe_op op_catY (pe_slice sl_tupY (pv 0) (po_some pe_int) (po_some (pe_op op_add (pv 1) pe_int))) (pe_slice sl_tupY (pv 0) po_none (po_some pe_int)))
    (pe_slice sl_tupY (pv 0) (po_some (pe_op op_add (pv 1) pe_int)) po_none))), ?_⟩
  have lm : (bs.map V.str).length = bs.length := List.length_map _
  refine ⟨_, rfl, _, rfl, _, rfl, _, _, rfl, rfl, _, rfl, p, _, rfl, hp, fun a H1 s1 ha => ?_⟩
  refine ⟨_, rfl, _, rfl, p, _, rfl, hp.same s1, fun b H2 s2 hb => ?_⟩
  have e1 : cutV (bs.map V.str) (some 1) (some ((k : Int) + 1)) = ((bs.drop 1).take k).map V.str := by
    rw [cut_mid (i := 1) (j := k + 1) (y := 1) (z := (k : Int) + 1) rfl (by omega) (by rw [lm]; omega) (by rw [lm]; omega), Nat.add_sub_cancel, List.map_take, List.map_drop]
  have e2 : cutV (bs.map V.str) none (some 1) = (bs.take 1).map V.str := by
    rw [cut_high (j := 1) (z := 1) rfl (by rw [lm]; omega), List.map_take]
  have e3 : cutV (bs.map V.str) (some ((k : Int) + 1)) none = (bs.drop (k + 1)).map V.str := by
    rw [cut_low (j := k + 1) (z := (k : Int) + 1) (by omega) (by rw [lm]; omega), List.map_drop]
  have big : ∀ n m : Nat, n ≤ 1000 → m ≤ 1000 → n + m ≤ sizeLine := fun n m h1 h2 => by rw [sizeLine_eq]; omega
  rw [e1] at ha
  rw [e2] at hb
  refine ⟨a, b, _, _, rfl, rfl, ha.same s2, hb, big _ _ (by rw [List.length_map, List.length_take, List.length_drop]; omega) (by rw [List.length_map, List.length_take]; omega), fun c H3 s3 hc => ?_⟩
  refine ⟨_, rfl, _, rfl, _, _, rfl, rfl, _, rfl, p, _, rfl, hp.same (s1.trans (s2.trans s3)), fun d H4 s4 hd => ?_⟩
  rw [e3] at hd
  refine ⟨c, d, _, _, rfl, rfl, hc.same s4, hd, big _ _ (by rw [List.length_append, List.length_map, List.length_map, List.length_take, List.length_take, List.length_drop]; omega) (by rw [List.length_map, List.length_drop]; omega), fun e H5 s5 he => ?_⟩
  refine q e H5 (s1.trans (s2.trans (s3.trans (s4.trans s5)))) ?_
  unfold putM
  rw [List.map_append, List.map_append]
  exact he
def spLiftable (K : PySem.W.Frag) : Sp := fun vs H Q _ => ∃ (p r : Addr) (bs : List Str) (ns : List Nat), vs = [.ref p, .ref r] ∧ SqT K H p (bs.map V.str) ∧ SqL K H r (ns.map natV) ∧ (∀ k ∈ ns, k < bs.length) ∧ ns.length ≤ 1000 ∧
  ∀ (l : Addr) (H' : Hp), Same H H' → H l = none → H' l = some (.lst (ns.map natV)) → Q (.ref l) H'
theorem scLiftable : FnScope ["pile", "numbers", "number"] ["pile", "numbers"] (defScope sLiftable) := ⟨rfl, rfl, rfl, by decide +kernel, rfl, by decide +kernel, by decide +kernel⟩
theorem ok_liftable {f : Addr} {fd : FuncData} (F : Fun K "liftable" "liftable" sLiftable f fd) (B : Bi mg) : FnOk P w K mg base CX0 1 f fd ["pile", "numbers"] (spLiftable K) := by
  refine F.ok scLiftable (fun vs H Q E h => ?_) (fun cdv A outer s H vs Q E hr h => ?_)
  · obtain ⟨p, r, bs, ns, rfl, _⟩ := h
    rfl
  obtain ⟨p, r, bs, ns, rfl, hp, hrr, hk, hl, q⟩ := h
  refine ⟨_, pss_one (ps_ret (pe_lc (own := [("number", 2)]) (g := gName 2) (tt := tTest (tChain (rI0 fun i j => .bl (decide (i ≤ j))) (rI0 fun i j => .bl (decide (i < j))) (tC (.int 0)) (tVar 2) (tCB (Evl.rLenS K) (tCons (tVar 0) tNil))))
      (by rfl) scLiftable.nd (pi_list (pv 1)) (blkOk_by (own := [("number", 2)]) (N := ["pile", "numbers", "number"]) (sc := defScope sLiftable) (by decide +kernel)) (fun _ _ _ _ _ => pg_name (i := 2) scLiftable.nd rfl (.inl rfl))
      (fun _ _ _ _ _ => pts_one (pt_chain op_le op_lt pe_int (pv 2) (pe_callB (cLen (K := K) rfl) (by rfl) B.len PySem.boot_len (pa_cons (pv 0) pa_nil)))) (fun _ _ _ _ _ => pv 2))), ?_⟩
  refine ⟨_, rfl, r, rfl, ⟨_, hrr⟩, fun D hD => lc_list (K := K) (a := r) (xs := ns.map natV) (fun j H' => Same H H' ∧ H' D = some (.lst ((ns.take j).map natV)))
    ⟨same_new hD _, upd_same⟩ (fun j H' _ h' => h'.1.seq hrr) ?_ ?_⟩
  · rintro j x H1 hx ⟨s1, hD1⟩
    obtain ⟨k, hk1, rfl⟩ := ints_get hx
    have lt := hk k (List.mem_of_getElem? hk1)
    have y1 : decide ((0 : Int) ≤ (k : Int)) = true := decide_eq_true (by omega)
    have y2 : decide ((k : Int) < (((bs.map V.str).length : Nat) : Int)) = true := decide_eq_true (by rw [List.length_map]; omega)
    refine ⟨rfl, _, rfl, _, _, rfl, rfl, true, congrArg V.bl y1, ?_⟩
    refine ⟨_, rfl, p, _, rfl, .inr (same_tup s1 hp), _, _, rfl, rfl, true, congrArg V.bl y2, ?_⟩
    refine ⟨_, rfl, _, hD1, ?_, same_put s1 hD, ?_⟩
    · rw [List.length_map, List.length_take]
      exact small1000 (by omega)
    · rw [upd_same, List.take_add_one, hk1, List.map_append]
      rfl
  · rintro H1 ⟨s1, hD1⟩
    rw [List.length_map, List.take_length] at hD1
    exact q D H1 s1 hD hD1
def spUndone (K : PySem.W.Frag) : Sp := fun vs H Q _ => ∃ (p r : Addr) (bs : List Str) (ns : List Nat), vs = [.ref p, .ref r] ∧ TpO H p (bs.map V.str) ∧ SqL K H r (ns.map natV) ∧ (∀ k ∈ ns, k < bs.length) ∧ bs.length ≤ 1000 ∧ ns.length ≤ 900 ∧
  ∀ (t o rd : Addr) (H' : Hp), Same H H' → H' t = some (.tup [.ref o, .ref rd]) → TpO H' o ((unR bs ns.reverse).map V.str) → H' rd = some (.lst ((hdR bs ns.reverse).reverse.map V.str)) → Q (.ref t) H'
abbrev nUndone : List Str := ["pile", "numbers", "readings", "order", "number"]
theorem scUndone : FnScope nUndone ["pile", "numbers"] (defScope sUndone) := ⟨rfl, rfl, rfl, by decide +kernel, rfl, by decide +kernel, by decide +kernel⟩
theorem ok_undone {f : Addr} {fd : FuncData} (F : Fun K "undone" "undone" sUndone f fd) (B : Bi mg) (cP : Has P w K mg base 1 "put_back" ["pile", "number"] spPut) (cL : Has P w K mg base 1 "liftable" ["pile", "numbers"] (spLiftable K)) :
    FnOk P w K mg base CX0 2 f fd ["pile", "numbers"] (spUndone K) := by
  refine F.ok scUndone (fun vs H Q E h => ?_) (fun cdv A outer s H vs Q E hr h => ?_)
  · obtain ⟨p, r, bs, ns, rfl, _⟩ := h
    rfl
  obtain ⟨p, r, bs, ns, rfl, hp, hrr, hk, hl, hl2, q⟩ := h
  refine ⟨_, pss_cons (ps_set (i := 2) scUndone.nd rfl (.inl rfl) (pe_lst pa_nil))
    (pss_cons (ps_set (i := 3) scUndone.nd rfl (.inl rfl) (pv 0))
    (pss_cons (ps_for PassesOwn.never rfl (RT.pi_revA (by rfl) B.reversed (pe_go cL hr (by decide) rfl (pa_cons (pv 0) (pa_cons (pv 1) pa_nil)))) (pg_name (i := 4) scUndone.nd rfl (.inl rfl))
      (pss_cons (ps_expr (pe_bm PySem.F.plainAttrs_list PySem.F.slot_list_append PySem.F.type_list_append mt_append (pv 2) (pa_cons (pe_ix ix_tup (pv 3) pe_int (fun _ _ => rfl)) pa_nil)))
      (pss_one (ps_set (i := 3) scUndone.nd rfl (.inl rfl) (pe_go cP hr (by decide) rfl (pa_cons (pv 3) (pa_cons (pv 4) pa_nil)))))))
    (pss_one (ps_ret (pe_tup (pa_cons (pv 3) (pa_cons (pe_revL (pv 2)) pa_nil))))))), ?_⟩
  refine ⟨Nat.zero_le _, fun L hL => ⟨_, rfl, ?_⟩⟩
  have s1 := same_new hL (.lst [])
  have hL1 : upd H L (.lst []) L = some (.lst []) := upd_same
  generalize upd H L (.lst []) = H1 at s1 hL1 ⊢
  refine ⟨_, rfl, _, rfl, p, r, bs, ns, rfl, (hp.same s1).sqt, s1.seq hrr, hk, by omega, fun l H2 s2 nl hl2' => ?_⟩
  have sm2 := s1.trans s2
  have nLl : L ≠ l := ne_of_none hL1 nl
  have ln : (ns.map natV).length = ns.length := List.length_map _
  refine ⟨l, _, rfl, .inl ⟨sql hl2', RT.for_Itv (fun i σ H' => ∃ (o : Addr) (y4 : Option V), σ = [some (.ref p), some (.ref r), some (.ref L), some (.ref o), y4] ∧ Same H H' ∧ H' l = some (.lst (ns.map natV)) ∧
      TpO H' o ((unR bs (ns.reverse.take i)).map V.str) ∧ H' L = some (.lst ((hdR bs (ns.reverse.take i)).map V.str)))
    ⟨p, none, rfl, sm2, hl2', hp.same sm2, s2 _ _ hL1⟩ (fun i σ H' ⟨_, _, _, _, h, _⟩ => sql h) ?_ ?_⟩⟩
  · rintro i x σ H3 hi hx ⟨o, y4, rfl, sm3, hl3, ho3, hL3⟩
    rw [ln] at hi hx
    obtain ⟨k, hk1, rfl⟩ := ints_get hx
    have ltk := hk k (List.mem_of_getElem? hk1)
    have hk2 : ns.reverse[i]? = some k := by rw [List.getElem?_reverse hi]; exact hk1
    have et : ns.reverse.take (i + 1) = ns.reverse.take i ++ [k] := by rw [List.take_add_one, hk2]; rfl
    rw [et, unR_snoc, hdR_snoc]
    have lu : (unR bs (ns.reverse.take i)).length = bs.length := (unR_perm _ _).length_eq
    have lh := hdR_len bs (ns.reverse.take i) (by omega)
    rw [List.length_take, List.length_reverse] at lh
    generalize unR bs (ns.reverse.take i) = cur at ho3 lu ⊢
    generalize hdR bs (ns.reverse.take i) = hd at hL3 lh ⊢
    cases cur with
    | nil =>
      rw [List.length_nil] at lu
      omega
    | cons t r' =>
      refine ⟨_, rfl, .inl ⟨rfl, _, sql hL3⟩, _, rfl, o, _, _, .str t, rfl, rfl, ho3.sqt, at_of (j := 0) rfl rfl, L, _, _, rfl, rfl, hL3, by rw [List.length_map]; exact small1000 (by omega), ?_⟩
      have sm4 : Same H (upd H3 L (.lst (hd.map V.str ++ [V.str t]))) := same_put sm3 hL
      have ho4 : TpO (upd H3 L (.lst (hd.map V.str ++ [V.str t]))) o ((t :: r').map V.str) := ho3.move fun u hu => by
        rw [upd_ne (ho3.ne hL3 fun o z => nomatch z)]
        exact hu
      refine ⟨_, rfl, _, rfl, o, t :: r', k, rfl, ho4, by omega, by omega, fun c H5 s5 hc => ?_⟩
      refine ⟨c, some (natV k), rfl, sm4.trans s5, s5 _ _ (by rw [upd_ne nLl.symm]; exact hl3), hc, s5 _ _ ?_⟩
      rw [upd_same, List.map_append]
      rfl
  · rintro σ H3 ⟨o, y4, rfl, sm3, hl3, ho3, hL3⟩
    rw [ln, List.take_of_length_le (by rw [List.length_reverse]; exact Nat.le_refl _)] at ho3 hL3
    refine ⟨_, rfl, _, rfl, L, _, rfl, sql hL3, fun rd hrd => ⟨(by show 2 ≤ sizeLine; decide), fun t ht => ?_⟩⟩
    have s4 := same_new hrd (.lst ((hdR bs ns.reverse).map V.str).reverse)
    have s5 := same_new ht (.tup [.ref o, .ref rd])
    refine q t o rd _ (sm3.trans (s4.trans s5)) upd_same (ho3.same (s4.trans s5)) (s5 _ _ ?_)
    rw [upd_same, List.map_reverse]
def spOrdersOf (K : PySem.W.Frag) : Sp := fun vs H Q _ => ∃ (p : Addr) (bs : List Str), vs = [.ref p] ∧ SqT K H p (bs.map V.str) ∧ bs.length ≤ 5 ∧
  ∀ (l : Addr) (H' : Hp) (ts : List Addr), Same H H' → H l = none → H' l = some (.lst (ts.map V.ref)) → TupL H' ts (ordP bs) → Q (.ref l) H'
abbrev nOrdersOf : List Str := ["books", "orders", "book", "order", "at"]
theorem scOrdersOf : FnScope nOrdersOf ["books"] (defScope sOrdersOf) := ⟨rfl, rfl, rfl, by decide +kernel, rfl, by decide +kernel, by decide +kernel⟩
theorem ok_ordersOf {f : Addr} {fd : FuncData} (F : Fun K "orders_of" "orders_of" sOrdersOf f fd) (B : Bi mg) : FnOk P w K mg base CX0 1 f fd ["books"] (spOrdersOf K) := by
  refine F.ok scOrdersOf (fun vs H Q E h => ?_) (fun cdv A outer s H vs Q E hr h => ?_)
  · obtain ⟨p, bs, rfl, _⟩ := h
    rfl
  obtain ⟨p, bs, rfl, hp, h5, q⟩ := h
  refine ⟨_, pss_cons (ps_set (i := 1) scOrdersOf.nd rfl (.inl rfl) (pe_lst (pa_cons (pe_tupZ pa_nil) pa_nil)))
    (pss_cons (ps_for PassesOwn.never rfl (pi_tup (pv 0)) (pg_name (i := 2) scOrdersOf.nd rfl (.inr rfl))
      (pss_one (ps_setLc2 (i := 1) (own := [("order", 3), ("at", 4)]) (vs1 := [4]) (g := gName 3) (tt := tYes) (g1 := gName 4) (tt1 := tYes)
        (wi1 := iRng1 (tCons (tOp (rI0 fun i j => .int (i + j)) (tCB (Evl.rLenS K) (tCons (tVar 3) tNil)) (tC (.int 1))) tNil)) (by rfl) scOrdersOf.nd rfl rfl (sw_true rfl rfl rfl (by decide +kernel)) (pi_list (pv 1))
        (blkOk_by (own := [("order", 3), ("at", 4)]) (N := nOrdersOf) (sc := defScope sOrdersOf) (by decide +kernel)) (by decide)
        (fun _ _ _ _ _ => pg_name (i := 3) scOrdersOf.nd rfl (.inl rfl)) (fun _ _ _ _ _ => pts_nil)
        (fun _ _ _ _ _ => pi_range1 (by rfl) B.range (pa_cons (pe_op op_add (pe_callB (cLen (K := K) rfl) (by rfl) B.len PySem.boot_len (pa_cons (pv 3) pa_nil)) pe_int) pa_nil))
        (fun _ _ _ _ _ => pg_name (i := 4) scOrdersOf.nd rfl (.inl rfl)) (fun _ _ _ _ _ => pts_nil)
        (fun _ _ _ _ _ => pe_op op_catY (pe_op op_catY (pe_slice sl_tupY (pv 3) po_none (po_some (pv 4))) (pe_tupZ (pa_cons (pv 2) pa_nil))) (pe_slice sl_tupY (pv 3) (po_some (pv 4)) po_none)))))
    (pss_one (ps_ret (pv 1)))), ?_⟩
  have lm : (bs.map V.str).length = bs.length := List.length_map _
  have few : ∀ j, (ordP (bs.take j)).length ≤ 120 := fun j => by
    rw [ordP_len]
    exact fac_le (by rw [List.length_take]; omega)
  refine ⟨Nat.zero_le _, fun Z u hZ hu => ⟨(by show 1 ≤ sizeLine; decide), fun L hL => ?_⟩⟩
  have s1 := same_new hZ u
  have s2 := same_new hL (.lst [V.ref Z])
  have hZ2 : TpO (upd (upd H Z u) L (.lst [V.ref Z])) Z ([].map V.str) := (TpO.new hu).same s2
  have hL2 : upd (upd H Z u) L (.lst [V.ref Z]) L = some (.lst ([Z].map V.ref)) := upd_same
  have sm2 := s1.trans s2
  have nL0 : H L = none := s1.free hL
  generalize upd (upd H Z u) L (.lst [V.ref Z]) = H2 at hZ2 hL2 sm2 ⊢
  refine ⟨_, rfl, p, rfl, ⟨_, same_tup sm2 hp⟩, for_tup (K := K) (a := p) (xs := bs.map V.str) (fun i σ H' => ∃ (L : Addr) (y2 : Option V) (ts : List Addr), σ = [some (.ref p), some (.ref L), y2, none, none] ∧ Same H H' ∧ H L = none ∧ H' L = some (.lst (ts.map V.ref)) ∧ TupL H' ts (ordP (bs.take i)))
    ⟨L, none, [Z], rfl, sm2, nL0, hL2, TupL.one hZ2⟩ (fun i σ H' _ ⟨_, _, _, _, s', _⟩ => same_tup s' hp) ?_ ?_⟩
  · rintro i x σ H3 hx ⟨L, y2, ts, rfl, s3, nL, hL3, tl⟩
    obtain ⟨b, hb, rfl⟩ := strs_get hx
    have hi : i < bs.length := (List.getElem?_eq_some_iff.mp hb).1
    have f1 := few i
    have f2 := few (i + 1)
    have ei : bs.take (i + 1) = bs.take i ++ [b] := by rw [List.take_add_one, hb]; rfl
    rw [ei, ordP_snoc] at f2 ⊢
    have lo : ∀ o ∈ ordP (bs.take i), o.length ≤ 5 := fun o ho => by
      rw [((ordP_mem _ _).mp ho).length_eq, List.length_take]
      omega
    generalize ordP (bs.take i) = os at tl f1 f2 lo ⊢
    refine ⟨_, rfl, L, rfl, ⟨_, sql hL3⟩, fun D hD => ?_⟩
    refine in_it (walk_list (K := K) (a := L) (xs := ts.map V.ref)) (fun j H' => ∃ us : List Addr, Same H3 H' ∧ H' D = some (.lst (us.map V.ref)) ∧ TupL H' us ((os.take j).flatMap (insAll b)))
      ⟨[], same_new hD _, upd_same, by rw [List.take_zero]; exact TupL.nil _⟩ (fun j H' _ ⟨_, sm, _⟩ => sql (sm _ _ hL3)) ?_ ?_
    · rintro j x H4 H5 hj ⟨us, s4, hD4, ul⟩ ⟨rfl, ex⟩
      obtain ⟨t, o, rfl, et, eo, ht⟩ := tl.get ex
      have ho := lo o (List.mem_of_getElem? eo)
      have lmo : (o.map V.str).length = o.length := List.length_map _
      have jn : ((os.take j).flatMap (insAll b)).length + (insAll b o).length ≤ 120 := by
        have e : os.take j ++ [o] ++ os.drop (j + 1) = os := by
          have z : os.take (j + 1) = os.take j ++ [o] := by rw [List.take_add_one, eo]; rfl
          rw [← z, List.take_append_drop]
        have e2 : ((os.take j ++ [o] ++ os.drop (j + 1)).flatMap (insAll b)).length = ((os.take j).flatMap (insAll b)).length + (insAll b o).length + ((os.drop (j + 1)).flatMap (insAll b)).length := by
          rw [List.flatMap_append, List.flatMap_append, List.flatMap_singleton, List.length_append, List.length_append]
        rw [e] at e2
        omega
      refine ⟨rfl, _, rfl, t, _, rfl, .inr (ht.same s4).sqt, _, _, rfl, rfl, ((o.length + 1 : Nat) : Int), by rw [lmo]; rfl, by omega, by omega, ?_⟩
      refine in_it (walk_range (lo := 0) (n := ((o.length + 1 : Nat) : Int).toNat)) (fun k H' => ∃ us : List Addr, Same H3 H' ∧ H' D = some (.lst (us.map V.ref)) ∧ TupL H' us ((os.take j).flatMap (insAll b) ++ (insAll b o).take k))
        ⟨us, s4, hD4, by rw [List.take_zero, List.append_nil]; exact ul⟩ (fun k H' _ _ => trivial) ?_ ?_
      · rintro k x H5 H6 hk ⟨us, s5, hD5, ul5⟩ ⟨rfl, rfl⟩
        have hk' : k ≤ o.length := by omega
        have ht5 := ht.same s5
        have ek : (0 : Int) + (k : Int) = (k : Int) := Int.zero_add _
        have e1 : cutV (o.map V.str) none (some (0 + (k : Int))) = (o.take k).map V.str := by rw [cut_high (j := k) (z := 0 + (k : Int)) ek (by rw [lmo]; exact hk'), List.map_take]
        have e2 : cutV (o.map V.str) (some (0 + (k : Int))) none = (o.drop k).map V.str := by rw [cut_low (j := k) (z := 0 + (k : Int)) ek (by rw [lmo]; exact hk'), List.map_drop]
        refine ⟨rfl, _, rfl, _, rfl, _, rfl, t, _, rfl, ht5, fun a Ha sa ha => ?_⟩
        rw [e1] at ha
        refine ⟨_, rfl, (by show 1 ≤ sizeLine; decide), fun c v hc hv => ?_⟩
        have sc := same_new hc v
        refine ⟨a, c, _, _, rfl, rfl, ha.same sc, TpO.new hv, by rw [List.length_map, List.length_take, sizeLine_eq]; show _ + 1 ≤ _; omega, fun d Hd sd hd => ?_⟩
        refine ⟨_, rfl, _, rfl, _, rfl, t, _, rfl, ht5.same (sa.trans (sc.trans sd)), fun e He se he => ?_⟩
        rw [e2] at he
        refine ⟨d, e, _, _, rfl, rfl, hd.same se, he, by rw [List.length_append, List.length_map, List.length_map, List.length_take, List.length_drop, sizeLine_eq]; show _ + 1 + _ ≤ _; omega, fun g Hg sg hg => ?_⟩
        have s6 := sa.trans (sc.trans (sd.trans (se.trans sg)))
        have hD6 := s6 _ _ hD5
        refine ⟨_, hD6, ?_, us ++ [g], same_put (s5.trans s6) hD, by rw [upd_same, List.map_append]; rfl, ?_⟩
        · rw [List.length_map, ul5.1, List.length_append, List.length_take]
          exact small1000 (by omega)
        · have en : (insAll b o)[k]? = some (o.take k ++ [b] ++ o.drop k) := by
            unfold insAll
            rw [List.getElem?_map, List.getElem?_range (by omega)]
            rfl
          rw [List.take_add_one, en, ← List.append_assoc]
          refine ((ul5.move s6).app (TupL.one (t := g) ?_)).put hD6
          rw [List.map_append, List.map_append]
          exact hg
      · rintro H5 ⟨us, s5, hD5, ul5⟩
        rw [List.take_of_length_le (l := insAll b o) (by unfold insAll; rw [List.length_map, List.length_range]; omega)] at ul5
        refine ⟨us, s5, hD5, ?_⟩
        rw [List.take_add_one, eo, List.flatMap_append]
        show TupL H5 us (_ ++ [o].flatMap (insAll b))
        rw [List.flatMap_singleton]
        exact ul5
    · rintro H4 ⟨us, s4, hD4, ul⟩
      rw [List.length_map, tl.1, List.take_length] at ul
      exact ⟨D, some (.str b), us, rfl, s3.trans s4, s3.free hD, hD4, ul⟩
  · rintro σ H3 ⟨L, y2, ts, rfl, s3, nL, hL3, tl⟩
    rw [lm, List.take_length] at tl
    exact ⟨_, rfl, q L H3 ts s3 nL hL3 tl⟩
theorem eqvAll_nats : ∀ xs ys : List Nat, PyData.eqvAll (xs.map fun k => PyData.int (k : Nat)) (ys.map fun k => PyData.int (k : Nat)) = decide (xs = ys)
  | [], [] => rfl
  | [], y :: r => rfl
  | x :: r, [] => rfl
  | x :: r, y :: t => by
    show (((x : Int) == (y : Int)) && PyData.eqvAll (r.map fun k => PyData.int (k : Nat)) (t.map fun k => PyData.int (k : Nat))) = _
    rw [eqvAll_nats r t]
    by_cases c : x = y
    · subst c
      rw [beq_self_eq_true, Bool.true_and, decide_eq_decide]
      exact ⟨fun h => by rw [h], fun h => (List.cons.inj h).2⟩
    · rw [beq_eq_false_iff_ne.mpr (show (x : Int) ≠ (y : Int) from fun z => c (Int.ofNat.inj z)), Bool.false_and]
      exact (decide_eq_false fun h => c (List.cons.inj h).1).symm
theorem eqvL_nats (xs ys : List Nat) : PyData.eqv (.list (xs.map fun k => PyData.int (k : Nat))) (.list (ys.map fun k => PyData.int (k : Nat))) = decide (xs = ys) := by
  rw [← eqvAll_nats]
  simp only [PyData.eqv]
theorem dpAll_nats {K : PySem.W.Frag} {H : Hp} : ∀ ns : List Nat, DpAll K H (ns.map natV) (ns.map fun k => PyData.int (k : Nat))
  | [] => .nil
  | x :: r => .cons (.int _) (dpAll_nats r)
theorem fineN {ns : List Nat} (hl : ns.length ≤ 1000) (n : Nat) : Fine (n + 1) (.list (ns.map fun k => PyData.int (k : Nat))) :=
  ⟨by rw [List.length_map]; exact hl, fun d hd => by
    obtain ⟨k, _, rfl⟩ := List.mem_map.mp hd
    cases n <;> trivial⟩
theorem tpo_inj {H : Hp} {t : Addr} {xs ys : List V} (a : TpO H t xs) (b : TpO H t ys) : xs = ys := by
  obtain ⟨u, h1, o, rfl, _⟩ := a
  obtain ⟨v, h2, o2, rfl, _⟩ := b
  rw [h1] at h2
  cases h2
  rfl
theorem strs_inj {a b : List Str} (h : a.map V.str = b.map V.str) : a = b := by
  induction a generalizing b with
  | nil =>
    cases b with
    | nil => rfl
    | cons _ _ => cases h
  | cons x r ih =>
    cases b with
    | nil => cases h
    | cons y t =>
      obtain ⟨h1, h2⟩ := List.cons.inj h
      rw [V.str.inj h1, ih h2]
open Classical in
noncomputable def cont (H : Hp) (t : Addr) : List Str := if h : ∃ r : List Str, TpO H t (r.map V.str) then Classical.choose h else []
theorem cont_of {H : Hp} {t : Addr} {r : List Str} (h : TpO H t (r.map V.str)) : cont H t = r := by
  unfold cont
  have e : ∃ r : List Str, TpO H t (r.map V.str) := ⟨r, h⟩
  rw [dif_pos e]
  exact strs_inj (tpo_inj (Classical.choose_spec e) h)
theorem TupL.cont {H : Hp} : ∀ {ts : List Addr} {rws : List (List Str)}, TupL H ts rws → ts.map (Lt.cont H) = rws
  | [], [], _ => rfl
  | [], r :: rs, h => nomatch h.1
  | t :: ts, [], h => nomatch h.1
  | t :: ts, r :: rs, h => by
    rw [List.map_cons, cont_of (h.2 0 t r rfl rfl), TupL.cont ⟨Nat.succ.inj h.1, fun i t q a b => h.2 (i + 1) t q a b⟩]
theorem TupL.at {H : Hp} {ts : List Addr} {rws : List (List Str)} (h : TupL H ts rws) {t : Addr} (ht : t ∈ ts) : Lt.cont H t ∈ rws ∧ TpO H t ((Lt.cont H t).map V.str) := by
  obtain ⟨i, hi⟩ := List.getElem?_of_mem ht
  have l := (List.getElem?_eq_some_iff.mp hi).1
  have hi2 : i < rws.length := by rw [← h.1]; exact l
  have z := h.2 i t _ hi (List.getElem?_eq_getElem hi2)
  rw [cont_of z]
  exact ⟨List.getElem_mem hi2, z⟩
theorem tupL_of {H : Hp} : ∀ (us : List Addr), (∀ t ∈ us, TpO H t ((Lt.cont H t).map V.str)) → TupL H us (us.map (Lt.cont H))
  | [], _ => TupL.nil H
  | t :: us, h => (TupL.one (h t (List.mem_cons_self ..))).app (tupL_of us fun u hu => h u (List.mem_cons_of_mem _ hu))
theorem kV_tk (r : List Str) : (tk r).map kV = r.map V.str := by
  rw [List.map_map]
  rfl
theorem starts_len {bs rs : List Str} {ns : List Nat} (h : bs.length ≤ 5) (hm : ∀ b ∈ rs, b ∈ bs) : (starts bs rs ns).length ≤ 120 := by
  unfold starts
  rw [List.length_map, ordP_len]
  exact fac_le (by rw [List.length_drop, (behindM_perm rs hm).length_eq]; omega)
def spPilesFor (K : PySem.W.Frag) : Sp := fun vs H Q _ => ∃ (p r n : Addr) (bs rs : List Str) (ns : List Nat), vs = [.ref p, .ref r, .ref n] ∧ TpO H p (bs.map V.str) ∧ H r = some (.lst (rs.map V.str)) ∧ H n = some (.lst (ns.map natV)) ∧ bs.Nodup ∧ 0 < bs.length ∧ bs.length ≤ 5 ∧ rs.length ≤ 60 ∧
  (∀ b ∈ rs, b ∈ bs) ∧ (∀ k ∈ ns, k < bs.length) ∧ ns.length ≤ 900 ∧
  ∀ (l : Addr) (H' : Hp) (us : List Addr) (cs : List (List Str)), Same H H' → H l = none → H' l = some (.lst (us.map V.ref)) → TupL H' us cs → cs.Perm ((starts bs rs ns).filter (fits rs ns)) → (cs.Pairwise fun x y => lexK (tk y) (tk x) = false) → Q (.ref l) H'
abbrev nPilesFor : List Str := ["pile", "readings", "numbers", "last", "many", "starts", "below", "start"]
theorem scPilesFor : FnScope nPilesFor ["pile", "readings", "numbers"] (defScope sPilesFor) := ⟨rfl, rfl, rfl, by decide +kernel, rfl, by decide +kernel, by decide +kernel⟩
theorem ok_pilesFor {f : Addr} {fd : FuncData} (F : Fun K "piles_for" "piles_for" sPilesFor f fd) (B : Bi mg) (cBe : Has P w K mg base 2 "behind" ["pile", "readings"] spBehind) (cLi : Has P w K mg base 2 "lifted" ["pile", "readings"] spLifted)
    (cUn : Has P w K mg base 2 "undone" ["pile", "numbers"] (spUndone K)) (cOr : Has P w K mg base 1 "orders_of" ["books"] (spOrdersOf K)) : FnOk P w K mg base CX0 3 f fd ["pile", "readings", "numbers"] (spPilesFor K) := by
  refine F.ok scPilesFor (fun vs H Q E h => ?_) (fun cdv A outer s H vs Q E hr h => ?_)
  · obtain ⟨p, r, n, bs, rs, ns, rfl, _⟩ := h
    rfl
  obtain ⟨p, r, n, bs, rs, ns, rfl, hp, hrr, hn, nd, b0, b5, r60, mrs, kns, l900, q⟩ := h
  refine ⟨_, pss_cons (ps_set (i := 3) scPilesFor.nd rfl (.inr rfl) (pe_go cBe hr (by decide) rfl (pa_cons (pv 0) (pa_cons (pv 1) pa_nil))))
    (pss_cons (ps_set (i := 4) scPilesFor.nd rfl (.inr rfl) (pe_lenSetS rfl (by rfl) B.len (by rfl) B.set (pv 1)))
    (pss_cons (ps_setLc (i := 5) (own := [("below", 6)]) (g := gName 6) (tt := tYes) (by rfl) scPilesFor.nd rfl rfl (sw_true rfl rfl rfl (by decide +kernel)) (pi_list (pe_go cOr hr (by decide) rfl (pa_cons (pe_slice sl_tupY (pv 3) (po_some (pv 4)) po_none) pa_nil)))
      (blkOk_by (own := [("below", 6)]) (N := nPilesFor) (sc := defScope sPilesFor) (by decide +kernel)) (fun _ _ _ _ _ => pg_name (i := 6) scPilesFor.nd rfl (.inl rfl)) (fun _ _ _ _ _ => pts_nil)
      (fun _ _ _ _ _ => pe_ix (ixT (K := K) rfl) (pe_go cUn hr (by decide) rfl (pa_cons (pe_op op_catY (pe_slice sl_tupY (pv 3) po_none (po_some (pv 4))) (pv 6)) (pa_cons (pv 2) pa_nil))) pe_int (fun _ _ => rfl)))
    (pss_one (ps_ret (pe_callB cr_sortK (by rfl) B.sorted (by decide +kernel) (pa_cons (pe_lc (own := [("start", 7)]) (g := gName 7) (tt := tTest (tOp (rEqD K) (tCall spLifted [] E0 (tCons (tVar 7) (tCons (tVar 1) tNil))) (tVar 2)))
      (by rfl) scPilesFor.nd (pi_list (pv 5)) (blkOk_by (own := [("start", 7)]) (N := nPilesFor) (sc := defScope sPilesFor) (by decide +kernel)) (fun _ _ _ _ _ => pg_name (i := 7) scPilesFor.nd rfl (.inl rfl))
      (fun _ _ _ _ _ => pts_one (pt_cmpR (oEqD (K := K) hr.units rfl) (pe_go cLi hr (by decide) rfl (pa_cons (pv 7) (pa_cons (pv 1) pa_nil))) (pv 2) (nomark _))) (fun _ _ _ _ _ => pv 7)) pa_nil)))))), ?_⟩
  have pmb := behindM_perm rs mrs
  have lb : (behindM bs rs).length = bs.length := pmb.length_eq
  have lm : ((behindM bs rs).map V.str).length = bs.length := by rw [List.length_map, lb]
  have ld : dist rs ≤ bs.length := by
    have e : (nub rs).Perm (bs.filter fun z => decide (z ∈ rs)) := by
      rw [List.perm_ext_iff_of_nodup (nub_nodup rs) (nd.sublist List.filter_sublist)]
      intro z
      rw [nub_mem, List.mem_filter]
      exact ⟨fun h => ⟨mrs z h, by simpa using h⟩, fun h => by simpa using h.2⟩
    show (nub rs).length ≤ _
    rw [e.length_eq]
    exact List.length_filter_le _ _
  refine ⟨_, rfl, _, rfl, p, r, bs, rs, rfl, hp, hrr, by omega, mrs, fun la H1 s1 hla => ?_⟩
  refine ⟨_, rfl, r, rs, rfl, sql (s1 _ _ hrr), by omega, ?_⟩
  refine ⟨_, rfl, _, rfl, _, rfl, la, _, rfl, hla, fun lo H2 s2 hlo => ?_⟩
  rw [cut_low (j := dist rs) (z := ((dist rs : Nat) : Int)) rfl (by rw [lm]; exact ld), ← List.map_drop] at hlo
  refine ⟨lo, _, rfl, hlo.sqt, by rw [List.length_drop]; omega, fun os H3 ts s3 nos hos tl => ?_⟩
  have sm3 := s1.trans (s2.trans s3)
  have hla3 := hla.same (s2.trans s3)
  refine ⟨os, rfl, ⟨_, sql hos⟩, fun D hD => lc_list (K := K) (a := os) (xs := ts.map V.ref)
    (fun j H' => ∃ us : List Addr, Same H3 H' ∧ H' D = some (.lst (us.map V.ref)) ∧ TupL H' us (((ordP ((behindM bs rs).drop (dist rs))).take j).map fun b => unR ((behindM bs rs).take (dist rs) ++ b) ns.reverse))
    ⟨[], same_new hD _, upd_same, by rw [List.take_zero]; exact TupL.nil _⟩ (fun j H' _ ⟨_, s', _⟩ => s'.seq (sql hos)) ?_ ?_⟩
  · rintro j x H4 hx ⟨us, s4, hD4, ul⟩
    obtain ⟨t, b, rfl, et, eb, ht⟩ := tl.get hx
    have pb := (ordP_mem _ _).mp (List.mem_of_getElem? eb)
    have lbl : b.length = bs.length - dist rs := by rw [pb.length_eq, List.length_drop, lb]
    refine ⟨rfl, _, rfl, _, rfl, _, rfl, la, _, rfl, hla3.same s4, fun hi H5 s5 hhi => ?_⟩
    rw [cut_high (j := dist rs) (z := ((dist rs : Nat) : Int)) rfl (by rw [lm]; exact ld), ← List.map_take] at hhi
    refine ⟨_, rfl, hi, t, _, _, rfl, rfl, hhi, ht.same (s4.trans s5), by rw [List.length_map, List.length_map, List.length_take, lbl, sizeLine_eq]; omega, fun c H6 s6 hc => ?_⟩
    rw [← List.map_append] at hc
    have lc : ((behindM bs rs).take (dist rs) ++ b).length = bs.length := by
      rw [List.length_append, List.length_take, lbl, lb]
      omega
    refine ⟨_, rfl, c, n, _, ns, rfl, hc, sql ((sm3.trans (s4.trans (s5.trans s6))) _ _ hn), fun k hk => by rw [lc]; exact kns k hk, by omega, l900, fun tt o rd H7 s7 htt ho _ => ?_⟩
    have s47 := s5.trans (s6.trans s7)
    have hD7 := s47 _ _ hD4
    refine ⟨tt, _, _, _, rfl, rfl, sqt htt, at_of (j := 0) rfl rfl, _, hD7, ?_, us ++ [o], same_put (s4.trans s47) hD, by rw [upd_same, List.map_append]; rfl, ?_⟩
    · have z := ordP_len ((behindM bs rs).drop (dist rs))
      have z2 := fac_le (n := ((behindM bs rs).drop (dist rs)).length) (by rw [List.length_drop]; omega)
      rw [List.length_map, ul.1, List.length_map, List.length_take]
      exact small1000 (by omega)
    · rw [List.take_add_one, eb, List.map_append]
      exact ((ul.move s47).app (TupL.one ho)).put hD7
  · rintro H4 ⟨us, s4, hD4, ul⟩
    rw [List.length_map, tl.1, List.take_length] at ul
    have ul2 : TupL H4 us (starts bs rs ns) := ul
    have sl := starts_len (ns := ns) b5 mrs
    have okS : ∀ x ∈ starts bs rs ns, x.Perm bs := fun x hx => starts_perm x hx mrs
    have sm4 := sm3.trans s4
    generalize starts bs rs ns = ss at ul2 sl okS q
    refine ⟨_, rfl, D, rfl, ⟨_, sql hD4⟩, fun D2 hD2 => lc_list (K := K) (a := D) (xs := us.map V.ref)
      (fun j H' => ∃ vs : List Addr, Same H4 H' ∧ H' D2 = some (.lst (vs.map V.ref)) ∧ TupL H4 vs ((ss.take j).filter (fits rs ns)))
      ⟨[], same_new hD2 _, upd_same, by rw [List.take_zero]; exact TupL.nil _⟩ (fun j H' _ ⟨_, s', _⟩ => s'.seq (sql hD4)) ?_ ?_⟩
    · rintro j x H5 hx ⟨vs, s5, hD5, vl⟩
      obtain ⟨t, b, rfl, et, eb, ht⟩ := ul2.get hx
      have pb := okS b (List.mem_of_getElem? eb)
      have sm5 := sm4.trans s5
      refine ⟨rfl, _, rfl, _, rfl, t, r, b, rs, rfl, ht.same s5, sm5 _ _ hrr, by rw [pb.length_eq]; omega, by omega, (fun c hc => pb.mem_iff.mpr (mrs c hc)), fun li H6 s6 nli hli => ?_⟩
      have f1 := fineN (ns := liftedM b rs) (by rw [liftedM_len]; omega) 0
      have f2 := fineN (ns := ns) (by omega) 0
      refine ⟨_, rfl, _, _, .lst (sql hli) (dpAll_nats _), .lst (sql (s6 _ _ (sm5 _ _ hn))) (dpAll_nats ns), fine_shaped (n := 1) f1 (by decide), fine_shaped (n := 1) f2 (by decide), _, rfl, ?_⟩
      rw [eqvL_nats, List.take_add_one, eb, List.filter_append]
      refine ite2 (fun c => ?_) (fun c => ?_)
      · refine ⟨_, rfl, _, s6 _ _ hD5, ?_, vs ++ [t], same_put (s5.trans s6) hD2, by rw [upd_same, List.map_append]; rfl, ?_⟩
        · have z := List.length_filter_le (fits rs ns) (ss.take j)
          rw [List.length_take] at z
          rw [List.length_map, vl.1]
          exact small1000 (by omega)
        · refine vl.app ?_
          show TupL H4 [t] ([b].filter (fits rs ns))
          rw [filt_y (p := fits rs ns) c]
          exact TupL.one ht
      · refine ⟨vs, s5.trans s6, s6 _ _ hD5, ?_⟩
        show TupL H4 vs (_ ++ [b].filter (fits rs ns))
        rw [filt_n (p := fits rs ns) c, List.append_nil]
        exact vl
    · rintro H5 ⟨vs, s5, hD5, vl⟩
      rw [List.length_map, ul2.1, List.take_length] at vl
      have vl5 := vl.move s5
      have each : ∀ t ∈ vs, cont H5 t ∈ ss ∧ TpO H5 t ((cont H5 t).map V.str) := fun t ht => ⟨(List.mem_filter.mp (vl5.at ht).1).1, (vl5.at ht).2⟩
      refine ⟨D2, vs, fun t => tk (cont H5 t), rfl, sql hD5, fun t ht => ⟨by rw [kV_tk]; exact (each t ht).2.sqt, fun z => ?_⟩, fun t ht u hu => ⟨alike_tk _ _, ?_⟩, fun vs2 l pm pw nl => ?_⟩
      · have z2 := congrArg List.length z
        rw [List.length_map, (okS _ (each t ht).1).length_eq, List.length_nil] at z2
        omega
      · rw [List.length_map, List.length_map, (okS _ (each t ht).1).length_eq, (okS _ (each u hu).1).length_eq]
      · have s6 := same_new nl (.lst (vs2.map V.ref))
        have tl6 : TupL (upd H5 l (.lst (vs2.map V.ref))) vs2 (vs2.map (cont H5)) := (tupL_of vs2 fun t ht => (each t (pm.mem_iff.mp ht)).2).move s6
        refine q l _ vs2 (vs2.map (cont H5)) (sm4.trans (s5.trans s6)) ((sm4.trans s5).free nl) upd_same tl6 ?_ ?_
        · have z := pm.map (cont H5)
          rw [vl5.cont] at z
          exact z
        · exact List.pairwise_map.mpr pw
def spReadBy (K : PySem.W.Frag) : Sp := fun vs H Q _ => ∃ (p r : Addr) (bs : List Str) (ns : List Nat), vs = [.ref p, .ref r] ∧ TpO H p (bs.map V.str) ∧ SqL K H r (ns.map natV) ∧ (∀ k ∈ ns, k < bs.length) ∧ bs.length ≤ 1000 ∧ ns.length ≤ 900 ∧
  ∀ (l : Addr) (H' : Hp), Same H H' → H l = none → H' l = some (.lst ((readM bs ns).map V.str)) → Q (.ref l) H'
abbrev nReadBy : List Str := ["pile", "numbers", "readings", "order", "number", "book"]
theorem scReadBy : FnScope nReadBy ["pile", "numbers"] (defScope sReadBy) := ⟨rfl, rfl, rfl, by decide +kernel, rfl, by decide +kernel, by decide +kernel⟩
theorem ok_readBy {f : Addr} {fd : FuncData} (F : Fun K "readings_by" "readings_by" sReadBy f fd) (cLa : Has P w K mg base 1 "laid_on_top" ["pile", "book"] spLaid) (cL : Has P w K mg base 1 "liftable" ["pile", "numbers"] (spLiftable K)) :
    FnOk P w K mg base CX0 2 f fd ["pile", "numbers"] (spReadBy K) := by
  refine F.ok scReadBy (fun vs H Q E h => ?_) (fun cdv A outer s H vs Q E hr h => ?_)
  · obtain ⟨p, r, bs, ns, rfl, _⟩ := h
    rfl
  obtain ⟨p, r, bs, ns, rfl, hp, hrr, hk, hl, hl2, q⟩ := h
  refine ⟨_, pss_cons (ps_set (i := 2) scReadBy.nd rfl (.inl rfl) (pe_lst pa_nil))
    (pss_cons (ps_set (i := 3) scReadBy.nd rfl (.inl rfl) (pv 0))
    (pss_cons (ps_for PassesOwn.never rfl (pi_list (pe_go cL hr (by decide) rfl (pa_cons (pv 0) (pa_cons (pv 1) pa_nil)))) (pg_name (i := 4) scReadBy.nd rfl (.inl rfl))
      (pss_cons (ps_set (i := 5) scReadBy.nd rfl (.inl rfl) (pe_ix ix_tup (pv 3) (pv 4) (fun _ _ => rfl)))
      (pss_cons (ps_expr (pe_bm PySem.F.plainAttrs_list PySem.F.slot_list_append PySem.F.type_list_append mt_append (pv 2) (pa_cons (pv 5) pa_nil)))
      (pss_one (ps_set (i := 3) scReadBy.nd rfl (.inl rfl) (pe_go cLa hr (by decide) rfl (pa_cons (pv 3) (pa_cons (pv 5) pa_nil))))))))
    (pss_one (ps_ret (pv 2))))), ?_⟩
  refine ⟨Nat.zero_le _, fun L hL => ⟨_, rfl, ?_⟩⟩
  have s1 := same_new hL (.lst [])
  have hL1 : upd H L (.lst []) L = some (.lst []) := upd_same
  generalize upd H L (.lst []) = H1 at s1 hL1 ⊢
  refine ⟨_, rfl, _, rfl, p, r, bs, ns, rfl, (hp.same s1).sqt, s1.seq hrr, hk, by omega, fun l H2 s2 nl hl2' => ?_⟩
  have sm2 := s1.trans s2
  have nLl : L ≠ l := ne_of_none hL1 nl
  have ln : (ns.map natV).length = ns.length := List.length_map _
  refine ⟨l, rfl, ⟨_, sql hl2'⟩, for_list (K := K) (a := l) (xs := ns.map natV) (fun i σ H' => ∃ (o : Addr) (y4 y5 : Option V), σ = [some (.ref p), some (.ref r), some (.ref L), some (.ref o), y4, y5] ∧ Same H H' ∧ H' l = some (.lst (ns.map natV)) ∧
      TpO H' o ((behindM bs (readM bs (ns.take i))).map V.str) ∧ H' L = some (.lst ((readM bs (ns.take i)).map V.str)))
    ⟨p, none, none, rfl, sm2, hl2', hp.same sm2, s2 _ _ hL1⟩ (fun i σ H' _ ⟨_, _, _, _, _, h, _⟩ => sql h) ?_ ?_⟩
  · rintro i x σ H3 hx ⟨o, y4, y5, rfl, sm3, hl3, ho3, hL3⟩
    obtain ⟨k, hk1, rfl⟩ := ints_get hx
    have ltk := hk k (List.mem_of_getElem? hk1)
    have hi := (List.getElem?_eq_some_iff.mp hk1).1
    have et : ns.take (i + 1) = ns.take i ++ [k] := by rw [List.take_add_one, hk1]; rfl
    have mem := readM_mem (ns.take i) (bs := bs) fun j hj => hk j (List.mem_of_mem_take hj)
    have lr := readM_len (ns.take i) bs
    rw [List.length_take] at lr
    rw [et, readM_snoc, behindM_snoc]
    have pm := behindM_perm _ mem
    generalize behindM bs (readM bs (ns.take i)) = cur at ho3 pm ⊢
    generalize readM bs (ns.take i) = rd at hL3 lr ⊢
    have lc := pm.length_eq
    refine ⟨_, rfl, _, rfl, o, _, _, .str (nth cur k), rfl, rfl, ho3.sqt, at_of (j := k) rfl (by rw [List.getElem?_map, nth_get (by omega)]; rfl), ?_⟩
    refine ⟨_, rfl, .inl ⟨rfl, _, sql hL3⟩, _, rfl, L, _, _, rfl, rfl, hL3, by rw [List.length_map]; exact small1000 (by omega), ?_⟩
    have sm4 : Same H (upd H3 L (.lst (rd.map V.str ++ [V.str (nth cur k)]))) := same_put sm3 hL
    have ho4 : TpO (upd H3 L (.lst (rd.map V.str ++ [V.str (nth cur k)]))) o (cur.map V.str) := ho3.move fun u hu => by
      rw [upd_ne (ho3.ne hL3 fun o z => nomatch z)]
      exact hu
    refine ⟨_, rfl, _, rfl, o, cur, nth cur k, rfl, ho4, nth_mem (by omega), by omega, fun c H5 s5 hc => ?_⟩
    refine ⟨c, some (natV k), some (.str (nth cur k)), rfl, sm4.trans s5, s5 _ _ (by rw [upd_ne nLl.symm]; exact hl3), hc, s5 _ _ ?_⟩
    rw [upd_same, List.map_append]
    rfl
  · rintro σ H3 ⟨o, y4, y5, rfl, sm3, hl3, ho3, hL3⟩
    rw [ln, List.take_length] at hL3
    exact ⟨_, rfl, q L H3 sm3 hL hL3⟩
theorem gre_le (os l : List Str) : gre os l ≤ l.length := by
  have z := (gre_sub os l).2.length_le
  have z1 := (gre_sub os l).1
  rw [List.length_take] at z
  omega
theorem rev_get {l : List Str} {i : Nat} (h : i < l.length) : l.reverse[i]? = l[l.length - 1 - i]? := List.getElem?_reverse h
def spFew (K : PySem.W.Frag) : Sp := fun vs H Q _ => ∃ (p o : Addr) (bs os : List Str), vs = [.ref p, .ref o] ∧ SqT K H p (bs.map V.str) ∧ SqT K H o (os.map V.str) ∧ os.length = bs.length ∧
  ∀ (l : Addr) (H' : Hp), Same H H' → H l = none → H' l = some (.lst ((few bs os).map V.str)) → Q (.ref l) H'
theorem scFew : FnScope ["pile", "other", "many", "book"] ["pile", "other"] (defScope sFew) := ⟨rfl, rfl, rfl, by decide +kernel, rfl, by decide +kernel, by decide +kernel⟩
theorem ok_few {f : Addr} {fd : FuncData} (F : Fun K "fewest_to" "fewest_to" sFew f fd) (B : Bi mg) : FnOk P w K mg base CX0 1 f fd ["pile", "other"] (spFew K) := by
  refine F.ok scFew (fun vs H Q E h => ?_) (fun cdv A outer s H vs Q E hr h => ?_)
  · obtain ⟨p, o, bs, os, rfl, _⟩ := h
    rfl
  obtain ⟨p, o, bs, os, rfl, hp, ho, hl, q⟩ := h
  refine ⟨_, pss_cons (ps_set (i := 2) scFew.nd rfl (.inl rfl) (pe_callB call_len_seq (by rfl) B.len PySem.boot_len (pa_cons (pv 1) pa_nil)))
    (pss_cons (ps_for PassesOwn.never rfl (RT.pi_revA (by rfl) B.reversed (pv 0)) (pg_name (i := 3) scFew.nd rfl (.inl rfl))
      (pss_one (ps_if (pt_cmpR op_eq (pv 3) (pe_ix ix_tup (pv 1) (pe_op op_sub (pv 2) pe_int) (fun _ _ => rfl)) (nomark _))
        (pss_one (ps_aug (i := 2) scFew.nd rfl (.inl rfl) pe_int ip_sub)) pss_nil)))
    (pss_one (ps_ret (pe_listRev rfl (by rfl) B.list (by rfl) B.reversed (pe_slice sl_tupA (pv 1) po_none (po_some (pv 2))))))), ?_⟩
  have lm : (bs.map V.str).length = bs.length := List.length_map _
  have lo : (os.map V.str).length = os.length := List.length_map _
  refine ⟨_, rfl, o, _, rfl, .inr ho, ?_⟩
  refine ⟨_, rfl, p, _, rfl, .inr ⟨hp, RT.for_ItvT (fun i σ H' => ∃ y3 : Option V, H' = H ∧ σ = [some (.ref p), some (.ref o), some (natV (os.length - gre os.reverse (bs.reverse.take i))), y3])
    ⟨none, rfl, by rw [lo]; rfl⟩ (fun i σ H' ⟨_, e, _⟩ => by rw [e]; exact hp) ?_ ?_⟩⟩
  · rintro i x σ H' hi hx ⟨y3, rfl, rfl⟩
    rw [lm] at hi hx
    obtain ⟨b, hb, rfl⟩ := strs_get hx
    have hb' : bs.reverse[i]? = some b := by rw [rev_get hi]; exact hb
    have es : bs.reverse.take (i + 1) = bs.reverse.take i ++ [b] := by rw [List.take_add_one, hb']; rfl
    rw [es, gre_snoc]
    have g1 := gre_le os.reverse (bs.reverse.take i)
    rw [List.length_take, List.length_reverse] at g1
    generalize gre os.reverse (bs.reverse.take i) = g at g1 ⊢
    have hg : g < os.length := by omega
    have eg : os.reverse[g]? = some os[os.length - 1 - g] := by rw [rev_get hg]; exact List.getElem?_eq_getElem (by omega)
    refine ⟨_, rfl, _, rfl, _, rfl, _, _, rfl, rfl, o, _, _, .str os[os.length - 1 - g], rfl, rfl, ho, at_of (j := os.length - 1 - g) (by omega) (by rw [List.getElem?_map, List.getElem?_eq_getElem (by omega)]; rfl), rfl, _, rfl, ite2 (fun c => ?_) (fun c => ?_)⟩
    · have c' : V.str b = V.str os[os.length - 1 - g] := of_decide_eq_true c
      injection c' with c'
      refine ⟨_, rfl, _, _, rfl, rfl, some (.str b), rfl, ?_⟩
      rw [eg, if_pos (by rw [c'])]
      rw [show (natV (os.length - (g + 1))) = V.int (((os.length - g : Nat) : Int) - 1) by show V.int _ = V.int _; congr 1; omega]
      rfl
    · have c' : ¬ V.str b = V.str os[os.length - 1 - g] := of_decide_eq_false (Bool.eq_false_iff.mpr c)
      refine ⟨some (.str b), rfl, ?_⟩
      rw [eg, if_neg (fun z => c' (by injection z with z; rw [z]))]
      rfl
  · rintro σ H' ⟨y3, rfl, rfl⟩
    rw [lm, List.take_of_length_le (by rw [List.length_reverse]; exact Nat.le_refl _)]
    have sl := stay_le bs os
    have fin : ∀ (a : Addr) (H2 : Hp), Same H' H2 → SqT K H2 a ((os.take (os.length - stay bs os)).map V.str) → ∀ r, H2 r = none → Q (.ref r) (upd H2 r (.lst ((os.take (os.length - stay bs os)).map V.str).reverse)) := fun a H2 s2 sa r hr' =>
      q r _ (s2.trans (same_new hr' _)) (s2.free hr') (by rw [upd_same, ← List.map_reverse]; rfl)
    refine ⟨_, rfl, _, rfl, _, rfl, o, _, rfl, ho, fun z => ?_, fun _ a ha => ?_⟩
    · have ew : os.length - stay bs os = os.length := by
        have z2 := z.2
        rw [HT.sIx_nat, lo] at z2
        have e2 : gre os.reverse bs.reverse = stay bs os := rfl
        omega
      refine ⟨o, _, rfl, ho, fun r hr' => ?_⟩
      have q2 := fin o H' (fun _ _ h => h) (by rw [ew, List.take_length]; exact ho) r hr'
      rw [ew, List.take_length] at q2
      exact q2
    · refine ⟨a, _, rfl, sqt upd_same, fun r hr' => ?_⟩
      have e : cutV (os.map V.str) none (some ((os.length - gre os.reverse bs.reverse : Nat) : Int)) = (os.take (os.length - stay bs os)).map V.str := by
        rw [cut_to (by rw [lo]; omega), ← List.map_take]
        rfl
      rw [e] at hr' ⊢
      exact fin a _ (same_new ha _) (sqt upd_same) r hr'
end
end Lt

set_option Elab.async false
set_option linter.all false
set_option maxRecDepth 100000
set_option maxHeartbeats 4000000
namespace Lt
open PySem PySem.Spec PyProof.Rows L2
section
variable {P : Program} {w : World} {K : PySem.W.Frag} {mg : Str → Option Value} {base : Heap} {X : Cx}
def spName (K : PySem.W.Frag) (Pn : Addr) : Sp := fun vs H Q _ => ∃ (v : V) (d : PyData), vs = [v] ∧ Dp K H v d ∧ (∀ z, d = .str z → z.length ≤ 1000) ∧ GxR.TabG H Pn ∧ ∀ H', GxR.Tabbed Pn H H' → Q (.bl (nameD d)) H'
theorem scIsName : FnScope ["thing"] ["thing"] (defScope sIsName) := ⟨rfl, rfl, rfl, by decide +kernel, rfl, by decide +kernel, by decide +kernel⟩
theorem ok_isName {f c Pn : Addr} {fd : FuncData} (F : Fun K "is_name" "is_name" sIsName f fd) (hc : fd.code = .ref c) (TB : GxR.TabB base mg c Pn) (B : Bi mg) {tk : Tok} (mgL : mg "LONGEST_NAME" = some (.int 8 tk)) : FnOk P w K mg base CX0 1 f fd ["thing"] (spName K Pn) := by
  obtain ⟨oc, od, kV, doc, pm, an, cdv, ct, osl, rfl, lk, hcd⟩ := F.ex
  refine fn_of lk hcd scIsName (fun vs H Q E h => ?_) fun A outer s H vs Q E hr h => ?_
  · obtain ⟨v, d, rfl, _⟩ := h
    rfl
  obtain ⟨v, d, rfl, dp, len, tg, q⟩ := h
  have hc' : cdv = .ref c := hc
  subst hc'
  refine ⟨_, PSs.nox (pss_cons (ps_if (pt_not (pt_val (pe_callB call_isi (by rfl) B.isinstance (by decide +kernel) (pa_cons (pv 0) (pa_cons (pe_bltn (v := .ty "str") (by rfl) B.str (by decide +kernel) rfl) pa_nil))))) (pss_one (ps_ret pe_bl)) pss_nil)
    (pss_cons (ps_if (pt_not (pt_chain op_le op_le pe_int (pe_callB call_len_str (by rfl) B.len PySem.boot_len (pa_cons (pv 0) pa_nil)) (pe_glob (v := .int 8) (by rfl) mgL ⟨_, rfl⟩))) (pss_one (ps_ret pe_bl)) pss_nil)
    (pss_one (ps_ret (GxR.pe_allS hr (by rfl) B.all (by decide +kernel) TB rfl ⟨rfl, rfl, by decide +kernel, rfl, rfl, no_free (by decide +kernel)⟩ (pv 0) (elt_az rfl rfl) (fun _ => rfl)))))), ?_⟩
  rcases kind_str dp with ⟨z, rfl⟩ | ⟨h1, h2⟩
  · cases dp
    have zl := len z rfl
    refine ⟨_, rfl, _, _, _, _, true, rfl, .ty _, (show TyX K H (.str z) (.type "str") from .base (.str z)), kit_ty (by decide +kernel), true, rfl, ?_⟩
    have fin : (nameD (.str z) = false) → Q (.bl false) H := fun e => by
      have y := q H (tabbed_refl tg)
      rw [e] at y
      exact y
    refine ⟨_, rfl, z, rfl, by rw [sizeLine_eq]; omega, _, _, rfl, rfl, _, rfl, ite2 (fun c1 => ?_) (fun c1 => ?_)⟩
    · have d1 : 1 ≤ z.length := by
        have y := of_decide_eq_true c1
        omega
      refine ⟨_, _, rfl, rfl, _, rfl, ?_⟩
      by_cases d2 : z.length ≤ 8
      · have e2 : decide ((z.length : Int) ≤ 8) = true := decide_eq_true (by omega)
        rw [e2]
        refine ⟨_, rfl, z, rfl, tg, fun H2 tb => ?_⟩
        have y := q H2 tb
        rw [nameD_str, decide_eq_true d1, decide_eq_true d2, Bool.true_and, Bool.true_and] at y
        exact y
      · have e2 : decide ((z.length : Int) ≤ 8) = false := decide_eq_false (by omega)
        rw [e2]
        refine fin ?_
        rw [nameD_str, decide_eq_false d2, Bool.and_false, Bool.false_and]
    · have d1 : ¬ 1 ≤ z.length := fun y => c1 (decide_eq_true (by omega))
      refine ⟨_, rfl, fin ?_⟩
      rw [nameD_str, decide_eq_false d1, Bool.false_and, Bool.false_and]
  · refine ⟨_, rfl, _, _, _, _, false, rfl, .ty _, ty_dp dp, kit_ty h2, false, rfl, ?_⟩
    have z := q H (tabbed_refl tg)
    rw [name_no h1] at z
    exact z
def spIsPileN (K : PySem.W.Frag) (Ps : List Addr) : Sp := fun vs H Q _ => ∃ (v : V) (d : PyData), vs = [v] ∧ Dp K H v d ∧ (∀ ds, d = .tuple ds → ∀ z, .str z ∈ ds → z.length ≤ 1000) ∧ Tabs H Ps ∧
  ∀ H', SameN H H' → Tabs H' Ps → Q (.bl (pileD d)) H'
theorem scIsPile : FnScope ["thing"] ["thing"] (defScope sIsPile) := ⟨rfl, rfl, rfl, by decide +kernel, rfl, by decide +kernel, by decide +kernel⟩
theorem ok_isPileN {f c Pn Pp : Addr} {Ps : List Addr} {fd : FuncData} (F : Fun K "is_pile" "is_pile" sIsPile f fd) (hc : fd.code = .ref c) (TB : GxR.TabB base mg c Pp) (iN : Pn ∈ Ps) (iP : Pp ∈ Ps) (B : Bi mg) {tk : Tok} (mgL : mg "MOST_BOOKS" = some (.int 7 tk)) (cN : Has P w K mg base 1 "is_name" ["thing"] (spName K Pn)) :
    FnOk P w K mg base CX0 3 f fd ["thing"] (spIsPileN K Ps) := by
  obtain ⟨oc, od, kV, doc, pm, an, cdv, ct, osl, rfl, lk, hcd⟩ := F.ex
  refine fn_of lk hcd scIsPile (fun vs H Q E h => ?_) fun A outer s H vs Q E hr h => ?_
  · obtain ⟨v, d, rfl, _⟩ := h
    rfl
  obtain ⟨v, d, rfl, dp, len, tg, q⟩ := h
  have tn := tg Pn iN
  have tp := tg Pp iP
  have hc' : cdv = .ref c := hc
  subst hc'
  refine ⟨_, PSs.nox (pss_cons (ps_if (pt_not (pt_val (pe_callB call_isi (by rfl) B.isinstance (by decide +kernel) (pa_cons (pv 0) (pa_cons (pe_bltn (v := .ty "tuple") (by rfl) B.tuple (by decide +kernel) rfl) pa_nil))))) (pss_one (ps_ret pe_bl)) pss_nil)
    (pss_cons (ps_if (pt_not (pt_chain op_le op_le pe_int (pe_callB call_len_seq (by rfl) B.len PySem.boot_len (pa_cons (pv 0) pa_nil)) (pe_glob (v := .int 7) (by rfl) mgL ⟨_, rfl⟩))) (pss_one (ps_ret pe_bl)) pss_nil)
    (pss_cons (ps_if (pt_not (pt_val (pe_allN (k := 1) (tel := tCall (spName K Pn) [] E0 (tCons (tVar 1) tNil)) hr (by rfl) B.all TB rfl ⟨rfl, rfl, by decide +kernel, rfl, rfl, by decide⟩ (pv 0) (fun A C code s4 H4 I rA => pe_go cN rA (Nat.le_refl _) rfl (pa_cons (pv 1) pa_nil))))) (pss_one (ps_ret pe_bl)) pss_nil)
    (pss_one (ps_ret (pe_cmpR op_eq (pe_lenSetT rfl (by rfl) B.len (by rfl) B.set (pv 0)) (pe_callB call_len_seq (by rfl) B.len PySem.boot_len (pa_cons (pv 0) pa_nil)) (nomark _))))))), ?_⟩
  have fin : pileD d = false → Q (.bl false) H := fun e => by
    have y := q H (SameN.refl H) tg
    rw [e] at y
    exact y
  rcases kind_tup dp with ⟨ds, rfl⟩ | ⟨h1, h2⟩
  · cases dp with
    | @tup a vs _ sq da =>
    have lv := dpAll_len da
    refine ⟨_, rfl, _, _, _, _, true, rfl, .ty _, (show TyX K H (.ref a) (.type "tuple") from ty_dp (.tup sq da)), kit_ty (by decide +kernel), true, rfl, ?_⟩
    refine ⟨_, rfl, a, _, rfl, .inr sq, _, _, rfl, rfl, _, rfl, ite2 (fun c1 => ?_) (fun c1 => ?_)⟩
    · have d1 : 1 ≤ ds.length := by
        have y := of_decide_eq_true c1
        omega
      refine ⟨_, _, rfl, rfl, _, rfl, ?_⟩
      by_cases d2 : ds.length ≤ 7
      · have e2 : decide ((vs.length : Int) ≤ 7) = true := decide_eq_true (by omega)
        rw [e2]
        refine ⟨_, rfl, a, vs, atD nameD ds, fun _ H' => SameN H H' ∧ (∀ b, H b = none → H' b = none) ∧ Tabs H' Ps, rfl, sq, tp, fun H2 tb => ?_, fun i H' w => ⟨w.1.tup sq, w.2.1⟩, ?_, ?_⟩
        · refine ⟨SameN.tab tp tb, fun b hb => ?_, tg.tab tb⟩
          by_cases e : b = Pp
          · obtain ⟨ps, h, _⟩ := tp
            rw [e, h] at hb
            cases hb
          · rw [tb.2 b e]
            exact hb
        · rintro J i H' v hv ⟨sn, nn, tg'⟩
          have tn' := tg' Pn iN
          obtain ⟨d, ed, dd⟩ := dpAll_get da hv
          refine ⟨_, rfl, v, d, rfl, dp_sameN sn dd, fun z e => len ds rfl z (by rw [← e]; exact List.mem_of_getElem? ed), tn', fun H3 tb => ⟨?_, sn.trans (SameN.tab tn' tb), fun b hb => ?_, tg'.tab tb⟩⟩
          · rw [atD_some ed]
          · have y := nn b hb
            by_cases e : b = Pn
            · obtain ⟨ps, h, _⟩ := tn'
              rw [e, h] at y
              cases y
            · rw [tb.2 b e]
              exact y
        · rintro j H' ⟨sn, nn, tg'⟩
          have ea := all_at nameD ds
          rw [lv, ea]
          refine ⟨_, rfl, ?_⟩
          have y := q H' sn tg'
          rw [pileD_tup, decide_eq_true d1, decide_eq_true d2, Bool.true_and, Bool.true_and] at y
          cases en : ds.all nameD with
          | false =>
            rw [en, Bool.false_and] at y
            exact y
          | true =>
            rw [en, Bool.true_and] at y
            have et := txts_all fun d hd => List.all_eq_true.mp en d hd
            have lt : (txts ds).length = ds.length := by
              have z := congrArg List.length et
              rw [List.length_map] at z
              exact z.symm
            have ev : vs = (txts ds).map V.str := dpAll_txts (by rw [← et]; exact da)
            refine ⟨_, rfl, a, txts ds, rfl, by rw [← ev]; exact sn.tup sq, by omega, _, rfl, a, _, rfl, .inr (sn.tup sq), rfl, ?_⟩
            have e3 : decide (V.int ((dist (txts ds) : Nat) : Int) = V.int ((vs.length : Nat) : Int)) = decide (dist (txts ds) = ds.length) := by
              rw [decide_eq_decide, lv]
              exact ⟨fun z => by injection z with z; omega, fun z => by rw [z]⟩
            show Q (.bl (decide (V.int ((dist (txts ds) : Nat) : Int) = V.int ((vs.length : Nat) : Int)))) H'
            rw [e3]
            exact y
      · have e2 : decide ((vs.length : Int) ≤ 7) = false := decide_eq_false (by omega)
        rw [e2]
        refine fin ?_
        rw [pileD_tup, decide_eq_false d2, Bool.and_false, Bool.false_and, Bool.false_and]
    · have d1 : ¬ 1 ≤ ds.length := fun y => c1 (decide_eq_true (by omega))
      refine ⟨_, rfl, fin ?_⟩
      rw [pileD_tup, decide_eq_false d1, Bool.false_and, Bool.false_and, Bool.false_and]
  · refine ⟨_, rfl, _, _, _, _, false, rfl, .ty _, ty_dp dp, kit_ty h2, false, rfl, ?_⟩
    exact fin (pile_no h1)
def spWhole (K : PySem.W.Frag) : Sp := fun vs H Q _ => ∃ (v : V) (d : PyData), vs = [v] ∧ Dp K H v d ∧ Q (.bl (wholeD d)) H
theorem scWhole : FnScope ["thing"] ["thing"] (defScope sWhole) := ⟨rfl, rfl, rfl, by decide +kernel, rfl, by decide +kernel, by decide +kernel⟩
theorem ok_whole {f : Addr} {fd : FuncData} (F : Fun K "is_whole_number" "is_whole_number" sWhole f fd) (B : Bi mg) : FnOk P w K mg base CX0 1 f fd ["thing"] (spWhole K) := by
  refine F.ok scWhole (fun vs H Q E h => ?_) (fun cdv A outer s H vs Q E hr h => ?_)
  · obtain ⟨v, d, rfl, _⟩ := h
    rfl
  obtain ⟨v, d, rfl, dp, q⟩ := h
  refine ⟨_, pss_one (ps_ret (pe_and (pe_callB call_isi (by rfl) B.isinstance (by decide +kernel) (pa_cons (pv 0) (pa_cons (pe_bltn (v := .ty "int") (by rfl) B.int (by decide +kernel) rfl) pa_nil)))
    (pe_one (pe_not (pe_callB call_isi (by rfl) B.isinstance (by decide +kernel) (pa_cons (pv 0) (pa_cons (pe_bltn (v := .ty "bool") (by rfl) B.bool (by decide +kernel) rfl) pa_nil))))))), ?_⟩
  have ty := ty_dp dp
  cases dp with
  | non => exact ⟨_, rfl, _, _, _, _, false, rfl, .ty _, ty, kit_ty (show kitB "NoneType" "int" = some false by decide +kernel), false, rfl, q⟩
  | bl b => exact ⟨_, rfl, _, _, _, _, true, rfl, .ty _, ty, kit_ty (show kitB "bool" "int" = some true by decide +kernel), true, rfl, _, rfl, _, _, _, _, true, rfl, .ty _, ty, kit_ty (show kitB "bool" "bool" = some true by decide +kernel), true, rfl, q⟩
  | int i => exact ⟨_, rfl, _, _, _, _, true, rfl, .ty _, ty, kit_ty (show kitB "int" "int" = some true by decide +kernel), true, rfl, _, rfl, _, _, _, _, false, rfl, .ty _, ty, kit_ty (show kitB "int" "bool" = some false by decide +kernel), false, rfl, q⟩
  | str z => exact ⟨_, rfl, _, _, _, _, false, rfl, .ty _, ty, kit_ty (show kitB "str" "int" = some false by decide +kernel), false, rfl, q⟩
  | lst h a => exact ⟨_, rfl, _, _, _, _, false, rfl, .ty _, ty, kit_ty (show kitB "list" "int" = some false by decide +kernel), false, rfl, q⟩
  | tup h a => exact ⟨_, rfl, _, _, _, _, false, rfl, .ty _, ty, kit_ty (show kitB "tuple" "int" = some false by decide +kernel), false, rfl, q⟩
def spWant (K : PySem.W.Frag) (Pn : Addr) : Sp := fun vs H Q _ => ∃ (v : V) (d : PyData), vs = [v] ∧ Dp K H v d ∧ (∀ ds, d = .tuple ds → ∀ z, .str z ∈ ds → z.length ≤ 1000) ∧ GxR.TabG H Pn ∧ ∀ H', GxR.Tabbed Pn H H' → Q (.bl (wantD d)) H'
theorem scIsWant : FnScope ["thing", "book", "many"] ["thing"] (defScope sIsWant) := ⟨rfl, rfl, rfl, by decide +kernel, rfl, by decide +kernel, by decide +kernel⟩
theorem ok_isWant {f Pn : Addr} {fd : FuncData} (F : Fun K "is_want" "is_want" sIsWant f fd) (B : Bi mg) {tk : Tok} (mgL : mg "MOST_READERS_OF_ONE" = some (.int 4 tk)) (cN : Has P w K mg base 1 "is_name" ["thing"] (spName K Pn)) (cW : Has P w K mg base 1 "is_whole_number" ["thing"] (spWhole K)) :
    FnOk P w K mg base CX0 2 f fd ["thing"] (spWant K Pn) := by
  refine F.ok scIsWant (fun vs H Q E h => ?_) (fun cdv A outer s H vs Q E hr h => ?_)
  · obtain ⟨v, d, rfl, _⟩ := h
    rfl
  obtain ⟨v, d, rfl, dp, len, tg, q⟩ := h
  refine ⟨_, pss_cons (ps_if (PW.pt (pw_or (pt_not (pt_val (pe_callB call_isi (by rfl) B.isinstance (by decide +kernel) (pa_cons (pv 0) (pa_cons (pe_bltn (v := .ty "tuple") (by rfl) B.tuple (by decide +kernel) rfl) pa_nil)))))
      (pw_or1 (pt_cmpR op_ne (pe_callB call_len_seq (by rfl) B.len PySem.boot_len (pa_cons (pv 0) pa_nil)) pe_int (nomark _))))) (pss_one (ps_ret pe_bl)) pss_nil)
    (pss_cons (ps_asg (pv 0) (pg_tup rfl (pgs_cons (pg_name (i := 1) scIsWant.nd rfl (.inl rfl)) (pgs_cons (pg_name (i := 2) scIsWant.nd rfl (.inl rfl)) pgs_nil))))
    (pss_one (ps_ret (pe_and (pe_go cN hr (by decide) rfl (pa_cons (pv 1) pa_nil)) (pe_and (pe_go cW hr (by decide) rfl (pa_cons (pv 2) pa_nil)) (pe_one (pe_chain op_le op_le pe_int (pv 2) (pe_glob (v := .int 4) (by rfl) mgL ⟨_, rfl⟩)))))))), ?_⟩
  have fin : wantD d = false → Q (.bl false) H := fun e => by
    have y := q H (tabbed_refl tg)
    rw [e] at y
    exact y
  rcases kind_tup dp with ⟨ds, rfl⟩ | ⟨h1, h2⟩
  · cases dp with
    | @tup a vs _ sq da =>
    have lv := dpAll_len da
    refine ⟨_, rfl, _, _, _, _, true, rfl, .ty _, (show TyX K H (.ref a) (.type "tuple") from ty_dp (.tup sq da)), kit_ty (by decide +kernel), true, rfl, ?_⟩
    refine ⟨_, rfl, a, _, rfl, .inr sq, rfl, ?_⟩
    by_cases l2 : ds.length = 2
    · refine ⟨false, bl_same2 (by rw [lv, l2]; rfl), ?_⟩
      match ds, l2, da, q, fin, len with
      | [n, m], _, da, q, fin, len =>
      cases da with
      | cons d1 da =>
      cases da with
      | cons d2 da =>
      cases da
      rename_i v1 v2
      refine ⟨_, rfl, a, _, rfl, sq, rfl, _, _, rfl, _, _, rfl, rfl, ?_⟩
      refine ⟨_, rfl, v1, n, rfl, d1, (fun z e => len _ rfl z (by rw [e]; exact List.mem_cons_self)), tg, fun H2 tb => ⟨_, rfl, ?_⟩⟩
      have y := q H2 tb
      have ew : wantD (.tuple [n, m]) = (nameD n && fewD m) := rfl
      rw [ew] at y
      cases en : nameD n with
      | false =>
        rw [en] at y
        exact y
      | true =>
        rw [en, Bool.true_and] at y
        rw [if_pos rfl]
        have d2' : Dp K H2 v2 m := dp_sameN (SameN.tab tg tb) d2
        refine ⟨_, rfl, v2, m, rfl, d2', _, rfl, ?_⟩
        cases m with
        | int k =>
          cases d2
          rw [show wholeD (.int k) = true from rfl, if_pos rfl]
          have ef : fewD (.int k) = (decide (1 ≤ k) && decide (k ≤ 4)) := rfl
          rw [ef] at y
          refine ⟨_, rfl, _, _, rfl, rfl, _, rfl, ?_⟩
          by_cases k1 : 1 ≤ k
          · rw [decide_eq_true k1] at y ⊢
            rw [if_pos rfl]
            exact ⟨_, _, rfl, rfl, y⟩
          · rw [decide_eq_false k1] at y ⊢
            exact y
        | _ => exact y
    · refine ⟨true, bl_not2 (fun e => l2 (by injection e with e; omega)), ?_⟩
      exact fin (want_two l2)
  · refine ⟨_, rfl, _, _, _, _, false, rfl, .ty _, ty_dp dp, kit_ty h2, false, rfl, ?_⟩
    exact fin (want_no h1)

end
end Lt

set_option Elab.async false
set_option linter.all false
set_option maxRecDepth 100000
set_option maxHeartbeats 4000000
namespace Lt
open PySem PySem.Spec PyProof.Rows L2
theorem dpAll_two {K : PySem.W.Frag} {H : Hp} : ∀ {vs : List V} {ps : List (Str × Int)}, DpAll K H vs (ps.map fun p => .tuple [.str p.1, .int p.2]) →
    ∃ ts : List Addr, vs = ts.map V.ref ∧ ts.length = ps.length ∧ ∀ (i : Nat) (t : Addr) (p : Str × Int), ts[i]? = some t → ps[i]? = some p → SqT K H t [.str p.1, .int p.2]
  | [], [], _ => ⟨[], rfl, rfl, fun i t p h => by simp at h⟩
  | _ :: _, [], h => nomatch h
  | [], _ :: _, h => nomatch h
  | v :: vs, p :: ps, h => by
    cases h with
    | cons h1 h2 =>
    obtain ⟨ts, rfl, l, e⟩ := dpAll_two h2
    cases h1 with
    | @tup a xs _ sq d =>
    cases d with
    | cons d1 d =>
    cases d with
    | cons d2 d =>
    cases d
    cases d1
    cases d2
    refine ⟨a :: ts, rfl, by rw [List.length_cons, List.length_cons, l], fun i t q a1 a2 => ?_⟩
    cases i with
    | zero =>
      cases a1
      cases a2
      exact sq
    | succ j => exact e j t q a1 a2
theorem sum_bound : ∀ {l : List Int}, (∀ k ∈ l, 1 ≤ k ∧ k ≤ 4) → 0 ≤ l.sum ∧ l.sum ≤ 4 * l.length
  | [], _ => by simp
  | k :: r, h => by
    have a := h k List.mem_cons_self
    have b := sum_bound fun j hj => h j (List.mem_cons_of_mem _ hj)
    rw [List.sum_cons, List.length_cons]
    omega
section
variable {P : Program} {w : World} {K : PySem.W.Frag} {mg : Str → Option Value} {base : Heap} {X : Cx}
def spRise (K : PySem.W.Frag) : Sp := fun vs H Q _ => ∃ (a : Addr) (ts : List Addr) (ps : List (Str × Int)), vs = [.ref a] ∧ SqT K H a (ts.map V.ref) ∧ ts.length = ps.length ∧ (∀ (i : Nat) (t : Addr) (p : Str × Int), ts[i]? = some t → ps[i]? = some p → SqT K H t [.str p.1, .int p.2]) ∧ ps.length ≤ 60 ∧
  (∀ p ∈ ps, PyData.strOk p.1 = true) ∧ ∀ H', Same H H' → Q (.bl (decide ((ps.map (·.1)).Pairwise ltS))) H'
abbrev nRise : List Str := ["wants", "books", "book", "many"]
theorem scRise : FnScope nRise ["wants"] (defScope sRise) := ⟨rfl, rfl, rfl, by decide +kernel, rfl, by decide +kernel, by decide +kernel⟩
theorem ok_rise {f : Addr} {fd : FuncData} (F : Fun K "books_rise" "books_rise" sRise f fd) (B : Bi mg) : FnOk P w K mg base CX0 1 f fd ["wants"] (spRise K) := by
  refine F.ok scRise (fun vs H Q E h => ?_) (fun cdv A outer s H vs Q E hr h => ?_)
  · obtain ⟨a, ts, ps, rfl, _⟩ := h
    rfl
  obtain ⟨a, ts, ps, rfl, sq, len, each, few, ok, q⟩ := h
  refine ⟨_, pss_cons (ps_setLc (i := 1) (own := [("book", 2), ("many", 3)]) (g := gTup K 2 (gCons (gName 2) (gCons (gName 3) gNil))) (tt := tYes) (by rfl) scRise.nd rfl rfl (sw_true rfl rfl rfl (by decide +kernel)) (pi_tup (pv 0))
        (blkOk_by (own := [("book", 2), ("many", 3)]) (N := nRise) (sc := defScope sRise) (by decide +kernel))
        (fun _ _ _ _ _ => pg_tup rfl (pgs_cons (pg_name (i := 2) scRise.nd rfl (.inl rfl)) (pgs_cons (pg_name (i := 3) scRise.nd rfl (.inl rfl)) pgs_nil))) (fun _ _ _ _ _ => pts_nil) (fun _ _ _ _ _ => pv 2))
    (pss_one (ps_ret (pe_cmpR (op_eqD hr.units) (pv 1) (pe_sortSet rfl (by rfl) B.sorted (by rfl) B.set (pv 1)) (nomark _)))), ?_⟩
  refine ⟨_, rfl, a, rfl, ⟨_, sq⟩, fun D hD => lc_tup (K := K) (a := a) (xs := ts.map V.ref) (fun i H' => Same H H' ∧ H' D = some (.lst (((ps.take i).map (·.1)).map V.str)))
    ⟨same_new hD _, upd_same⟩ (fun i H' _ h' => same_tup h'.1 sq) ?_ ?_⟩
  · rintro i x H1 hx ⟨s1, hD1⟩
    obtain ⟨t, ht, rfl⟩ := refs_get hx
    have hi : i < ps.length := by
      rw [← len]
      exact (List.getElem?_eq_some_iff.mp ht).1
    have hp : ps[i]? = some ps[i] := List.getElem?_eq_getElem hi
    refine ⟨t, _, rfl, same_tup s1 (each i t _ ht hp), rfl, _, _, rfl, _, _, rfl, rfl, rfl, _, rfl, _, hD1, ?_, same_put s1 hD, ?_⟩
    · rw [List.length_map, List.length_map, List.length_take]
      exact small1000 (by omega)
    · rw [upd_same, List.take_add_one, hp, List.map_append, List.map_append]
      rfl
  · rintro H1 ⟨s1, hD1⟩
    rw [List.length_map, len, List.take_length] at hD1
    have lp : (ps.map (·.1)).length = ps.length := List.length_map ..
    refine ⟨_, rfl, _, rfl, D, ps.map (·.1), rfl, sql hD1, by omega, fun ys p so nd mem np => ?_⟩
    have s2 := same_new np (.lst (ys.map V.str))
    have okL : ∀ b ∈ ps.map (·.1), PyData.strOk b = true := fun b hb => by
      obtain ⟨z, hz, rfl⟩ := List.mem_map.mp hb
      exact ok z hz
    have f1 : Fine 1 (.list ((ps.map (·.1)).map PyData.str)) := fine_strs (ss := ps.map fun x : Str × Int => x.1) (by omega) okL 0
    have ly : ys.length ≤ (ps.map (·.1)).length := nodup_le nd fun z hz => (mem z).mp hz
    have f2 : Fine 1 (.list (ys.map PyData.str)) := fine_strs (ss := ys) (by omega) (fun b hb => okL b ((mem b).mp hb)) 0
    refine ⟨_, _, .lst (sql (s2 _ _ hD1)) (dpAll_strs _), .lst (sql upd_same) (dpAll_strs _), fine_shaped f1 (by decide), fine_shaped f2 (by decide), ?_⟩
    rw [eqvL_strs, rise_iff so nd mem]
    exact q _ (s1.trans s2)
def spAreWants (K : PySem.W.Frag) (Ps : List Addr) : Sp := fun vs H Q _ => ∃ (v : V) (d : PyData), vs = [v] ∧ Dp K H v d ∧ (∀ ds, d = .tuple ds → ∀ es, .tuple es ∈ ds → ∀ z, .str z ∈ es → z.length ≤ 1000) ∧ Tabs H Ps ∧
  ∀ H', SameN H H' → Tabs H' Ps → Q (.bl (wantsD d)) H'
theorem scAreWants : FnScope ["thing"] ["thing"] (defScope sAreWants) := ⟨rfl, rfl, rfl, by decide +kernel, rfl, by decide +kernel, by decide +kernel⟩
theorem ok_areWants {f c Pn Pw : Addr} {Ps : List Addr} {fd : FuncData} (F : Fun K "are_wants" "are_wants" sAreWants f fd) (hc : fd.code = .ref c) (TB : GxR.TabB base mg c Pw) (iN : Pn ∈ Ps) (iW : Pw ∈ Ps) (B : Bi mg) {tk tk2 : Tok} (mgB : mg "MOST_WANTED_BOOKS" = some (.int 5 tk)) (mgR : mg "MOST_READERS" = some (.int 7 tk2))
    (cW : Has P w K mg base 2 "is_want" ["thing"] (spWant K Pn)) (cR : Has P w K mg base 1 "books_rise" ["wants"] (spRise K)) : FnOk P w K mg base CX0 4 f fd ["thing"] (spAreWants K Ps) := by
  obtain ⟨oc, od, kV, doc, pm, an, cdv, ct, osl, rfl, lk, hcd⟩ := F.ex
  refine fn_of lk hcd scAreWants (fun vs H Q E h => ?_) fun A outer s H vs Q E hr h => ?_
  · obtain ⟨v, d, rfl, _⟩ := h
    rfl
  obtain ⟨v, d, rfl, dp, len, tg, q⟩ := h
  have hc' : cdv = .ref c := hc
  subst hc'
  refine ⟨_, PSs.nox (pss_cons (ps_if (pt_not (pt_val (pe_callB call_isi (by rfl) B.isinstance (by decide +kernel) (pa_cons (pv 0) (pa_cons (pe_bltn (v := .ty "tuple") (by rfl) B.tuple (by decide +kernel) rfl) pa_nil))))) (pss_one (ps_ret pe_bl)) pss_nil)
    (pss_cons (ps_if (pt_not (pt_chain op_le op_le pe_int (pe_callB call_len_seq (by rfl) B.len PySem.boot_len (pa_cons (pv 0) pa_nil)) (pe_glob (v := .int 5) (by rfl) mgB ⟨_, rfl⟩))) (pss_one (ps_ret pe_bl)) pss_nil)
    (pss_cons (ps_if (pt_not (pt_val (pe_allN (k := 2) (tel := tCall (spWant K Pn) [] E0 (tCons (tVar 1) tNil)) hr (by rfl) B.all TB rfl ⟨rfl, rfl, by decide +kernel, rfl, rfl, by decide⟩ (pv 0) (fun A C code s4 H4 I rA => pe_go cW rA (Nat.le_refl _) rfl (pa_cons (pv 1) pa_nil))))) (pss_one (ps_ret pe_bl)) pss_nil)
    (pss_one (ps_ret (pe_and (pe_go cR hr (by decide) rfl (pa_cons (pv 0) pa_nil)) (pe_one (pe_cmpR op_le (pe_sumG hr (by rfl) B.sum TB rfl ⟨rfl, rfl, by decide +kernel, rfl, rfl, rfl, by decide⟩ (pv 0)) (pe_glob (v := .int 7) (by rfl) mgR ⟨_, rfl⟩) (nomark _))))))))), ?_⟩
  have tp := tg Pw iW
  have fin : wantsD d = false → Q (.bl false) H := fun e => by
    have y := q H (SameN.refl H) tg
    rw [e] at y
    exact y
  rcases kind_tup dp with ⟨ds, rfl⟩ | ⟨h1, h2⟩
  · cases dp with
    | @tup a vs _ sq da =>
    have lv := dpAll_len da
    refine ⟨_, rfl, _, _, _, _, true, rfl, .ty _, (show TyX K H (.ref a) (.type "tuple") from ty_dp (.tup sq da)), kit_ty (by decide +kernel), true, rfl, ?_⟩
    refine ⟨_, rfl, a, _, rfl, .inr sq, _, _, rfl, rfl, _, rfl, ite2 (fun c1 => ?_) (fun c1 => ?_)⟩
    · have d1 : 1 ≤ ds.length := by
        have y := of_decide_eq_true c1
        omega
      refine ⟨_, _, rfl, rfl, _, rfl, ?_⟩
      by_cases d2 : ds.length ≤ 5
      · have e2 : decide ((vs.length : Int) ≤ 5) = true := decide_eq_true (by omega)
        rw [e2]
        refine ⟨_, rfl, a, vs, atD wantD ds, fun _ H' => SameN H H' ∧ (∀ b, H b = none → H' b = none) ∧ Tabs H' Ps, rfl, sq, tp, fun H2 tb => ?_, fun i H' w => ⟨w.1.tup sq, w.2.1⟩, ?_, ?_⟩
        · refine ⟨SameN.tab tp tb, fun b hb => ?_, tg.tab tb⟩
          by_cases e : b = Pw
          · obtain ⟨ps, h, _⟩ := tp
            rw [e, h] at hb
            cases hb
          · rw [tb.2 b e]
            exact hb
        · rintro J i H' v hv ⟨sn, nn, tg'⟩
          have tn' := tg' Pn iN
          obtain ⟨d, ed, dd⟩ := dpAll_get da hv
          refine ⟨_, rfl, v, d, rfl, dp_sameN sn dd, fun es e z hz => len ds rfl es (by rw [← e]; exact List.mem_of_getElem? ed) z hz, tn', fun H3 tb => ⟨?_, sn.trans (SameN.tab tn' tb), fun b hb => ?_, tg'.tab tb⟩⟩
          · rw [atD_some ed]
          · have y := nn b hb
            by_cases e : b = Pn
            · obtain ⟨ps, h, _⟩ := tn'
              rw [e, h] at y
              cases y
            · rw [tb.2 b e]
              exact y
        · rintro j H' ⟨sn, nn, tg'⟩
          have ea := all_at wantD ds
          rw [lv, ea]
          refine ⟨_, rfl, ?_⟩
          have y : ∀ H2, SameN H H2 → Tabs H2 Ps → Q (.bl (wantsD (.tuple ds))) H2 := fun H2 a b => q H2 a b
          rw [wantsD_tup, decide_eq_true d1, decide_eq_true d2, Bool.true_and, Bool.true_and] at y
          cases en : ds.all wantD with
          | false =>
            rw [en, Bool.false_and, Bool.false_and] at y
            exact y H' sn tg'
          | true =>
            rw [en, Bool.true_and] at y
            have aw := fun d hd => List.all_eq_true.mp en d hd
            have et := pairs_all aw
            have pw := pairs_want aw
            have lt : (pairs_ ds).length = ds.length := by
              have z := congrArg List.length et
              rw [List.length_map] at z
              exact z.symm
            obtain ⟨ts, ev, lts, each⟩ := dpAll_two (K := K) (H := H) (vs := vs) (ps := pairs_ ds) (by rw [← et]; exact da)
            subst ev
            have sq' := sn.tup sq
            have each' : ∀ (i : Nat) (t : Addr) (p : Str × Int), ts[i]? = some t → (pairs_ ds)[i]? = some p → SqT K H' t [.str p.1, .int p.2] := fun i t p h1 h2 => sn.tup (each i t p h1 h2)
            refine ⟨_, rfl, a, ts, pairs_ ds, rfl, sq', lts, each', by omega, fun p hp => name_ok (pw p hp).1, fun H3 s3 => ⟨_, rfl, ?_⟩⟩
            have tg3 := tg'.same s3
            cases er : decide (((pairs_ ds).map (·.1)).Pairwise ltS) with
            | false =>
              rw [er, Bool.false_and] at y
              exact y H3 (sn.trans (SameN.of s3)) tg3
            | true =>
              rw [er, Bool.true_and] at y
              rw [if_pos rfl]
              refine ⟨_, rfl, a, ts, (pairs_ ds).map fun p => (V.str p.1, p.2), rfl, same_tup s3 sq', by rw [List.length_map]; exact lts, fun i t p h1 h2 => ?_, ?_, tg3 Pw iW, fun H4 tb => ?_⟩
              · rw [List.getElem?_map] at h2
                cases e3 : (pairs_ ds)[i]? with
                | none =>
                  rw [e3] at h2
                  cases h2
                | some z =>
                  rw [e3] at h2
                  cases h2
                  exact same_tup s3 (each' i t z h1 e3)
              · have es : ((pairs_ ds).map fun p => (V.str p.1, p.2)).map (·.2) = (pairs_ ds).map (·.2) := by
                  rw [List.map_map]
                  rfl
                intro l el j hj
                rw [el, es] at hj ⊢
                have bnd : ∀ k ∈ (pairs_ ds).map (·.2), 1 ≤ k ∧ k ≤ 4 := fun k hk => by
                  obtain ⟨p, hp, rfl⟩ := List.mem_map.mp hk
                  exact (pw p hp).2
                have ll : ((pairs_ ds).map (·.2)).length ≤ 5 := by rw [List.length_map]; omega
                refine ⟨?_, ?_⟩
                · rw [List.getD_eq_getElem?_getD, List.getElem?_eq_getElem hj]
                  have z := bnd _ (List.getElem_mem hj)
                  show InLong ((some ((pairs_ ds).map (·.2))[j]).getD 0)
                  unfold InLong
                  show -(2 ^ 63) ≤ ((pairs_ ds).map (·.2))[j] ∧ ((pairs_ ds).map (·.2))[j] < 2 ^ 63
                  omega
                · have z := sum_bound (l := ((pairs_ ds).map (·.2)).take (j + 1)) fun k hk => bnd k (List.mem_of_mem_take hk)
                  have z2 : (((pairs_ ds).map (·.2)).take (j + 1)).length ≤ 5 := by
                    rw [List.length_take]
                    omega
                  unfold InLong
                  omega
              · have es : (((pairs_ ds).map fun p => (V.str p.1, p.2)).map (·.2)).sum = ((pairs_ ds).map (·.2)).sum := by
                  rw [List.map_map]
                  rfl
                rw [es]
                refine ⟨_, _, rfl, rfl, ?_⟩
                exact y H4 ((sn.trans (SameN.of s3)).trans (SameN.tab (tg3 Pw iW) tb)) (tg3.tab tb)
      · have e2 : decide ((vs.length : Int) ≤ 5) = false := decide_eq_false (by omega)
        rw [e2]
        refine fin ?_
        rw [wantsD_tup, decide_eq_false d2, Bool.and_false, Bool.false_and, Bool.false_and, Bool.false_and]
    · have d1 : ¬ 1 ≤ ds.length := fun y => c1 (decide_eq_true (by omega))
      refine ⟨_, rfl, fin ?_⟩
      rw [wantsD_tup, decide_eq_false d1, Bool.false_and, Bool.false_and, Bool.false_and, Bool.false_and]
  · refine ⟨_, rfl, _, _, _, _, false, rfl, .ty _, ty_dp dp, kit_ty h2, false, rfl, ?_⟩
    exact fin (wants_no h1)
end
end Lt

set_option Elab.async false
set_option linter.all false
set_option maxRecDepth 100000
set_option maxHeartbeats 4000000
namespace Lt
open PySem PySem.Spec PyProof.Rows L2
section
variable {P : Program} {w : World} {K : PySem.W.Frag} {mg : Str → Option Value} {base : Heap}
def spThree (Ps : List Addr) : Sp := fun vs H Q _ => vs = [] ∧ Tabs H Ps ∧ ∀ H', SameN H H' → Tabs H' Ps → Q (.bl true) H'
theorem scThree : FnScope ["my_pile", "my_readings"] [] (defScope sThree) := ⟨rfl, rfl, rfl, by decide +kernel, rfl, by decide +kernel, by decide +kernel⟩
theorem ok_three {f : Addr} {Ps : List Addr} {fd : FuncData} (F : Fun K "_law_three_right" "_law_three_right" sThree f fd) (kIp : HasK P w K mg base 3 "is_pile" ["thing"] false (spIsPileN K Ps)) (kBe : HasK P w K mg base 2 "behind" ["pile", "readings"] false spBehind) (kLi : HasK P w K mg base 2 "lifted" ["pile", "readings"] false spLifted)
    (kPa : HasK P w K mg base 2 "passings" ["pile", "readings"] false (spPassings K)) (kRb : HasK P w K mg base 2 "readings_by" ["pile", "numbers"] false (spReadBy K)) (kUn : HasK P w K mg base 2 "undone" ["pile", "numbers"] false (spUndone K)) (kPf : HasK P w K mg base 3 "piles_for" ["pile", "readings", "numbers"] false (spPilesFor K))
    (kFw : HasK P w K mg base 1 "fewest_to" ["pile", "other"] false (spFew K)) (kFr : HasK P w K mg base 1 "fewest_to" ["pile", "other"] true (spFew K)) (cFw : Has P w K mg base 1 "fewest_to" ["pile", "other"] (spFew K)) : FnOk P w K mg base CX0 4 f fd [] (spThree Ps) := by
  refine F.ok scThree (fun vs H Q E h => ?_) (fun cdv A outer s H vs Q E hr h => ?_)
  · obtain ⟨rfl, _⟩ := h
    rfl
  obtain ⟨rfl, tg, q⟩ := h
  refine ⟨_, pss_cons (ps_par (i := 0) (j := 1) (by rfl) scThree.nd rfl rfl (by decide) rfl rfl (pa_cons (pe_tupZ (pa_cons pe_str (pa_cons pe_str (pa_cons pe_str pa_nil)))) (pa_cons (pe_lst (pa_cons pe_str (pa_cons pe_str (pa_cons pe_str (pa_cons pe_str (pa_cons pe_str pa_nil)))))) pa_nil)) (by rfl))
    (pss_cons (ps_if (PW.pt (pw_or (pt_not (pt_val (pe_kw kIp hr (by decide) rfl (pk_cons (pv 0) pk_nil)))) (pw_or1 (pt_cmpR (op_neD hr.units) (pe_kw kBe hr (by decide) rfl (pk_cons (pv 0) (pk_cons (pv 1) pk_nil))) (pe_tupZ (pa_cons pe_str (pa_cons pe_str (pa_cons pe_str pa_nil)))) (nomark _))))) (pss_one (ps_ret pe_bl)) pss_nil)
    (pss_cons (ps_if (pt_cmpR (op_neD hr.units) (pe_kw kLi hr (by decide) rfl (pk_cons (pv 0) (pk_cons (pv 1) pk_nil))) (pe_lst (pa_cons pe_int (pa_cons pe_int (pa_cons pe_int (pa_cons pe_int (pa_cons pe_int pa_nil)))))) (nomark _)) (pss_one (ps_ret pe_bl)) pss_nil)
    (pss_cons (ps_if (pt_cmpR (op_neD hr.units) (pe_kw kPa hr (by decide) rfl (pk_cons (pv 0) (pk_cons (pv 1) pk_nil))) (pe_lst (pa_cons (pe_tup (pa_cons pe_str (pa_cons pe_str (pa_cons pe_int pa_nil)))) (pa_cons (pe_tup (pa_cons pe_str (pa_cons pe_str (pa_cons pe_int pa_nil)))) (pa_cons (pe_tup (pa_cons pe_str (pa_cons pe_str (pa_cons pe_int pa_nil)))) pa_nil)))) (nomark _)) (pss_one (ps_ret pe_bl)) pss_nil)
    (pss_cons (ps_if (pt_cmpR (op_neD hr.units) (pe_kw kRb hr (by decide) rfl (pk_cons (pv 0) (pk_cons (pe_lst (pa_cons pe_int (pa_cons pe_int (pa_cons pe_int (pa_cons pe_int (pa_cons pe_int pa_nil)))))) pk_nil))) (pv 1) (nomark _)) (pss_one (ps_ret pe_bl)) pss_nil)
    (pss_cons (ps_if (pt_cmpR (op_neD hr.units) (pe_kw kUn hr (by decide) rfl (pk_cons (pe_tupZ (pa_cons pe_str (pa_cons pe_str (pa_cons pe_str pa_nil)))) (pk_cons (pe_lst (pa_cons pe_int (pa_cons pe_int (pa_cons pe_int (pa_cons pe_int (pa_cons pe_int pa_nil)))))) pk_nil))) (pe_tup (pa_cons (pv 0) (pa_cons (pv 1) pa_nil))) (nomark _)) (pss_one (ps_ret pe_bl)) pss_nil)
    (pss_cons (ps_if (pt_cmpR (op_neD hr.units) (pe_kw kPf hr (by decide) rfl (pk_cons (pv 0) (pk_cons (pe_lst (pa_cons pe_str pa_nil)) (pk_cons (pe_lst (pa_cons pe_int pa_nil)) pk_nil)))) (pe_lst (pa_cons (pe_tup (pa_cons pe_str (pa_cons pe_str (pa_cons pe_str pa_nil)))) (pa_cons (pe_tup (pa_cons pe_str (pa_cons pe_str (pa_cons pe_str pa_nil)))) pa_nil))) (nomark _)) (pss_one (ps_ret pe_bl)) pss_nil)
    (pss_cons (ps_if (PW.pt (pw_or (pt_cmpR (op_neD hr.units) (pe_kw kFw hr (by decide) rfl (pk_cons (pv 0) (pk_cons (pe_tupZ (pa_cons pe_str (pa_cons pe_str (pa_cons pe_str pa_nil)))) pk_nil))) (pe_lst (pa_cons pe_str pa_nil)) (nomark _)) (pw_or1 (pt_cmpR (op_neD hr.units) (pe_go cFw hr (by decide) rfl (pa_cons (pv 0) (pa_cons (pe_tupZ (pa_cons pe_str (pa_cons pe_str (pa_cons pe_str pa_nil)))) pa_nil))) (pe_lst (pa_cons pe_str (pa_cons pe_str pa_nil))) (nomark _))))) (pss_one (ps_ret pe_bl)) pss_nil)
    (pss_one (ps_ret (pe_cmpR (op_eqD hr.units) (pe_kw kFr hr (by decide) rfl (pk_cons (pv 0) (pk_cons (pv 0) pk_nil))) (pe_lst pa_nil) (nomark _))))))))))), ?_⟩
  have okS : ∀ b ∈ (["a", "b", "c"] : List Str), PyData.strOk b = true := by decide +kernel
  refine ⟨(by show 3 ≤ sizeLine; decide), fun p u hp hu => ⟨(by show 5 ≤ sizeLine; decide), fun r hr0 => ⟨_, _, rfl, ?_⟩⟩⟩
  have s1 := (same_new hp u).trans (same_new hr0 (.lst [.str "c", .str "a", .str "a", .str "b", .str "c"]))
  have hP1 : TpO (upd (upd H p u) r (.lst [.str "c", .str "a", .str "a", .str "b", .str "c"])) p ((["a", "b", "c"] : List Str).map V.str) := (TpO.new (H := H) hu).same (same_new hr0 _)
  have hR1 : upd (upd H p u) r (.lst [.str "c", .str "a", .str "a", .str "b", .str "c"]) r = some (.lst ((["c", "a", "a", "b", "c"] : List Str).map V.str)) := upd_same
  have tg1 := tg.same s1
  have n1 := SameN.of s1
  generalize upd (upd H p u) r (.lst [.str "c", .str "a", .str "a", .str "b", .str "c"]) = H1 at hP1 hR1 tg1 n1 ⊢
  -- is_pile
  refine ⟨_, rfl, rfl, .ref p, .tuple ((["a", "b", "c"] : List Str).map PyData.str), rfl, .tup hP1.sqt (dpAll_strs _), ?_, tg1, fun H2 n2 tg2 => ?_⟩
  · rintro ds e z hz
    cases e
    obtain ⟨y, hy, e⟩ := List.mem_map.mp hz
    cases e
    exact (by decide +kernel : ∀ b ∈ (["a", "b", "c"] : List Str), b.length ≤ 1000) _ hy
  rw [show pileD (.tuple ((["a", "b", "c"] : List Str).map PyData.str)) = true by decide +kernel]
  refine ⟨true, rfl, ?_⟩
  have n12 := n1.trans n2
  have hP2 := hP1.sameN n2
  have hR2 := n2.lstH hR1
  clear hP1 hR1 tg1
  -- behind
  refine ⟨_, rfl, _, rfl, rfl, p, r, ["a", "b", "c"], ["c", "a", "a", "b", "c"], rfl, hP2, hR2, by decide, by decide +kernel, fun o H3 s3 ho => ⟨(by show 3 ≤ sizeLine; decide), fun l ul hl hul => ?_⟩⟩
  rw [show behindM ["a", "b", "c"] ["c", "a", "a", "b", "c"] = (["c", "b", "a"] : List Str) by decide +kernel] at ho
  have s4 := same_new hl ul
  have f3 : Fine 1 (.tuple ((["c", "b", "a"] : List Str).map PyData.str)) := fine_strs (ss := ["c", "b", "a"]) (by decide) (by decide +kernel) 0
  refine ⟨_, _, .tup (ho.same s4).sqt (dpAll_strs _), .tup (TpO.new (H := H3) hul).sqt (dpAll_strs ["c", "b", "a"]), fine_shaped f3 (by decide), fine_shaped f3 (by decide), false, by rw [fine_eqv f3]; rfl, ?_⟩
  have s24 := s3.trans s4
  have n4 := n12.trans (SameN.of s24)
  have hP4 := hP2.same s24
  have hR4 := s24 _ _ hR2
  have tg4 := tg2.same s24
  generalize upd H3 l ul = H4 at n4 hP4 hR4 tg4 ⊢
  clear hP2 hR2 tg2 s24 s4 s3 ho
  -- lifted
  have f5 : Fine 1 (.list (([2, 1, 0, 2, 2] : List Nat).map fun k => PyData.int (k : Nat))) := fineN (ns := [2, 1, 0, 2, 2]) (by decide) 0
  refine ⟨_, rfl, _, rfl, rfl, p, r, ["a", "b", "c"], ["c", "a", "a", "b", "c"], rfl, hP4, hR4, by decide, by decide, by decide +kernel, fun l5 H5 s5 nl5 h5 => ⟨(by show 5 ≤ sizeLine; decide), fun l6 hl6 => ?_⟩⟩
  rw [show liftedM ["a", "b", "c"] ["c", "a", "a", "b", "c"] = [2, 1, 0, 2, 2] by decide +kernel] at h5
  have s6 := same_new hl6 (.lst [.int 2, .int 1, .int 0, .int 2, .int 2])
  refine ⟨_, _, .lst (sql (s6 _ _ h5)) (dpAll_nats _), .lst (sql upd_same) (dpAll_nats [2, 1, 0, 2, 2]), fine_shaped f5 (by decide), fine_shaped f5 (by decide), false, by rw [fine_eqv f5]; rfl, ?_⟩
  have s46 := s5.trans s6
  have n6 := n4.trans (SameN.of s46)
  have hP6 := hP4.same s46
  have hR6 := s46 _ _ hR4
  have tg6 := tg4.same s46
  generalize upd H5 l6 (.lst [.int 2, .int 1, .int 0, .int 2, .int 2]) = H6 at n6 hP6 hR6 tg6 ⊢
  clear hP4 hR4 tg4 s46 s6 s5 h5
  -- passings
  refine ⟨_, rfl, _, rfl, rfl, p, r, ["a", "b", "c"], ["c", "a", "a", "b", "c"], rfl, hP6, hR6, by decide, by decide, by decide +kernel, fun l7 H7 ys xs7 s7 nl7 py so h7 d7 => ?_⟩
  obtain rfl : ys = (["a", "b", "c"] : List Str) := sorted_one so (by decide +kernel) py
  refine ⟨(by show 3 ≤ sizeLine; decide), fun a1 ha1 => ⟨(by show 3 ≤ sizeLine; decide), fun a2 ha2 => ⟨(by show 3 ≤ sizeLine; decide), fun a3 ha3 => ⟨(by show 3 ≤ sizeLine; decide), fun l8 hl8 => ?_⟩⟩⟩⟩
  have c1 : cnt (rowsM ["a", "b", "c"] ["c", "a", "a", "b", "c"]) ("a", "b") = 1 := by decide +kernel
  have c2 : cnt (rowsM ["a", "b", "c"] ["c", "a", "a", "b", "c"]) ("a", "c") = 3 := by decide +kernel
  have c3 : cnt (rowsM ["a", "b", "c"] ["c", "a", "a", "b", "c"]) ("b", "c") = 3 := by decide +kernel
  have e7 : (prs ["a", "b", "c"] 3).map (tri (rowsM ["a", "b", "c"] ["c", "a", "a", "b", "c"])) = [.tuple [.str "a", .str "b", .int (1 : Nat)], .tuple [.str "a", .str "c", .int (3 : Nat)], .tuple [.str "b", .str "c", .int (3 : Nat)]] := by
    show [tri _ ("a", "b"), tri _ ("a", "c"), tri _ ("b", "c")] = _
    unfold tri
    rw [c1, c2, c3]
  have f7 := fine_tri (ys := ["a", "b", "c"]) (rows := rowsM ["a", "b", "c"] ["c", "a", "a", "b", "c"]) (by decide) okS 0
  have f7' : Fine 2 (.list ((prs ["a", "b", "c"] 3).map (tri (rowsM ["a", "b", "c"] ["c", "a", "a", "b", "c"])))) := f7
  have sA := same_new ha1 (.tup [.str "a", .str "b", .int 1])
  have sB := same_new ha2 (.tup [.str "a", .str "c", .int 3])
  have sC := same_new ha3 (.tup [.str "b", .str "c", .int 3])
  have sD := same_new hl8 (.lst [.ref a1, .ref a2, .ref a3])
  have sAD := sA.trans (sB.trans (sC.trans sD))
  have d7' : DpAll K _ xs7 ((prs ["a", "b", "c"] 3).map (tri (rowsM ["a", "b", "c"] ["c", "a", "a", "b", "c"]))) := dpAll_same sAD d7
  have h7' := sAD _ _ h7
  have dW : DpAll K (upd (upd (upd (upd H7 a1 (.tup [.str "a", .str "b", .int 1])) a2 (.tup [.str "a", .str "c", .int 3])) a3 (.tup [.str "b", .str "c", .int 3])) l8 (.lst [.ref a1, .ref a2, .ref a3])) [.ref a1, .ref a2, .ref a3] ((prs ["a", "b", "c"] 3).map (tri (rowsM ["a", "b", "c"] ["c", "a", "a", "b", "c"]))) := by
    rw [e7]
    exact .cons (.tup (sqt ((sB.trans (sC.trans sD)) _ _ upd_same)) (.cons (.str _) (.cons (.str _) (.cons (.int _) .nil)))) (.cons (.tup (sqt ((sC.trans sD) _ _ upd_same)) (.cons (.str _) (.cons (.str _) (.cons (.int _) .nil)))) (.cons (.tup (sqt (sD _ _ upd_same)) (.cons (.str _) (.cons (.str _) (.cons (.int _) .nil)))) .nil))
  refine ⟨_, _, .lst (sql h7') d7', .lst (sql upd_same) dW, fine_shaped f7' (by decide), fine_shaped f7' (by decide), false, by rw [fine_eqv f7']; rfl, ?_⟩
  have s68 := s7.trans sAD
  have n8 := n6.trans (SameN.of s68)
  have hP8 := hP6.same s68
  have hR8 := s68 _ _ hR6
  have tg8 := tg6.same s68
  generalize upd (upd (upd (upd H7 a1 (.tup [.str "a", .str "b", .int 1])) a2 (.tup [.str "a", .str "c", .int 3])) a3 (.tup [.str "b", .str "c", .int 3])) l8 (.lst [.ref a1, .ref a2, .ref a3]) = H8 at n8 hP8 hR8 tg8 ⊢
  clear hP6 hR6 tg6 dW d7' h7' s68 sAD sA sB sC sD d7 h7 s7
  -- readings_by
  have fR : Fine 1 (.list ((["c", "a", "a", "b", "c"] : List Str).map PyData.str)) := fine_strs (ss := ["c", "a", "a", "b", "c"]) (by decide) (by decide +kernel) 0
  refine ⟨_, rfl, (by show 5 ≤ sizeLine; decide), fun m1 hm1 => ⟨rfl, p, m1, ["a", "b", "c"], [2, 1, 0, 2, 2], rfl, hP8.same (same_new hm1 _), sql upd_same, by decide, by decide, by decide, fun l9 H9 s9 nl9 h9 => ?_⟩⟩
  rw [show readM ["a", "b", "c"] [2, 1, 0, 2, 2] = (["c", "a", "a", "b", "c"] : List Str) by decide +kernel] at h9
  have s89 := (same_new hm1 (.lst [.int 2, .int 1, .int 0, .int 2, .int 2])).trans s9
  have hR9 := s89 _ _ hR8
  refine ⟨_, rfl, _, _, .lst (sql h9) (dpAll_strs _), .lst (sql hR9) (dpAll_strs _), fine_shaped fR (by decide), fine_shaped fR (by decide), false, by rw [fine_eqv fR]; rfl, ?_⟩
  have n9 := n8.trans (SameN.of s89)
  have hP9 := hP8.same s89
  have tg9 := tg8.same s89
  clear hP8 hR8 tg8 s89 s9
  -- undone
  refine ⟨(by show 3 ≤ sizeLine; decide), fun v1 u1 hv1 hu1 => ⟨(by show 5 ≤ sizeLine; decide), fun m2 hm2 => ⟨rfl, v1, m2, ["c", "b", "a"], [2, 1, 0, 2, 2], rfl, (TpO.new (H := H9) hu1).same (same_new hm2 _), sql upd_same, by decide, by decide, by decide, fun t10 o10 rd10 H10 s10 ht10 ho10 hrd10 => ?_⟩⟩⟩
  rw [show unR ["c", "b", "a"] ([2, 1, 0, 2, 2] : List Nat).reverse = (["a", "b", "c"] : List Str) by decide +kernel] at ho10
  rw [show (hdR ["c", "b", "a"] ([2, 1, 0, 2, 2] : List Nat).reverse).reverse = (["c", "a", "a", "b", "c"] : List Str) by decide +kernel] at hrd10
  have s910 := (same_new hv1 u1).trans ((same_new hm2 (.lst [.int 2, .int 1, .int 0, .int 2, .int 2])).trans s10)
  have hP10 := hP9.same s910
  have hR10 := s910 _ _ hR9
  refine ⟨_, rfl, _, rfl, (by show 2 ≤ sizeLine; decide), fun t11 ht11 => ?_⟩
  have s11 := same_new ht11 (.tup [.ref p, .ref r])
  have fPR : Fine 2 (.tuple [.tuple ((["a", "b", "c"] : List Str).map PyData.str), .list ((["c", "a", "a", "b", "c"] : List Str).map PyData.str)]) := ⟨by show 2 ≤ 1000; decide, fun d hd => by
    rcases List.mem_cons.mp hd with e | hd
    · rw [e]
      exact fine_strs (ss := ["a", "b", "c"]) (by decide) okS 0
    · rw [List.mem_singleton.mp hd]
      exact fR⟩
  refine ⟨_, _, .tup (sqt (s11 _ _ ht10)) (.cons (.tup (ho10.same s11).sqt (dpAll_strs _)) (.cons (.lst (sql (s11 _ _ hrd10)) (dpAll_strs _)) .nil)), .tup (sqt upd_same) (.cons (.tup (hP10.same s11).sqt (dpAll_strs _)) (.cons (.lst (sql (s11 _ _ hR10)) (dpAll_strs _)) .nil)), fine_shaped fPR (by decide), fine_shaped fPR (by decide), false, by rw [fine_eqv fPR]; rfl, ?_⟩
  have s911 := s910.trans s11
  have n11 := n9.trans (SameN.of s911)
  have hP11 := hP10.same s11
  have tg11 := tg9.same s911
  generalize upd H10 t11 (.tup [.ref p, .ref r]) = H11 at n11 hP11 tg11 ⊢
  clear hP9 hP10 hR9 hR10 tg9 s911 s910 s10 s11 ht10 ho10 hrd10
  -- piles_for
  refine ⟨_, rfl, (by show 1 ≤ sizeLine; decide), fun b1 hb1 => ⟨(by show 1 ≤ sizeLine; decide), fun b2 hb2 => ?_⟩⟩
  have s12 := (same_new hb1 (.lst [.str "a"])).trans (same_new hb2 (.lst [.int 0]))
  refine ⟨rfl, p, b1, b2, ["a", "b", "c"], ["a"], [0], rfl, hP11.same s12, same_new hb2 (.lst [.int 0]) _ _ upd_same, upd_same, by decide +kernel, by decide, by decide, by decide, by decide +kernel, by decide, by decide, fun l13 H13 us cs s13 nl13 h13 tl13 pm13 pw13 => ?_⟩
  have pmC : ((starts ["a", "b", "c"] ["a"] [0]).filter (fits ["a"] [0])).Perm [["a", "b", "c"], ["a", "c", "b"]] := by decide +kernel
  have pwC : ([["a", "b", "c"], ["a", "c", "b"]] : List (List Str)).Pairwise fun x y => lexK (tk y) (tk x) = false := by decide +kernel
  have eC : cs = ([["a", "b", "c"], ["a", "c", "b"]] : List (List Str)) := List.Perm.eq_of_pairwise (le := fun x y => lexK (tk y) (tk x) = false) (fun a b _ _ h1 h2 => tk_inj (lexK_tri h2 h1)) pw13 pwC (pm13.trans pmC)
  subst eC
  have d13 := tl13.dp (K := K)
  refine ⟨(by show 3 ≤ sizeLine; decide), fun a4 ha4 => ⟨(by show 3 ≤ sizeLine; decide), fun a5 ha5 => ⟨(by show 2 ≤ sizeLine; decide), fun l14 hl14 => ?_⟩⟩⟩
  have sE := same_new ha4 (.tup [.str "a", .str "b", .str "c"])
  have sF := same_new ha5 (.tup [.str "a", .str "c", .str "b"])
  have sG := same_new hl14 (.lst [.ref a4, .ref a5])
  have sEG := sE.trans (sF.trans sG)
  have fC : Fine 2 (.list (([["a", "b", "c"], ["a", "c", "b"]] : List (List Str)).map fun r => .tuple (r.map PyData.str))) := ⟨by show 2 ≤ 1000; decide, fun d hd => by
    rcases List.mem_cons.mp hd with e | hd
    · rw [e]
      exact fine_strs (ss := ["a", "b", "c"]) (by decide) okS 0
    · rw [List.mem_singleton.mp hd]
      exact fine_strs (ss := ["a", "c", "b"]) (by decide) (by decide +kernel) 0⟩
  have dC : DpAll K (upd (upd (upd H13 a4 (.tup [.str "a", .str "b", .str "c"])) a5 (.tup [.str "a", .str "c", .str "b"])) l14 (.lst [.ref a4, .ref a5])) [.ref a4, .ref a5] (([["a", "b", "c"], ["a", "c", "b"]] : List (List Str)).map fun r => .tuple (r.map PyData.str)) :=
    .cons (.tup (sqt ((sF.trans sG) _ _ upd_same)) (dpAll_strs ["a", "b", "c"])) (.cons (.tup (sqt (sG _ _ upd_same)) (dpAll_strs ["a", "c", "b"])) .nil)
  refine ⟨_, _, .lst (sql (sEG _ _ h13)) (dpAll_same sEG d13), .lst (sql upd_same) dC, fine_shaped fC (by decide), fine_shaped fC (by decide), false, by rw [fine_eqv fC]; rfl, ?_⟩
  have s1114 := s12.trans (s13.trans sEG)
  have n14 := n11.trans (SameN.of s1114)
  have hP14 := hP11.same s1114
  have tg14 := tg11.same s1114
  generalize upd (upd (upd H13 a4 (.tup [.str "a", .str "b", .str "c"])) a5 (.tup [.str "a", .str "c", .str "b"])) l14 (.lst [.ref a4, .ref a5]) = H14 at n14 hP14 tg14 ⊢
  clear hP11 tg11 s1114 sEG sE sF sG dC d13 s13 s12 h13 tl13
  -- fewest_to
  refine ⟨_, rfl, (by show 3 ≤ sizeLine; decide), fun v2 u2 hv2 hu2 => ⟨rfl, p, v2, ["a", "b", "c"], ["c", "a", "b"], rfl, (hP14.same (same_new hv2 u2)).sqt, (TpO.new (H := H14) hu2).sqt, rfl, fun l15 H15 s15 nl15 h15 => ⟨(by show 1 ≤ sizeLine; decide), fun l16 hl16 => ?_⟩⟩⟩
  rw [show few ["a", "b", "c"] ["c", "a", "b"] = (["c"] : List Str) by decide +kernel] at h15
  have s16 := same_new hl16 (.lst [.str "c"])
  have fc1 : Fine 1 (.list ((["c"] : List Str).map PyData.str)) := fine_strs (ss := ["c"]) (by decide) (by decide +kernel) 0
  refine ⟨_, _, .lst (sql (s16 _ _ h15)) (dpAll_strs _), .lst (sql upd_same) (dpAll_strs ["c"]), fine_shaped fc1 (by decide), fine_shaped fc1 (by decide), false, by rw [fine_eqv fc1]; rfl, ?_⟩
  have s1416 := (same_new hv2 u2).trans (s15.trans s16)
  have n16 := n14.trans (SameN.of s1416)
  have hP16 := hP14.same s1416
  have tg16 := tg14.same s1416
  generalize upd H15 l16 (.lst [.str "c"]) = H16 at n16 hP16 tg16 ⊢
  clear hP14 tg14 s1416 s16 s15 h15
  refine ⟨_, rfl, (by show 3 ≤ sizeLine; decide), fun v3 u3 hv3 hu3 => ⟨p, v3, ["a", "b", "c"], ["c", "b", "a"], rfl, (hP16.same (same_new hv3 u3)).sqt, (TpO.new (H := H16) hu3).sqt, rfl, fun l17 H17 s17 nl17 h17 => ⟨(by show 2 ≤ sizeLine; decide), fun l18 hl18 => ?_⟩⟩⟩
  rw [show few ["a", "b", "c"] ["c", "b", "a"] = (["b", "c"] : List Str) by decide +kernel] at h17
  have s18 := same_new hl18 (.lst [.str "b", .str "c"])
  have fc2 : Fine 1 (.list ((["b", "c"] : List Str).map PyData.str)) := fine_strs (ss := ["b", "c"]) (by decide) (by decide +kernel) 0
  refine ⟨_, _, .lst (sql (s18 _ _ h17)) (dpAll_strs _), .lst (sql upd_same) (dpAll_strs ["b", "c"]), fine_shaped fc2 (by decide), fine_shaped fc2 (by decide), false, by rw [fine_eqv fc2]; rfl, ?_⟩
  have s1618 := (same_new hv3 u3).trans (s17.trans s18)
  have n18 := n16.trans (SameN.of s1618)
  have hP18 := hP16.same s1618
  have tg18 := tg16.same s1618
  generalize upd H17 l18 (.lst [.str "b", .str "c"]) = H18 at n18 hP18 tg18 ⊢
  refine ⟨_, rfl, _, rfl, rfl, p, p, ["a", "b", "c"], ["a", "b", "c"], rfl, hP18.sqt, hP18.sqt, rfl, fun l19 H19 s19 nl19 h19 => ⟨Nat.zero_le _, fun l20 hl20 => ?_⟩⟩
  rw [show few ["a", "b", "c"] ["a", "b", "c"] = ([] : List Str) by decide +kernel] at h19
  have s20 := same_new hl20 (.lst [])
  refine ⟨_, _, .lst (sql (s20 _ _ h19)) .nil, .lst (sql upd_same) .nil, rfl, rfl, ?_⟩
  exact q _ (n18.trans (SameN.of (s19.trans s20))) (tg18.same (s19.trans s20))
end
end Lt

set_option Elab.async false
set_option linter.all false
set_option maxRecDepth 100000
set_option maxHeartbeats 4000000
namespace Lt
open PySem PySem.Spec PyProof.Rows L2
theorem WL.append {H : Hp} {ts us : List Addr} {ws vs : List (Str × Nat)} (h : WL H ts ws) (h2 : WL H us vs) : WL H (ts ++ us) (ws ++ vs) := by
  refine ⟨by rw [List.length_append, List.length_append, h.1, h2.1], fun i t q a b => ?_⟩
  rcases Nat.lt_or_ge i ts.length with hi | hi
  · rw [List.getElem?_append_left hi] at a
    rw [List.getElem?_append_left (by rw [← h.1]; exact hi)] at b
    exact h.2 i t q a b
  · rw [List.getElem?_append_right hi] at a
    rw [List.getElem?_append_right (by rw [← h.1]; exact hi), ← h.1] at b
    exact h2.2 _ t q a b
theorem WL.one {H : Hp} {t : Addr} {p : Str × Nat} (h : H t = some (.tup [.str p.1, natV p.2])) : WL H [t] [p] := by
  refine ⟨rfl, fun i u q a b => ?_⟩
  cases i with
  | zero =>
    cases a
    cases b
    exact h
  | succ k => cases a
theorem bl_same {p : Prop} [Decidable p] (h : p) : V.bl (!decide p) = V.bl false := by
  rw [decide_eq_true h]
  rfl
/-! what is written of many readers -/
def wR (m : Nat) : List (Str × Nat) := [("a", m), ("b", 1), ("c", 2)]
def rR (m : Nat) : List Str := List.replicate m ("a" : Str) ++ (["c", "b", "c"] : List Str)
theorem four {p : Nat → Prop} (h1 : p 1) (h2 : p 2) (h3 : p 3) (h4 : p 4) {m : Nat} (a : 1 ≤ m) (b : m ≤ 4) : p m := by
  have z : m = 1 ∨ m = 2 ∨ m = 3 ∨ m = 4 := by omega
  rcases z with rfl | rfl | rfl | rfl
  · exact h1
  · exact h2
  · exact h3
  · exact h4
theorem wR_ok {m : Nat} (a : 1 ≤ m) (b : m ≤ 4) : WOk (wR m) := by
  refine ⟨?_, ?_, (by show 3 ≤ 7; decide), ?_, ?_⟩
  · show (["a", "b", "c"] : List Str).Pairwise ltS
    decide +kernel
  · intro p hp
    rcases List.mem_cons.mp hp with e | hp
    · rw [e]
      exact a
    rcases List.mem_cons.mp hp with e | hp
    · rw [e]
      decide
    rw [List.mem_singleton.mp hp]
    decide
  · show m + (1 + (2 + 0)) ≤ 60
    omega
  · show ∀ b ∈ (["a", "b", "c"] : List Str), PyData.strOk b = true
    decide +kernel
theorem rR_each {m : Nat} (a : 1 ≤ m) (b : m ≤ 4) : eachV (wnames (wR m)) (rR m) = 6 := four (p := fun m => eachV (wnames (wR m)) (rR m) = 6) (by decide +kernel) (by decide +kernel) (by decide +kernel) (by decide +kernel) a b
theorem wR_least {m : Nat} (a : 1 ≤ m) (b : m ≤ 4) : eachV (wnames (wR m)) (flat (wR m)) = 6 := four (p := fun m => eachV (wnames (wR m)) (flat (wR m)) = 6) (by decide +kernel) (by decide +kernel) (by decide +kernel) (by decide +kernel) a b
theorem wR_most {m : Nat} (a : 1 ≤ m) (b : m ≤ 4) : eachV (wnames (wR m)) (mostM (wR m)) = 4 + 2 * min m 2 := four (p := fun m => eachV (wnames (wR m)) (mostM (wR m)) = 4 + 2 * min m 2) (by decide +kernel) (by decide +kernel) (by decide +kernel) (by decide +kernel) a b
theorem rR_cnt {m : Nat} (a : 1 ≤ m) (b : m ≤ 4) : ∀ q ∈ ([("a", "b"), ("a", "c"), ("b", "c")] : List (Str × Str)), cnt (rowsM (behindM ["a", "b", "c"] (rR m)) (rR m)) q = 2 :=
  four (p := fun m => ∀ q ∈ ([("a", "b"), ("a", "c"), ("b", "c")] : List (Str × Str)), cnt (rowsM (behindM ["a", "b", "c"] (rR m)) (rR m)) q = 2) (by decide +kernel) (by decide +kernel) (by decide +kernel) (by decide +kernel) a b
theorem mR_cnt {m : Nat} (a : 1 ≤ m) (b : m ≤ 4) : cnt (rowsM (behindM ["a", "b", "c"] (mostM (wR m))) (mostM (wR m))) ("a", "b") = 2 ∧ cnt (rowsM (behindM ["a", "b", "c"] (mostM (wR m))) (mostM (wR m))) ("a", "c") = 2 * min m 2 ∧ cnt (rowsM (behindM ["a", "b", "c"] (mostM (wR m))) (mostM (wR m))) ("b", "c") = 2 :=
  four (p := fun m => cnt (rowsM (behindM ["a", "b", "c"] (mostM (wR m))) (mostM (wR m))) ("a", "b") = 2 ∧ cnt (rowsM (behindM ["a", "b", "c"] (mostM (wR m))) (mostM (wR m))) ("a", "c") = 2 * min m 2 ∧ cnt (rowsM (behindM ["a", "b", "c"] (mostM (wR m))) (mostM (wR m))) ("b", "c") = 2) (by decide +kernel) (by decide +kernel) (by decide +kernel) (by decide +kernel) a b
theorem rR_far {m : Nat} (a : 1 ≤ m) (b : m ≤ 4) : (liftedM ["a", "b", "c"] (rR m)).sum = 5 ∧ behindM ["a", "b", "c"] (rR m) = (["c", "b", "a"] : List Str) ∧ (liftedM ["c", "b", "a"] (rR m)).sum = 6 :=
  four (p := fun m => (liftedM ["a", "b", "c"] (rR m)).sum = 5 ∧ behindM ["a", "b", "c"] (rR m) = (["c", "b", "a"] : List Str) ∧ (liftedM ["c", "b", "a"] (rR m)).sum = 6) (by decide +kernel) (by decide +kernel) (by decide +kernel) (by decide +kernel) a b
theorem wR_evens {m : Nat} (a : 1 ≤ m) (b : m ≤ 4) : evens 6 (4 + 2 * min m 2 + 1) = [6, 8].take (min m 2) := four (p := fun m => evens 6 (4 + 2 * min m 2 + 1) = [6, 8].take (min m 2)) (by decide +kernel) (by decide +kernel) (by decide +kernel) (by decide +kernel) a b
theorem rR_in {m : Nat} (a : 1 ≤ m) (b : m ≤ 4) : ∀ b ∈ rR m, b ∈ (["a", "b", "c"] : List Str) := four (p := fun m => ∀ b ∈ rR m, b ∈ (["a", "b", "c"] : List Str)) (by decide +kernel) (by decide +kernel) (by decide +kernel) (by decide +kernel) a b
theorem rR_len {m : Nat} : (rR m).length = m + 3 := by
  unfold rR
  rw [List.length_append, List.length_replicate]
  rfl
theorem wR_data {m : Nat} (a : 1 ≤ m) (b : m ≤ 4) : wantsD (.tuple [.tuple [.str "a", .int (m : Nat)], .tuple [.str "b", .int 1], .tuple [.str "c", .int 2]]) = true := four (p := fun m => wantsD (.tuple [.tuple [.str "a", .int (m : Nat)], .tuple [.str "b", .int 1], .tuple [.str "c", .int 2]]) = true) (by decide +kernel) (by decide +kernel) (by decide +kernel) (by decide +kernel) a b
section
variable {P : Program} {w : World} {K : PySem.W.Frag} {mg : Str → Option Value} {base : Heap}
def spTwoR (Ps : List Addr) : Sp := fun vs H Q _ => ∃ m : Nat, vs = [natV m] ∧ 1 ≤ m ∧ m ≤ 4 ∧ Tabs H Ps ∧ ∀ H', SameN H H' → Tabs H' Ps → Q (.bl true) H'
theorem scTwoR : FnScope ["many", "my_wants", "my_day"] ["many"] (defScope sTwoR) := ⟨rfl, rfl, rfl, by decide +kernel, rfl, by decide +kernel, by decide +kernel⟩
theorem ok_twoR {f : Addr} {Ps : List Addr} {fd : FuncData} (F : Fun K "_law_two_right" "_law_two_right" sTwoR f fd) (B : Bi mg) (kAw : HasK P w K mg base 4 "are_wants" ["thing"] false (spAreWants K Ps)) (kEa : HasK P w K mg base 4 "each_day" ["wants", "day"] false (spEachN K Ps)) (kLe : HasK P w K mg base 5 "least" ["wants"] false (spLeast Ps))
    (kDp : HasK P w K mg base 4 "day_passings" ["wants", "day"] false (spDayPN K Ps)) (kFl : HasK P w K mg base 3 "far_lifted" ["pile", "day", "days"] false (spFarL K)) (kFp : HasK P w K mg base 3 "far_pile" ["pile", "day", "days"] false (spFarP K)) (cFl : Has P w K mg base 3 "far_lifted" ["pile", "day", "days"] (spFarL K))
    (kMo : HasK P w K mg base 5 "most" ["wants"] false (spMost Ps)) (cMo : Has P w K mg base 5 "most" ["wants"] (spMost Ps)) (cEa : Has P w K mg base 4 "each_day" ["wants", "day"] (spEachN K Ps)) (kMd : HasK P w K mg base 3 "most_day" ["wants"] false (spMostDay Ps)) (kMp : HasK P w K mg base 5 "most_passings" ["wants"] false (spMostP K Ps))
    (kLy : HasK P w K mg base 3 "least_day" ["wants"] false (spLeastDay Ps)) (kAm : HasK P w K mg base 6 "amounts" ["wants"] false (spAmounts Ps)) : FnOk P w K mg base CX0 7 f fd ["many"] (spTwoR Ps) := by
  refine F.ok scTwoR (fun vs H Q E h => ?_) (fun cdv A outer s H vs Q E hr h => ?_)
  · obtain ⟨m, rfl, _⟩ := h
    rfl
  obtain ⟨m, rfl, m1, m4, tg, q⟩ := h
  refine ⟨_, pss_cons (ps_set (i := 1) scTwoR.nd rfl (.inl rfl) (pe_tupZ (pa_cons (pe_tup (pa_cons pe_str (pa_cons (pv 0) pa_nil))) (pa_cons (pe_tup (pa_cons pe_str (pa_cons pe_int pa_nil))) (pa_cons (pe_tup (pa_cons pe_str (pa_cons pe_int pa_nil))) pa_nil)))))
    (pss_cons (ps_set (i := 2) scTwoR.nd rfl (.inl rfl) (pe_op op_catZ (pe_op op_repY (pe_tup (pa_cons pe_str pa_nil)) (pv 0)) (pe_tup (pa_cons pe_str (pa_cons pe_str (pa_cons pe_str pa_nil))))))
    (pss_cons (ps_if (PW.pt (pw_or (pt_not (pt_val (pe_kw kAw hr (by decide) rfl (pk_cons (pv 1) pk_nil)))) (pw_or (pt_cmpR op_ne (pe_kw kEa hr (by decide) rfl (pk_cons (pv 1) (pk_cons (pv 2) pk_nil))) pe_int (nomark _)) (pw_or1 (pt_cmpR op_ne (pe_kw kLe hr (by decide) rfl (pk_cons (pv 1) pk_nil)) pe_int (nomark _)))))) (pss_one (ps_ret pe_bl)) pss_nil)
    (pss_cons (ps_if (pt_cmpR (op_neD hr.units) (pe_kw kDp hr (by decide) rfl (pk_cons (pv 1) (pk_cons (pv 2) pk_nil))) (pe_lst (pa_cons (pe_tup (pa_cons pe_str (pa_cons pe_str (pa_cons pe_int pa_nil)))) (pa_cons (pe_tup (pa_cons pe_str (pa_cons pe_str (pa_cons pe_int pa_nil)))) (pa_cons (pe_tup (pa_cons pe_str (pa_cons pe_str (pa_cons pe_int pa_nil)))) pa_nil)))) (nomark _)) (pss_one (ps_ret pe_bl)) pss_nil)
    (pss_cons (ps_if (pt_cmpR op_ne (pe_kw kFl hr (by decide) rfl (pk_cons (pe_tupZ (pa_cons pe_str (pa_cons pe_str (pa_cons pe_str pa_nil)))) (pk_cons (pv 2) (pk_cons (pe_op op_pow pe_int pe_int) pk_nil)))) (pe_op op_sub (pe_op op_mul pe_int (pe_op op_pow pe_int pe_int)) pe_int) (nomark _)) (pss_one (ps_ret pe_bl)) pss_nil)
    (pss_cons (ps_if (pt_cmpR (op_neD hr.units) (pe_kw kFp hr (by decide) rfl (pk_cons (pe_tupZ (pa_cons pe_str (pa_cons pe_str (pa_cons pe_str pa_nil)))) (pk_cons (pv 2) (pk_cons pe_int pk_nil)))) (pe_tupZ (pa_cons pe_str (pa_cons pe_str (pa_cons pe_str pa_nil)))) (nomark _)) (pss_one (ps_ret pe_bl)) pss_nil)
    (pss_cons (ps_if (pt_cmpR op_ne (pe_go cFl hr (by decide) rfl (pa_cons (pe_tupZ (pa_cons pe_str (pa_cons pe_str (pa_cons pe_str pa_nil)))) (pa_cons (pv 2) (pa_cons pe_int pa_nil)))) pe_int (nomark _)) (pss_one (ps_ret pe_bl)) pss_nil)
    (pss_cons (ps_if (PW.pt (pw_or (pt_cmpR op_ne (pe_kw kMo hr (by decide) rfl (pk_cons (pv 1) pk_nil)) (pe_op op_add pe_int (pe_op op_mul pe_int (pe_callB (call_min2 rfl) (by rfl) B.min (by decide +kernel) (pa_cons (pv 0) (pa_cons pe_int pa_nil))))) (nomark _)) (pw_or1 (pt_cmpR op_ne (pe_go cEa hr (by decide) rfl (pa_cons (pv 1) (pa_cons (pe_kw kMd hr (by decide) rfl (pk_cons (pv 1) pk_nil)) pa_nil))) (pe_go cMo hr (by decide) rfl (pa_cons (pv 1) pa_nil)) (nomark _))))) (pss_one (ps_ret pe_bl)) pss_nil)
    (pss_cons (ps_if (pt_cmpR (op_neD hr.units) (pe_kw kMp hr (by decide) rfl (pk_cons (pv 1) pk_nil)) (pe_lst (pa_cons (pe_tup (pa_cons pe_str (pa_cons pe_str (pa_cons pe_int pa_nil)))) (pa_cons (pe_tup (pa_cons pe_str (pa_cons pe_str (pa_cons (pe_op op_mul pe_int (pe_callB (call_min2 rfl) (by rfl) B.min (by decide +kernel) (pa_cons (pv 0) (pa_cons pe_int pa_nil)))) pa_nil)))) (pa_cons (pe_tup (pa_cons pe_str (pa_cons pe_str (pa_cons pe_int pa_nil)))) pa_nil)))) (nomark _)) (pss_one (ps_ret pe_bl)) pss_nil)
    (pss_one (ps_ret (pe_and (pe_cmpR op_eq (pe_go cEa hr (by decide) rfl (pa_cons (pv 1) (pa_cons (pe_kw kLy hr (by decide) rfl (pk_cons (pv 1) pk_nil)) pa_nil))) pe_int (nomark _)) (pe_one (pe_cmpR (op_eqD hr.units) (pe_kw kAm hr (by decide) rfl (pk_cons (pv 1) pk_nil)) (pe_slice sl_list (pe_lst (pa_cons pe_int (pa_cons pe_int pa_nil))) po_none (po_some (pe_callB (call_min2 rfl) (by rfl) B.min (by decide +kernel) (pa_cons (pv 0) (pa_cons pe_int pa_nil))))) (nomark _)))))))))))))), ?_⟩
  have wok := wR_ok m1 m4
  have sz : 2000 ≤ sizeLine := by decide
  -- my_wants
  refine ⟨_, rfl, (by show 2 ≤ sizeLine; decide), fun t1 ht1 => ⟨(by show 2 ≤ sizeLine; decide), fun t2 ht2 => ⟨(by show 2 ≤ sizeLine; decide), fun t3 ht3 => ⟨(by show 3 ≤ sizeLine; decide), fun W uW hW huW => ?_⟩⟩⟩⟩
  have sA := same_new ht1 (.tup [.str "a", natV m])
  have sB := same_new ht2 (.tup [.str "b", .int 1])
  have sC := same_new ht3 (.tup [.str "c", .int 2])
  have sD := same_new hW uW
  have s1 := sA.trans (sB.trans (sC.trans sD))
  have g1 := (sB.trans (sC.trans sD)) _ _ (upd_same (H := H) (a := t1) (o := .tup [.str "a", natV m]))
  have g2 := (sC.trans sD) _ _ (upd_same (H := upd H t1 (.tup [.str "a", natV m])) (a := t2) (o := .tup [.str "b", .int 1]))
  have g3 := sD _ _ (upd_same (H := upd (upd H t1 (.tup [.str "a", natV m])) t2 (.tup [.str "b", .int 1])) (a := t3) (o := .tup [.str "c", .int 2]))
  have hW1 := TpO.new (H := upd (upd (upd H t1 (.tup [.str "a", natV m])) t2 (.tup [.str "b", .int 1])) t3 (.tup [.str "c", .int 2])) (a := W) huW
  have n1 := SameN.of s1
  have tg1 := tg.same s1
  generalize upd (upd (upd (upd H t1 (.tup [.str "a", natV m])) t2 (.tup [.str "b", .int 1])) t3 (.tup [.str "c", .int 2])) W uW = H1 at g1 g2 g3 hW1 n1 tg1 ⊢
  have wl1 : WL H1 [t1, t2, t3] (wR m) := ((WL.one (p := (("a" : Str), m)) g1).append (WL.one (p := (("b" : Str), 1)) g2)).append (WL.one (p := (("c" : Str), 2)) g3)
  have wW1 : WAt H1 W (wR m) := ⟨[t1, t2, t3], hW1, wl1⟩
  have dW1 : Dp K H1 (.ref W) (.tuple [.tuple [.str "a", .int (m : Nat)], .tuple [.str "b", .int 1], .tuple [.str "c", .int 2]]) := .tup hW1.sqt (.cons (.tup (sqt g1) (.cons (.str _) (.cons (.int _) .nil))) (.cons (.tup (sqt g2) (.cons (.str _) (.cons (.int _) .nil))) (.cons (.tup (sqt g3) (.cons (.str _) (.cons (.int _) .nil))) .nil)))
  clear sA sB sC sD s1 hW1 wl1 g1 g2 g3
  -- my_day
  refine ⟨(by show 1 ≤ sizeLine; decide), fun a1 ha1 => ⟨_, rfl, a1, m, _, rfl, rfl, sqt upd_same, (fun z => nomatch z), m1, by omega, (by show 1 ≤ 1000; decide), fun p2 H2 s2 h2 => ⟨(by show 3 ≤ sizeLine; decide), fun a3 ha3 => ?_⟩⟩⟩
  have sE := same_new ha1 (.tup [.str "a"])
  have sF := same_new ha3 (.tup [.str "c", .str "b", .str "c"])
  have e2 : (List.replicate m [V.str "a"]).flatten = (List.replicate m ("a" : Str)).map V.str := by
    rw [List.map_replicate, List.flatten_replicate_singleton]
  rw [e2] at h2
  refine ⟨p2, a3, _, _, rfl, rfl, same_tup sF h2, sqt upd_same, ?_, ?_, (fun z => nomatch z), fun _ D uD hD huD => ?_⟩
  · intro z
    have y := congrArg List.length z
    rw [List.length_map, List.length_replicate, List.length_nil] at y
    omega
  · rw [List.length_map, List.length_replicate]
    show m + 3 ≤ _
    omega
  have s3 := sE.trans (s2.trans (sF.trans (same_new hD uD)))
  have hD3 : TpO (upd (upd H2 a3 (.tup [.str "c", .str "b", .str "c"])) D uD) D ((rR m).map V.str) := by
    refine TpO.new ?_
    show IsFz uD ((List.replicate m ("a" : Str) ++ (["c", "b", "c"] : List Str)).map V.str)
    rw [List.map_append]
    exact huD
  have n3 := n1.trans (SameN.of s3)
  have tg3 := tg1.same s3
  have wW3 := wW1.same s3
  have dW3 := dp_same s3 dW1
  generalize upd (upd H2 a3 (.tup [.str "c", .str "b", .str "c"])) D uD = H3 at hD3 n3 tg3 wW3 dW3 ⊢
  clear sE sF s3 s2 h2 tg1 wW1 dW1
  have lr : (rR m).length ≤ 60 := by rw [rR_len]; omega
  have inR := rR_in m1 m4
  -- are_wants
  refine ⟨_, rfl, rfl, .ref W, _, rfl, dW3, ?_, tg3, fun H4 n4 tg4 => ?_⟩
  · rintro ds e es hes z hz
    cases e
    have key : ∀ (s : Str) (d : PyData), s.length ≤ 1000 → .str z ∈ [PyData.str s, d] → (∀ y, d ≠ .str y) → z.length ≤ 1000 := fun s d l h nd => by
      rcases List.mem_cons.mp h with e | h
      · cases e
        exact l
      · exact absurd (List.mem_singleton.mp h).symm (nd z)
    rcases List.mem_cons.mp hes with e | hes
    · cases e
      exact key _ _ (by decide +kernel) hz (fun y e => nomatch e)
    rcases List.mem_cons.mp hes with e | hes
    · cases e
      exact key _ _ (by decide +kernel) hz (fun y e => nomatch e)
    · cases List.mem_singleton.mp hes
      exact key _ _ (by decide +kernel) hz (fun y e => nomatch e)
  rw [wR_data m1 m4]
  refine ⟨true, rfl, ?_⟩
  have wW4 := wW3.sameN n4
  have hD4 := hD3.sameN n4
  have n04 := n3.trans n4
  clear wW3 hD3 dW3 tg3
  -- each_day, least
  refine ⟨_, rfl, _, rfl, rfl, W, D, wR m, rR m, rfl, wW4, hD4.tps, wok.len, lr, inR, tg4, fun H5 n5 tg5 => ?_⟩
  refine ⟨rfl, false, bl_same (by rw [rR_each m1 m4]; rfl), ?_⟩
  have wW5 := wW4.sameN n5
  have hD5 := hD4.sameN n5
  refine ⟨_, rfl, rfl, W, wR m, rfl, wW5, wok, tg5, fun H6 n6 tg6 => ?_⟩
  refine ⟨rfl, false, bl_same (by rw [wR_least m1 m4]; rfl), ?_⟩
  have wW6 := wW5.sameN n6
  have hD6 := hD5.sameN n6
  have n06 := (n04.trans n5).trans n6
  clear wW4 wW5 hD4 hD5 tg4 tg5 n04
  -- day_passings
  refine ⟨_, rfl, _, rfl, rfl, W, D, wR m, rR m, rfl, wW6, hD6.tps, wok, lr, inR, tg6, fun l7 H7 xs7 n7 tg7 h7 d7 => ?_⟩
  have c1 := rR_cnt m1 m4 ("a", "b") (by decide +kernel)
  have c2 := rR_cnt m1 m4 ("a", "c") (by decide +kernel)
  have c3 := rR_cnt m1 m4 ("b", "c") (by decide +kernel)
  have e7 : dayD (wnames (wR m)) (rR m) = [.tuple [.str "a", .str "b", .int (2 : Nat)], .tuple [.str "a", .str "c", .int (2 : Nat)], .tuple [.str "b", .str "c", .int (2 : Nat)]] := by
    show [tri (rowsM (behindM ["a", "b", "c"] (rR m)) (rR m)) ("a", "b"), tri (rowsM (behindM ["a", "b", "c"] (rR m)) (rR m)) ("a", "c"), tri (rowsM (behindM ["a", "b", "c"] (rR m)) (rR m)) ("b", "c")] = _
    unfold tri
    rw [c1, c2, c3]
  have f7 : Fine 2 (.list (dayD (wnames (wR m)) (rR m))) := fine_tri (ys := wnames (wR m)) (rows := rowsM (behindM (wnames (wR m)) (rR m)) (rR m)) (by show 3 ≤ 7; decide) wok.ok 0
  rw [e7] at d7 f7
  refine ⟨(by show 3 ≤ sizeLine; decide), fun b1 hb1 => ⟨(by show 3 ≤ sizeLine; decide), fun b2 hb2 => ⟨(by show 3 ≤ sizeLine; decide), fun b3 hb3 => ⟨(by show 3 ≤ sizeLine; decide), fun l8 hl8 => ?_⟩⟩⟩⟩
  have sA := same_new hb1 (.tup [.str "a", .str "b", .int 2])
  have sB := same_new hb2 (.tup [.str "a", .str "c", .int 2])
  have sC := same_new hb3 (.tup [.str "b", .str "c", .int 2])
  have sD := same_new hl8 (.lst [.ref b1, .ref b2, .ref b3])
  have sAD := sA.trans (sB.trans (sC.trans sD))
  refine ⟨_, _, .lst (sql (sAD _ _ h7)) (dpAll_same sAD d7), .lst (sql upd_same) (.cons (.tup (sqt ((sB.trans (sC.trans sD)) _ _ upd_same)) (.cons (.str _) (.cons (.str _) (.cons (.int _) .nil)))) (.cons (.tup (sqt ((sC.trans sD) _ _ upd_same)) (.cons (.str _) (.cons (.str _) (.cons (.int _) .nil)))) (.cons (.tup (sqt (sD _ _ upd_same)) (.cons (.str _) (.cons (.str _) (.cons (.int _) .nil)))) .nil))), fine_shaped f7 (by decide), fine_shaped f7 (by decide), false, congrArg (fun b => V.bl (!b)) (fine_eqv f7), ?_⟩
  have n68 := n7.trans (SameN.of sAD)
  have wW8 := wW6.sameN n68
  have hD8 := hD6.sameN n68
  have n08 := n06.trans n68
  have tg8 := tg7.same sAD
  generalize upd (upd (upd (upd H7 b1 (.tup [.str "a", .str "b", .int 2])) b2 (.tup [.str "a", .str "c", .int 2])) b3 (.tup [.str "b", .str "c", .int 2])) l8 (.lst [.ref b1, .ref b2, .ref b3]) = H8 at wW8 hD8 n08 tg8 ⊢
  clear sA sB sC sD sAD n68 wW6 hD6 tg6 tg7 d7 h7
  obtain ⟨fa1, fa2, fa3⟩ := rR_far m1 m4
  -- far_lifted
  refine ⟨(by show 3 ≤ sizeLine; decide), fun v1 u1 hv1 hu1 => ⟨_, rfl, _, _, rfl, rfl, ⟨by decide, by decide, by decide⟩, rfl, v1, D, ["a", "b", "c"], rR m, 1000000000000000000, ?_, TpO.new (H := H8) hu1, (hD8.same (same_new hv1 u1)).tps, by decide, lr, inR, fun H9 s9 => ?_⟩⟩
  · rfl
  rw [fa1, fa2, fa3]
  have s89 := (same_new hv1 u1).trans s9
  have wW9 := wW8.same s89
  have hD9 := hD8.same s89
  have n09 := n08.trans (SameN.of s89)
  have tg9 := tg8.same s89
  clear wW8 hD8 n08 tg8 s89 s9
  refine ⟨_, _, rfl, rfl, ⟨by decide, by decide, by decide⟩, _, _, rfl, rfl, .inl ⟨by decide, by decide⟩, _, _, rfl, rfl, rfl, false, bl_same (congrArg V.int (by decide)), ?_⟩
  -- far_pile
  refine ⟨(by show 3 ≤ sizeLine; decide), fun v2 u2 hv2 hu2 => ⟨_, rfl, rfl, v2, D, ["a", "b", "c"], rR m, 5, rfl, TpO.new (H := H9) hu2, (hD9.same (same_new hv2 u2)).tps, by decide, inR, fun o10 H10 s10 ho10 => ⟨(by show 3 ≤ sizeLine; decide), fun v3 u3 hv3 hu3 => ?_⟩⟩⟩
  rw [if_pos (by decide), fa2] at ho10
  have sG := same_new hv3 u3
  have f3 : Fine 1 (.tuple ((["c", "b", "a"] : List Str).map PyData.str)) := fine_strs (ss := ["c", "b", "a"]) (by decide) (by decide +kernel) 0
  refine ⟨_, _, .tup (ho10.same sG).sqt (dpAll_strs _), .tup (TpO.new (H := H10) hu3).sqt (dpAll_strs ["c", "b", "a"]), fine_shaped f3 (by decide), fine_shaped f3 (by decide), false, by rw [fine_eqv f3]; rfl, ?_⟩
  have s911 := (same_new hv2 u2).trans (s10.trans sG)
  have wW11 := wW9.same s911
  have hD11 := hD9.same s911
  have n011 := n09.trans (SameN.of s911)
  have tg11 := tg9.same s911
  generalize upd H10 v3 u3 = H11 at wW11 hD11 n011 tg11 ⊢
  clear wW9 hD9 n09 tg9 s911 sG s10 ho10
  -- no day
  refine ⟨(by show 3 ≤ sizeLine; decide), fun v4 u4 hv4 hu4 => ⟨_, rfl, v4, D, ["a", "b", "c"], rR m, 0, rfl, TpO.new (H := H11) hu4, (hD11.same (same_new hv4 u4)).tps, by decide, lr, inR, fun H12 s12 => ⟨rfl, false, bl_same (by rw [if_pos (by decide)]), ?_⟩⟩⟩
  have s1112 := (same_new hv4 u4).trans s12
  have wW12 := wW11.same s1112
  have n012 := n011.trans (SameN.of s1112)
  have tg12 := tg11.same s1112
  clear wW11 hD11 n011 tg11 s1112 s12
  have emin : (if (2 : Int) < ((m : Nat) : Int) then (2 : Int) else ((m : Nat) : Int)) = ((min m 2 : Nat) : Int) := by
    by_cases c : (2 : Int) < ((m : Nat) : Int)
    · rw [if_pos c, Nat.min_eq_right (by omega)]
      rfl
    · rw [if_neg c, Nat.min_eq_left (by omega)]
  -- most
  refine ⟨_, rfl, rfl, W, wR m, rfl, wW12, wok, tg12, fun H13 n13 tg13 => ?_⟩
  refine ⟨_, rfl, _, _, rfl, _, _, rfl, rfl, .inl ⟨by decide, by decide⟩, _, _, rfl, rfl, rfl, false, bl_same (congrArg V.int ?_), ?_⟩
  · rw [wR_most m1 m4, emin]
    omega
  have wW13 := wW12.sameN n13
  refine ⟨_, rfl, _, rfl, rfl, W, wR m, rfl, wW13, wok, tg13, fun D14 H14 n14 tg14 hD14 => ?_⟩
  have wW14 := wW13.sameN n14
  refine ⟨W, D14, wR m, mostM (wR m), rfl, wW14, hD14.tps, wok.len, wok.mostLen, wok.mostIn, tg14, fun H15 n15 tg15 => ?_⟩
  have wW15 := wW14.sameN n15
  refine ⟨_, rfl, W, wR m, rfl, wW15, wok, tg15, fun H16 n16 tg16 => ?_⟩
  refine ⟨rfl, false, bl_same rfl, ?_⟩
  have wW16 := wW15.sameN n16
  have n016 := (((n012.trans n13).trans n14).trans n15).trans n16
  clear wW12 wW13 wW14 wW15 tg12 tg13 tg14 tg15 hD14
  -- most_passings
  refine ⟨_, rfl, rfl, W, wR m, rfl, wW16, wok, tg16, fun l17 H17 xs17 n17 tg17 h17 d17 => ?_⟩
  obtain ⟨k1, k2, k3⟩ := mR_cnt m1 m4
  have e17 : dayD (wnames (wR m)) (mostM (wR m)) = [.tuple [.str "a", .str "b", .int (2 : Nat)], .tuple [.str "a", .str "c", .int ((2 * min m 2 : Nat) : Int)], .tuple [.str "b", .str "c", .int (2 : Nat)]] := by
    show [tri (rowsM (behindM ["a", "b", "c"] (mostM (wR m))) (mostM (wR m))) ("a", "b"), tri (rowsM (behindM ["a", "b", "c"] (mostM (wR m))) (mostM (wR m))) ("a", "c"), tri (rowsM (behindM ["a", "b", "c"] (mostM (wR m))) (mostM (wR m))) ("b", "c")] = _
    unfold tri
    rw [k1, k2, k3]
  have f17 : Fine 2 (.list (dayD (wnames (wR m)) (mostM (wR m)))) := fine_tri (ys := wnames (wR m)) (rows := rowsM (behindM (wnames (wR m)) (mostM (wR m))) (mostM (wR m))) (by show 3 ≤ 7; decide) wok.ok 0
  rw [e17] at d17 f17
  refine ⟨(by show 3 ≤ sizeLine; decide), fun b1 hb1 => ⟨_, rfl, _, _, rfl, _, _, rfl, rfl, .inl ⟨by decide, by decide⟩, (by show 3 ≤ sizeLine; decide), fun b2 hb2 => ⟨(by show 3 ≤ sizeLine; decide), fun b3 hb3 => ⟨(by show 3 ≤ sizeLine; decide), fun l18 hl18 => ?_⟩⟩⟩⟩
  have ev : V.int (2 * (if (2 : Int) < ((m : Nat) : Int) then (2 : Int) else ((m : Nat) : Int))) = V.int ((2 * min m 2 : Nat) : Int) := congrArg V.int (by rw [emin]; omega)
  have sA := same_new hb1 (.tup [.str "a", .str "b", .int 2])
  have sB := same_new hb2 (.tup [.str "a", .str "c", V.int (2 * (if (2 : Int) < ((m : Nat) : Int) then (2 : Int) else ((m : Nat) : Int)))])
  have sC := same_new hb3 (.tup [.str "b", .str "c", .int 2])
  have sD := same_new hl18 (.lst [.ref b1, .ref b2, .ref b3])
  have sAD := sA.trans (sB.trans (sC.trans sD))
  have dM : Dp K (upd (upd (upd (upd H17 b1 (.tup [.str "a", .str "b", .int 2])) b2 (.tup [.str "a", .str "c", V.int (2 * (if (2 : Int) < ((m : Nat) : Int) then (2 : Int) else ((m : Nat) : Int)))])) b3 (.tup [.str "b", .str "c", .int 2])) l18 (.lst [.ref b1, .ref b2, .ref b3])) (V.int (2 * (if (2 : Int) < ((m : Nat) : Int) then (2 : Int) else ((m : Nat) : Int)))) (.int ((2 * min m 2 : Nat) : Int)) := by
    rw [ev]
    exact .int _
  refine ⟨_, _, .lst (sql (sAD _ _ h17)) (dpAll_same sAD d17), .lst (sql upd_same) (.cons (.tup (sqt ((sB.trans (sC.trans sD)) _ _ upd_same)) (.cons (.str _) (.cons (.str _) (.cons (.int _) .nil)))) (.cons (.tup (sqt ((sC.trans sD) _ _ upd_same)) (.cons (.str _) (.cons (.str _) (.cons dM .nil)))) (.cons (.tup (sqt (sD _ _ upd_same)) (.cons (.str _) (.cons (.str _) (.cons (.int _) .nil)))) .nil))), fine_shaped f17 (by decide), fine_shaped f17 (by decide), false, congrArg (fun b => V.bl (!b)) (fine_eqv f17), ?_⟩
  have n1618 := n17.trans (SameN.of sAD)
  have wW18 := wW16.sameN n1618
  have n018 := n016.trans n1618
  have tg18 := tg17.same sAD
  generalize upd (upd (upd (upd H17 b1 (.tup [.str "a", .str "b", .int 2])) b2 (.tup [.str "a", .str "c", V.int (2 * (if (2 : Int) < ((m : Nat) : Int) then (2 : Int) else ((m : Nat) : Int)))])) b3 (.tup [.str "b", .str "c", .int 2])) l18 (.lst [.ref b1, .ref b2, .ref b3]) = H18 at wW18 n018 tg18 ⊢
  clear sA sB sC sD sAD n1618 wW16 tg16 tg17 d17 h17 dM
  -- least_day, amounts
  refine ⟨_, rfl, _, rfl, rfl, W, wR m, rfl, wW18, wok, tg18, fun D19 H19 n19 tg19 hD19 => ?_⟩
  have wW19 := wW18.sameN n19
  refine ⟨W, D19, wR m, flat (wR m), rfl, wW19, hD19.tps, wok.len, wok.flatLen, (fun b hb => flat_mem hb), tg19, fun H20 n20 tg20 => ?_⟩
  have wW20 := wW19.sameN n20
  refine ⟨rfl, true, congrArg V.bl (decide_eq_true (by rw [wR_least m1 m4]; rfl)), ?_⟩
  refine ⟨_, rfl, rfl, W, wR m, rfl, wW20, wok, tg20, fun l21 H21 n21 tg21 h21 => ⟨(by show 2 ≤ sizeLine; decide), fun l22 hl22 => ?_⟩⟩
  have s22 := same_new hl22 (.lst [.int 6, .int 8])
  refine ⟨_, rfl, _, _, rfl, _, rfl, l22, _, rfl, sql upd_same, fun l23 hl23 => ?_⟩
  have eCut : cutV [V.int 6, V.int 8] none (some (if (2 : Int) < ((m : Nat) : Int) then (2 : Int) else ((m : Nat) : Int))) = (([6, 8] : List Nat).take (min m 2)).map natV := by
    rw [emin, cut_to (by show min m 2 ≤ 2; omega), List.map_take]
    rfl
  have eAm : evens (leastV (wR m)) (mostV (wR m) + 1) = ([6, 8] : List Nat).take (min m 2) := by
    show evens (eachV _ _) (eachV _ _ + 1) = _
    rw [wR_least m1 m4, wR_most m1 m4, wR_evens m1 m4]
  rw [eAm] at h21
  have s23 := same_new hl23 (.lst (cutV [V.int 6, V.int 8] none (some (if (2 : Int) < ((m : Nat) : Int) then (2 : Int) else ((m : Nat) : Int)))))
  have h23 : upd (upd H21 l22 (.lst [.int 6, .int 8])) l23 (.lst (cutV [V.int 6, V.int 8] none (some (if (2 : Int) < ((m : Nat) : Int) then (2 : Int) else ((m : Nat) : Int))))) l23 = some (.lst ((([6, 8] : List Nat).take (min m 2)).map natV)) := by rw [upd_same, eCut]
  have fA : Fine 1 (.list ((([6, 8] : List Nat).take (min m 2)).map fun k => PyData.int (k : Nat))) := fineN (ns := ([6, 8] : List Nat).take (min m 2)) (by rw [List.length_take]; show min _ 2 ≤ 1000; omega) 0
  refine ⟨_, _, .lst (sql (s23 _ _ (s22 _ _ h21))) (dpAll_nats _), .lst (sql h23) (dpAll_nats _), fine_shaped fA (by decide), fine_shaped fA (by decide), ?_⟩
  rw [fine_eqv fA]
  exact q _ ((((n018.trans n19).trans n20).trans n21).trans (SameN.of (s22.trans s23))) (tg21.same (s22.trans s23))
end
end Lt

set_option Elab.async false
set_option linter.all false
set_option maxRecDepth 100000
set_option maxHeartbeats 4000000
namespace Lt
open PySem PySem.Spec PyProof.Rows L2
section
variable {P : Program} {w : World} {K : PySem.W.Frag} {mg : Str → Option Value} {base : Heap}
abbrev wS : List (Str × Nat) := [("a", 3)]
theorem wS_ok : WOk wS := ⟨by show (["a"] : List Str).Pairwise ltS; decide +kernel, fun p hp => by rw [List.mem_singleton.mp hp]; decide, by decide, by decide, by show ∀ b ∈ (["a"] : List Str), PyData.strOk b = true; decide +kernel⟩
theorem scLaw : FnScope ["script", "tape", "sole", "found"] ["script"] (defScope sLaw) := ⟨rfl, rfl, rfl, by decide +kernel, rfl, by decide +kernel, by decide +kernel⟩
def spLawN (K : PySem.W.Frag) (Ps : List Addr) : Sp := fun vs H Q _ => ∃ (a : Addr) (ns : List Int), vs = [.ref a] ∧ SqL K H a (ns.map V.int) ∧ ns.length ≤ 63 ∧ Tabs H Ps ∧ ∀ H', Q (.bl true) H'
theorem ok_law {f : Addr} {Ps : List Addr} {fd : FuncData} (F : Fun K "law" "law" sLaw f fd) (B : Bi mg) (cD : Has P w K mg base 1 "_law_draw" ["tape", "many"] spDraw) (cLk : Has P w K mg base 4 "_law_like" ["one", "two"] (spLike K 4))
    (cMo : Has P w K mg base 5 "most" ["wants"] (spMost Ps)) (cLe : Has P w K mg base 5 "least" ["wants"] (spLeast Ps)) (cMp : Has P w K mg base 5 "most_passings" ["wants"] (spMostP K Ps)) (cAm : Has P w K mg base 6 "amounts" ["wants"] (spAmounts Ps)) (cMd : Has P w K mg base 3 "most_day" ["wants"] (spMostDay Ps))
    (cEa : Has P w K mg base 4 "each_day" ["wants", "day"] (spEachN K Ps)) (cTh : Has P w K mg base 4 "_law_three_right" [] (spThree Ps)) (cTw : Has P w K mg base 7 "_law_two_right" ["many"] (spTwoR Ps)) : FnOk P w K mg base CX0 8 f fd ["script"] (spLawN K Ps) := by
  refine F.ok scLaw (fun vs H Q E h => ?_) (fun cdv A outer s H vs Q E hr h => ?_)
  · obtain ⟨a, ns, rfl, _⟩ := h
    rfl
  obtain ⟨a, ns, rfl, hS, h63, tg0, q⟩ := h
  refine ⟨_, pss_cons (ps_set (i := 1) scLaw.nd rfl (.inl rfl) (pe_lst (pa_cons (pe_callTy call_list_of (by rfl) B.list (by decide +kernel) (pa_cons (pv 0) pa_nil)) (pa_cons pe_int (pa_cons pe_int pa_nil)))))
    (pss_cons (ps_set (i := 2) scLaw.nd rfl (.inl rfl) (pe_tupZ (pa_cons (pe_tup (pa_cons pe_str (pa_cons pe_int pa_nil))) pa_nil)))
    (pss_cons (ps_set (i := 3) scLaw.nd rfl (.inl rfl) (pe_lst (pa_cons (pe_go cMo hr (by decide) rfl (pa_cons (pv 2) pa_nil)) (pa_cons (pe_go cLe hr (by decide) rfl (pa_cons (pv 2) pa_nil)) (pa_cons (pe_go cMp hr (by decide) rfl (pa_cons (pv 2) pa_nil)) (pa_cons (pe_go cAm hr (by decide) rfl (pa_cons (pv 2) pa_nil)) (pa_cons (pe_go cMd hr (by decide) rfl (pa_cons (pv 2) pa_nil)) pa_nil)))))))
    (pss_cons (ps_expr (pe_bm PySem.F.plainAttrs_list PySem.F.slot_list_append PySem.F.type_list_append mt_append (pv 3) (pa_cons (pe_go cEa hr (by decide) rfl (pa_cons (pv 2) (pa_cons (pe_tup (pa_cons pe_str (pa_cons pe_str (pa_cons pe_str pa_nil)))) pa_nil))) pa_nil)))
    (pss_cons (ps_if (pt_not (pt_val (pe_go cLk hr (by decide) rfl (pa_cons (pv 3) (pa_cons (pe_lst (pa_cons pe_int (pa_cons pe_int (pa_cons (pe_lst pa_nil) (pa_cons (pe_lst (pa_cons pe_int pa_nil)) (pa_cons (pe_tup (pa_cons pe_str (pa_cons pe_str (pa_cons pe_str pa_nil)))) (pa_cons pe_int pa_nil))))))) pa_nil))))) (pss_one (ps_ret pe_bl)) pss_nil)
    (pss_one (ps_ret (pe_and (pe_go0 cTh hr (by decide) rfl) (pe_one (pe_go cTw hr (by decide) rfl (pa_cons (pe_op op_add pe_int (pe_go cD hr (by decide) rfl (pa_cons (pv 1) (pa_cons pe_int pa_nil)))) pa_nil)))))))))), ?_⟩
  refine ⟨_, rfl, a, _, rfl, .inl hS, fun S hS0 => ⟨(by show 3 ≤ sizeLine; decide), fun T hT0 => ?_⟩⟩
  have tp0 : Tape (upd (upd H S (.lst (ns.map V.int))) T (.lst [.ref S, .int 0, .int 0])) T S ns := ⟨⟨0, 0, upd_same⟩, by rw [upd_ne (ne_of_none upd_same hT0)]; exact upd_same⟩
  have tg1 := (tg0.same (same_new hS0 (.lst (ns.map V.int)))).same (same_new hT0 (.lst [.ref S, .int 0, .int 0]))
  generalize upd (upd H S (.lst (ns.map V.int))) T (.lst [.ref S, .int 0, .int 0]) = H0 at tp0 tg1 ⊢
  -- sole
  refine ⟨(by show 2 ≤ sizeLine; decide), fun t1 ht1 => ⟨(by show 1 ≤ sizeLine; decide), fun W uW hW huW => ?_⟩⟩
  have sA := same_new ht1 (.tup [.str "a", .int 3])
  have sB := same_new hW uW
  have wW2 : WAt (upd (upd H0 t1 (.tup [.str "a", .int 3])) W uW) W wS := ⟨[t1], TpO.new huW, WL.one (p := (("a" : Str), 3)) (sB _ _ upd_same)⟩
  have tp2 := tp0.same (sA.trans sB)
  have tg2 := tg1.same (sA.trans sB)
  generalize upd (upd H0 t1 (.tup [.str "a", .int 3])) W uW = H2 at wW2 tp2 tg2 ⊢
  clear sA sB tp0 tg1
  have m0 : eachV (wnames wS) (mostM wS) = 0 := by decide +kernel
  have l0 : eachV (wnames wS) (flat wS) = 0 := by decide +kernel
  -- found
  refine ⟨_, rfl, W, wS, rfl, wW2, wS_ok, tg2, fun H3 n3 tg3 => ?_⟩
  have wW3 := wW2.sameN n3
  refine ⟨_, rfl, W, wS, rfl, wW3, wS_ok, tg3, fun H4 n4 tg4 => ?_⟩
  have wW4 := wW3.sameN n4
  refine ⟨_, rfl, W, wS, rfl, wW4, wS_ok, tg4, fun l5 H5 xs5 n5 tg5 h5 d5 => ?_⟩
  have wW5 := wW4.sameN n5
  have e5 : dayD (wnames wS) (mostM wS) = [] := rfl
  rw [e5] at d5
  refine ⟨_, rfl, W, wS, rfl, wW5, wS_ok, tg5, fun l6 H6 n6 tg6 h6 => ?_⟩
  have wW6 := wW5.sameN n6
  have e6 : evens (leastV wS) (mostV wS + 1) = [0] := by
    show evens (eachV _ _) (eachV _ _ + 1) = _
    rw [m0, l0]
    decide
  rw [e6] at h6
  refine ⟨_, rfl, W, wS, rfl, wW6, wS_ok, tg6, fun D7 H7 n7 tg7 h7 => ⟨(by show 5 ≤ sizeLine; decide), fun L hL => ?_⟩⟩
  have wW7 := wW6.sameN n7
  have nL : H7 L = none := hL
  have s8 := same_new hL (.lst [.int ((eachV (wnames wS) (mostM wS) : Nat) : Int), .int ((eachV (wnames wS) (flat wS) : Nat) : Int), .ref l5, .ref l6, .ref D7])
  have hL8 : upd H7 L (.lst [.int ((eachV (wnames wS) (mostM wS) : Nat) : Int), .int ((eachV (wnames wS) (flat wS) : Nat) : Int), .ref l5, .ref l6, .ref D7]) L = some (.lst [.int 0, .int 0, .ref l5, .ref l6, .ref D7]) := by
    rw [upd_same, m0, l0]
    rfl
  have wW8 := wW7.same s8
  have h58 := s8 _ _ (n7.lstH (n6.lstH h5))
  have h68 := s8 _ _ (n7.lstH h6)
  have h78 := h7.same s8
  have tg8 := tg7.same s8
  have tp8 := ((((((tp2.sameN n3).sameN n4).sameN n5).sameN n6).sameN n7)).same s8
  generalize upd H7 L (.lst [.int ((eachV (wnames wS) (mostM wS) : Nat) : Int), .int ((eachV (wnames wS) (flat wS) : Nat) : Int), .ref l5, .ref l6, .ref D7]) = H8 at hL8 wW8 h58 h68 h78 tg8 tp8 ⊢
  clear s8 wW2 wW3 wW4 wW5 wW6 wW7 tp2
  refine ⟨_, rfl, .inl ⟨rfl, _, sql hL8⟩, _, rfl, (by show 3 ≤ sizeLine; decide), fun v9 hv9 => ?_⟩
  have s9 := same_new hv9 (.tup [.str "a", .str "a", .str "a"])
  refine ⟨W, v9, wS, ["a", "a", "a"], rfl, wW8.same s9, sqt upd_same, by decide, by decide, by decide +kernel, tg8.same s9, fun H10 n10 tg10 => ?_⟩
  have n810 := (SameN.of s9).trans n10
  have hL10 := n810.lstH hL8
  have e10 : eachV (wnames wS) ["a", "a", "a"] = 0 := by decide +kernel
  refine ⟨L, _, _, rfl, rfl, hL10, (by show 5 < sizeLine; decide), ?_⟩
  have h510 := n810.lstH h58
  have h610 := n810.lstH h68
  have h710 := h78.sameN n810
  have tp10 := tp8.sameN n810
  have nLT : L ≠ T := by
    obtain ⟨i', c', hT⟩ := tp10.at_
    exact ne_of hL10 hT fun z => by
      injection z with z
      cases z
  have hL11 : upd H10 L (.lst ([.int 0, .int 0, .ref l5, .ref l6, .ref D7] ++ [.int ((eachV (wnames wS) ["a", "a", "a"] : Nat) : Int)])) L = some (.lst [.int 0, .int 0, .ref l5, .ref l6, .ref D7, .int 0]) := by
    rw [upd_same, e10]
    rfl
  have sp := sameT_put (T := L) (H := H10) (.lst ([.int 0, .int 0, .ref l5, .ref l6, .ref D7] ++ [.int ((eachV (wnames wS) ["a", "a", "a"] : Nat) : Int)]))
  obtain rfl : xs5 = [] := List.eq_nil_of_length_eq_zero (dpAll_len d5)
  have h511 := sp _ _ (ne_of h510 hL10 fun z => by injection z with z; cases z) h510
  have h611 := sp _ _ (ne_of h610 hL10 fun z => by injection z with z; cases z) h610
  have h711 := h710.sameT sp (h710.ne hL10 fun o z => nomatch z)
  have tg11 := tg10.but sp ⟨_, hL10⟩
  have tp11 : Tape (upd H10 L (.lst ([.int 0, .int 0, .ref l5, .ref l6, .ref D7] ++ [.int ((eachV (wnames wS) ["a", "a", "a"] : Nat) : Int)]))) T S ns := by
    obtain ⟨i', c', hT⟩ := tp10.at_
    exact ⟨⟨i', c', sp _ _ nLT.symm hT⟩, sp _ _ (fun e => by
      have z := tp10.scr
      rw [e, hL10] at z
      injection z with z
      injection z with z
      cases ns with
      | nil => cases z
      | cons x r =>
        cases r with
        | nil => cases z
        | cons y r =>
          cases r with
          | nil => cases z
          | cons v r => cases z) tp10.scr⟩
  generalize upd H10 L (.lst ([.int 0, .int 0, .ref l5, .ref l6, .ref D7] ++ [.int ((eachV (wnames wS) ["a", "a", "a"] : Nat) : Int)])) = H11 at hL11 h511 h611 h711 tg11 tp11 ⊢
  clear sp hL10 h510 h610 h710 tp10 hL8 h58 h68 h78 tp8 wW8
  -- alike
  refine ⟨_, rfl, Nat.zero_le _, fun e1 he1 => ⟨(by show 1 ≤ sizeLine; decide), fun e2 he2 => ⟨(by show 3 ≤ sizeLine; decide), fun e3 he3 => ⟨(by show 6 ≤ sizeLine; decide), fun e4 he4 => ?_⟩⟩⟩⟩
  have sA := same_new he1 (.lst [])
  have sB := same_new he2 (.lst [.int 0])
  have sC := same_new he3 (.tup [.str "a", .str "a", .str "a"])
  have sD := same_new he4 (.lst [.int 0, .int 0, .ref e1, .ref e2, .ref e3, .int 0])
  have sAD := sA.trans (sB.trans (sC.trans sD))
  have g1 := (sB.trans (sC.trans sD)) _ _ (upd_same (H := H11) (a := e1) (o := .lst []))
  have g2 := (sC.trans sD) _ _ (upd_same (H := upd H11 e1 (.lst [])) (a := e2) (o := .lst [.int 0]))
  have g3 := sD _ _ (upd_same (H := upd (upd H11 e1 (.lst [])) e2 (.lst [.int 0])) (a := e3) (o := .tup [.str "a", .str "a", .str "a"]))
  have g4 : upd (upd (upd (upd H11 e1 (.lst [])) e2 (.lst [.int 0])) e3 (.tup [.str "a", .str "a", .str "a"])) e4 (.lst [.int 0, .int 0, .ref e1, .ref e2, .ref e3, .int 0]) e4 = some (.lst [.int 0, .int 0, .ref e1, .ref e2, .ref e3, .int 0]) := upd_same
  have hL12 := sAD _ _ hL11
  have h512 := sAD _ _ h511
  have h612 := sAD _ _ h611
  have h712 := h711.same sAD
  have tp12 := tp11.same sAD
  have tg12 := tg11.same sAD
  generalize upd (upd (upd (upd H11 e1 (.lst [])) e2 (.lst [.int 0])) e3 (.tup [.str "a", .str "a", .str "a"])) e4 (.lst [.int 0, .int 0, .ref e1, .ref e2, .ref e3, .int 0]) = H12 at g1 g2 g3 g4 hL12 h512 h612 h712 tp12 tg12 ⊢
  have fD : Fine 3 (.list [.int 0, .int 0, .list [], .list [.int 0], .tuple [.str "a", .str "a", .str "a"], .int 0]) := by
    refine ⟨by show 6 ≤ 1000; decide, fun d hd => ?_⟩
    have sA : Fine 2 (.tuple ((["a", "a", "a"] : List Str).map PyData.str)) := fine_strs (ss := ["a", "a", "a"]) (by decide) (by decide +kernel) 1
    have sN : Fine 2 (.list (([0] : List Nat).map fun k => PyData.int (k : Nat))) := fineN (ns := [0]) (by decide) 1
    have sE : Fine 2 (.list (([] : List Nat).map fun k => PyData.int (k : Nat))) := fineN (ns := []) (by decide) 1
    rcases List.mem_cons.mp hd with e | hd
    · rw [e]; trivial
    rcases List.mem_cons.mp hd with e | hd
    · rw [e]; trivial
    rcases List.mem_cons.mp hd with e | hd
    · rw [e]; exact sE
    rcases List.mem_cons.mp hd with e | hd
    · rw [e]; exact sN
    rcases List.mem_cons.mp hd with e | hd
    · rw [e]; exact sA
    rw [List.mem_singleton.mp hd]
    trivial
  refine ⟨_, _, _, 3, rfl, rfl, .lst (sql hL12) (.cons (.int _) (.cons (.int _) (.cons (.lst (sql h512) .nil) (.cons (.lst (sql h612) (.cons (.int _) .nil)) (.cons (.tup h712.sqt (dpAll_strs ["a", "a", "a"])) (.cons (.int _) .nil)))))),
    .lst (sql g4) (.cons (.int _) (.cons (.int _) (.cons (.lst (sql g1) .nil) (.cons (.lst (sql g2) (.cons (.int _) .nil)) (.cons (.tup (sqt g3) (dpAll_strs ["a", "a", "a"])) (.cons (.int _) .nil)))))), fD, fun H13 s13 => ⟨true, rfl, ?_⟩⟩
  -- by hand
  have tp13 := tp12.same s13
  refine ⟨rfl, tg12.same s13, fun H14 n14 tg14 => ⟨true, rfl, ?_⟩⟩
  have tp14 := tp13.sameN n14
  refine ⟨_, rfl, T, S, ns, 4, rfl, tp14, by decide, by decide, fun r i1 c1 r0 r1 => ?_⟩
  obtain ⟨k, rfl⟩ : ∃ k : Nat, r = (k : Int) := ⟨r.toNat, by omega⟩
  obtain ⟨i', c', hT⟩ := tp14.at_
  refine ⟨_, _, rfl, rfl, 1 + k, ?_, by omega, by omega, tg14.but (sameT_put _) ⟨_, hT⟩, fun H15 _ _ => q _⟩
  show [V.int (1 + (k : Int))] = [V.int ((1 + k : Nat) : Int)]
  congr 2
end
end Lt

set_option Elab.async false
set_option linter.all false
set_option maxRecDepth 100000
set_option maxHeartbeats 0
namespace Lt
open PySem PySem.Spec PyProof.Rows L2
def dd0 : He.DefD := ⟨("is_name", none), "is_name", "is_name", defArgs sIsName, defBody sIsName, defScope sIsName, [], []⟩
def dd1 : He.DefD := ⟨("is_whole_number", none), "is_whole_number", "is_whole_number", defArgs sWhole, defBody sWhole, defScope sWhole, [], []⟩
def dd2 : He.DefD := ⟨("is_pile", none), "is_pile", "is_pile", defArgs sIsPile, defBody sIsPile, defScope sIsPile, [], []⟩
def dd3 : He.DefD := ⟨("behind", none), "behind", "behind", defArgs sBehind, defBody sBehind, defScope sBehind, [], []⟩
def dd4 : He.DefD := ⟨("lifted", none), "lifted", "lifted", defArgs sLifted, defBody sLifted, defScope sLifted, [], []⟩
def dd5 : He.DefD := ⟨("passings", none), "passings", "passings", defArgs sPassings, defBody sPassings, defScope sPassings, [], []⟩
def dd6 : He.DefD := ⟨("laid_on_top", none), "laid_on_top", "laid_on_top", defArgs sLaid, defBody sLaid, defScope sLaid, [], []⟩
def dd7 : He.DefD := ⟨("books_above", none), "books_above", "books_above", defArgs sAbove, defBody sAbove, defScope sAbove, [], []⟩
def dd8 : He.DefD := ⟨("pairs_of", none), "pairs_of", "pairs_of", defArgs sPairs, defBody sPairs, defScope sPairs, [], []⟩
def dd9 : He.DefD := ⟨("as_pair", none), "as_pair", "as_pair", defArgs sAsPair, defBody sAsPair, defScope sAsPair, [], []⟩
def dd10 : He.DefD := ⟨("readings_by", none), "readings_by", "readings_by", defArgs sReadBy, defBody sReadBy, defScope sReadBy, [], []⟩
def dd11 : He.DefD := ⟨("undone", none), "undone", "undone", defArgs sUndone, defBody sUndone, defScope sUndone, [], []⟩
def dd12 : He.DefD := ⟨("piles_for", none), "piles_for", "piles_for", defArgs sPilesFor, defBody sPilesFor, defScope sPilesFor, [], []⟩
def dd13 : He.DefD := ⟨("fewest_to", none), "fewest_to", "fewest_to", defArgs sFew, defBody sFew, defScope sFew, [], []⟩
def dd14 : He.DefD := ⟨("liftable", none), "liftable", "liftable", defArgs sLiftable, defBody sLiftable, defScope sLiftable, [], []⟩
def dd15 : He.DefD := ⟨("put_back", none), "put_back", "put_back", defArgs sPut, defBody sPut, defScope sPut, [], []⟩
def dd16 : He.DefD := ⟨("orders_of", none), "orders_of", "orders_of", defArgs sOrdersOf, defBody sOrdersOf, defScope sOrdersOf, [], []⟩
def dd17 : He.DefD := ⟨("are_wants", none), "are_wants", "are_wants", defArgs sAreWants, defBody sAreWants, defScope sAreWants, [], []⟩
def dd18 : He.DefD := ⟨("far_pile", none), "far_pile", "far_pile", defArgs sFarP, defBody sFarP, defScope sFarP, [], []⟩
def dd19 : He.DefD := ⟨("far_lifted", none), "far_lifted", "far_lifted", defArgs sFarL, defBody sFarL, defScope sFarL, [], []⟩
def dd20 : He.DefD := ⟨("each_day", none), "each_day", "each_day", defArgs sEach, defBody sEach, defScope sEach, [], []⟩
def dd21 : He.DefD := ⟨("day_passings", none), "day_passings", "day_passings", defArgs sDayP, defBody sDayP, defScope sDayP, [], []⟩
def dd22 : He.DefD := ⟨("is_want", none), "is_want", "is_want", defArgs sIsWant, defBody sIsWant, defScope sIsWant, [], []⟩
def dd23 : He.DefD := ⟨("books_rise", none), "books_rise", "books_rise", defArgs sRise, defBody sRise, defScope sRise, [], []⟩
def dd24 : He.DefD := ⟨("settled_pile", none), "settled_pile", "settled_pile", defArgs sSettled, defBody sSettled, defScope sSettled, [], []⟩
def dd25 : He.DefD := ⟨("most", none), "most", "most", defArgs sMost, defBody sMost, defScope sMost, [], []⟩
def dd26 : He.DefD := ⟨("least", none), "least", "least", defArgs sLeast, defBody sLeast, defScope sLeast, [], []⟩
def dd27 : He.DefD := ⟨("most_passings", none), "most_passings", "most_passings", defArgs sMostP, defBody sMostP, defScope sMostP, [], []⟩
def dd28 : He.DefD := ⟨("amounts", none), "amounts", "amounts", defArgs sAmounts, defBody sAmounts, defScope sAmounts, [], []⟩
def dd29 : He.DefD := ⟨("most_day", none), "most_day", "most_day", defArgs sMostDay, defBody sMostDay, defScope sMostDay, [], []⟩
def dd30 : He.DefD := ⟨("least_day", none), "least_day", "least_day", defArgs sLeastDay, defBody sLeastDay, defScope sLeastDay, [], []⟩
def dd31 : He.DefD := ⟨("_law_draw", none), "_law_draw", "_law_draw", defArgs sDraw, defBody sDraw, defScope sDraw, [], []⟩
def dd32 : He.DefD := ⟨("_law_like", none), "_law_like", "_law_like", defArgs sLike, defBody sLike, defScope sLike, [], []⟩
def dd33 : He.DefD := ⟨("_law_three_right", none), "_law_three_right", "_law_three_right", defArgs sThree, defBody sThree, defScope sThree, [], []⟩
def dd34 : He.DefD := ⟨("_law_two_right", none), "_law_two_right", "_law_two_right", defArgs sTwoR, defBody sTwoR, defScope sTwoR, [], []⟩
def dd35 : He.DefD := ⟨("law", none), "law", "law", defArgs sLaw, defBody sLaw, defScope sLaw, [], []⟩
def defsAt : List He.DefD := [dd0, dd1, dd2, dd3, dd4, dd5, dd6, dd7, dd8, dd9, dd10, dd11, dd12, dd13, dd14, dd15, dd16, dd17, dd18, dd19, dd20, dd21, dd22, dd23, dd24, dd25, dd26, dd27, dd28, dd29, dd30, dd31, dd32, dd33, dd34, dd35]
def factsAt : List He.Fa := [.glo "is_name", .glo "is_whole_number", .glo "is_pile", .glo "behind", .glo "lifted", .glo "passings", .glo "laid_on_top", .glo "books_above", .glo "pairs_of", .glo "as_pair", .glo "readings_by", .glo "undone", .glo "piles_for", .glo "fewest_to", .glo "liftable", .glo "put_back", .glo "orders_of", .glo "are_wants", .glo "far_pile", .glo "far_lifted", .glo "each_day", .glo "day_passings", .glo "is_want", .glo "books_rise", .glo "settled_pile", .glo "most", .glo "least", .glo "most_passings", .glo "amounts", .glo "most_day", .glo "least_day", .glo "_law_draw", .glo "_law_like", .glo "_law_three_right", .glo "_law_two_right", .glo "law", .free "len", .free "range", .free "tuple", .free "list", .free "sorted", .free "enumerate", .free "isinstance", .free "bool", .free "set", .free "sum", .free "min", .free "max", .free "dict", .free "reversed", .free "all", .free "any", .free "int", .free "str", .free "zip", .int "LONGEST_NAME" 8, .int "MOST_BOOKS" 7, .int "MOST_WANTED_BOOKS" 5, .int "MOST_READERS_OF_ONE" 4, .int "MOST_READERS" 7]
def tab0 : He.Defn := ("is_name", none)
def tab1 : He.Defn := ("is_pile", none)
def tab2 : He.Defn := ("are_wants", none)
def tab3 : He.Defn := ("settled_pile", none)
def tab4 : He.Defn := ("most_day", none)
def tab5 : He.Defn := ("least_day", none)
def tabsAt : List He.Defn := [tab0, tab1, tab2, tab3, tab4, tab5]
abbrev rowX : PySem.W.OpenRow := PySem.W.OpenLaw.row PySem.Challenge.rw_laidontop_k11_written_cases_and_names
abbrev hookAt : PySem.W.Hook := He.hookX 4 factsAt defsAt [] tabsAt fun _ => true
def seenAt (s : PySem.W.SharedT) : He.AlX := He.obsX 4 factsAt defsAt [] tabsAt (fun _ => true) (HandSHeadRun.getT s)
theorem seenAt_eq (s : PySem.W.SharedT) : seenAt s = hookAt.obs s.abs := He.obsX_eq (HandSHeadRun.getT_eq s)
def namesAt : List Str := [("LONGEST_NAME" : Str), ("is_name" : Str), ("is_whole_number" : Str), ("MOST_BOOKS" : Str), ("is_pile" : Str), ("behind" : Str), ("lifted" : Str), ("passings" : Str), ("laid_on_top" : Str), ("books_above" : Str), ("pairs_of" : Str), ("as_pair" : Str), ("readings_by" : Str), ("undone" : Str), ("piles_for" : Str), ("fewest_to" : Str), ("liftable" : Str), ("put_back" : Str), ("orders_of" : Str), ("MOST_WANTED_BOOKS" : Str), ("MOST_READERS_OF_ONE" : Str), ("MOST_READERS" : Str), ("are_wants" : Str), ("far_pile" : Str), ("far_lifted" : Str), ("each_day" : Str), ("day_passings" : Str), ("is_want" : Str), ("books_rise" : Str), ("settled_pile" : Str), ("most" : Str), ("least" : Str), ("most_passings" : Str), ("amounts" : Str), ("most_day" : Str), ("least_day" : Str), ("_law_draw" : Str), ("_law_like" : Str), ("_law_three_right" : Str), ("_law_two_right" : Str)]
theorem runAt (w : World) : HandSHeadRun.RunEq rowX (PySem.W.view rowX.prog [46]) hookAt seenAt 4000 namesAt w := by
  intro os
  kernel_rfl
theorem tabs_nil {H : Hp} : Tabs H [] := fun P h => nomatch h
theorem tabs_cons {H : Hp} {A : Addr} {Ps : List Addr} (a : GxR.TabG H A) (b : Tabs H Ps) : Tabs H (A :: Ps) := fun P h => by
  rcases List.mem_cons.mp h with e | h
  · rw [e]
    exact a
  · exact b P h
theorem bindsK {K : PySem.W.Frag} {x qual : Str} {st : Stmt} {f : Addr} {fd : FuncData} {ps : List Str} {b : Bool} (F : Fun K x qual st f fd)
    (h : ∀ (kV doc pm : Value) (an : Option Addr) (cdv ct : Value) (us : List Value), us.length = ps.length → bindArgs (PySem.W.fnOf x qual (defArgs st) (defBody st) (defScope st) .none kV doc pm an cdv ct) ⟨[], (turnK b ps).zip us⟩ = pure (ps.zip (turnK b us))) :
    ∀ (s : Shared) (ws : List Value), ws.length = ps.length → BindsTo s fd ⟨[], (turnK b ps).zip ws⟩ (ps.zip (turnK b ws)) := fun s ws hl => by
  obtain ⟨oc, od, kV, doc, pm, an, cdv, ct, sl, rfl, lk, cd⟩ := F.ex
  exact .of_eq (h kV doc pm an cdv ct ws hl)
theorem fun_of {K : PySem.W.Frag} {x y : Str} {st : Stmt} {f : Addr} {fd : FuncData} (F : FunD K x y (defArgs st) (defBody st) (defScope st) [] [] f fd) : Fun K x y st f fd := by
  obtain ⟨oc, od, dV, kV, doc, pm, an, cdv, ct, sl, e, lk, cd, dfl, _⟩ := F.ex
  rcases dfl with ⟨_, rfl⟩ | ⟨no, _⟩
  · exact ⟨⟨oc, od, kV, doc, pm, an, cdv, ct, sl, e, lk, cd⟩, F.kp⟩
  · exact absurd rfl no
theorem code_at {K : PySem.W.Frag} {x y : Str} {st : Stmt} {p : He.Defn} {fd : FuncData} (F : Fun K x y st (He.fAd K p) fd) : fd.code = .ref (He.cT K p).1 := by
  obtain ⟨oc, od, kV, doc, pm, an, cdv, ct, sl, rfl, lk, cd⟩ := F.ex
  obtain ⟨c, rfl⟩ := He.codeIn_ref cd
  have e := He.codeOf_eq (c := c) lk rfl
  show Value.ref c = .ref (He.codeOf K p)
  rw [e]
theorem lawAt {w : World} {K : PySem.W.Frag} {h : Heap} {mg : Str → Option Value} {fa : Addr} (X : K.In h) (G : h.Ns mainGlobals mg) (hfa : mg ("law" : Str) = some (.ref fa)) (c : He.SaysX factsAt defsAt [] tabsAt (fun _ => true) w h K) :
    LamX.LawAtS PySem.Challenge.rw_laidontop_k11_written_cases_and_names w K CX0 8 63 "script" mg fa h := by
  have d := c.t.d
  obtain ⟨fd0, D0⟩ := d.def_ 0 (d := dd0) rfl
  have F0 : Fun K "is_name" "is_name" sIsName (He.fAd K ("is_name", none)) fd0 := fun_of D0
  have g0 : mg "is_name" = some (.ref (He.fAd K ("is_name", none))) := He.glo_ok X G (d.fact 0 (f := .glo "is_name") rfl)
  have b0 := F0.binds (ps := ["thing"]) fun _ _ _ _ _ _ us hl => match us, hl with | [_], _ => rfl
  obtain ⟨fd1, D1⟩ := d.def_ 1 (d := dd1) rfl
  have F1 : Fun K "is_whole_number" "is_whole_number" sWhole (He.fAd K ("is_whole_number", none)) fd1 := fun_of D1
  have g1 : mg "is_whole_number" = some (.ref (He.fAd K ("is_whole_number", none))) := He.glo_ok X G (d.fact 1 (f := .glo "is_whole_number") rfl)
  have b1 := F1.binds (ps := ["thing"]) fun _ _ _ _ _ _ us hl => match us, hl with | [_], _ => rfl
  obtain ⟨fd2, D2⟩ := d.def_ 2 (d := dd2) rfl
  have F2 : Fun K "is_pile" "is_pile" sIsPile (He.fAd K ("is_pile", none)) fd2 := fun_of D2
  have g2 : mg "is_pile" = some (.ref (He.fAd K ("is_pile", none))) := He.glo_ok X G (d.fact 2 (f := .glo "is_pile") rfl)
  have b2 := F2.binds (ps := ["thing"]) fun _ _ _ _ _ _ us hl => match us, hl with | [_], _ => rfl
  obtain ⟨fd3, D3⟩ := d.def_ 3 (d := dd3) rfl
  have F3 : Fun K "behind" "behind" sBehind (He.fAd K ("behind", none)) fd3 := fun_of D3
  have g3 : mg "behind" = some (.ref (He.fAd K ("behind", none))) := He.glo_ok X G (d.fact 3 (f := .glo "behind") rfl)
  have b3 := F3.binds (ps := ["pile", "readings"]) fun _ _ _ _ _ _ us hl => match us, hl with | [_, _], _ => rfl
  obtain ⟨fd4, D4⟩ := d.def_ 4 (d := dd4) rfl
  have F4 : Fun K "lifted" "lifted" sLifted (He.fAd K ("lifted", none)) fd4 := fun_of D4
  have g4 : mg "lifted" = some (.ref (He.fAd K ("lifted", none))) := He.glo_ok X G (d.fact 4 (f := .glo "lifted") rfl)
  have b4 := F4.binds (ps := ["pile", "readings"]) fun _ _ _ _ _ _ us hl => match us, hl with | [_, _], _ => rfl
  obtain ⟨fd5, D5⟩ := d.def_ 5 (d := dd5) rfl
  have F5 : Fun K "passings" "passings" sPassings (He.fAd K ("passings", none)) fd5 := fun_of D5
  have g5 : mg "passings" = some (.ref (He.fAd K ("passings", none))) := He.glo_ok X G (d.fact 5 (f := .glo "passings") rfl)
  have b5 := F5.binds (ps := ["pile", "readings"]) fun _ _ _ _ _ _ us hl => match us, hl with | [_, _], _ => rfl
  obtain ⟨fd6, D6⟩ := d.def_ 6 (d := dd6) rfl
  have F6 : Fun K "laid_on_top" "laid_on_top" sLaid (He.fAd K ("laid_on_top", none)) fd6 := fun_of D6
  have g6 : mg "laid_on_top" = some (.ref (He.fAd K ("laid_on_top", none))) := He.glo_ok X G (d.fact 6 (f := .glo "laid_on_top") rfl)
  have b6 := F6.binds (ps := ["pile", "book"]) fun _ _ _ _ _ _ us hl => match us, hl with | [_, _], _ => rfl
  obtain ⟨fd7, D7⟩ := d.def_ 7 (d := dd7) rfl
  have F7 : Fun K "books_above" "books_above" sAbove (He.fAd K ("books_above", none)) fd7 := fun_of D7
  have g7 : mg "books_above" = some (.ref (He.fAd K ("books_above", none))) := He.glo_ok X G (d.fact 7 (f := .glo "books_above") rfl)
  have b7 := F7.binds (ps := ["pile", "book"]) fun _ _ _ _ _ _ us hl => match us, hl with | [_, _], _ => rfl
  obtain ⟨fd8, D8⟩ := d.def_ 8 (d := dd8) rfl
  have F8 : Fun K "pairs_of" "pairs_of" sPairs (He.fAd K ("pairs_of", none)) fd8 := fun_of D8
  have g8 : mg "pairs_of" = some (.ref (He.fAd K ("pairs_of", none))) := He.glo_ok X G (d.fact 8 (f := .glo "pairs_of") rfl)
  have b8 := F8.binds (ps := ["books"]) fun _ _ _ _ _ _ us hl => match us, hl with | [_], _ => rfl
  obtain ⟨fd9, D9⟩ := d.def_ 9 (d := dd9) rfl
  have F9 : Fun K "as_pair" "as_pair" sAsPair (He.fAd K ("as_pair", none)) fd9 := fun_of D9
  have g9 : mg "as_pair" = some (.ref (He.fAd K ("as_pair", none))) := He.glo_ok X G (d.fact 9 (f := .glo "as_pair") rfl)
  have b9 := F9.binds (ps := ["book", "passed"]) fun _ _ _ _ _ _ us hl => match us, hl with | [_, _], _ => rfl
  obtain ⟨fd10, D10⟩ := d.def_ 10 (d := dd10) rfl
  have F10 : Fun K "readings_by" "readings_by" sReadBy (He.fAd K ("readings_by", none)) fd10 := fun_of D10
  have g10 : mg "readings_by" = some (.ref (He.fAd K ("readings_by", none))) := He.glo_ok X G (d.fact 10 (f := .glo "readings_by") rfl)
  have b10 := F10.binds (ps := ["pile", "numbers"]) fun _ _ _ _ _ _ us hl => match us, hl with | [_, _], _ => rfl
  obtain ⟨fd11, D11⟩ := d.def_ 11 (d := dd11) rfl
  have F11 : Fun K "undone" "undone" sUndone (He.fAd K ("undone", none)) fd11 := fun_of D11
  have g11 : mg "undone" = some (.ref (He.fAd K ("undone", none))) := He.glo_ok X G (d.fact 11 (f := .glo "undone") rfl)
  have b11 := F11.binds (ps := ["pile", "numbers"]) fun _ _ _ _ _ _ us hl => match us, hl with | [_, _], _ => rfl
  obtain ⟨fd12, D12⟩ := d.def_ 12 (d := dd12) rfl
  have F12 : Fun K "piles_for" "piles_for" sPilesFor (He.fAd K ("piles_for", none)) fd12 := fun_of D12
  have g12 : mg "piles_for" = some (.ref (He.fAd K ("piles_for", none))) := He.glo_ok X G (d.fact 12 (f := .glo "piles_for") rfl)
  have b12 := F12.binds (ps := ["pile", "readings", "numbers"]) fun _ _ _ _ _ _ us hl => match us, hl with | [_, _, _], _ => rfl
  obtain ⟨fd13, D13⟩ := d.def_ 13 (d := dd13) rfl
  have F13 : Fun K "fewest_to" "fewest_to" sFew (He.fAd K ("fewest_to", none)) fd13 := fun_of D13
  have g13 : mg "fewest_to" = some (.ref (He.fAd K ("fewest_to", none))) := He.glo_ok X G (d.fact 13 (f := .glo "fewest_to") rfl)
  have b13 := F13.binds (ps := ["pile", "other"]) fun _ _ _ _ _ _ us hl => match us, hl with | [_, _], _ => rfl
  obtain ⟨fd14, D14⟩ := d.def_ 14 (d := dd14) rfl
  have F14 : Fun K "liftable" "liftable" sLiftable (He.fAd K ("liftable", none)) fd14 := fun_of D14
  have g14 : mg "liftable" = some (.ref (He.fAd K ("liftable", none))) := He.glo_ok X G (d.fact 14 (f := .glo "liftable") rfl)
  have b14 := F14.binds (ps := ["pile", "numbers"]) fun _ _ _ _ _ _ us hl => match us, hl with | [_, _], _ => rfl
  obtain ⟨fd15, D15⟩ := d.def_ 15 (d := dd15) rfl
  have F15 : Fun K "put_back" "put_back" sPut (He.fAd K ("put_back", none)) fd15 := fun_of D15
  have g15 : mg "put_back" = some (.ref (He.fAd K ("put_back", none))) := He.glo_ok X G (d.fact 15 (f := .glo "put_back") rfl)
  have b15 := F15.binds (ps := ["pile", "number"]) fun _ _ _ _ _ _ us hl => match us, hl with | [_, _], _ => rfl
  obtain ⟨fd16, D16⟩ := d.def_ 16 (d := dd16) rfl
  have F16 : Fun K "orders_of" "orders_of" sOrdersOf (He.fAd K ("orders_of", none)) fd16 := fun_of D16
  have g16 : mg "orders_of" = some (.ref (He.fAd K ("orders_of", none))) := He.glo_ok X G (d.fact 16 (f := .glo "orders_of") rfl)
  have b16 := F16.binds (ps := ["books"]) fun _ _ _ _ _ _ us hl => match us, hl with | [_], _ => rfl
  obtain ⟨fd17, D17⟩ := d.def_ 17 (d := dd17) rfl
  have F17 : Fun K "are_wants" "are_wants" sAreWants (He.fAd K ("are_wants", none)) fd17 := fun_of D17
  have g17 : mg "are_wants" = some (.ref (He.fAd K ("are_wants", none))) := He.glo_ok X G (d.fact 17 (f := .glo "are_wants") rfl)
  have b17 := F17.binds (ps := ["thing"]) fun _ _ _ _ _ _ us hl => match us, hl with | [_], _ => rfl
  obtain ⟨fd18, D18⟩ := d.def_ 18 (d := dd18) rfl
  have F18 : Fun K "far_pile" "far_pile" sFarP (He.fAd K ("far_pile", none)) fd18 := fun_of D18
  have g18 : mg "far_pile" = some (.ref (He.fAd K ("far_pile", none))) := He.glo_ok X G (d.fact 18 (f := .glo "far_pile") rfl)
  have b18 := F18.binds (ps := ["pile", "day", "days"]) fun _ _ _ _ _ _ us hl => match us, hl with | [_, _, _], _ => rfl
  obtain ⟨fd19, D19⟩ := d.def_ 19 (d := dd19) rfl
  have F19 : Fun K "far_lifted" "far_lifted" sFarL (He.fAd K ("far_lifted", none)) fd19 := fun_of D19
  have g19 : mg "far_lifted" = some (.ref (He.fAd K ("far_lifted", none))) := He.glo_ok X G (d.fact 19 (f := .glo "far_lifted") rfl)
  have b19 := F19.binds (ps := ["pile", "day", "days"]) fun _ _ _ _ _ _ us hl => match us, hl with | [_, _, _], _ => rfl
  obtain ⟨fd20, D20⟩ := d.def_ 20 (d := dd20) rfl
  have F20 : Fun K "each_day" "each_day" sEach (He.fAd K ("each_day", none)) fd20 := fun_of D20
  have g20 : mg "each_day" = some (.ref (He.fAd K ("each_day", none))) := He.glo_ok X G (d.fact 20 (f := .glo "each_day") rfl)
  have b20 := F20.binds (ps := ["wants", "day"]) fun _ _ _ _ _ _ us hl => match us, hl with | [_, _], _ => rfl
  obtain ⟨fd21, D21⟩ := d.def_ 21 (d := dd21) rfl
  have F21 : Fun K "day_passings" "day_passings" sDayP (He.fAd K ("day_passings", none)) fd21 := fun_of D21
  have g21 : mg "day_passings" = some (.ref (He.fAd K ("day_passings", none))) := He.glo_ok X G (d.fact 21 (f := .glo "day_passings") rfl)
  have b21 := F21.binds (ps := ["wants", "day"]) fun _ _ _ _ _ _ us hl => match us, hl with | [_, _], _ => rfl
  obtain ⟨fd22, D22⟩ := d.def_ 22 (d := dd22) rfl
  have F22 : Fun K "is_want" "is_want" sIsWant (He.fAd K ("is_want", none)) fd22 := fun_of D22
  have g22 : mg "is_want" = some (.ref (He.fAd K ("is_want", none))) := He.glo_ok X G (d.fact 22 (f := .glo "is_want") rfl)
  have b22 := F22.binds (ps := ["thing"]) fun _ _ _ _ _ _ us hl => match us, hl with | [_], _ => rfl
  obtain ⟨fd23, D23⟩ := d.def_ 23 (d := dd23) rfl
  have F23 : Fun K "books_rise" "books_rise" sRise (He.fAd K ("books_rise", none)) fd23 := fun_of D23
  have g23 : mg "books_rise" = some (.ref (He.fAd K ("books_rise", none))) := He.glo_ok X G (d.fact 23 (f := .glo "books_rise") rfl)
  have b23 := F23.binds (ps := ["wants"]) fun _ _ _ _ _ _ us hl => match us, hl with | [_], _ => rfl
  obtain ⟨fd24, D24⟩ := d.def_ 24 (d := dd24) rfl
  have F24 : Fun K "settled_pile" "settled_pile" sSettled (He.fAd K ("settled_pile", none)) fd24 := fun_of D24
  have g24 : mg "settled_pile" = some (.ref (He.fAd K ("settled_pile", none))) := He.glo_ok X G (d.fact 24 (f := .glo "settled_pile") rfl)
  have b24 := F24.binds (ps := ["wants", "day"]) fun _ _ _ _ _ _ us hl => match us, hl with | [_, _], _ => rfl
  obtain ⟨fd25, D25⟩ := d.def_ 25 (d := dd25) rfl
  have F25 : Fun K "most" "most" sMost (He.fAd K ("most", none)) fd25 := fun_of D25
  have g25 : mg "most" = some (.ref (He.fAd K ("most", none))) := He.glo_ok X G (d.fact 25 (f := .glo "most") rfl)
  have b25 := F25.binds (ps := ["wants"]) fun _ _ _ _ _ _ us hl => match us, hl with | [_], _ => rfl
  obtain ⟨fd26, D26⟩ := d.def_ 26 (d := dd26) rfl
  have F26 : Fun K "least" "least" sLeast (He.fAd K ("least", none)) fd26 := fun_of D26
  have g26 : mg "least" = some (.ref (He.fAd K ("least", none))) := He.glo_ok X G (d.fact 26 (f := .glo "least") rfl)
  have b26 := F26.binds (ps := ["wants"]) fun _ _ _ _ _ _ us hl => match us, hl with | [_], _ => rfl
  obtain ⟨fd27, D27⟩ := d.def_ 27 (d := dd27) rfl
  have F27 : Fun K "most_passings" "most_passings" sMostP (He.fAd K ("most_passings", none)) fd27 := fun_of D27
  have g27 : mg "most_passings" = some (.ref (He.fAd K ("most_passings", none))) := He.glo_ok X G (d.fact 27 (f := .glo "most_passings") rfl)
  have b27 := F27.binds (ps := ["wants"]) fun _ _ _ _ _ _ us hl => match us, hl with | [_], _ => rfl
  obtain ⟨fd28, D28⟩ := d.def_ 28 (d := dd28) rfl
  have F28 : Fun K "amounts" "amounts" sAmounts (He.fAd K ("amounts", none)) fd28 := fun_of D28
  have g28 : mg "amounts" = some (.ref (He.fAd K ("amounts", none))) := He.glo_ok X G (d.fact 28 (f := .glo "amounts") rfl)
  have b28 := F28.binds (ps := ["wants"]) fun _ _ _ _ _ _ us hl => match us, hl with | [_], _ => rfl
  obtain ⟨fd29, D29⟩ := d.def_ 29 (d := dd29) rfl
  have F29 : Fun K "most_day" "most_day" sMostDay (He.fAd K ("most_day", none)) fd29 := fun_of D29
  have g29 : mg "most_day" = some (.ref (He.fAd K ("most_day", none))) := He.glo_ok X G (d.fact 29 (f := .glo "most_day") rfl)
  have b29 := F29.binds (ps := ["wants"]) fun _ _ _ _ _ _ us hl => match us, hl with | [_], _ => rfl
  obtain ⟨fd30, D30⟩ := d.def_ 30 (d := dd30) rfl
  have F30 : Fun K "least_day" "least_day" sLeastDay (He.fAd K ("least_day", none)) fd30 := fun_of D30
  have g30 : mg "least_day" = some (.ref (He.fAd K ("least_day", none))) := He.glo_ok X G (d.fact 30 (f := .glo "least_day") rfl)
  have b30 := F30.binds (ps := ["wants"]) fun _ _ _ _ _ _ us hl => match us, hl with | [_], _ => rfl
  obtain ⟨fd31, D31⟩ := d.def_ 31 (d := dd31) rfl
  have F31 : Fun K "_law_draw" "_law_draw" sDraw (He.fAd K ("_law_draw", none)) fd31 := fun_of D31
  have g31 : mg "_law_draw" = some (.ref (He.fAd K ("_law_draw", none))) := He.glo_ok X G (d.fact 31 (f := .glo "_law_draw") rfl)
  have b31 := F31.binds (ps := ["tape", "many"]) fun _ _ _ _ _ _ us hl => match us, hl with | [_, _], _ => rfl
  obtain ⟨fd32, D32⟩ := d.def_ 32 (d := dd32) rfl
  have F32 : Fun K "_law_like" "_law_like" sLike (He.fAd K ("_law_like", none)) fd32 := fun_of D32
  have g32 : mg "_law_like" = some (.ref (He.fAd K ("_law_like", none))) := He.glo_ok X G (d.fact 32 (f := .glo "_law_like") rfl)
  have b32 := F32.binds (ps := ["one", "two"]) fun _ _ _ _ _ _ us hl => match us, hl with | [_, _], _ => rfl
  obtain ⟨fd33, D33⟩ := d.def_ 33 (d := dd33) rfl
  have F33 : Fun K "_law_three_right" "_law_three_right" sThree (He.fAd K ("_law_three_right", none)) fd33 := fun_of D33
  have g33 : mg "_law_three_right" = some (.ref (He.fAd K ("_law_three_right", none))) := He.glo_ok X G (d.fact 33 (f := .glo "_law_three_right") rfl)
  have b33 := F33.binds (ps := []) fun _ _ _ _ _ _ us hl => match us, hl with | [], _ => rfl
  obtain ⟨fd34, D34⟩ := d.def_ 34 (d := dd34) rfl
  have F34 : Fun K "_law_two_right" "_law_two_right" sTwoR (He.fAd K ("_law_two_right", none)) fd34 := fun_of D34
  have g34 : mg "_law_two_right" = some (.ref (He.fAd K ("_law_two_right", none))) := He.glo_ok X G (d.fact 34 (f := .glo "_law_two_right") rfl)
  have b34 := F34.binds (ps := ["many"]) fun _ _ _ _ _ _ us hl => match us, hl with | [_], _ => rfl
  obtain ⟨fd35, D35⟩ := d.def_ 35 (d := dd35) rfl
  have F35 : Fun K "law" "law" sLaw (He.fAd K ("law", none)) fd35 := fun_of D35
  have g35 : mg "law" = some (.ref (He.fAd K ("law", none))) := He.glo_ok X G (d.fact 35 (f := .glo "law") rfl)
  have B : Bi mg := ⟨He.free_ok X G (d.fact 36 (f := .free "len") rfl), He.free_ok X G (d.fact 37 (f := .free "range") rfl), He.free_ok X G (d.fact 38 (f := .free "tuple") rfl), He.free_ok X G (d.fact 39 (f := .free "list") rfl), He.free_ok X G (d.fact 40 (f := .free "sorted") rfl), He.free_ok X G (d.fact 41 (f := .free "enumerate") rfl), He.free_ok X G (d.fact 42 (f := .free "isinstance") rfl), He.free_ok X G (d.fact 43 (f := .free "bool") rfl), He.free_ok X G (d.fact 44 (f := .free "set") rfl), He.free_ok X G (d.fact 45 (f := .free "sum") rfl), He.free_ok X G (d.fact 46 (f := .free "min") rfl), He.free_ok X G (d.fact 47 (f := .free "max") rfl), He.free_ok X G (d.fact 48 (f := .free "dict") rfl), He.free_ok X G (d.fact 49 (f := .free "reversed") rfl), He.free_ok X G (d.fact 50 (f := .free "all") rfl), He.free_ok X G (d.fact 51 (f := .free "any") rfl), He.free_ok X G (d.fact 52 (f := .free "int") rfl), He.free_ok X G (d.fact 53 (f := .free "str") rfl), He.free_ok X G (d.fact 54 (f := .free "zip") rfl)⟩
  obtain ⟨ti0, mi0⟩ := He.int_ok X G (d.fact 55 (f := .int "LONGEST_NAME" 8) rfl)
  obtain ⟨ti1, mi1⟩ := He.int_ok X G (d.fact 56 (f := .int "MOST_BOOKS" 7) rfl)
  obtain ⟨ti2, mi2⟩ := He.int_ok X G (d.fact 57 (f := .int "MOST_WANTED_BOOKS" 5) rfl)
  obtain ⟨ti3, mi3⟩ := He.int_ok X G (d.fact 58 (f := .int "MOST_READERS_OF_ONE" 4) rfl)
  obtain ⟨ti4, mi4⟩ := He.int_ok X G (d.fact 59 (f := .int "MOST_READERS" 7) rfl)
  have e := hfa.symm.trans g35
  cases e
  have bl := FunD.bindsA (ps := ["script"]) D35 fun _ _ _ _ _ _ us hl => match us, hl with | [_], _ => rfl
  have in0 : tab0 ∈ tabsAt := by simp [tabsAt]
  have im0 : He.cT K tab0 ∈ tabsAt.map (He.cT K) := List.mem_map.mpr ⟨_, in0, rfl⟩
  have in1 : tab1 ∈ tabsAt := by simp [tabsAt]
  have im1 : He.cT K tab1 ∈ tabsAt.map (He.cT K) := List.mem_map.mpr ⟨_, in1, rfl⟩
  have in2 : tab2 ∈ tabsAt := by simp [tabsAt]
  have im2 : He.cT K tab2 ∈ tabsAt.map (He.cT K) := List.mem_map.mpr ⟨_, in2, rfl⟩
  have in3 : tab3 ∈ tabsAt := by simp [tabsAt]
  have im3 : He.cT K tab3 ∈ tabsAt.map (He.cT K) := List.mem_map.mpr ⟨_, in3, rfl⟩
  have in4 : tab4 ∈ tabsAt := by simp [tabsAt]
  have im4 : He.cT K tab4 ∈ tabsAt.map (He.cT K) := List.mem_map.mpr ⟨_, in4, rfl⟩
  have in5 : tab5 ∈ tabsAt := by simp [tabsAt]
  have im5 : He.cT K tab5 ∈ tabsAt.map (He.cT K) := List.mem_map.mpr ⟨_, in5, rfl⟩
  have one : ∀ p ∈ tabsAt.map (He.cT K), ∃ t ∈ tabsAt, p = He.cT K t := fun p hp => by
    obtain ⟨t, ht, e⟩ := List.mem_map.mp hp
    exact ⟨t, ht, e.symm⟩
  refine ⟨fd35, tabsAt.map (He.cT K), spLawN K [(He.cT K tab0).2, (He.cT K tab1).2, (He.cT K tab2).2, (He.cT K tab3).2, (He.cT K tab4).2, (He.cT K tab5).2], fun p hp => ?_, fun p hp => ?_, fun p hp => ?_, fun s v => bl s [v] rfl, fun H a ns hl _ hH hS => ?_, fun base _ _ TBs => ?_⟩
  · obtain ⟨t, ht, rfl⟩ := one p hp
    exact c.empty t ht
  · obtain ⟨t, ht, rfl⟩ := one p hp
    exact c.out t ht
  · obtain ⟨t, ht, rfl⟩ := one p hp
    exact PySem.W.codeHd_of_K X (c.hd t ht)
  · exact ⟨a, ns, rfl, hS, hl, tabs_cons ⟨#[], hH _ im0, by first | trivial | exact rfl | simp [TriplesOk]⟩ (tabs_cons ⟨#[], hH _ im1, by first | trivial | exact rfl | simp [TriplesOk]⟩ (tabs_cons ⟨#[], hH _ im2, by first | trivial | exact rfl | simp [TriplesOk]⟩ (tabs_cons ⟨#[], hH _ im3, by first | trivial | exact rfl | simp [TriplesOk]⟩ (tabs_cons ⟨#[], hH _ im4, by first | trivial | exact rfl | simp [TriplesOk]⟩ (tabs_cons ⟨#[], hH _ im5, by first | trivial | exact rfl | simp [TriplesOk]⟩ tabs_nil))))), fun _ => rfl⟩
  · have tb0 := TBs _ im0
    have TB0 : GxR.TabB base mg (He.cT K tab0).1 (He.cT K tab0).2 := ⟨tb0.code, tb0.bm, tb0.gP⟩
    have tb1 := TBs _ im1
    have TB1 : GxR.TabB base mg (He.cT K tab1).1 (He.cT K tab1).2 := ⟨tb1.code, tb1.bm, tb1.gP⟩
    have tb2 := TBs _ im2
    have TB2 : GxR.TabB base mg (He.cT K tab2).1 (He.cT K tab2).2 := ⟨tb2.code, tb2.bm, tb2.gP⟩
    have tb3 := TBs _ im3
    have TB3 : GxR.TabB base mg (He.cT K tab3).1 (He.cT K tab3).2 := ⟨tb3.code, tb3.bm, tb3.gP⟩
    have tb4 := TBs _ im4
    have TB4 : GxR.TabB base mg (He.cT K tab4).1 (He.cT K tab4).2 := ⟨tb4.code, tb4.bm, tb4.gP⟩
    have tb5 := TBs _ im5
    have TB5 : GxR.TabB base mg (He.cT K tab5).1 (He.cT K tab5).2 := ⟨tb5.code, tb5.bm, tb5.gP⟩
    have cD : Has PySem.Challenge.rw_laidontop_k11_written_cases_and_names.prog w K mg base 1 "_law_draw" ["tape", "many"] spDraw := ⟨_, _, ok_draw F31 B.len, g31, F31.kp, b31⟩
    have cLk : Has PySem.Challenge.rw_laidontop_k11_written_cases_and_names.prog w K mg base 4 "_law_like" ["one", "two"] (spLike K 4) := ⟨_, _, like_all F32 B g32 b32 4, g32, F32.kp, b32⟩
    have cLd : Has PySem.Challenge.rw_laidontop_k11_written_cases_and_names.prog w K mg base 1 "laid_on_top" ["pile", "book"] spLaid := ⟨_, _, ok_laid F6, g6, F6.kp, b6⟩
    have cAb : Has PySem.Challenge.rw_laidontop_k11_written_cases_and_names.prog w K mg base 1 "books_above" ["pile", "book"] spAbove := ⟨_, _, ok_above F7, g7, F7.kp, b7⟩
    have cPr : Has PySem.Challenge.rw_laidontop_k11_written_cases_and_names.prog w K mg base 1 "pairs_of" ["books"] (spPairs K) := ⟨_, _, ok_pairs F8 B, g8, F8.kp, b8⟩
    have cAs : Has PySem.Challenge.rw_laidontop_k11_written_cases_and_names.prog w K mg base 1 "as_pair" ["book", "passed"] spAsPair := ⟨_, _, ok_asPair F9, g9, F9.kp, b9⟩
    have cBt : Has PySem.Challenge.rw_laidontop_k11_written_cases_and_names.prog w K mg base 2 "behind" ["pile", "readings"] (spBehindT K) := ⟨_, _, ok_behindT F3 cLd, g3, F3.kp, b3⟩
    have cLt : Has PySem.Challenge.rw_laidontop_k11_written_cases_and_names.prog w K mg base 2 "lifted" ["pile", "readings"] (spLiftedT K) := ⟨_, _, ok_liftedT F4 cLd, g4, F4.kp, b4⟩
    have cPt : Has PySem.Challenge.rw_laidontop_k11_written_cases_and_names.prog w K mg base 2 "passings" ["pile", "readings"] (spPassT K) := ⟨_, _, ok_passT F5 cLd cAb cPr cAs, g5, F5.kp, b5⟩
    have cBe : Has PySem.Challenge.rw_laidontop_k11_written_cases_and_names.prog w K mg base 2 "behind" ["pile", "readings"] spBehind := ⟨_, _, ok_behind F3 cLd, g3, F3.kp, b3⟩
    have cLi : Has PySem.Challenge.rw_laidontop_k11_written_cases_and_names.prog w K mg base 2 "lifted" ["pile", "readings"] spLifted := ⟨_, _, ok_lifted F4 cLd, g4, F4.kp, b4⟩
    have cPa : Has PySem.Challenge.rw_laidontop_k11_written_cases_and_names.prog w K mg base 2 "passings" ["pile", "readings"] (spPassings K) := ⟨_, _, ok_passings F5 cLd cAb cPr cAs, g5, F5.kp, b5⟩
    have kBe : HasK PySem.Challenge.rw_laidontop_k11_written_cases_and_names.prog w K mg base 2 "behind" ["pile", "readings"] false spBehind := ⟨_, _, ok_behind F3 cLd, g3, F3.kp, bindsK F3 fun _ _ _ _ _ _ us hl => match us, hl with | [_, _], _ => rfl⟩
    have kLi : HasK PySem.Challenge.rw_laidontop_k11_written_cases_and_names.prog w K mg base 2 "lifted" ["pile", "readings"] false spLifted := ⟨_, _, ok_lifted F4 cLd, g4, F4.kp, bindsK F4 fun _ _ _ _ _ _ us hl => match us, hl with | [_, _], _ => rfl⟩
    have kPa : HasK PySem.Challenge.rw_laidontop_k11_written_cases_and_names.prog w K mg base 2 "passings" ["pile", "readings"] false (spPassings K) := ⟨_, _, ok_passings F5 cLd cAb cPr cAs, g5, F5.kp, bindsK F5 fun _ _ _ _ _ _ us hl => match us, hl with | [_, _], _ => rfl⟩
    have cPu : Has PySem.Challenge.rw_laidontop_k11_written_cases_and_names.prog w K mg base 1 "put_back" ["pile", "number"] spPut := ⟨_, _, ok_put F15, g15, F15.kp, b15⟩
    have cLf : Has PySem.Challenge.rw_laidontop_k11_written_cases_and_names.prog w K mg base 1 "liftable" ["pile", "numbers"] (spLiftable K) := ⟨_, _, ok_liftable F14 B, g14, F14.kp, b14⟩
    have cUn : Has PySem.Challenge.rw_laidontop_k11_written_cases_and_names.prog w K mg base 2 "undone" ["pile", "numbers"] (spUndone K) := ⟨_, _, ok_undone F11 B cPu cLf, g11, F11.kp, b11⟩
    have kUn : HasK PySem.Challenge.rw_laidontop_k11_written_cases_and_names.prog w K mg base 2 "undone" ["pile", "numbers"] false (spUndone K) := ⟨_, _, ok_undone F11 B cPu cLf, g11, F11.kp, bindsK F11 fun _ _ _ _ _ _ us hl => match us, hl with | [_, _], _ => rfl⟩
    have cRb : Has PySem.Challenge.rw_laidontop_k11_written_cases_and_names.prog w K mg base 2 "readings_by" ["pile", "numbers"] (spReadBy K) := ⟨_, _, ok_readBy F10 cLd cLf, g10, F10.kp, b10⟩
    have kRb : HasK PySem.Challenge.rw_laidontop_k11_written_cases_and_names.prog w K mg base 2 "readings_by" ["pile", "numbers"] false (spReadBy K) := ⟨_, _, ok_readBy F10 cLd cLf, g10, F10.kp, bindsK F10 fun _ _ _ _ _ _ us hl => match us, hl with | [_, _], _ => rfl⟩
    have cOf : Has PySem.Challenge.rw_laidontop_k11_written_cases_and_names.prog w K mg base 1 "orders_of" ["books"] (spOrdersOf K) := ⟨_, _, ok_ordersOf F16 B, g16, F16.kp, b16⟩
    have cPf : Has PySem.Challenge.rw_laidontop_k11_written_cases_and_names.prog w K mg base 3 "piles_for" ["pile", "readings", "numbers"] (spPilesFor K) := ⟨_, _, ok_pilesFor F12 B cBe cLi cUn cOf, g12, F12.kp, b12⟩
    have kPf : HasK PySem.Challenge.rw_laidontop_k11_written_cases_and_names.prog w K mg base 3 "piles_for" ["pile", "readings", "numbers"] false (spPilesFor K) := ⟨_, _, ok_pilesFor F12 B cBe cLi cUn cOf, g12, F12.kp, bindsK F12 fun _ _ _ _ _ _ us hl => match us, hl with | [_, _, _], _ => rfl⟩
    have cFw : Has PySem.Challenge.rw_laidontop_k11_written_cases_and_names.prog w K mg base 1 "fewest_to" ["pile", "other"] (spFew K) := ⟨_, _, ok_few F13 B, g13, F13.kp, b13⟩
    have kFw : HasK PySem.Challenge.rw_laidontop_k11_written_cases_and_names.prog w K mg base 1 "fewest_to" ["pile", "other"] false (spFew K) := ⟨_, _, ok_few F13 B, g13, F13.kp, bindsK F13 fun _ _ _ _ _ _ us hl => match us, hl with | [_, _], _ => rfl⟩
    have kFr : HasK PySem.Challenge.rw_laidontop_k11_written_cases_and_names.prog w K mg base 1 "fewest_to" ["pile", "other"] true (spFew K) := ⟨_, _, ok_few F13 B, g13, F13.kp, bindsK F13 fun _ _ _ _ _ _ us hl => match us, hl with | [_, _], _ => rfl⟩
    have cNm : Has PySem.Challenge.rw_laidontop_k11_written_cases_and_names.prog w K mg base 1 "is_name" ["thing"] (spName K (He.cT K tab0).2) := ⟨_, _, ok_isName F0 (code_at (p := tab0) F0) TB0 B mi0, g0, F0.kp, b0⟩
    have cIp : Has PySem.Challenge.rw_laidontop_k11_written_cases_and_names.prog w K mg base 3 "is_pile" ["thing"] (spIsPileN K [(He.cT K tab0).2, (He.cT K tab1).2, (He.cT K tab2).2, (He.cT K tab3).2, (He.cT K tab4).2, (He.cT K tab5).2]) := ⟨_, _, ok_isPileN F2 (code_at (p := tab1) F2) TB1 (by simp) (by simp) B mi1 cNm, g2, F2.kp, b2⟩
    have kIp : HasK PySem.Challenge.rw_laidontop_k11_written_cases_and_names.prog w K mg base 3 "is_pile" ["thing"] false (spIsPileN K [(He.cT K tab0).2, (He.cT K tab1).2, (He.cT K tab2).2, (He.cT K tab3).2, (He.cT K tab4).2, (He.cT K tab5).2]) := ⟨_, _, ok_isPileN F2 (code_at (p := tab1) F2) TB1 (by simp) (by simp) B mi1 cNm, g2, F2.kp, bindsK F2 fun _ _ _ _ _ _ us hl => match us, hl with | [_], _ => rfl⟩
    have cWh : Has PySem.Challenge.rw_laidontop_k11_written_cases_and_names.prog w K mg base 1 "is_whole_number" ["thing"] (spWhole K) := ⟨_, _, ok_whole F1 B, g1, F1.kp, b1⟩
    have cIw : Has PySem.Challenge.rw_laidontop_k11_written_cases_and_names.prog w K mg base 2 "is_want" ["thing"] (spWant K (He.cT K tab0).2) := ⟨_, _, ok_isWant F22 B mi3 cNm cWh, g22, F22.kp, b22⟩
    have cRi : Has PySem.Challenge.rw_laidontop_k11_written_cases_and_names.prog w K mg base 1 "books_rise" ["wants"] (spRise K) := ⟨_, _, ok_rise F23 B, g23, F23.kp, b23⟩
    have cAw : Has PySem.Challenge.rw_laidontop_k11_written_cases_and_names.prog w K mg base 4 "are_wants" ["thing"] (spAreWants K [(He.cT K tab0).2, (He.cT K tab1).2, (He.cT K tab2).2, (He.cT K tab3).2, (He.cT K tab4).2, (He.cT K tab5).2]) := ⟨_, _, ok_areWants F17 (code_at (p := tab2) F17) TB2 (by simp) (by simp) B mi2 mi4 cIw cRi, g17, F17.kp, b17⟩
    have kAw : HasK PySem.Challenge.rw_laidontop_k11_written_cases_and_names.prog w K mg base 4 "are_wants" ["thing"] false (spAreWants K [(He.cT K tab0).2, (He.cT K tab1).2, (He.cT K tab2).2, (He.cT K tab3).2, (He.cT K tab4).2, (He.cT K tab5).2]) := ⟨_, _, ok_areWants F17 (code_at (p := tab2) F17) TB2 (by simp) (by simp) B mi2 mi4 cIw cRi, g17, F17.kp, bindsK F17 fun _ _ _ _ _ _ us hl => match us, hl with | [_], _ => rfl⟩
    have cFp : Has PySem.Challenge.rw_laidontop_k11_written_cases_and_names.prog w K mg base 3 "far_pile" ["pile", "day", "days"] (spFarP K) := ⟨_, _, ok_farP F18 cBt, g18, F18.kp, b18⟩
    have kFp : HasK PySem.Challenge.rw_laidontop_k11_written_cases_and_names.prog w K mg base 3 "far_pile" ["pile", "day", "days"] false (spFarP K) := ⟨_, _, ok_farP F18 cBt, g18, F18.kp, bindsK F18 fun _ _ _ _ _ _ us hl => match us, hl with | [_, _, _], _ => rfl⟩
    have cFl : Has PySem.Challenge.rw_laidontop_k11_written_cases_and_names.prog w K mg base 3 "far_lifted" ["pile", "day", "days"] (spFarL K) := ⟨_, _, ok_farL F19 B cBt cLt, g19, F19.kp, b19⟩
    have kFl : HasK PySem.Challenge.rw_laidontop_k11_written_cases_and_names.prog w K mg base 3 "far_lifted" ["pile", "day", "days"] false (spFarL K) := ⟨_, _, ok_farL F19 B cBt cLt, g19, F19.kp, bindsK F19 fun _ _ _ _ _ _ us hl => match us, hl with | [_, _, _], _ => rfl⟩
    have cSe : Has PySem.Challenge.rw_laidontop_k11_written_cases_and_names.prog w K mg base 3 "settled_pile" ["wants", "day"] (spSettledN K [(He.cT K tab0).2, (He.cT K tab1).2, (He.cT K tab2).2, (He.cT K tab3).2, (He.cT K tab4).2, (He.cT K tab5).2]) := ⟨_, _, ok_settledN F24 (code_at (p := tab3) F24) TB3 (by simp) B cBt, g24, F24.kp, b24⟩
    have cEa : Has PySem.Challenge.rw_laidontop_k11_written_cases_and_names.prog w K mg base 4 "each_day" ["wants", "day"] (spEachN K [(He.cT K tab0).2, (He.cT K tab1).2, (He.cT K tab2).2, (He.cT K tab3).2, (He.cT K tab4).2, (He.cT K tab5).2]) := ⟨_, _, ok_eachN F20 B cSe cLt, g20, F20.kp, b20⟩
    have kEa : HasK PySem.Challenge.rw_laidontop_k11_written_cases_and_names.prog w K mg base 4 "each_day" ["wants", "day"] false (spEachN K [(He.cT K tab0).2, (He.cT K tab1).2, (He.cT K tab2).2, (He.cT K tab3).2, (He.cT K tab4).2, (He.cT K tab5).2]) := ⟨_, _, ok_eachN F20 B cSe cLt, g20, F20.kp, bindsK F20 fun _ _ _ _ _ _ us hl => match us, hl with | [_, _], _ => rfl⟩
    have cDp : Has PySem.Challenge.rw_laidontop_k11_written_cases_and_names.prog w K mg base 4 "day_passings" ["wants", "day"] (spDayPN K [(He.cT K tab0).2, (He.cT K tab1).2, (He.cT K tab2).2, (He.cT K tab3).2, (He.cT K tab4).2, (He.cT K tab5).2]) := ⟨_, _, ok_dayPN F21 cSe cPt, g21, F21.kp, b21⟩
    have kDp : HasK PySem.Challenge.rw_laidontop_k11_written_cases_and_names.prog w K mg base 4 "day_passings" ["wants", "day"] false (spDayPN K [(He.cT K tab0).2, (He.cT K tab1).2, (He.cT K tab2).2, (He.cT K tab3).2, (He.cT K tab4).2, (He.cT K tab5).2]) := ⟨_, _, ok_dayPN F21 cSe cPt, g21, F21.kp, bindsK F21 fun _ _ _ _ _ _ us hl => match us, hl with | [_, _], _ => rfl⟩
    have cMd : Has PySem.Challenge.rw_laidontop_k11_written_cases_and_names.prog w K mg base 3 "most_day" ["wants"] (spMostDay [(He.cT K tab0).2, (He.cT K tab1).2, (He.cT K tab2).2, (He.cT K tab3).2, (He.cT K tab4).2, (He.cT K tab5).2]) := ⟨_, _, ok_mostDay F29 (code_at (p := tab4) F29) TB4 (by simp) B, g29, F29.kp, b29⟩
    have kMd : HasK PySem.Challenge.rw_laidontop_k11_written_cases_and_names.prog w K mg base 3 "most_day" ["wants"] false (spMostDay [(He.cT K tab0).2, (He.cT K tab1).2, (He.cT K tab2).2, (He.cT K tab3).2, (He.cT K tab4).2, (He.cT K tab5).2]) := ⟨_, _, ok_mostDay F29 (code_at (p := tab4) F29) TB4 (by simp) B, g29, F29.kp, bindsK F29 fun _ _ _ _ _ _ us hl => match us, hl with | [_], _ => rfl⟩
    have cLy : Has PySem.Challenge.rw_laidontop_k11_written_cases_and_names.prog w K mg base 3 "least_day" ["wants"] (spLeastDay [(He.cT K tab0).2, (He.cT K tab1).2, (He.cT K tab2).2, (He.cT K tab3).2, (He.cT K tab4).2, (He.cT K tab5).2]) := ⟨_, _, ok_leastDay F30 (code_at (p := tab5) F30) TB5 (by simp) B, g30, F30.kp, b30⟩
    have kLy : HasK PySem.Challenge.rw_laidontop_k11_written_cases_and_names.prog w K mg base 3 "least_day" ["wants"] false (spLeastDay [(He.cT K tab0).2, (He.cT K tab1).2, (He.cT K tab2).2, (He.cT K tab3).2, (He.cT K tab4).2, (He.cT K tab5).2]) := ⟨_, _, ok_leastDay F30 (code_at (p := tab5) F30) TB5 (by simp) B, g30, F30.kp, bindsK F30 fun _ _ _ _ _ _ us hl => match us, hl with | [_], _ => rfl⟩
    have cMo : Has PySem.Challenge.rw_laidontop_k11_written_cases_and_names.prog w K mg base 5 "most" ["wants"] (spMost [(He.cT K tab0).2, (He.cT K tab1).2, (He.cT K tab2).2, (He.cT K tab3).2, (He.cT K tab4).2, (He.cT K tab5).2]) := ⟨_, _, ok_most F25 cMd cEa, g25, F25.kp, b25⟩
    have kMo : HasK PySem.Challenge.rw_laidontop_k11_written_cases_and_names.prog w K mg base 5 "most" ["wants"] false (spMost [(He.cT K tab0).2, (He.cT K tab1).2, (He.cT K tab2).2, (He.cT K tab3).2, (He.cT K tab4).2, (He.cT K tab5).2]) := ⟨_, _, ok_most F25 cMd cEa, g25, F25.kp, bindsK F25 fun _ _ _ _ _ _ us hl => match us, hl with | [_], _ => rfl⟩
    have cLe : Has PySem.Challenge.rw_laidontop_k11_written_cases_and_names.prog w K mg base 5 "least" ["wants"] (spLeast [(He.cT K tab0).2, (He.cT K tab1).2, (He.cT K tab2).2, (He.cT K tab3).2, (He.cT K tab4).2, (He.cT K tab5).2]) := ⟨_, _, ok_least F26 cLy cEa, g26, F26.kp, b26⟩
    have kLe : HasK PySem.Challenge.rw_laidontop_k11_written_cases_and_names.prog w K mg base 5 "least" ["wants"] false (spLeast [(He.cT K tab0).2, (He.cT K tab1).2, (He.cT K tab2).2, (He.cT K tab3).2, (He.cT K tab4).2, (He.cT K tab5).2]) := ⟨_, _, ok_least F26 cLy cEa, g26, F26.kp, bindsK F26 fun _ _ _ _ _ _ us hl => match us, hl with | [_], _ => rfl⟩
    have cMp : Has PySem.Challenge.rw_laidontop_k11_written_cases_and_names.prog w K mg base 5 "most_passings" ["wants"] (spMostP K [(He.cT K tab0).2, (He.cT K tab1).2, (He.cT K tab2).2, (He.cT K tab3).2, (He.cT K tab4).2, (He.cT K tab5).2]) := ⟨_, _, ok_mostP F27 cMd cDp, g27, F27.kp, b27⟩
    have kMp : HasK PySem.Challenge.rw_laidontop_k11_written_cases_and_names.prog w K mg base 5 "most_passings" ["wants"] false (spMostP K [(He.cT K tab0).2, (He.cT K tab1).2, (He.cT K tab2).2, (He.cT K tab3).2, (He.cT K tab4).2, (He.cT K tab5).2]) := ⟨_, _, ok_mostP F27 cMd cDp, g27, F27.kp, bindsK F27 fun _ _ _ _ _ _ us hl => match us, hl with | [_], _ => rfl⟩
    have cAm : Has PySem.Challenge.rw_laidontop_k11_written_cases_and_names.prog w K mg base 6 "amounts" ["wants"] (spAmounts [(He.cT K tab0).2, (He.cT K tab1).2, (He.cT K tab2).2, (He.cT K tab3).2, (He.cT K tab4).2, (He.cT K tab5).2]) := ⟨_, _, ok_amounts F28 B cMo cLe, g28, F28.kp, b28⟩
    have kAm : HasK PySem.Challenge.rw_laidontop_k11_written_cases_and_names.prog w K mg base 6 "amounts" ["wants"] false (spAmounts [(He.cT K tab0).2, (He.cT K tab1).2, (He.cT K tab2).2, (He.cT K tab3).2, (He.cT K tab4).2, (He.cT K tab5).2]) := ⟨_, _, ok_amounts F28 B cMo cLe, g28, F28.kp, bindsK F28 fun _ _ _ _ _ _ us hl => match us, hl with | [_], _ => rfl⟩
    have cTh : Has PySem.Challenge.rw_laidontop_k11_written_cases_and_names.prog w K mg base 4 "_law_three_right" [] (spThree [(He.cT K tab0).2, (He.cT K tab1).2, (He.cT K tab2).2, (He.cT K tab3).2, (He.cT K tab4).2, (He.cT K tab5).2]) := ⟨_, _, ok_three F33 kIp kBe kLi kPa kRb kUn kPf kFw kFr cFw, g33, F33.kp, b33⟩
    have cTw : Has PySem.Challenge.rw_laidontop_k11_written_cases_and_names.prog w K mg base 7 "_law_two_right" ["many"] (spTwoR [(He.cT K tab0).2, (He.cT K tab1).2, (He.cT K tab2).2, (He.cT K tab3).2, (He.cT K tab4).2, (He.cT K tab5).2]) := ⟨_, _, ok_twoR F34 B kAw kEa kLe kDp kFl kFp cFl kMo cMo cEa kMd kMp kLy kAm, g34, F34.kp, b34⟩
    exact ok_law F35 B cD cLk cMo cLe cMp cAm cMd cEa cTh cTw
end Lt
open PySem PySem.W PySem.Calls PyProof.Rows in
set_option maxRecDepth 100000 in
set_option maxHeartbeats 0 in
theorem PySem.Challenge.cw_laidontop_k11_written_cases_and_names_holds : PySem.Challenge.rw_laidontop_k11_written_cases_and_names.Holds := by
  w_on; o_law
  refine HandSHeadRun.head_any (r := Lt.rowX) (q := view Lt.rowX.prog [46]) (H := Lt.hookAt) (ob := Lt.seenAt) (M := 4000) (loose := Lt.namesAt) (d := HandSHeadRun.topDef Lt.rowX.prog 46) (kwd := []) Lt.seenAt_eq (by kernel_rfl) (fun s => by kernel_rfl) Lt.runAt
    (by kernel_rfl) (by kernel_rfl) (by kernel_rfl) (by rfl) (by first | assumption | decide +kernel) (by decide +kernel) ⟨rfl, rfl, rfl, rfl, rfl, by decide +kernel⟩ ?hw ?hc
  case hw => w_witness2
  case hc =>
    refine LamX.walk_ofTsE (l := PySem.Challenge.rw_laidontop_k11_written_cases_and_names) (n := 63) (k := 8) (x := "script") (CX := fun _ => L2.CX0) rfl (by decide) (by kernel_rfl) ⟨rfl, by decide, by decide⟩ ?F (fun _ _ _ _ _ z => z)
    rintro w mg fa h ⟨K, KX, c⟩ G hm
    refine ⟨K, KX, Lt.lawAt KX G ?_ c⟩
    have e : (HandSHeadRun.topDef Lt.rowX.prog 46).name = ("law" : PySem.Str) := by kernel_rfl
    rw [← e]
    exact hm
