import PyProof.Rows.All
import Wide.All
import OpenK.AllK
import Wide.FinOn
import HandS.Base
import HandS.Call
import HandS.List
import HandS.Comp
import HandS.Dict
import HandS.More
import HandS.Words
import HandS.Strs
import HandS.TupAny
import KE.DataFind
import KE.Datum
import KE.GoesMore
import KE.GoesComp
import HandS.ForMost
import HandS.IsInst
import HandS.Wide
import HandS.Style
import HandS.Walk
import HandS.Evl
import PyProof.GenCompT
import PyProof.TupleOfGen
import HandS.AnyAll
import PyProof.Rows.SetFrom
import KE.KDictPairs
import HandS.Lambda
import HandS.EndTab
import HandS.HeadWalk
import HandS.HeadHook4
import HandS.Head2
import HandS.HeadEnd
import PySem.Challenge.RW_laidontop_k04_whole_days_done_again
set_option Elab.async false
set_option linter.all false
set_option maxRecDepth 100000
set_option maxHeartbeats 4000000
/-! Rules for what this text needs beside the hand layer's: a text taken out of a list, a tuple of texts sorted, a dict of a constant over tuple keys, methods of tuples. -/
namespace Lt
open PySem PySem.Spec PyProof.Rows L2

theorem erase_map {a b : Type} (f : a → b) : ∀ (l : List a) (j : Nat), (l.map f).eraseIdx j = (l.eraseIdx j).map f
  | [], j => by simp
  | x :: r, 0 => by simp
  | x :: r, j + 1 => by simp [erase_map f r j]
theorem txts_data {K : PySem.W.Frag} {H : Hp} : ∀ ss : List Str, DpAll K H (ss.map V.str) (ss.map PySem.W.Datum.toD)
  | [] => .nil
  | x :: r => .cons (.str x) (txts_data r)
section
variable {X : Cx}
def rRemS : V → List V → Hp → VK → Prop := fun x xs H Q => ∃ (l : Addr) (ss : List Str) (z : Str) (j : Nat),
  x = .ref l ∧ xs = [.str z] ∧ H l = some (.lst (ss.map V.str)) ∧ ss[j]? = some z ∧ (∀ m : Nat, m < j → ss[m]? ≠ some z) ∧
  Q .non (upd H l (.lst ((ss.eraseIdx j).map V.str)))
/-- xs.remove(y), texts: the first place of y goes -/
theorem mt_removeS (hu : X.A.units + 1 < cLine) : MtM X "list.remove" rRemS := by
  rintro pins s σ H _ _ v us Q inv relx relxs ⟨l, ss, z, j, rfl, rfl, hH, hj, hno, q⟩
  cases relx
  obtain ⟨_, rfl, t, rfl⟩ := relxs.one
  obtain ⟨hz, its, n, vals, hl, ho⟩ := inv.lstM hH
  have isl : s.heap.IsList l its.toArray := ⟨_, ho, rfl, n, rfl⟩
  obtain ⟨as, rds⟩ := Dp.readsAll inv (ss.map PySem.W.Datum.toD) (ss.map V.str) its (txts_data ss) vals
  have gone := vals.eraseIdx j
  rw [erase_map] at gone
  rw [List.length_map] at hz hl
  refine PySem.W.remove_list_datum (xs := ss) (x := z) isl ⟨as, by simpa using rds⟩ ⟨_, Reads.str z t⟩ (show X.A.units + 1 + 0 < cLine from hu) hj hno (by rw [List.size_toArray]; omega)
    ⟨.non, _, inv.lset (its' := its.eraseIdx j) (t' := s.toks) hH ho (by simp) gone ?_, rfl, q⟩
  have le := List.length_eraseIdx_le ss j
  rw [List.length_map]
  omega
/-- sorted(t), t a tuple of fewer than 64 texts -/
def rSortedT (K : PySem.W.Frag) : List V → Hp → VK → Prop := fun vs H Q => ∃ (a : Addr) (xs : List Str), vs = [V.ref a] ∧ SqT K H a (xs.map V.str) ∧ xs.length < 64 ∧
  ∀ (ys : List Str) (p : Addr), ys.Perm xs → sortedS ys = true → H p = none →
    Q (.ref p) (upd H p (.lst (ys.map V.str)))
theorem cr_sortedT : CallR X (.builtin "sorted") (rSortedT X.K) := by
  rintro pins s σ H _ us Q inv rel ⟨a, xs, rfl, sq, few, q⟩
  rw [Vals.ref1 rel]
  obtain ⟨its, vals, ⟨o, ho, hc, n, hd⟩, _⟩ := inv.tuple sq
  have len : its.length = xs.length := by rw [← vals.length, List.length_map]
  have txt : StrsAre its xs := vals.strs
  have fits : its.length ≤ sizeLine := Nat.le_trans (Nat.le_of_lt (len ▸ few)) (by decide)
  refine Calls.call_function_entry kind_sorted plain_sorted entry_sorted (args_sorted1 _) (wpAny_bind (m := checkCount "sorted" 1 1 _) (wpAny_pure
    (wpAny_bind (wpAny_collect_seq a (.inr rfl) ho hc hd (fun h1 kept => ?_) (by rw [List.size_toArray]; exact fits)))))
  have back : its.toArray.toList = its := by simp
  rw [back]
  refine wpAny_bind (wpAny_newList ?_ fits)
  have lst : (h1.push (seqObj "list" its.toArray 0)).get? h1.objs.size = some (seqObj "list" its.toArray 0) := Heap.get?_push_size _ rfl
  have inv1 : Inv X pins σ H { s with heap := h1 } := inv.kept (t' := s.toks) kept
  show wpAny _ _ _ _ _ { s with heap := h1.push (seqObj "list" its.toArray 0) }
  refine wpAny_bind (wpAny_holding (wpAny_call_entry slot_list_sort ⟨_, lst, rfl⟩ entry_list_sort (list_sort_treeK strKind_oneLt (s := { s with heap := h1.push (seqObj "list" its.toArray 0) }) lst txt.keysOf
    (fun v1 v2 rest e => keyKind_strs (by rw [← e]; exact txt)) (len ▸ few) fun st perm ord => ⟨_, rfl, ?_⟩) (args_list_sort _)))
  obtain ⟨ys, are, permS, ordS⟩ := sorted_out_str txt perm ord
  obtain ⟨ep, at1⟩ := sortedHeap_at (vs := its) (out := (arrOf st).map (·.2)) lst
  have lys : (ys.map V.str).length ≤ sizeLine := by
    rw [List.length_map, permS.length_eq]
    exact small64 few
  refine wpAny_pure ⟨_, rfl, .ref h1.objs.size, _, inv1.laid (t' := s.toks) (fun b u e => ?_) (Nat.le_refl _) (show ObjOk X.prog X.w _ _ _ (.lst (ys.map V.str)) from ⟨lys, _, ep, vals_of_strs are, by rw [Array.toArray_toList]; exact at1⟩), rfl,
    q ys _ permS ordS (inv1.hok.fresh (Nat.le_refl _))⟩
  have lt : b < h1.objs.size := Heap.lt_size e
  rw [sortedHeap_old (Nat.ne_of_lt lt) (by rw [size_push']; exact Nat.lt_succ_of_lt lt)]
  exact Heap.get?_push_of_some _ e
end
/-! ### {x: c for x in rows}, the rows tuples of ints and texts: over the library's DictComp_goes -/
def consts (c : Int) (ks : List (List Key)) : List (List Key × V) := ks.foldl (fun acc k => putK acc k (.int c)) []
theorem consts_snoc (c : Int) (ks : List (List Key)) (k : List Key) : consts c (ks ++ [k]) = putK (consts c ks) k (.int c) := by
  unfold consts
  rw [List.foldl_append]
  rfl
theorem consts_len (c : Int) (ks : List (List Key)) : (consts c ks).length ≤ ks.length := by
  have key : ∀ (ks : List (List Key)) (acc : List (List Key × V)), (ks.foldl (fun acc k => putK acc k (V.int c)) acc).length ≤ acc.length + ks.length := by
    intro ks
    induction ks with
    | nil => intro acc; exact Nat.le_refl _
    | cons k r ih =>
      intro acc
      have z := ih (putK acc k (.int c))
      have z2 := length_putK acc k (V.int c)
      rw [List.foldl_cons, List.length_cons]
      omega
  have z := key ks []
  rw [List.length_nil, Nat.zero_add] at z
  exact z
theorem consts_val (c : Int) (ks : List (List Key)) : ∀ k ∈ ks, valV (consts c ks) k = some (.int c) := by
  have key : ∀ (ks : List (List Key)) (acc : List (List Key × V)) (k : List Key), (k ∈ ks ∨ valV acc k = some (V.int c)) → valV (ks.foldl (fun acc k => putK acc k (V.int c)) acc) k = some (V.int c) := by
    intro ks
    induction ks with
    | nil =>
      intro acc k h
      rcases h with h | h
      · cases h
      · exact h
    | cons x r ih =>
      intro acc k h
      rw [List.foldl_cons]
      refine ih _ k ?_
      rw [valV_put]
      by_cases e : k = x
      · exact .inr (if_pos e)
      · rw [if_neg e]
        rcases h with h | h
        · exact .inl ((List.mem_cons.mp h).resolve_left e)
        · exact .inr h
  exact fun k hk => key ks [] k (.inl hk)
theorem keys_all {H : Hp} : ∀ {ls : List (List Key × V)} {ms : List (List Key × Addr × Value)}, KT H ls ms → ∀ z ∈ ms, H z.2.1 = some (.tup (z.1.map kV))
  | _, _, .nil, z, hz => by cases hz
  | _, _, .cons h t, z, hz => by
    rcases List.mem_cons.mp hz with rfl | hz
    · rw [← h.1]
      exact h.2.1
    · exact keys_all t z hz
/-- a dict's entries as they stand at D -/
def Raw (P : Program) (w : World) (h : Heap) (D : Addr) (xs : List (List Key × Addr × Value)) : Prop :=
  ∃ o es ep, h.get? D = some o ∧ o.ExactDict ∧ o.data = .dict es ep ∧ es.toList = xs.map (entryOfKey (tupleKind (mixKind P w))) ∧ (xs.map (·.1)).Nodup
theorem Raw.at {P : Program} {w : World} {h h' : Heap} {D : Addr} {xs : List (List Key × Addr × Value)} (r : Raw P w h D xs) (k : ∀ o, h.get? D = some o → h'.get? D = some o) : Raw P w h' D xs := by
  obtain ⟨o, es, ep, a1, a2⟩ := r
  exact ⟨o, es, ep, k o a1, a2⟩
theorem Raw.dict {P : Program} {w : World} {h h0 : Heap} {H : Hp} {D : Addr} {ls : List (List Key × V)} {xs : List (List Key × Addr × Value)} (r : Raw P w h D xs) (ok : HOk P w H h0) (kp : ∀ b o, h0.get? b = some o → h.get? b = some o) (kt : KT H ls xs) :
    h.DictOfH (tupleKind (mixKind P w)) D xs := by
  obtain ⟨o, es, ep, a1, a2, a3, a4, a5⟩ := r
  refine ⟨o, es, ep, a1, a2, a3, a4, fun z hz => ?_, a5⟩
  obtain ⟨ob, its, n, b1, b2⟩ := key_of ok (keys_all kt z hz)
  exact ⟨ob, its, n, kp _ ob b1, b2⟩
theorem below {b N C : Nat} (hb : b < N) (hC : N + 1 ≤ C) : b ≠ C ∧ b ≠ N := by omega
section
variable {X : Cx}
def tDcK (K : PySem.W.Frag) (c : Int) (te : TE) : TE := fun σ H Q => te σ H fun v H1 => ∃ (l : Addr) (ts : List Addr) (ks : List (List Key)), v = .ref l ∧ SqL K H1 l (ts.map V.ref) ∧ ts.length = ks.length ∧
  (∀ (i : Nat) (t : Addr) (k : List Key), ts[i]? = some t → ks[i]? = some k → H1 t = some (.tup (k.map kV))) ∧ ks.length ≤ 1000 ∧ ∀ D, H1 D = none → Q (.ref D) (upd H1 D (.dT (consts c ks)))
theorem pe_dcK {x : Str} {c : Int} {jc : Nat} {px pk pc pos : Pos} {iter : Expr} {scope : Scope} {te : TE} (hu : X.A.units + 1 < cLine) (hcalm : X.calm = true) (he : PE X iter te)
    (names : scope.names.all (fun y => y.2 == .local) = true) (uniq : ∀ y ∈ scope.names, y.2 = .local → scope.names.lookup y.1 = some .local) (hx : scope.names.lookup x = some .local) (hkind : scope.kind = .function)
    (hdb : (x == ("__debug__" : Str)) = false := by decide) (hs : ∀ x, foldedSetIterable iter X.env x = pure x := by intro _; rfl) :
    PE X (.DictComp (.Name x pk) (.Constant (.int c) jc pc) [⟨.Name x px, iter, [], 0⟩] scope pos) (tDcK X.K c te) := by
  refine ⟨fun pins s σ H Q inv h => ?_⟩
  have loc : ∀ y ∈ scope.names, y.2 = .local := fun y hy => by simpa using List.all_eq_true.mp names y hy
  have calm := inv.ok.hd hcalm
  refine DictComp_goes (closure_ok fun y hy e => by rw [loc y hy] at e; cases e) (fun y hy e => by rw [loc y hy] at e; cases e) hkind uniq
    (thn (he.run pins s σ H _ inv h) fun xv s1 ⟨v, H1, inv1, rel, l, ts, ks, ev, sq, len, keys, small, q⟩ => ?_) hs
  subst ev
  cases rel
  obtain ⟨its, vals, pl, _⟩ := inv1.list sq
  have hlt : (l : Nat) < s1.heap.objs.size := by
    obtain ⟨o, ho, _⟩ := pl.isList
    exact Heap.lt_size ho
  refine wpAny_pyIter_list pl.isList ⟨_, _, _, _, _, _, rfl, Goes.list calm s1.heap.objs.size l (Nat.ne_of_lt hlt) its.toArray, ⟨⟨_, Heap.get?_push_size _ rfl, rfl, rfl⟩, pl.isList.push _⟩, fun D C s3 begins empty => ?_⟩
  obtain ⟨⟨h3, tk3, rfl⟩, old, newD, newC, ne, ns0⟩ := begins
  have gC : (s1.heap.objs.size + 1 : Nat) ≤ C := by
    have z : (s1.heap.push { cls := .type "list_iterator", data := .fields #[.ref l, .int 0 0] }).objs.size ≤ C := newC
    rwa [Heap.size_push] at z
  have gD : (s1.heap.objs.size + 1 : Nat) ≤ D := by
    have z : (s1.heap.push { cls := .type "list_iterator", data := .fields #[.ref l, .int 0 0] }).objs.size ≤ D := newD
    rwa [Heap.size_push] at z
  have gD' : s1.heap.objs.size ≤ D := Nat.le_trans (Nat.le_succ _) gD
  have freeD : H1 D = none := inv1.hok.fresh gD'
  have kx : ∀ cl, (compEnvC scope cl C X.env).kindOf x = some .local := fun cl => lookup_relabel_local hx
  have plain : ∀ cl, ((compEnvC scope cl C X.env).scope.kind == .class || ((compEnvC scope cl C X.env).scope.kind == .module && (compEnvC scope cl C X.env).locals != (compEnvC scope cl C X.env).globals)) = false := fun cl => by
    show (scope.kind == .class || (scope.kind == .module && _)) = false
    rw [hkind]
    rfl
  have lits : its.length = ts.length := by rw [← vals.length, List.length_map]
  have lit : ∀ (i : Nat) (u : Value), its.toArray[i]? = some u → ∃ t k, u = .ref t ∧ ks[i]? = some k ∧ H1 t = some (.tup (k.map kV)) := fun i u e => by
    have e' : its[i]? = some u := by simpa using e
    have hi : i < ts.length := by
      rw [← lits]
      exact (List.getElem?_eq_some_iff.mp e').1
    obtain ⟨u2, g1, g2⟩ := vals.get (i := i) (x := .ref ts[i]) (by simp [hi])
    rw [e'] at g1
    cases g1
    exact ⟨ts[i], ks[i]'(by omega), g2, List.getElem?_eq_getElem (by omega), keys i _ _ (List.getElem?_eq_getElem hi) (List.getElem?_eq_getElem (by omega))⟩
  have isz : its.toArray.size = ks.length := by rw [List.size_toArray, lits, len]
  refine ⟨fun i sv => ∃ (h' : Heap) (tk : Nat) (m : Str → Option Value) (xs : List (List Key × Addr × Value)), sv = { s1 with heap := h', toks := tk } ∧ h'.Ns C m ∧ Raw X.prog X.w h' D xs ∧ KT H1 (consts c (ks.take i)) xs ∧
      ∀ b o, s1.heap.get? b = some o → h'.get? b = some o,
    ⟨h3, tk3, _, [], rfl, ns0, ⟨_, #[], 0, empty, ⟨rfl, rfl, rfl⟩, rfl, rfl, List.nodup_nil⟩, .nil, fun b o e => old b o (Heap.get?_push_of_some _ e)⟩, ?_, ?_, ?_⟩
  · rintro i _ h' tk ⟨h4, tk4, m, xs, rfl, ns, dd, kt, kp⟩ keeps _
    have off : ∀ b : Addr, b ≠ s1.heap.objs.size → b ∉ [s1.heap.objs.size] := fun b hb hm => hb (by simpa using hm)
    have nC : C ≠ s1.heap.objs.size := Nat.ne_of_gt gC
    have nD : D ≠ s1.heap.objs.size := Nat.ne_of_gt gD
    exact ⟨h', tk, m, xs, rfl, ns.at' fun o e => keeps _ o (off _ nC) e, dd.at fun o e => keeps _ o (off _ nD) e, kt, fun b o e => keeps b o (off b (Nat.ne_of_lt (Heap.lt_size e))) (kp b o e)⟩
  · rintro i v _ hi hv st ⟨h4, tk4, m, xs, rfl, ns, dd, kt, kp⟩
    obtain ⟨t, k, rfl, ek, hk⟩ := lit i v hv
    refine wpAny_assign_Name (wpAny_storeName_local (kx _) ns (fun h5 ns5 same5 => ?_) (plain _))
    refine wpAny_tests_nil ?_
    show wpAny _ _ _ _ _ _
    rw [eval_Name _ _ _ hdb]
    refine wpAny_bind (wpAny_standAt (wpAny_loadName_local hkind (kx _) ns5 (v := .ref t) (if_pos rfl) (wpAny_Constant_int ?_)))
    have up5 : ∀ b o, b ≠ C → h4.get? b = some o → h5.get? b = some o := fun b o hb e => same5.extBut b o hb e
    have oldC : ∀ b o, s1.heap.get? b = some o → b ≠ C := fun b o e => (below (Heap.lt_size e) gC).1
    have kp5 : ∀ b o, s1.heap.get? b = some o → h5.get? b = some o := fun b o e => up5 b o (oldC b o e) (kp b o e)
    have dd5 := (dd.at fun o e => up5 D o ne e).dict inv1.hok kp5 kt
    have room : (tupleKind (mixKind X.prog X.w)).room X.A := Nat.lt_trans (Nat.lt_succ_self _) hu
    have isk : (tupleKind (mixKind X.prog X.w)).is h5 k t := by
      obtain ⟨ob, its2, n2, b1, b2⟩ := key_of inv1.hok hk
      exact ⟨ob, its2, n2, kp5 _ ob b1, b2⟩
    have lxs : xs.length ≤ sizeLine := by
      rw [← Paired.length kt]
      have z := consts_len c (ks.take i)
      rw [List.length_take] at z
      exact Nat.le_of_lt (small1000 (by omega))
    refine wpAny_dictSet_heap (hsz := lxs) room isk dd5 fun h6 dd6 same6 => ?_
    have step : consts c (ks.take (i + 1)) = putK (consts c (ks.take i)) k (.int c) := by
      rw [List.take_add_one, ek]
      exact consts_snoc c _ k
    have keep6 : ∀ b o, b ≠ D → h5.get? b = some o → h6.get? b = some o := fun b o hb e => (same6.2 b hb).trans e
    have oldD : ∀ b o, s1.heap.get? b = some o → b ≠ D := fun b o e => (below (Heap.lt_size e) gD).1
    obtain ⟨o6, es6, ep6, c1, c2, c3, c4, _, c6⟩ := dd6
    refine ⟨⟨h6, _, _, _, rfl, ns5.at' fun o e => keep6 _ o ne.symm e, ⟨o6, es6, ep6, c1, c2, c3, c4, c6⟩, ?_, fun b o e => keep6 b o (oldD b o e) (kp5 b o e)⟩, ?_⟩
    · rw [step]
      exact kt.put k hk ⟨_, rfl⟩
    · have nI : s1.heap.objs.size ≠ C := (Nat.ne_of_gt gC).symm
      have nI2 : s1.heap.objs.size ≠ D := (Nat.ne_of_gt gD).symm
      have nl := below hlt gC
      have nl2 := below hlt gD
      exact ⟨st.1.at fun o e => keep6 _ o nI2 (up5 _ o nI e), st.2.at fun o e => keep6 _ o nl2.1 (up5 _ o nl.1 e)⟩
  · rintro _ ⟨h4, tk4, m, xs, rfl, ns, dd, kt, kp⟩
    refine ⟨m, ns, fun h' same => ?_⟩
    have kp' : ∀ b o, s1.heap.get? b = some o → h'.get? b = some o := fun b o e => same.extBut b o (below (Heap.lt_size e) gC).1 (kp b o e)
    rw [isz, List.take_length] at kt
    have fit : (consts c ks).length ≤ sizeLine := Nat.le_of_lt (small1000 (Nat.le_trans (consts_len c ks) small))
    have sys : (D == sysModules) = false := beq_eq_false_iff_ne.mpr (Nat.ne_of_gt (Nat.lt_of_lt_of_le inv1.big gD'))
    obtain ⟨o, es, ep, a1, a2, a3, a4, a5⟩ := dd.at (h' := h') fun o e => same.extBut _ o ne e
    exact ⟨.ref D, _, inv1.laid (t' := tk4) kp' gD' (show ObjOk X.prog X.w _ h' D (.dT (consts c ks)) from ⟨fit, sys, xs, kt.keeps fun b ys e => by rw [upd_ne (ne_of_none e freeD)]; exact e, o, es, ep, a1, a2, a3, a4, a5⟩), rfl, q D freeD⟩
end
/-! ### tuples whose object is known to have no dict: their methods can be called -/
section
def IsFz (u : HO) (xs : List V) : Prop := ∃ o : Obj, u = .frz o (.tup xs) ∧ o.cls = .type "tuple" ∧ o.dict = none
def TpO (H : Hp) (a : Addr) (xs : List V) : Prop := ∃ u, H a = some u ∧ IsFz u xs
theorem TpO.sqt {K : PySem.W.Frag} {H : Hp} {a : Addr} {xs : List V} (h : TpO H a xs) : SqT K H a xs := by
  obtain ⟨u, h1, o, rfl, _⟩ := h
  exact .inl (.inr ⟨o, h1⟩)
theorem TpO.ne {H : Hp} {a b : Addr} {xs : List V} {v : HO} (h : TpO H a xs) (h' : H b = some v) (d : ∀ o : Obj, v ≠ .frz o (.tup xs)) : a ≠ b := by
  obtain ⟨u, h1, o, rfl, _⟩ := h
  exact ne_of h1 h' fun z => d o z.symm
theorem TpO.new {H : Hp} {a : Addr} {xs : List V} {u : HO} (h : IsFz u xs) : TpO (upd H a u) a xs := ⟨u, upd_same, h⟩
theorem TpO.taken {H : Hp} {a b : Addr} {xs : List V} (h : TpO H a xs) (n : H b = none) : a ≠ b := by
  obtain ⟨u, h1, _⟩ := h
  exact ne_of_none h1 n
theorem TpO.move {H H' : Hp} {a : Addr} {xs : List V} (h : TpO H a xs) (e : ∀ u, H a = some u → H' a = some u) : TpO H' a xs := by
  obtain ⟨u, h1, h2⟩ := h
  exact ⟨u, e u h1, h2⟩
variable {X : Cx}
/-- a new tuple is laid where nothing stood: what is known of it -/
theorem laid_fz {pins : List (Addr × Obj)} {σ : L2.St} {H : Hp} {s : Shared} {h' : Heap} {Q : VK} {xs : List V} {us : List Value} (inv : Inv X pins σ H { s with heap := h' }) (vals : Vals xs us) (fit : xs.length ≤ sizeLine)
    (q : ∀ p u, H p = none → IsFz u xs → Q (.ref p) (upd H p u)) : EP X pins σ Q (.ref h'.objs.size) { s with heap := h'.push { cls := .type "tuple", data := .seq us.toArray } } := by
  have at1 : (h'.push { cls := .type "tuple", data := .seq us.toArray }).get? h'.objs.size = some { cls := .type "tuple", data := .seq us.toArray } := Heap.get?_push_size _ rfl
  refine ⟨.ref h'.objs.size, _, inv.laid (t' := s.toks) (fun b u e => Heap.get?_push_of_some _ e) (Nat.le_refl _) ?_, rfl, q _ (.frz { cls := .type "tuple", data := .seq us.toArray } (.tup xs)) (inv.hok.fresh (Nat.le_refl _)) ⟨_, rfl, rfl, rfl⟩⟩
  exact ⟨at1, fit, us, vals, _, at1, rfl, _, rfl⟩
def tTupZ (t : TA) : TE := fun σ H Q => t σ H fun xs H1 => xs.length ≤ sizeLine ∧ ∀ p u, H1 p = none → IsFz u xs → Q (.ref p) (upd H1 p u)
theorem pe_tupZ {x1} {es : List Expr} {t : TA} {pos : Pos} (h : PA X es t) : PE X (.Tuple es x1 pos) (tTupZ t) :=
  ⟨fun pins s σ H Q inv hq => wpAny_Tuple_spliced (thn (h.run pos pins s σ H _ inv hq) fun us s1 ⟨xs, H1, inv1, vals, fit, q⟩ => ⟨vals.length ▸ fit, laid_fz (s := s1) inv1 vals fit q⟩)⟩
def rCatZ (K : PySem.W.Frag) : R2 := fun x y H Q => ∃ a b xs ys, x = .ref a ∧ y = .ref b ∧ SqT K H a xs ∧ SqT K H b ys ∧ xs ≠ [] ∧ xs.length + ys.length ≤ sizeLine ∧
  (ys = [] → Q (.ref a) H) ∧ (ys ≠ [] → ∀ p u, H p = none → IsFz u (xs ++ ys) → Q (.ref p) (upd H p u))
theorem op_catZ : OpR X (binaryOp .Add) (rCatZ X.K) := by
  rintro pins s σ H _ _ v u Q inv relx rely ⟨a, b, xs, ys, rfl, rfl, sa, sb, some1, fit, same, new⟩
  cases relx
  cases rely
  obtain ⟨us, valsA, tupA, _⟩ := inv.tuple sa
  obtain ⟨ws, valsB, tupB, _⟩ := inv.tuple sb
  exact HT.cat_tup tupA tupB (fun e => some1 (valsA.nil_iff.mp e)) (fun e => ⟨.ref a, H, inv, rfl, same (valsB.nil_iff.mp e)⟩)
    (fun e => laid_fz (s := s) inv (valsA.append valsB) (by rw [List.length_append]; exact fit) (new fun w => e (valsB.nil_iff.mpr w))) (by rw [← valsA.length, ← valsB.length]; exact fit)
def rTupZ (K : PySem.W.Frag) : List V → Hp → VK → Prop := fun xs H Q => ∃ p ys, xs = [.ref p] ∧ SqL K H p ys ∧ ∀ l u, H l = none → IsFz u ys → Q (.ref l) (upd H l u)
theorem call_tupleZ : CallR X (.type "tuple") (rTupZ X.K) := by
  rintro pins s σ H _ us Q inv rel ⟨p, ys, rfl, sq, q⟩
  rw [Vals.ref1 rel]
  obtain ⟨its, vals, pl, fit⟩ := inv.list sq
  exact call_tuple_list pl.isList (fun h' kp => laid_fz (s := s) (inv.kept (t' := s.toks) kp) vals fit q) (by rw [List.size_toArray, ← vals.length]; exact fit)
def tTM (r : V → List V → Hp → VK → Prop) (to : TE) (t : TA) : TE := fun σ H Q => to σ H fun x H1 => (∃ a xs, x = .ref a ∧ TpO H1 a xs) ∧ t σ H1 fun xs H2 => r x xs H2 Q
/-- t.m(e, ..), t such a tuple -/
theorem pe_tm {o e : Expr} {es : List Expr} {to : TE} {t : TA} {name : Str} {apos cpos : Pos} {id : String} {r : V → List V → Hp → VK → Prop} (slot : Slot "tuple" name id)
    (hty : typeOf (.builtin id) = pure (.type "method_descriptor")) (hm : MtR X id r) (ho : PE X o to) (ha : PA X (e :: es) t)
    (h1 : attributeBase o name X.env (eval o X.env) = eval o X.env := by rfl)
    (h2 : ((backTo cpos (starEach (e :: es) X.env)).all (fun x => !x.1) && (backToKw cpos (keywordEach [] X.env)).all (fun x => x.1.isSome) && decide ((e :: es).length + ([] : List Keyword).length + (if ([] : List Keyword).isEmpty then 0 else 1) < 30)) = true := by rfl)
    (h3 : (apos.endLine == cpos.line) = true := by rfl) (h4 : starEach (e :: es) X.env = (false, eval e X.env) :: starEach es X.env := by rfl)
    (h5 : (backTo cpos (starEach es X.env)).any (·.1) = false := by rfl) : PE X (.Call (.Attribute o name apos) (e :: es) [] cpos) (tTM r to t) := by
  refine ⟨fun pins s σ H Q inv h => wpAny_Call_method_late h1 h2 h3 rfl (thn (ho.run pins s σ H _ inv h) fun v s1 ⟨x, H1, inv1, rel, ty, q1⟩ => ?_)⟩
  obtain ⟨a, xs, rfl, _, hu, ob, rfl, hc, hd⟩ := ty
  cases rel
  have stands : s1.heap.get? a = some ob := (inv1.hok a _ hu).1
  have args := ha.run cpos pins s1 σ H1 _ inv1 q1
  rw [h4] at args
  refine ⟨"tuple", id, PySem.F.plainAttrs_tuple, slot, hty, ⟨ob, stands, hc⟩, fun b e => by cases e; exact ⟨ob, stands, hd⟩, ?_⟩
  rw [h4]
  have plain : ((false, eval e X.env) :: backTo cpos (starEach es X.env)).any (·.1) = false := by rw [List.any_cons, h5]; rfl
  exact Calls.callWith_builtin plain (Calls.evalArgs_plain (thn args fun us s2 ⟨vs, H2, inv2, rels, q2⟩ => hm pins s2 σ H2 (.ref a) vs _ us Q inv2 rfl rels q2))
end
end Lt

set_option Elab.async false
set_option linter.all false
set_option maxRecDepth 100000
set_option maxHeartbeats 4000000
namespace Lt
open PySem PySem.Spec PyProof.Rows L2
/-! ### heaps -/
theorem same_new {H : Hp} {p : Addr} (h : H p = none) (o : HO) : Same H (upd H p o) := fun b u q => by
  rw [upd_ne (ne_of_none q h)]
  exact q
theorem same_put {H H' : Hp} {p : Addr} {o : HO} (s : Same H H') (h : H p = none) : Same H (upd H' p o) := fun b u q => by
  rw [upd_ne (ne_of_none q h)]
  exact s _ _ q
theorem same_tup {K : PySem.W.Frag} {H H' : Hp} {a : Addr} {xs : List V} (e : Same H H') (h : SqT K H a xs) : SqT K H' a xs := by
  rcases h with (h | ⟨o, h⟩) | h
  · exact .inl (.inl (e _ _ h))
  · exact .inl (.inr ⟨o, e _ _ h⟩)
  · exact .inr h
theorem sqt {K : PySem.W.Frag} {H : Hp} {a : Addr} {xs : List V} (h : H a = some (.tup xs)) : SqT K H a xs := .inl (.inl h)
theorem sql {K : PySem.W.Frag} {H : Hp} {a : Addr} {xs : List V} (h : H a = some (.lst xs)) : SqL K H a xs := .inl (.inl h)
/-- all but what stands at T is as it was -/
def SameT (T : Addr) (H H' : Hp) : Prop := ∀ b o, b ≠ T → H b = some o → H' b = some o
theorem SameT.refl (T : Addr) (H : Hp) : SameT T H H := fun _ _ _ h => h
theorem SameT.trans {T : Addr} {H H1 H2 : Hp} (a : SameT T H H1) (b : SameT T H1 H2) : SameT T H H2 := fun c o n h => b c o n (a c o n h)
theorem SameT.of {T : Addr} {H H' : Hp} (s : Same H H') : SameT T H H' := fun c o _ h => s c o h
theorem SameT.free {T : Addr} {H H' : Hp} (e : SameT T H H') {l : Addr} (hl : l ≠ T) (h : H' l = none) : H l = none := by
  cases q : H l with
  | none => rfl
  | some o =>
    rw [e l o hl q] at h
    cases h
mutual
theorem dp_same {K : PySem.W.Frag} {H H' : Hp} (e : Same H H') : ∀ {v : V} {d : PyData}, Dp K H v d → Dp K H' v d
  | _, _, .non => .non
  | _, _, .bl b => .bl b
  | _, _, .int i => .int i
  | _, _, .str x => .str x
  | _, _, .lst h a => .lst (e.seq h) (dpAll_same e a)
  | _, _, .tup h a => .tup (same_tup e h) (dpAll_same e a)
theorem dpAll_same {K : PySem.W.Frag} {H H' : Hp} (e : Same H H') : ∀ {vs : List V} {ds : List PyData}, DpAll K H vs ds → DpAll K H' vs ds
  | _, _, .nil => .nil
  | _, _, .cons h t => .cons (dp_same e h) (dpAll_same e t)
end
theorem dpAll_strs {K : PySem.W.Frag} {H : Hp} : ∀ ss : List Str, DpAll K H (ss.map V.str) (ss.map PyData.str)
  | [] => .nil
  | x :: r => .cons (.str x) (dpAll_strs r)
theorem dpAll_ints {K : PySem.W.Frag} {H : Hp} : ∀ ns : List Int, DpAll K H (ns.map V.int) (ns.map PyData.int)
  | [] => .nil
  | x :: r => .cons (.int x) (dpAll_ints r)
theorem dpAll_snoc {K : PySem.W.Frag} {H : Hp} : ∀ {vs : List V} {ds : List PyData} {v : V} {d : PyData}, DpAll K H vs ds → Dp K H v d → DpAll K H (vs ++ [v]) (ds ++ [d])
  | _, _, _, _, .nil, h => .cons h .nil
  | _, _, _, _, .cons a t, h => .cons a (dpAll_snoc t h)
theorem dpAll_append {K : PySem.W.Frag} {H : Hp} : ∀ {vs ws : List V} {ds es : List PyData}, DpAll K H vs ds → DpAll K H ws es → DpAll K H (vs ++ ws) (ds ++ es)
  | _, _, _, _, .nil, h => h
  | _, _, _, _, .cons a t, h => .cons a (dpAll_append t h)
theorem dpAll_len {K : PySem.W.Frag} {H : Hp} : ∀ {vs : List V} {ds : List PyData}, DpAll K H vs ds → vs.length = ds.length
  | _, _, .nil => rfl
  | _, _, .cons _ t => congrArg (· + 1) (dpAll_len t)
theorem dpAll_get {K : PySem.W.Frag} {H : Hp} : ∀ {vs : List V} {ds : List PyData}, DpAll K H vs ds → ∀ {i : Nat} {v : V}, vs[i]? = some v → ∃ d, ds[i]? = some d ∧ Dp K H v d
  | _, _, .nil, i, v, h => by simp at h
  | _, _, .cons a t, 0, v, h => by
    simp only [List.getElem?_cons_zero, Option.some.injEq] at h
    exact ⟨_, rfl, h ▸ a⟩
  | _, _, .cons a t, i + 1, v, h => by
    simp only [List.getElem?_cons_succ] at h ⊢
    exact dpAll_get t h
theorem TpO.same {H H' : Hp} {a : Addr} {xs : List V} (h : TpO H a xs) (e : Same H H') : TpO H' a xs := h.move fun u q => e _ _ q
theorem TpO.sameT {T : Addr} {H H' : Hp} {a : Addr} {xs : List V} (h : TpO H a xs) (e : SameT T H H') (n : a ≠ T) : TpO H' a xs := h.move fun u q => e _ _ n q
/-! ### walks -/
theorem in_it {J : It} {n : Nat} {G : Hp → Prop} {Y : Nat → Hp → V → Hp → Prop} (w : Walk J n G Y) {Qd : Hp → Prop} {R : V → Hp → (Hp → Prop) → Prop} {H0 : Hp} (Pv : Nat → Hp → Prop) (h0 : Pv 0 H0)
    (hG : ∀ i H, i ≤ n → Pv i H → G H) (hs : ∀ i x H H', i < n → Pv i H → Y i H x H' → R x H' (Pv (i + 1))) (hd : ∀ H, Pv n H → Qd H) :
    ∃ W : Nat → Nat → Hp → Prop, (∃ m, W 0 m H0) ∧ ∀ i m H, W i m H → (J.stop i H ∧ Qd H) ∨
      (J.go i H ∧ ∃ Nx : Hp → Prop, (∀ H', Nx H' → ∃ m', m' < m ∧ W (i + 1) m' H') ∧ ∀ x H', J.yld i H x H' → R x H' Nx) := by
  refine ⟨fun i m H => m = n - i ∧ i ≤ n ∧ Pv i H, ⟨n, by simp, Nat.zero_le _, h0⟩, ?_⟩
  rintro i m H ⟨rfl, hi, p⟩
  by_cases hlt : i < n
  · exact .inr ⟨w.goes i H hlt (hG i H hi p), Pv (i + 1), fun H' p' => ⟨n - (i + 1), by omega, rfl, hlt, p'⟩, fun x H' y => hs i x H H' hlt p (w.yields i H x H' hlt (hG i H hi p) y)⟩
  · have e : i = n := by omega
    subst e
    exact .inl ⟨w.stops H (hG i H hi p), hd H p⟩
/-! ### the tape -/
structure Tape (H : Hp) (T S : Addr) (ns : List Int) : Prop where
  at_ : ∃ i c : Int, H T = some (.lst [.ref S, .int i, .int c])
  scr : H S = some (.lst (ns.map V.int))
theorem Tape.ne {H : Hp} {T S : Addr} {ns : List Int} (t : Tape H T S ns) : S ≠ T := by
  obtain ⟨i, c, h⟩ := t.at_
  refine ne_of t.scr h fun z => ?_
  injection z with z
  cases ns with
  | nil => cases z
  | cons a r => cases z
theorem Tape.same {H H' : Hp} {T S : Addr} {ns : List Int} (t : Tape H T S ns) (s : Same H H') : Tape H' T S ns := by
  obtain ⟨i, c, h⟩ := t.at_
  exact ⟨⟨i, c, s _ _ h⟩, s _ _ t.scr⟩
theorem Tape.put {H : Hp} {T S : Addr} {ns : List Int} (t : Tape H T S ns) (i c : Int) : Tape (upd H T (.lst [.ref S, .int i, .int c])) T S ns :=
  ⟨⟨i, c, upd_same⟩, by rw [upd_ne t.ne]; exact t.scr⟩
theorem Tape.taken {H : Hp} {T S : Addr} {ns : List Int} (t : Tape H T S ns) : ∃ o, H T = some o := by
  obtain ⟨i, c, h⟩ := t.at_
  exact ⟨_, h⟩
theorem sameT_put {T : Addr} {H : Hp} (o : HO) : SameT T H (upd H T o) := fun b u n q => by rw [upd_ne n]; exact q
theorem new_ne {H' : Hp} {T p : Addr} {o : HO} (h : H' T = some o) (n : H' p = none) : p ≠ T := fun e => by
  rw [e, h] at n
  cases n
/-! ### texts in order -/
abbrev ltS (a b : Str) : Prop := a.cps.toList < b.cps.toList
theorem str_ext {a b : Str} (h : a.cps.toList = b.cps.toList) : a = b := by
  cases a with
  | mk x =>
    cases b with
    | mk y =>
      have e : x = y := Array.toList_inj.mp h
      rw [e]
theorem ltS_tri {a b : Str} (h1 : ¬ ltS a b) (h2 : ¬ ltS b a) : a = b := by
  apply str_ext
  rw [List.not_lt] at h1 h2
  exact List.le_antisymm h2 h1
theorem ltS_asymm {a b : Str} (h : ltS a b) : ¬ ltS b a := List.lt_asymm h
theorem ltS_irrefl (a : Str) : ¬ ltS a a := List.lt_irrefl _
theorem rising_pw : ∀ (p : Str) (l : List Str), risingS p l = true → (p :: l).Pairwise fun a b => ¬ ltS b a
  | p, [], _ => List.pairwise_singleton _ _
  | p, x :: r, h => by
    have h' : (!ltCps x.cps.toList p.cps.toList && risingS x r) = true := h
    rw [Bool.and_eq_true] at h'
    have ih := rising_pw x r h'.2
    have hx : ¬ ltS x p := by
      have q := h'.1
      rw [ltCps_eq] at q
      simpa using q
    refine List.pairwise_cons.mpr ⟨fun y hy => ?_, ih⟩
    rcases List.mem_cons.mp hy with e | hy
    · rw [e]
      exact hx
    · have q := (List.pairwise_cons.mp ih).1 y hy
      intro z
      by_cases e : ltS p x
      · exact q (List.lt_trans z e)
      · rw [ltS_tri e hx] at z
        exact q z
theorem sorted_pw {l : List Str} (h : sortedS l = true) : l.Pairwise fun a b => ¬ ltS b a := by
  cases l with
  | nil => exact List.Pairwise.nil
  | cons x r => exact rising_pw x r h
theorem sorted_one {l m : List Str} (hl : sortedS l = true) (hm : sortedS m = true) (p : l.Perm m) : l = m :=
  List.Perm.eq_of_pairwise (fun a b _ _ h1 h2 => ltS_tri h2 h1) (sorted_pw hl) (sorted_pw hm) p
/-- both of a pair, the lesser first -/
def asPair (q : Str × Str) : Str × Str := if ltS q.1 q.2 then (q.1, q.2) else (q.2, q.1)
theorem sorted_two {a b : Str} {l : List Str} (p : l.Perm [a, b]) (h : sortedS l = true) : l = [(asPair (a, b)).1, (asPair (a, b)).2] := by
  refine sorted_one h ?_ (p.trans ?_)
  · unfold asPair
    by_cases c : ltS a b
    · rw [if_pos c]
      show (!ltCps b.cps.toList a.cps.toList && true) = true
      rw [ltCps_eq, decide_eq_false (ltS_asymm c)]
      rfl
    · rw [if_neg c]
      show (!ltCps a.cps.toList b.cps.toList && true) = true
      rw [ltCps_eq, decide_eq_false c]
      rfl
  · unfold asPair
    by_cases c : ltS a b
    · rw [if_pos c]
    · rw [if_neg c]
      exact List.Perm.swap b a []
/-- the pairs of a row of texts, by the place of the first -/
def prs (ys : List Str) : Nat → List (Str × Str)
  | 0 => []
  | i + 1 => prs ys i ++ match ys[i]? with
    | some a => (ys.drop (i + 1)).map fun b => (a, b)
    | none => []
theorem prs_succ {ys : List Str} {i : Nat} {a : Str} (h : ys[i]? = some a) : prs ys (i + 1) = prs ys i ++ (ys.drop (i + 1)).map fun b => (a, b) := by
  show prs ys i ++ (match ys[i]? with | some a => (ys.drop (i + 1)).map fun b => (a, b) | none => []) = _
  rw [h]
theorem prs_mem {ys : List Str} {i j : Nat} {a b : Str} (hi : ys[i]? = some a) (hj : ys[j]? = some b) (h : i < j) : ∀ n, i < n → (a, b) ∈ prs ys n
  | 0, z => by omega
  | n + 1, z => by
    by_cases e : i = n
    · subst e
      rw [prs_succ hi]
      refine List.mem_append_right _ (List.mem_map.mpr ⟨b, ?_, rfl⟩)
      have q : (ys.drop (i + 1))[j - (i + 1)]? = some b := by
        rw [List.getElem?_drop, show i + 1 + (j - (i + 1)) = j by omega]
        exact hj
      exact List.mem_of_getElem? q
    · exact List.mem_append_left _ (prs_mem hi hj h n (by omega))
theorem prs_len (ys : List Str) : ∀ n, (prs ys n).length ≤ n * ys.length
  | 0 => by simp [prs]
  | n + 1 => by
    have ih := prs_len ys n
    rw [Nat.succ_mul]
    cases h : ys[n]? with
    | none =>
      have e : prs ys (n + 1) = prs ys n ++ (match ys[n]? with | some a => (ys.drop (n + 1)).map fun b => (a, b) | none => []) := rfl
      rw [e, h, List.append_nil]
      omega
    | some a =>
      rw [prs_succ h, List.length_append, List.length_map, List.length_drop]
      omega
theorem pair_in {ys bs : List Str} {a b : Str} (p : ys.Perm bs) (hs : sortedS ys = true) (ha : a ∈ bs) (hb : b ∈ bs) (ne : a ≠ b) : asPair (a, b) ∈ prs ys ys.length := by
  have key : ∀ {c d : Str}, c ∈ bs → d ∈ bs → ltS c d → (c, d) ∈ prs ys ys.length := fun {c d} hc hd lt => by
    obtain ⟨i, hi⟩ := List.getElem?_of_mem (p.mem_iff.mpr hc)
    obtain ⟨j, hj⟩ := List.getElem?_of_mem (p.mem_iff.mpr hd)
    have li := (List.getElem?_eq_some_iff.mp hi).1
    have lj := (List.getElem?_eq_some_iff.mp hj).1
    refine prs_mem hi hj ?_ _ li
    by_cases h : i < j
    · exact h
    · exfalso
      by_cases e : i = j
      · subst e
        rw [hi] at hj
        cases hj
        exact ltS_irrefl _ lt
      · have pw := List.pairwise_iff_getElem.mp (sorted_pw hs) j i lj li (by omega)
        rw [(List.getElem?_eq_some_iff.mp hi).2, (List.getElem?_eq_some_iff.mp hj).2] at pw
        exact pw lt
  unfold asPair
  by_cases c : ltS a b
  · rw [if_pos c]
    exact key ha hb c
  · rw [if_neg c]
    refine key hb ha ?_
    by_cases d : ltS b a
    · exact d
    · exact absurd (ltS_tri c d) ne
/-! ### what readings do -/
/-- the pile behind one reading -/
def lay (bs : List Str) (b : Str) : List Str := b :: bs.eraseIdx (bs.idxOf b)
/-- the books above -/
def over (bs : List Str) (b : Str) : List Str := bs.take (bs.idxOf b)
def behindM : List Str → List Str → List Str
  | bs, [] => bs
  | bs, b :: r => behindM (lay bs b) r
def liftedM : List Str → List Str → List Nat
  | _, [] => []
  | bs, b :: r => bs.idxOf b :: liftedM (lay bs b) r
def rowsM : List Str → List Str → List (Str × Str)
  | _, [] => []
  | bs, b :: r => (over bs b).map (fun o => (b, o)) ++ rowsM (lay bs b) r
theorem behindM_snoc (bs : List Str) : ∀ (rs : List Str) (b : Str), behindM bs (rs ++ [b]) = lay (behindM bs rs) b := by
  intro rs
  induction rs generalizing bs with
  | nil => intro b; rfl
  | cons x r ih => intro b; exact ih (lay bs x) b
theorem liftedM_snoc (bs : List Str) : ∀ (rs : List Str) (b : Str), liftedM bs (rs ++ [b]) = liftedM bs rs ++ [(behindM bs rs).idxOf b] := by
  intro rs
  induction rs generalizing bs with
  | nil => intro b; rfl
  | cons x r ih =>
    intro b
    show bs.idxOf x :: liftedM (lay bs x) (r ++ [b]) = bs.idxOf x :: (liftedM (lay bs x) r ++ [(behindM (lay bs x) r).idxOf b])
    rw [ih]
theorem rowsM_snoc (bs : List Str) : ∀ (rs : List Str) (b : Str), rowsM bs (rs ++ [b]) = rowsM bs rs ++ (over (behindM bs rs) b).map fun o => (b, o) := by
  intro rs
  induction rs generalizing bs with
  | nil => intro b; exact List.append_nil _
  | cons x r ih =>
    intro b
    show (over bs x).map (fun o => (x, o)) ++ rowsM (lay bs x) (r ++ [b]) = ((over bs x).map (fun o => (x, o)) ++ rowsM (lay bs x) r) ++ (over (behindM (lay bs x) r) b).map fun o => (b, o)
    rw [ih, List.append_assoc]
theorem idx_lt {bs : List Str} {b : Str} (h : b ∈ bs) : bs.idxOf b < bs.length := List.idxOf_lt_length_iff.mpr h
theorem idx_get {bs : List Str} {b : Str} (h : b ∈ bs) : bs[bs.idxOf b]? = some b := by
  rw [List.getElem?_eq_getElem (idx_lt h), List.getElem_idxOf (idx_lt h)]
theorem idx_first {bs : List Str} {b : Str} : ∀ m, m < bs.idxOf b → bs[m]? ≠ some b := by
  induction bs with
  | nil => intro m h; simp at h
  | cons x r ih =>
    intro m h
    rw [List.idxOf_cons] at h
    by_cases e : x == b
    · rw [e] at h
      simp at h
    · have e' : (x == b) = false := by simpa using e
      rw [e'] at h
      simp only [cond_false] at h
      cases m with
      | zero =>
        intro z
        simp only [List.getElem?_cons_zero, Option.some.injEq] at z
        rw [z] at e'
        simp at e'
      | succ m =>
        simp only [List.getElem?_cons_succ]
        exact ih m (by omega)
theorem lay_perm {bs : List Str} {b : Str} (h : b ∈ bs) : (lay bs b).Perm bs := by
  have q := (List.perm_cons_erase h).symm
  rw [List.erase_eq_eraseIdx_of_idxOf rfl] at q
  exact q
theorem behindM_perm : ∀ {bs : List Str} (rs : List Str), (∀ b ∈ rs, b ∈ bs) → (behindM bs rs).Perm bs
  | bs, [], _ => List.Perm.refl _
  | bs, b :: r, h => by
    have hb := h b (List.mem_cons_self ..)
    have p := lay_perm hb
    exact (behindM_perm r fun c hc => p.mem_iff.mpr (h c (List.mem_cons_of_mem _ hc))).trans p
/-- a book above another is another -/
theorem over_ne {bs : List Str} {b o : Str} (h : o ∈ over bs b) : o ≠ b := by
  obtain ⟨m, hm⟩ := List.getElem?_of_mem h
  have l := (List.getElem?_eq_some_iff.mp hm).1
  unfold over at hm l
  rw [List.length_take] at l
  rw [List.getElem?_take_of_lt (by omega)] at hm
  intro e
  subst e
  exact idx_first m (by omega) hm
theorem over_mem {bs : List Str} {b o : Str} (h : o ∈ over bs b) : o ∈ bs := List.mem_of_mem_take h
/-- how often both passed one another -/
def cnt (rows : List (Str × Str)) (q : Str × Str) : Nat := (rows.filter fun r => decide (asPair r = q)).length
theorem cnt_nil (q : Str × Str) : cnt [] q = 0 := rfl
theorem cnt_snoc (rows : List (Str × Str)) (r q : Str × Str) : cnt (rows ++ [r]) q = cnt rows q + if asPair r = q then 1 else 0 := by
  unfold cnt
  rw [List.filter_append, List.length_append]
  by_cases h : asPair r = q
  · rw [if_pos h, List.filter_cons_of_pos (by simpa using h)]
    rfl
  · rw [if_neg h, List.filter_cons_of_neg (by simpa using h)]
    rfl
/-! ### slices -/
theorem cut_to {xs : List V} {j : Nat} (h : j ≤ xs.length) : cutV xs none (some (j : Int)) = xs.take j := by
  unfold cutV
  rw [HT.sIx_none, HT.sIx_nat, Nat.min_eq_left h]
  simp
theorem cut_from {xs : List V} {j : Nat} (h : j ≤ xs.length) : cutV xs (some (j : Int)) none = xs.drop j := by
  unfold cutV
  rw [HT.sIx_none, HT.sIx_nat, Nat.min_eq_left h]
  rw [List.take_of_length_le (by rw [List.length_drop]; omega)]
/-! ### shapes -/
theorem shaped_of {d : PyData} (h1 : d.canLay0 = true) (h2 : d.depth ≤ 64) : SeqAt.shaped d = true := by
  unfold SeqAt.shaped
  rw [h1, decide_eq_true h2]
  rfl
theorem canAll : ∀ ds : List PyData, (∀ d ∈ ds, d.canLay0 = true) → PyData.canLayAll0 ds = true
  | [], _ => by rw [PyData.canLayAll0]
  | d :: r, h => by
    rw [PyData.canLayAll0, h d (List.mem_cons_self ..), canAll r fun x hx => h x (List.mem_cons_of_mem _ hx)]
    rfl
theorem depthAll_le {n : Nat} : ∀ ds : List PyData, (∀ d ∈ ds, d.depth ≤ n) → PyData.depthAll ds ≤ n
  | [], _ => by rw [PyData.depthAll]; exact Nat.zero_le _
  | d :: r, h => by
    rw [PyData.depthAll]
    exact Nat.max_le.mpr ⟨h d (List.mem_cons_self ..), depthAll_le r fun x hx => h x (List.mem_cons_of_mem _ hx)⟩
/-! ### rules within a comprehension: the written part is named -/
section
variable {X : Cx} {K : PySem.W.Frag}
theorem ixL (e : X.K = K) : IxR X (rIxL K) := by
  subst e
  exact ix_list
theorem ixT (e : X.K = K) : IxR X (rIxT K) := by
  subst e
  exact ix_tup
theorem cLen (e : X.K = K) : CallR X (.builtin "len") (Evl.rLenS K) := by
  subst e
  exact call_len_seq
theorem cSortT (e : X.K = K) : CallR X (.builtin "sorted") (rSortedT K) := by
  subst e
  exact cr_sortedT
theorem oEqD (hu : X.A.units + 64 < cLine) (e : X.K = K) : OpR X (compareOp .Eq) (rEqD K) := by
  subst e
  exact op_eqD hu
end
end Lt

set_option Elab.async false
set_option linter.all false
set_option maxRecDepth 100000
set_option maxHeartbeats 4000000
/-! tuple(x for x, y in t), t a tuple of pairs: over the library's generator expressions of two names. -/
namespace Lt
open PySem PySem.Spec PyProof.Rows L2
section
variable {prog : Program} {w : World} {A : Around}
/-- a walk of one-value steps whose values are tuples that stand all the while -/
theorem walk_tups {I : Addr} {fp wr : List Addr} {n : Nat} {Pv : Nat → Value → Prop} {St : Nat → Heap → Prop} (W : Walks prog w A I fp wr n Pv St) (Ts : Nat → Addr) (us : Nat → Array Value)
    (is : ∀ i v, i < n → Pv i v → v = .ref (Ts i)) (off : ∀ i, i < n → Ts i ∉ wr)
    (free : ∀ (e : Expr) i v (s : Shared) (Q : Unit → Shared → Prop) E, St i s.heap → Q () s → wpAny (model prog w) A (letOwnedTupleGo e (.ref I) v) Q E s) :
    WalksU prog w A I (fp ++ (List.range n).map Ts) wr n (fun j a => j < n ∧ a = us j) (fun j h => St j h ∧ ∀ k, k < n → h.IsTuple (Ts k) (us k)) (fun j T h => (j < n ∧ T = Ts j) ∧ St (j + 1) h ∧ ∀ k, k < n → h.IsTuple (Ts k) (us k)) where
  sub := fun b hb => List.mem_append_left _ (W.sub b hb)
  frame := fun i h h' st k => ⟨W.frame i h h' st.1 fun b hb o e => k b (List.mem_append_left _ hb) o e,
    fun j hj => (st.2 j hj).at fun o e => k _ (List.mem_append_right _ (List.mem_map.mpr ⟨j, List.mem_range.mpr hj, rfl⟩)) o e⟩
  item := fun i s Q E hi st q => W.item i s Q E hi st.1 fun v h' tk pv st' k => by
    have tups : ∀ j, j < n → h'.IsTuple (Ts j) (us j) := fun j hj => (st.2 j hj).at fun o e => k _ o (off j hj) e
    rw [is i v hi pv]
    exact q (Ts i) (us i) h' tk ⟨hi, rfl⟩ (tups i hi) ⟨⟨hi, rfl⟩, st', tups⟩ k
  go := fun es k pos i T s Q E mid q => free _ (i + 1) _ s Q E mid.2.1 (q s.heap mid.2 fun _ _ _ e => e)
  apart := fun i T h mid => by
    rw [mid.1.2]
    exact off i mid.1.1
  done := fun s Q E st q => W.done s Q E st.1 q
  self := fun i s Q E st q => W.self i s Q E st.1 q
end
section
variable {X : Cx} {pins : List (Addr × Obj)} {σ : L2.St} {H : Hp} {s : Shared}
/-- the code object of a generator expression in a def whose table is at P, and where its builtins stand -/
theorem gen_code {c P : Addr} {ps : Array Value} {gpos : Pos} {qn : Str} {scope : Scope} {o : Obj} {E : Value → Shared → Prop} {B : Value → Addr → Shared → Prop} (inv : Inv X pins σ H s) (TB : GxR.TabB X.base X.mg c P) (hc : X.env.code = .ref c)
    (hP : H P = some (.tbl ps)) (ht : TriplesOk ps.toList)
    (go : ∀ (code : Value) (h3 : Heap) (tk : Nat) (more : Array Value), Heap.ExtBut P (s.heap.push o) h3 → s.heap.objs.size + 1 ≤ h3.objs.size → h3.get? P = some { cls := .none, data := .fields (ps ++ more) } → TriplesOk (ps ++ more).toList →
      B code builtinsNs { s with heap := h3, toks := tk }) :
    wpAny (model X.prog X.w) X.A (genexprCode X.env gpos qn scope) (fun code s3 => wpAny (model X.prog X.w) X.A (builtinsFor X.env.globals X.env.builtins) (B code) E s3) E { s with heap := s.heap.push o } := by
  have at0 : s.heap.get? P = some (PySem.W.tabObj ps) := inv.hok P _ hP
  have at1 : (s.heap.push o).get? P = some (PySem.W.tabObj ps) := Heap.get?_push_of_some _ at0
  have head : PySem.W.CodeHd (s.heap.push o) c P := TB.code.keeps fun b u e => Heap.get?_push_of_some _ (inv.bk b u e)
  have big : (s.heap.push o).objs.size = s.heap.objs.size + 1 := Heap.size_push ..
  have bis : ∀ (code : Value) (h3 : Heap) (tk : Nat), Heap.ExtBut P (s.heap.push o) h3 → B code builtinsNs { s with heap := h3, toks := tk } →
      wpAny (model X.prog X.w) X.A (builtinsFor X.env.globals X.env.builtins) (B code) E { s with heap := h3, toks := tk } := by
    intro code h3 tk ext b
    obtain ⟨bm, ob, b1, b2, _, b4, b5, b6, b7, b8⟩ := TB.bm
    refine wpAny_builtinsFor (m := X.mg) ?_ b1 b2 (ext _ _ b4 (Heap.get?_push_of_some _ (inv.bk _ _ b5))) b6 b7 b8 b
    rw [inv.ok.glob]
    exact ((inv.mod.glob.keeps inv.bk).push o).extBut ext TB.gP
  cases found : codeAmong gpos ps.toList with
  | some cv => exact wpAny_genexprCode_hit hc (head.code at1 ht) found (bis cv _ s.toks (.refl _ _) (go cv _ s.toks #[] (.refl _ _) (Nat.le_of_eq big.symm) (by rw [Array.append_empty]; exact at1) (by rw [Array.append_empty]; exact ht)))
  | none =>
    refine wpAny_genexprCodeX hc (head.code at1 ht) (head.tab at1) found fun c' h3 tk ext ge lt isc _ tab _ => ?_
    obtain ⟨_, _, _, _, _, _, _, _, _, _, _, _, _, _, _, _, _, _, _, tri, _⟩ := isc
    exact bis _ h3 tk ext (go _ h3 tk _ ext (by rw [← big]; exact Nat.le_trans ge (Nat.le_of_lt lt)) tab.2 tri)
/-- its own scope: two names, the walked thing -/
def GenTwo (scope : Scope) (x y : Str) : Prop := scope.kind = .function ∧ scope.isCoroutine = false ∧ (∀ z ∈ scope.names, z.2 = .local) ∧ scope.names.lookup (".0" : Str) = some NameKind.local ∧ scope.names.lookup x = some .local ∧ scope.names.lookup y = some .local ∧ x ≠ y
theorem vals_by : ∀ (xs : List V) (us : List Value), xs.length = us.length → (∀ (i : Nat) x u, xs[i]? = some x → us[i]? = some u → RelV x u) → Vals xs us
  | [], [], _, _ => .nil
  | [], _ :: _, l, _ => by cases l
  | _ :: _, [], l, _ => by cases l
  | x :: xs, u :: us, l, h => .cons (h 0 x u rfl rfl) (vals_by xs us (by simpa using l) fun i x u hx hu => h (i + 1) x u (by simpa using hx) (by simpa using hu))
def tTupG (K : PySem.W.Frag) (P : Addr) (te : TE) : TE := fun σ H Q => te σ H fun v H1 => ∃ (a : Addr) (ts : List Addr) (ps : List (V × V)), v = .ref a ∧ SqT K H1 a (ts.map V.ref) ∧ ts.length = ps.length ∧
  (∀ (i : Nat) (t : Addr) (p : V × V), ts[i]? = some t → ps[i]? = some p → SqT K H1 t [p.1, p.2]) ∧ GxR.TabG H1 P ∧ ∀ H2 q u, GxR.Tabbed P H1 H2 → H2 q = none → IsFz u (ps.map (·.1)) → Q (.ref q) (upd H2 q u)
theorem pe_tupG {c P : Addr} {x y : Str} {iter : Expr} {px py pt pe p pos gpos : Pos} {kt : Nat} {scope : Scope} {te : TE} {k : Nat} (hr : Room k X.A) (hg : Gl X "tuple") (hm : X.mg "tuple" = none) (TB : GxR.TabB X.base X.mg c P) (hc : X.env.code = .ref c) (S : GenTwo scope x y) (hi : PE X iter te)
    (hs : ∀ v, genFold iter X.env v = pure v := by intro _; rfl) (hd : (x == ("__debug__" : Str)) = false := by decide)
    (he : starEach [.GeneratorExp (.Name x pe) [⟨.Tuple [.Name x px, .Name y py] kt pt, iter, [], 0⟩] scope gpos] X.env = (false, eval (.GeneratorExp (.Name x pe) [⟨.Tuple [.Name x px, .Name y py] kt pt, iter, [], 0⟩] scope gpos) X.env) :: starEach [] X.env := by rfl) :
    PE X (.Call (.Name "tuple" p) [.GeneratorExp (.Name x pe) [⟨.Tuple [.Name x px, .Name y py] kt pt, iter, [], 0⟩] scope gpos] [] pos) (tTupG X.K P te) := by
  obtain ⟨kind, co, loc, dot, one, two, ne⟩ := S
  have hv : bootBuiltins ("tuple" : Str) = some (.type "tuple") := by decide +kernel
  refine ⟨fun pins s σ H Q inv h => wpAny_Call_Name_kw (ld_blt inv hg hm hv (PyProof.Rows.callWith_type1 ?_ he (by rfl)))⟩
  rw [he]
  show wpAny _ _ (spliced ((false, _) :: backTo pos (starEach [] X.env))) _ _ s
  refine Calls.spliced_cons ?_
  refine wpAny_GeneratorExp_walksQT hr.hd co (closure_ok fun z hz e => by rw [loc z hz] at e; cases e) (fun z hz e => by rw [loc z hz] at e; cases e) dot one two ne kind (by have := hr.dp; omega) ?_ hs
  refine thn (hi.run pins s σ H _ inv h) fun xv s1 ⟨v, H1, inv1, rel, q1⟩ => ?_
  obtain ⟨a, ts, ps, rfl, sq, len, each, ⟨tb, hP, ht⟩, q⟩ := q1
  cases rel
  obtain ⟨its, vals, tupA, fit⟩ := inv1.tuple sq
  have nits : its.length = ts.length := by rw [← vals.length, List.length_map]
  have pairs : ∀ i, ∃ u : Array Value, i < ts.length → ∃ (t : Addr) (p : V × V) (va vb : Value), ts[i]? = some t ∧ ps[i]? = some p ∧ u = #[va, vb] ∧ RelV p.1 va ∧ s1.heap.IsTuple t u := by
    intro i
    by_cases hi : i < ts.length
    · have e1 := List.getElem?_eq_getElem hi
      have e2 : ps[i]? = some (ps[i]'(by omega)) := List.getElem?_eq_getElem _
      obtain ⟨us, vs2, tp, _⟩ := inv1.tuple (each i _ _ e1 e2)
      obtain ⟨va, vb, rfl, r1, r2⟩ := vs2.two
      exact ⟨#[va, vb], fun _ => ⟨_, _, va, vb, e1, e2, rfl, r1, tp⟩⟩
    · exact ⟨#[], fun z => absurd z hi⟩
  obtain ⟨us, hus⟩ := Classical.axiomOfChoice pairs
  have ats : ∀ i, i < ts.length → its.toArray[i]? = some (.ref ((ts[i]?).getD 0)) ∧ s1.heap.IsTuple ((ts[i]?).getD 0) (us i) := by
    intro i hi
    obtain ⟨t, pp, va, vb, e1, e2, _, _, tp⟩ := hus i hi
    obtain ⟨u2, g1, g2⟩ := vals.get (i := i) (x := .ref t) (by rw [List.getElem?_map, e1]; rfl)
    obtain rfl : u2 = .ref t := g2
    rw [e1]
    exact ⟨by simpa using g1, tp⟩
  have sz : its.toArray.size = ts.length := by rw [List.size_toArray, nits]
  have lt1 : ∀ {b : Addr} {u : Array Value}, s1.heap.IsTuple b u → b < s1.heap.objs.size := fun t => by
    obtain ⟨o, e, _⟩ := t
    exact Heap.lt_size e
  have at0 : s1.heap.get? P = some { cls := .none, data := .fields tb } := inv1.hok P _ hP
  have ltP : P < s1.heap.objs.size := Heap.lt_size at0
  have neP : ∀ {b : Addr} {u : Array Value}, s1.heap.IsTuple b u → b ≠ P := fun t e => by
    obtain ⟨o, e1, e2, _⟩ := t
    rw [e, at0] at e1
    cases e1
    cases e2
  refine wpAny_pyIter_tuple tupA ⟨inv1.nolimit.push _, gen_code inv1 TB hc hP ht fun code h3 tk more ext big at3 tri => ?_⟩
  have keep : ∀ b u, b ≠ P → s1.heap.get? b = some u → h3.get? b = some u := fun b u nb e => ext b u nb (Heap.get?_push_of_some _ e)
  have it3 : h3.IsTupleIter s1.heap.objs.size a 0 := ⟨_, ext _ _ (Nat.ne_of_gt ltP) (Heap.get?_push_size _ rfl), rfl, rfl⟩
  have nst : cStatics ≠ P ∧ cStatics < s1.heap.objs.size := by
    obtain ⟨_, ns, _⟩ := inv1.nolimit
    refine ⟨fun e => ?_, ns.lt⟩
    obtain ⟨o', es, ep, ho, hd', _⟩ := ns
    rw [e, at0] at ho
    cases ho
    cases hd'
  have isT : s1.heap.IsTuple a its.toArray := tupA
  have tup3 : h3.IsTuple a its.toArray := isT.at fun o e => keep _ _ (neP isT) e
  have ats3 : ∀ i, i < ts.length → h3.IsTuple ((ts[i]?).getD 0) (us i) := fun i hi => (ats i hi).2.at fun o e => keep _ _ (neP (ats i hi).2) e
  have up : s1.heap.objs.size < h3.objs.size := big
  have W0 : ∀ A' : Around, A'.handled = none → WalksU X.prog X.w A' s1.heap.objs.size _ [s1.heap.objs.size] ts.length _ _ _ :=
    fun A' hA => walk_tups (sz ▸ Walks.tuple hA s1.heap.objs.size a (Nat.ne_of_lt (lt1 tupA)) its.toArray) (fun i => (ts[i]?).getD 0) us
      (fun i v hi e => Option.some.inj (e.symm.trans (ats i hi).1)) (fun i hi z => Nat.ne_of_lt (lt1 (ats i hi).2) (List.mem_singleton.mp z))
      (fun e i v s' Q' E' st q' => by
        obtain ⟨o, ho, hc', hd'⟩ := st.1
        exact letGo_of_cls ho hc' hd' (by decide) q')
  refine ⟨s1.heap.objs.size, _, [s1.heap.objs.size], ts.length, _, _, _, fun _ => true, fun i z => ∃ va vb, us i = #[va, vb] ∧ z = va, rfl, W0, ?two, ⟨⟨it3, tup3⟩, ats3⟩, ?fp, (inv1.nolimit.push _).extBut ext nst.1, fun z => Nat.ne_of_lt nst.2 (List.mem_singleton.mp z), ?quiet, ?rest⟩
  case two =>
    rintro i vs ⟨hi, rfl⟩
    obtain ⟨_, _, va, vb, _, _, e, _⟩ := hus i hi
    exact ⟨va, vb, e⟩
  case fp =>
    intro b hb
    rcases List.mem_append.mp hb with z | z
    · rcases List.mem_cons.mp z with z | z
      · rw [z]
        exact up
      · rw [List.mem_singleton.mp z]
        exact Nat.lt_trans (lt1 tupA) up
    · obtain ⟨i, hi, rfl⟩ := List.mem_map.mp z
      exact Nat.lt_trans (lt1 (ats i (List.mem_range.mp hi)).2) up
  case quiet =>
    intro href _
    refine ⟨fun A' E' i va vb s2 m2 hA hp hn ha hb hk => ?_, fun A' E' i va vb s2 m2 hA hp hz hn ha hb hk => ?_⟩
    · simp only [List.forIn_nil]
      exact wpAny_pure ⟨rfl, GxR.keeps_refl _⟩
    · exact wpAny_Name (wpAny_loadName_local kind (show scope.names.lookup x = some .local from one) hn ha ⟨⟨va, vb, hp.2.symm, rfl⟩, GxR.keeps_refl _⟩) hd
  case rest =>
    intro g h5 tk5 gs bare hag hsz keep5 W gat
    rw [GxR.passing_true, List.length_range] at W
    refine Calls.spliced_nil (call_tuple_gen W.in4_3 (fun i s9 st9 => st9.1.typeIs) gat (fun b hb => ?_) List.mem_cons_self (fun s' acc moved items => ?_) (by rw [← List.length_map (f := V.ref)]; exact fit))
    · show b < h5.objs.size
      have e5 : h5.objs.size = g + 1 := hsz
      have g3 : h3.objs.size < g := hag
      rcases List.mem_cons.mp hb with z | z
      · rw [z, e5]
        exact Nat.lt_succ_self g
      · rcases List.mem_cons.mp z with z | z
        · rw [z, e5]
          exact Nat.lt_succ_of_lt g3
        · rw [e5]
          exact Nat.lt_succ_of_lt (Nat.lt_trans (List.mem_range.mp z) g3)
    · have old : ∀ b u, s1.heap.get? b = some u → b ∉ [h3.objs.size, s1.heap.objs.size] := fun b u e hb => by
        have l := Heap.lt_size e
        rcases List.mem_cons.mp hb with z | z
        · exact Nat.lt_asymm up (by rw [← z]; exact l)
        · rw [List.mem_singleton.mp z] at l
          exact Nat.lt_irrefl _ l
      have inv2 := GxR.inv_tab (more := more) (h' := s'.heap) (g' := s'.gens) (d' := s'.drawn) (t' := s'.toks) inv1 hP (fun b u nb e => moved.heap b u (old b u e) (keep5 b u (keep b u nb e))) (moved.heap P _ (old P _ at0) (keep5 P _ at3)) (AllBare.movedS (inv1.bare.push bare) moved)
      rw [GxR.sh_eta s1 s' moved.os] at inv2
      have rels : Vals (ps.map (·.1)) acc.toList := by
        refine vals_by _ _ (by rw [List.length_map, ← len]; exact items.1.symm.trans (Array.length_toList (xs := acc)).symm) fun i v u hv hu => ?_
        obtain ⟨j, hj, va, vb, e1, rfl⟩ := items.2 i u (by simpa using hu)
        rw [List.getElem?_map] at hv
        cases e2 : ps[i]? with
        | none =>
          rw [e2] at hv
          cases hv
        | some pp =>
          rw [e2] at hv
          cases hv
          have li : i < ts.length := by
            rw [len]
            exact (List.getElem?_eq_some_iff.mp e2).1
          obtain rfl : i = j := by
            rw [List.getElem?_range li] at hj
            exact Option.some.inj hj
          obtain ⟨_, p2, va2, vb2, _, f2, f3, f4, _⟩ := hus i li
          rw [e2] at f2
          cases f2
          rw [f3] at e1
          have e3 : va2 = u := by
            have z := congrArg Array.toList e1
            simpa using (List.cons.inj z).1
          rw [← e3]
          exact f4
      have e : acc = acc.toList.toArray := by simp
      rw [e]
      exact laid_fz (s := s') inv2 rels (by rw [List.length_map, ← len, ← List.length_map (f := V.ref)]; exact fit) fun p u hp hu => q _ p u ⟨⟨_, upd_same, tri⟩, fun b nb => upd_ne nb⟩ hp hu
end
end Lt

set_option Elab.async false
set_option linter.all false
set_option maxRecDepth 100000
set_option maxHeartbeats 4000000
/-! len(set(xs)) of texts, whatever stands in xs more than once. -/
namespace Lt
open PySem PySem.Spec PyProof.Rows L2
/-! ### how many unlike texts -/
def nub (l : List Str) : List Str := l.foldl (fun acc x => if x ∈ acc then acc else acc ++ [x]) []
theorem nub_snoc (l : List Str) (x : Str) : nub (l ++ [x]) = if x ∈ nub l then nub l else nub l ++ [x] := by
  unfold nub
  rw [List.foldl_append]
  rfl
theorem snoc_ind {p : List Str → Prop} (h0 : p []) (h1 : ∀ l x, p l → p (l ++ [x])) : ∀ l, p l := by
  intro l
  have z : ∀ r : List Str, p r.reverse := by
    intro r
    induction r with
    | nil => exact h0
    | cons a r ih =>
      rw [List.reverse_cons]
      exact h1 _ a ih
  have q := z l.reverse
  rwa [List.reverse_reverse] at q
theorem nub_mem (l : List Str) : ∀ z, z ∈ nub l ↔ z ∈ l := by
  refine snoc_ind (p := fun l => ∀ z, z ∈ nub l ↔ z ∈ l) (fun z => Iff.rfl) (fun l x ih z => ?_) l
  rw [nub_snoc]
  by_cases c : x ∈ nub l
  · rw [if_pos c, ih z, List.mem_append, List.mem_singleton]
    exact ⟨.inl, fun h => h.elim id fun e => by rw [e]; exact (ih x).mp c⟩
  · rw [if_neg c, List.mem_append, List.mem_append, ih z]
theorem nub_nodup (l : List Str) : (nub l).Nodup := by
  refine snoc_ind (p := fun l => (nub l).Nodup) List.nodup_nil (fun l x ih => ?_) l
  rw [nub_snoc]
  by_cases c : x ∈ nub l
  · rw [if_pos c]
    exact ih
  · rw [if_neg c]
    exact nd_snoc ih c
def dist (l : List Str) : Nat := (nub l).length
theorem dist_snoc (l : List Str) (x : Str) : dist (l ++ [x]) = if x ∈ l then dist l else dist l + 1 := by
  unfold dist
  rw [nub_snoc]
  by_cases c : x ∈ nub l
  · rw [if_pos c, if_pos ((nub_mem l x).mp c)]
  · rw [if_neg c, if_neg fun z => c ((nub_mem l x).mpr z), List.length_append]
    rfl
theorem dist_le (l : List Str) : dist l ≤ l.length := by
  refine snoc_ind (p := fun l => dist l ≤ l.length) (Nat.le_refl _) (fun l x ih => ?_) l
  rw [dist_snoc, List.length_append, List.length_singleton]
  split <;> omega
/-- unlike texts, the same ones: as many -/
theorem dist_of {l ys : List Str} (nd : ys.Nodup) (mem : ∀ z, z ∈ ys ↔ z ∈ l) : ys.length = dist l := by
  have p : ys.Perm (nub l) := by
    rw [List.perm_ext_iff_of_nodup nd (nub_nodup l)]
    exact fun z => (mem z).trans (nub_mem l z).symm
  exact p.length_eq
/-! ### the set -/
section
variable {prog : Program} {w : World} {A : Around} {R : Result → Shared → Prop} {I : Addr} {fp wr : List Addr} {G : Array GenState → Array GenState → Prop} {n : Nat} {P : Nat → Value → Prop} {St : Nat → Shared → Prop}
theorem txt_loop (W : WalksS prog w A.in1 I fp wr G n P St) (S : Addr) (off : S ∉ fp) (ss : List Str) (len : n = ss.length) (room : n + 1 < scanBound) (val : ∀ i v, P i v → ∃ z t, ss[i]? = some z ∧ v = .str z t) :
    ∀ (m i : Nat) (s : Shared), i + m = n → St i s → s.heap.SetOf (PySem.strKind prog w) S (fun z => decide (z ∈ ss.take i)) (dist (ss.take i)) →
      (∀ s', Moved (S :: wr) G s s' → s'.heap.SetOf (PySem.strKind prog w) S (fun z => decide (z ∈ ss)) (dist ss) → R (.ok (.ret .none)) s') →
      codeAny (model prog w) A (.builtin "set.update.loop" ⟨[.ref S, .ref I], []⟩) R s := by
  have offW : S ∉ wr := fun h => off (W.sub _ h)
  have more : ∀ b ∈ wr, b ∈ S :: wr := fun b hb => .tail _ hb
  have carry : ∀ {s1 s2 : Shared} {M : Str → Bool} {c : Nat}, Moved wr G s1 s2 → s1.heap.SetOf (PySem.strKind prog w) S M c → s2.heap.SetOf (PySem.strKind prog w) S M c := fun mv st => by
    obtain ⟨o, es, ep, tb, ho, rest⟩ := st
    exact ⟨o, es, ep, tb, mv.heap S _ offW ho, rest⟩
  intro m
  induction m with
  | zero =>
    intro i s him st set done
    have hin : i = n := by omega
    subst hin
    refine codeAny_builtin F.entry_set_update_loop ?_
    rw [Around.under_plainId F.plain_set_update_loop _]
    show wpAny _ A.in1 (pyNext (.ref I) >>= _) _ _ s
    refine wpAny_bind (W.done s _ _ st fun s2 mv => ?_)
    rw [List.take_of_length_le (Nat.le_of_eq len.symm)] at set
    exact wpAny_pure (done s2 (mv.mono more) (carry mv set))
  | succ m ih =>
    intro i s him st set done
    refine codeAny_builtin F.entry_set_update_loop ?_
    rw [Around.under_plainId F.plain_set_update_loop _]
    show wpAny _ A.in1 (pyNext (.ref I) >>= _) _ _ s
    refine wpAny_bind (W.item i s _ _ (by omega) st fun v s2 pv st2 mv => ?_)
    obtain ⟨z, t, hz, rfl⟩ := val i v pv
    have isz : (PySem.strKind prog w).is z (.str z t) = true := strKind_is _ _ _ _
    have few : dist (ss.take i) ≤ i := Nat.le_trans (dist_le _) (by rw [List.length_take]; omega)
    have set2 := carry mv set
    show wpAny _ A.in1 (holding [Value.str z t] (setAdd S (.str z t)) >>= _) _ _ s2
    refine wpAny_bind (wpAny_holding ?_)
    unfold setAdd
    refine wpAny_holding (wpAny_bind ((PySem.strKind prog w).pyHash (k := z) isz (wpAny_setAddHashed_of (knd := PySem.strKind prog w) (s := { s2 with toks := s2.toks + 1 }) isz rfl set2 (by omega) fun h3 same set3 => ?_)))
    have set4 : h3.SetOf (PySem.strKind prog w) S (fun y => decide (y ∈ ss.take (i + 1))) (dist (ss.take (i + 1))) := by
      have e1 : ss.take (i + 1) = ss.take i ++ [z] := by
        rw [List.take_add_one, hz]
        rfl
      refine SetOf_congr set3 (fun y => ?_) ?_
      · rw [e1]
        simp [List.mem_append]
      · rw [e1, dist_snoc]
        simp
    have keep : ∀ b o, b ≠ S → s2.heap.get? b = some o → h3.get? b = some o := fun b o hb e => (same.2 b hb).trans e
    refine wpAny_pure ⟨plainId_quiet F.plain_set_update_loop _, ih (i + 1) _ (by omega) (W.frame _ s2 _ _ st2 (Nat.le_succ _) fun b hb o e => keep b o (fun h => off (h ▸ hb)) e) set4 fun s5 mv5 set5 => ?_⟩
    exact done s5 (Moved.trans W.gtrans ((mv.mono more).then_heap (Nat.le_succ _) fun b o hb e => keep b o (fun h => hb (h ▸ List.mem_cons_self)) e) mv5) set5
end
section
variable {prog : Program} {w : World} {A : Around} {E : Value → Shared → Prop} {s : Shared}
/-- set(v): what is left is to fill the new set -/
theorem set_call {v : Value} {Q : Value → Shared → Prop} (fill : ∀ led : Bool, wpAny (model prog w) A.in1.in1 (Builtin.«set.__init__» ⟨[.ref s.heap.objs.size, v], []⟩)
      (fun fin s' => match fin with
        | .done f => wants (fun r s2 => r = .none ∧ Q (.ref s.heap.objs.size) s2) E (.ok f) s'
        | .again c => c.quiet = true ∧ codeAny (model prog w) A.in1 c (wants (fun r s2 => r = .none ∧ Q (.ref s.heap.objs.size) s2) E) s')
      (fun e s' => wants (fun r s2 => r = .none ∧ Q (.ref s.heap.objs.size) s2) E (.error e) s')
      { s with heap := s.heap.push { cls := .type "set", dict := none, data := .set #[] 0 (.fresh 0 0 led) } }) : wpAny (model prog w) A (call (.type "set") [v]) Q E s := by
  have ft := PySem.F.called_set
  obtain ⟨c, tl, mro⟩ := ft.mro
  have made := ft.made
  have sub := ft.sub
  have notT := ft.notType
  have can := ft.canCreate
  have okT := PySem.F.typeCall_set_1 v
  refine wpAny_call (codeAny_of_tree (show wpAny _ _ (callAny (.type "set") _) _ _ _ from wpAny_pure ⟨Code.quiet_builtin _ (by decide +kernel), codeAny_builtin PySem.F.entry_type_call ?_⟩))
  rw [Around.under_plain (weight_type_call_type "set" [v] []) rfl]
  repeat (any_goals (first | assumption | wp_step))
  refine codeAny_mono (code_set_new_1 v (E := E) (Q₁ := fun obj s1 => ∃ led : Bool, obj = .ref s.heap.objs.size ∧ s1 = { s with heap := s.heap.push { cls := .type "set", dict := none, data := .set #[] 0 (.fresh 0 0 led) } }) fun led => ⟨led, rfl, rfl⟩) fun r s1 got => ?_
  cases r with
  | error e => exact got
  | ok fl =>
    cases fl with
    | ret obj =>
      obtain ⟨led, rfl, rfl⟩ := got
      have isSet : Shared.TypeIs { s with heap := s.heap.push { cls := .type "set", dict := none, data := .set #[] 0 (.fresh 0 0 led) } } (.ref s.heap.objs.size) "set" := ⟨_, Heap.get?_push_size _ rfl, rfl⟩
      have look := ft.init.lookup
      have bound := ft.init.bind (.ref s.heap.objs.size)
      repeat (any_goals (first | assumption | wp_step))
      refine codeAny_mono (codeAny_call_builtin ft.init.plain PySem.F.entry_set_init (check_set_init_1 isSet (fill led))) fun r2 s2 got2 => ?_
      cases r2 with
      | error e => exact got2
      | ok fl2 =>
        cases fl2 with
        | ret r =>
          obtain ⟨rfl, q⟩ := got2
          repeat (any_goals (first | assumption | wp_step))
        | _ => exact got2.elim
    | _ => exact got.elim
theorem set_txts {l : Addr} {items : Array Value} {ss : List Str} {Q : Value → Shared → Prop} (calm : A.handled = none) (hl : s.heap.IsList l items) (val : ∀ (i : Nat) (v : Value), items[i]? = some v → ∃ z t, ss[i]? = some z ∧ v = .str z t)
    (len : items.size = ss.length) (room : items.size + 1 < scanBound)
    (h : ∀ (h' : Heap) (tk : Nat), h'.SetOf (PySem.strKind prog w) s.heap.objs.size (fun z => decide (z ∈ ss)) (dist ss) → (∀ b o, s.heap.get? b = some o → h'.get? b = some o) → Q (.ref s.heap.objs.size) { s with heap := h', toks := tk }) :
    wpAny (model prog w) A (call (.type "set") [.ref l]) Q E s := by
  refine set_call fun led => ?_
  have below : (l : Nat) < s.heap.objs.size := by
    obtain ⟨o, ho, _⟩ := hl
    exact Heap.lt_size ho
  have atS : (s.heap.push { cls := .type "set", dict := none, data := .set #[] 0 (.fresh 0 0 led) }).get? s.heap.objs.size = some { cls := .type "set", dict := none, data := .set #[] 0 (.fresh 0 0 led) } := Heap.get?_push_size _ rfl
  have hl1 : (s.heap.push { cls := .type "set", dict := none, data := .set #[] 0 (.fresh 0 0 led) }).IsList l items := hl.push _
  obtain ⟨⟨oc, od, odt, osl⟩, ho1, hc1, n1, hd1⟩ := id hl1
  simp only at hc1 hd1
  subst hc1 hd1
  have no1 := PySem.F.sub_list_set
  have no2 := PySem.F.sub_list_frozenset
  have no3 : (Value.type "list" == Value.type "dict") = false := by decide
  unfold Builtin.«set.__init__» noKeywords Builtin.Frozenset.updateFrom
  generalize hPI : pyIter = PI
  wp_walk
  subst hPI
  refine wpAny_pyIter_list hl1 (wpAny_bind (wpAny_runValue ?_))
  have top1 : (s.heap.push { cls := .type "set", dict := none, data := .set #[] 0 (.fresh 0 0 led) }).objs.size = s.heap.objs.size + 1 := Heap.size_push _ _
  have calm3 : A.in1.in1.in1.handled = none := by simp [calm]
  have neI : l ≠ (s.heap.push { cls := .type "set", dict := none, data := .set #[] 0 (.fresh 0 0 led) }).objs.size := by
    rw [top1]
    exact Nat.ne_of_lt (Nat.lt_succ_of_lt below)
  have offS : s.heap.objs.size ∉ [(s.heap.push { cls := .type "set", dict := none, data := .set #[] 0 (.fresh 0 0 led) }).objs.size, l] := by
    rw [top1]
    intro z
    rcases List.mem_cons.mp z with e | e
    · exact Nat.succ_ne_self _ e.symm
    · exact absurd (List.mem_singleton.mp e) (Nat.ne_of_gt below)
  refine txt_loop ((Walks.list calm3 _ l neI items).toS) s.heap.objs.size offS ss len room val items.size 0 _ (Nat.zero_add _) ⟨⟨_, Heap.get?_push_size _ rfl, rfl, rfl⟩, hl1.push _⟩ ?empty ?filled
  case empty =>
    refine SetOf_congr ((setObjOf_fresh (knd := PySem.strKind prog w) led).setOf (Heap.get?_push_of_some _ atS) (by unfold scanBound; omega)) (fun z => ?_) rfl
    simp
  case filled =>
    intro s5 mv set5
    obtain ⟨h5, g5, d5, tk5, os5⟩ := s5
    obtain rfl : g5 = s.gens := mv.gens
    obtain rfl : d5 = s.drawn := mv.drawn
    obtain rfl : os5 = s.os := mv.os
    show wpAny _ _ _ _ _ _
    refine wpAny_pure (show wpAny _ _ (ret Value.none) _ _ _ from wpAny_pure ⟨rfl, h h5 tk5 set5 fun b o e => ?_⟩)
    have lt : b < s.heap.objs.size := Heap.lt_size e
    refine mv.heap b o (fun z => ?_) (Heap.get?_push_of_some _ (Heap.get?_push_of_some _ e))
    rcases List.mem_cons.mp z with e2 | e2
    · exact absurd e2 (Nat.ne_of_lt lt)
    · rw [List.mem_singleton.mp e2, top1] at lt
      exact absurd lt (Nat.not_lt.mpr (Nat.le_succ _))
end
section
variable {X : Cx}
def tLenSetS (K : PySem.W.Frag) (ta : TE) : TE := fun σ H Q => ta σ H fun x H1 => ∃ (l : Addr) (ss : List Str), x = .ref l ∧ SqL K H1 l (ss.map V.str) ∧ ss.length ≤ 1000 ∧ Q (.int (dist ss : Nat)) H1
theorem pe_lenSetS {a : Expr} {ta : TE} {p p2 q pos : Pos} (hcalm : X.calm = true) (g1 : Gl X "len") (m1 : X.mg "len" = none) (g2 : Gl X "set") (m2 : X.mg "set" = none) (ha : PE X a ta)
    (one : starEach [a] X.env = (false, eval a X.env) :: starEach [] X.env := by rfl) : PE X (.Call (.Name "len" p) [.Call (.Name "set" p2) [a] [] q] [] pos) (tLenSetS X.K ta) := by
  refine ⟨fun pins s σ H Q inv h => Call_ (ld_blt inv g1 m1 boot_len (callWith_builtin1 (args_cons ?_ rfl) rfl rfl))⟩
  refine Call_ (ld_blt inv g2 m2 boot_set (callWith_type1 (args_cons (thn (ha.run pins s σ H _ inv h) fun v s1 ⟨x, H1, inv1, rel, l, ss, ev, sq, few, q1⟩ => args_nil ?_) one) one rfl))
  subst ev
  cases rel
  obtain ⟨its, vals, pl, _⟩ := inv1.list sq
  have len : its.toArray.size = ss.length := by rw [List.size_toArray, ← vals.length, List.length_map]
  refine set_txts (ss := ss) (inv1.ok.hd hcalm) pl.isList (fun i v e => ?_) len (by rw [len]; unfold scanBound; omega) fun h' tk set kept => args_nil ?_
  · have e' : its[i]? = some v := by simpa using e
    have hi : i < ss.length := by
      have z := (List.getElem?_eq_some_iff.mp e').1
      rw [← len, List.size_toArray]
      exact z
    obtain ⟨u, g3, t, g4⟩ := vals.get (i := i) (x := .str ss[i]) (by simp [hi])
    rw [e'] at g3
    cases g3
    exact ⟨ss[i], t, List.getElem?_eq_getElem hi, g4⟩
  · obtain ⟨o, es, ep, tb, ho, ex, hd, _, _, _, fits, num⟩ := set
    have small : dist ss ≤ 1000 := Nat.le_trans (dist_le ss) few
    have inv2 : Inv X pins σ H1 { s1 with heap := h', toks := tk } := inv1.kept kept
    exact call_len_set ho ex hd fits (by rw [num]; omega) ⟨.int (dist ss : Nat), H1, inv2.tok _, ⟨_, by rw [num]⟩, q1⟩
end
end Lt

set_option Elab.async false
set_option linter.all false
set_option maxRecDepth 100000
set_option maxHeartbeats 4000000
namespace Lt
open PySem PySem.Spec PyProof.Rows L2
/-! ### who lies above was wanted since -/
theorem nub_cons (b : Str) (l : List Str) : nub (b :: l) = b :: (nub l).filter (fun z => decide (z ≠ b)) := by
  refine snoc_ind (p := fun l => nub (b :: l) = b :: (nub l).filter fun z => decide (z ≠ b)) rfl (fun l x ih => ?_) l
  have e : b :: (l ++ [x]) = (b :: l) ++ [x] := rfl
  have m1 : x ∈ nub (b :: l) ↔ x = b ∨ x ∈ nub l := by rw [nub_mem, nub_mem, List.mem_cons]
  rw [e, nub_snoc, nub_snoc]
  by_cases c : x ∈ nub l
  · rw [if_pos c, if_pos (m1.mpr (.inr c)), ih]
  · rw [if_neg c, List.filter_append]
    by_cases d : x = b
    · rw [if_pos (m1.mpr (.inl d)), ih, List.filter_cons_of_neg (by simpa using d), List.filter_nil, List.append_nil]
    · rw [if_neg fun z => (m1.mp z).elim d c, ih, List.filter_cons_of_pos (by simpa using d), List.filter_nil]
      rfl
theorem lay_filter {cur : List Str} {b : Str} (nd : cur.Nodup) : lay cur b = b :: cur.filter (fun z => decide (z ≠ b)) := by
  unfold lay
  rw [← List.erase_eq_eraseIdx_of_idxOf rfl, nd.erase_eq_filter]
  congr 1
  apply List.filter_congr
  intro z _
  by_cases e : z = b
  · subst e
    simp
  · have z1 : (z != b) = true := by simpa using e
    rw [z1]
    simp [e]
theorem behind_is {bs : List Str} (nd : bs.Nodup) : ∀ rs : List Str, (∀ b ∈ rs, b ∈ bs) → behindM bs rs = nub rs.reverse ++ bs.filter fun z => decide (z ∉ rs) := by
  refine snoc_ind (p := fun rs => (∀ b ∈ rs, b ∈ bs) → behindM bs rs = nub rs.reverse ++ bs.filter fun z => decide (z ∉ rs)) (fun _ => ?_) (fun rs b ih h => ?_)
  · show bs = [] ++ bs.filter fun z => decide (z ∉ ([] : List Str))
    rw [List.nil_append, List.filter_eq_self.mpr fun z _ => by simp]
  · have h1 : ∀ c ∈ rs, c ∈ bs := fun c hc => h c (List.mem_append_left _ hc)
    have nd2 : (behindM bs rs).Nodup := (behindM_perm rs h1).nodup_iff.mpr nd
    rw [behindM_snoc, lay_filter nd2, ih h1, List.filter_append, List.reverse_append, List.reverse_singleton]
    show b :: _ = nub (b :: rs.reverse) ++ _
    rw [nub_cons, List.filter_filter]
    show b :: _ = b :: ((nub rs.reverse).filter (fun z => decide (z ≠ b)) ++ bs.filter fun z => decide (z ∉ rs ++ [b]))
    congr 2
    apply List.filter_congr
    intro z _
    by_cases c1 : z ∈ rs
    · simp [c1]
    · by_cases c2 : z = b
      · simp [c2]
      · simp [c1, c2]
theorem nub_prefix (l : List Str) : ∀ r : List Str, ∃ t, nub (l ++ r) = nub l ++ t := by
  refine snoc_ind (p := fun r => ∃ t, nub (l ++ r) = nub l ++ t) ⟨[], by rw [List.append_nil, List.append_nil]⟩ (fun r x ih => ?_)
  obtain ⟨t, e⟩ := ih
  rw [← List.append_assoc, nub_snoc, e]
  by_cases c : x ∈ nub l ++ t
  · rw [if_pos c]
    exact ⟨t, rfl⟩
  · rw [if_neg c]
    exact ⟨t ++ [x], by rw [List.append_assoc]⟩
theorem idx_mid {l r : List Str} {b : Str} (h : b ∉ l) : (l ++ b :: r).idxOf b = l.length := by
  rw [List.idxOf_append, if_neg h, List.idxOf_cons_self, Nat.zero_add]
theorem nub_idx {l r : List Str} {b : Str} (h : b ∉ l) : (nub (l ++ b :: r)).idxOf b = (nub l).length := by
  obtain ⟨t, e⟩ := nub_prefix (l ++ [b]) r
  rw [List.append_assoc] at e
  have e2 : l ++ ([b] ++ r) = l ++ b :: r := rfl
  have nb : b ∉ nub l := fun z => h ((nub_mem l b).mp z)
  rw [e2, nub_snoc, if_neg nb, List.append_assoc] at e
  rw [e]
  exact idx_mid nb
theorem split_at {l : List Str} {b : Str} (h : b ∈ l) : l = l.take (l.idxOf b) ++ b :: l.drop (l.idxOf b + 1) ∧ b ∉ l.take (l.idxOf b) := by
  refine ⟨?_, fun z => over_ne (bs := l) (b := b) (o := b) z rfl⟩
  have i := idx_lt h
  have e := List.take_append_drop (l.idxOf b) l
  rw [List.drop_eq_getElem_cons i, List.getElem_idxOf i] at e
  exact e.symm
theorem lifted_seen {bs a : List Str} {b : Str} (nd : bs.Nodup) (ha : ∀ c ∈ a, c ∈ bs) (hb : b ∈ a) : (behindM bs a).idxOf b = dist (a.drop (a.length - a.reverse.idxOf b)) := by
  have hr : b ∈ a.reverse := List.mem_reverse.mpr hb
  obtain ⟨e, no⟩ := split_at hr
  have hn : b ∈ nub a.reverse := (nub_mem _ b).mpr hr
  rw [behind_is nd a ha, List.idxOf_append, if_pos hn]
  have k := nub_idx (l := a.reverse.take (a.reverse.idxOf b)) (r := a.reverse.drop (a.reverse.idxOf b + 1)) no
  rw [← e] at k
  rw [k]
  refine dist_of (nub_nodup _) fun z => ?_
  rw [nub_mem, List.take_reverse, List.mem_reverse]
theorem lifted_new {bs a : List Str} {b : Str} (nd : bs.Nodup) (ha : ∀ c ∈ a, c ∈ bs) (hbs : b ∈ bs) (hb : b ∉ a) : (behindM bs a).idxOf b = dist (a ++ over bs b) := by
  have hr : b ∉ nub a.reverse := fun z => hb (List.mem_reverse.mp ((nub_mem _ b).mp z))
  obtain ⟨e, no⟩ := split_at hbs
  have ef : (bs.filter fun z => decide (z ∉ a)).idxOf b = ((over bs b).filter fun z => decide (z ∉ a)).length := by
    have e2 : bs.filter (fun z => decide (z ∉ a)) = ((over bs b).filter fun z => decide (z ∉ a)) ++ b :: (bs.drop (bs.idxOf b + 1)).filter fun z => decide (z ∉ a) := by
      conv =>
        lhs
        rw [e]
      rw [List.filter_append, List.filter_cons_of_pos (by simpa using hb)]
      rfl
    rw [e2]
    exact idx_mid fun z => no ((List.mem_filter.mp z).1)
  rw [behind_is nd a ha, List.idxOf_append, if_neg hr, ef, Nat.add_comm, ← List.length_append]
  refine dist_of ?_ fun z => ?_
  · rw [List.nodup_append]
    refine ⟨nub_nodup _, (nd.sublist (List.take_sublist _ _)).filter _, fun x hx y hy xy => ?_⟩
    subst xy
    have z1 := List.mem_reverse.mp ((nub_mem _ _).mp hx)
    have z2 := (List.mem_filter.mp hy).2
    simp [z1] at z2
  · rw [List.mem_append, List.mem_append, nub_mem, List.mem_reverse, List.mem_filter]
    by_cases c : z ∈ a
    · simp [c]
    · simp [c]
theorem behindM_append (bs : List Str) : ∀ one two : List Str, behindM bs (one ++ two) = behindM (behindM bs one) two := by
  intro one
  induction one generalizing bs with
  | nil => intro two; rfl
  | cons x r ih => intro two; exact ih (lay bs x) two
theorem liftedM_append (bs : List Str) : ∀ one two : List Str, liftedM bs (one ++ two) = liftedM bs one ++ liftedM (behindM bs one) two := by
  intro one
  induction one generalizing bs with
  | nil => intro two; rfl
  | cons x r ih =>
    intro two
    show bs.idxOf x :: liftedM (lay bs x) (r ++ two) = bs.idxOf x :: (liftedM (lay bs x) r ++ liftedM (behindM (lay bs x) r) two)
    rw [ih]
theorem liftedM_get (bs : List Str) : ∀ (rs : List Str) (i : Nat) (b : Str), rs[i]? = some b → (liftedM bs rs)[i]? = some ((behindM bs (rs.take i)).idxOf b) := by
  intro rs
  induction rs generalizing bs with
  | nil => intro i b h; simp at h
  | cons x r ih =>
    intro i b h
    cases i with
    | zero =>
      simp only [List.getElem?_cons_zero, Option.some.injEq] at h
      subst h
      rfl
    | succ i =>
      simp only [List.getElem?_cons_succ] at h
      exact ih (lay bs x) i b h
/-! ### all that were lifted are all passings -/
theorem rows_count : ∀ {bs : List Str} (rs : List Str), (∀ b ∈ rs, b ∈ bs) → (rowsM bs rs).length = (liftedM bs rs).sum
  | bs, [], _ => rfl
  | bs, b :: r, h => by
    have hb := h b (List.mem_cons_self ..)
    have p := lay_perm hb
    have ih := rows_count (bs := lay bs b) r fun c hc => p.mem_iff.mpr (h c (List.mem_cons_of_mem _ hc))
    show ((over bs b).map (fun o => (b, o)) ++ rowsM (lay bs b) r).length = (bs.idxOf b :: liftedM (lay bs b) r).sum
    have i := idx_lt hb
    rw [List.length_append, List.length_map, ih, List.sum_cons]
    unfold over
    rw [List.length_take, Nat.min_eq_left (Nat.le_of_lt i)]
theorem sum_one {ps : List (Str × Str)} {q : Str × Str} (nd : ps.Nodup) (h : q ∈ ps) : (ps.map fun z => if q = z then 1 else 0).sum = 1 := by
  induction ps with
  | nil => cases h
  | cons a r ih =>
    rw [List.map_cons, List.sum_cons]
    obtain ⟨n1, n2⟩ := List.nodup_cons.mp nd
    by_cases e : q = a
    · subst e
      have z : (r.map fun z => if q = z then 1 else 0).sum = 0 := by
        have all : ∀ z ∈ r, q ≠ z := fun z hz e => n1 (e ▸ hz)
        clear ih h nd n1 n2
        induction r with
        | nil => rfl
        | cons c r ih2 =>
          rw [List.map_cons, List.sum_cons, if_neg (all c (List.mem_cons_self ..)), ih2 fun z hz => all z (List.mem_cons_of_mem _ hz)]
      rw [if_pos rfl, z]
    · rw [if_neg e, Nat.zero_add]
      exact ih n2 ((List.mem_cons.mp h).resolve_left e)
theorem cnt_sum {ps : List (Str × Str)} (nd : ps.Nodup) : ∀ rows : List (Str × Str), (∀ r ∈ rows, asPair r ∈ ps) → (ps.map fun q => cnt rows q).sum = rows.length := by
  intro rows
  have key : ∀ l : List (Str × Str), (∀ r ∈ l.reverse, asPair r ∈ ps) → (ps.map fun q => cnt l.reverse q).sum = l.length := by
    intro l
    induction l with
    | nil =>
      intro _
      have z : ∀ ps : List (Str × Str), (ps.map fun q => cnt [] q).sum = 0 := by
        intro ps
        induction ps with
        | nil => rfl
        | cons a r ih => rw [List.map_cons, List.sum_cons, cnt_nil, ih]
      exact z ps
    | cons r l ih =>
      intro h
      rw [List.reverse_cons] at h ⊢
      have hr := h r (by simp)
      have e : (ps.map fun q => cnt (l.reverse ++ [r]) q) = ps.map fun q => cnt l.reverse q + if asPair r = q then 1 else 0 := by
        apply List.map_congr_left
        intro q _
        exact cnt_snoc _ _ _
      have add : ∀ (ps : List (Str × Str)) (f g : Str × Str → Nat), (ps.map fun q => f q + g q).sum = (ps.map f).sum + (ps.map g).sum := by
        intro ps f g
        induction ps with
        | nil => rfl
        | cons a r ih =>
          rw [List.map_cons, List.sum_cons, List.map_cons, List.sum_cons, List.map_cons, List.sum_cons, ih]
          omega
      rw [e, add, ih fun z hz => h z (List.mem_append_left _ hz), sum_one nd hr, List.length_cons]
  intro h
  have z := key rows.reverse (by rw [List.reverse_reverse]; exact h)
  rw [List.reverse_reverse, List.length_reverse] at z
  exact z
theorem prs_fst {ys : List Str} : ∀ {n : Nat} {q : Str × Str}, q ∈ prs ys n → ∃ k, k < n ∧ ys[k]? = some q.1
  | 0, q, h => by cases h
  | n + 1, q, h => by
    cases e : ys[n]? with
    | none =>
      have e2 : prs ys (n + 1) = prs ys n ++ (match ys[n]? with | some a => (ys.drop (n + 1)).map fun b => (a, b) | none => []) := rfl
      rw [e2, e, List.append_nil] at h
      obtain ⟨k, h1, h2⟩ := prs_fst h
      exact ⟨k, by omega, h2⟩
    | some a =>
      rw [prs_succ e] at h
      rcases List.mem_append.mp h with h | h
      · obtain ⟨k, h1, h2⟩ := prs_fst h
        exact ⟨k, by omega, h2⟩
      · obtain ⟨b, hb, rfl⟩ := List.mem_map.mp h
        exact ⟨n, by omega, e⟩
theorem prs_nodup {ys : List Str} (nd : ys.Nodup) : ∀ n, (prs ys n).Nodup
  | 0 => List.nodup_nil
  | n + 1 => by
    cases e : ys[n]? with
    | none =>
      have e2 : prs ys (n + 1) = prs ys n ++ (match ys[n]? with | some a => (ys.drop (n + 1)).map fun b => (a, b) | none => []) := rfl
      rw [e2, e, List.append_nil]
      exact prs_nodup nd n
    | some a =>
      rw [prs_succ e, List.nodup_append]
      refine ⟨prs_nodup nd n, ?_, fun x hx y hy xy => ?_⟩
      · have nd2 : (ys.drop (n + 1)).Nodup := nd.sublist (List.drop_sublist _ _)
        exact List.Pairwise.map _ (fun x y ne z => ne (Prod.mk.inj z).2) nd2
      · subst xy
        obtain ⟨k, h1, h2⟩ := prs_fst hx
        obtain ⟨b, hb, rfl⟩ := List.mem_map.mp hy
        have z := nd_ix nd h2 e
        omega
end Lt

set_option Elab.async false
set_option linter.all false
set_option maxRecDepth 100000
set_option maxHeartbeats 4000000
namespace Lt
open PySem PySem.Spec PyProof.Rows L2
/-! ### neighbours that differ -/
def adj : List Str → Nat
  | [] => 0
  | [_] => 0
  | x :: y :: r => (if x = y then 0 else 1) + adj (y :: r)
theorem adj_append : ∀ (l : List Str) (x : Str) (r : List Str), adj (l ++ x :: r) = adj (l ++ [x]) + adj (x :: r)
  | [], x, r => by
    show adj (x :: r) = adj [x] + _
    exact (Nat.zero_add _).symm
  | [a], x, r => by
    show (if a = x then 0 else 1) + adj (x :: r) = ((if a = x then 0 else 1) + 0) + _
    rw [Nat.add_zero]
  | a :: b :: l, x, r => by
    show (if a = b then 0 else 1) + adj (b :: l ++ x :: r) = ((if a = b then 0 else 1) + adj (b :: l ++ [x])) + _
    rw [adj_append (b :: l) x r, Nat.add_assoc]
theorem adj_reverse : ∀ l : List Str, adj l.reverse = adj l
  | [] => rfl
  | [_] => rfl
  | x :: y :: r => by
    have e : (x :: y :: r).reverse = r.reverse ++ y :: [x] := by simp
    have e2 : (y :: r).reverse = r.reverse ++ [y] := by simp
    rw [e, adj_append, ← e2, adj_reverse (y :: r)]
    show _ + ((if y = x then 0 else 1) + 0) = (if x = y then 0 else 1) + _
    by_cases c : x = y
    · rw [if_pos c, if_pos c.symm]
      omega
    · rw [if_neg c, if_neg fun z => c z.symm]
      omega
/-- around: the last one ahead of the first -/
def cyc (l : List Str) : Nat := match l.getLast? with
  | none => 0
  | some z => adj (z :: l)
theorem cyc_snoc (l : List Str) (z : Str) : cyc (l ++ [z]) = adj (z :: (l ++ [z])) := by
  unfold cyc
  rw [List.getLast?_concat]
theorem snoc_of {l : List Str} (h : l ≠ []) : ∃ m z, l = m ++ [z] := ⟨l.dropLast, l.getLast h, (List.dropLast_concat_getLast h).symm⟩
theorem cyc_turn (u v : List Str) : cyc (u ++ v) = cyc (v ++ u) := by
  by_cases hu : u = []
  · rw [hu, List.append_nil]
    rfl
  by_cases hv : v = []
  · rw [hv, List.append_nil]
    rfl
  obtain ⟨u', p, rfl⟩ := snoc_of hu
  obtain ⟨v', q, rfl⟩ := snoc_of hv
  have e1 : (u' ++ [p]) ++ (v' ++ [q]) = (u' ++ [p] ++ v') ++ [q] := by simp
  have e2 : (v' ++ [q]) ++ (u' ++ [p]) = (v' ++ [q] ++ u') ++ [p] := by simp
  rw [e1, e2, cyc_snoc, cyc_snoc]
  have f1 : q :: (u' ++ [p] ++ v' ++ [q]) = (q :: u') ++ p :: (v' ++ [q]) := by simp
  have f2 : p :: (v' ++ [q] ++ u' ++ [p]) = (p :: v') ++ q :: (u' ++ [p]) := by simp
  rw [f1, f2, adj_append (q :: u') p, adj_append (p :: v') q]
  show adj (q :: u' ++ [p]) + adj (p :: v' ++ [q]) = adj (p :: v' ++ [q]) + adj (q :: u' ++ [p])
  exact Nat.add_comm _ _
theorem cyc_back (l : List Str) : cyc l.reverse = cyc l := by
  cases l with
  | nil => rfl
  | cons a r =>
    obtain ⟨m, z, e⟩ := snoc_of (l := a :: r) (by simp)
    have e1 : (a :: r).reverse = r.reverse ++ [a] := by simp
    rw [e1, cyc_snoc]
    have e2 : cyc (a :: r) = adj (z :: a :: r) := by
      conv =>
        lhs
        rw [e, cyc_snoc, ← e]
    have e3 : (z :: a :: r).reverse = r.reverse ++ a :: [z] := by simp
    have e4 : a :: (r.reverse ++ [a]) = a :: (a :: r).reverse := by simp
    rw [e2, ← adj_reverse (z :: a :: r), e3, adj_append, e4]
    have e5 : (a :: r).reverse = z :: m.reverse := by rw [e]; simp
    have e6 : adj (r.reverse ++ [a]) = adj (z :: m.reverse) := by rw [← e5]; simp
    rw [e6, e5]
    show (if a = z then 0 else 1) + _ = _ + ((if a = z then 0 else 1) + 0)
    omega
/-! ### two books alone -/
theorem asPair_swap (a b : Str) : asPair (a, b) = asPair (b, a) := by
  unfold asPair
  by_cases c : ltS a b
  · rw [if_pos c, if_neg (ltS_asymm c)]
  · rw [if_neg c]
    by_cases d : ltS b a
    · rw [if_pos d]
    · rw [if_neg d, ltS_tri c d]
theorem asPair_eq {a b c d : Str} (h : asPair (a, b) = asPair (c, d)) : (a = c ∧ b = d) ∨ (a = d ∧ b = c) := by
  unfold asPair at h
  by_cases c1 : ltS a b
  · rw [if_pos c1] at h
    by_cases c2 : ltS c d
    · rw [if_pos c2] at h
      exact .inl ⟨(Prod.mk.inj h).1, (Prod.mk.inj h).2⟩
    · rw [if_neg c2] at h
      exact .inr ⟨(Prod.mk.inj h).1, (Prod.mk.inj h).2⟩
  · rw [if_neg c1] at h
    by_cases c2 : ltS c d
    · rw [if_pos c2] at h
      exact .inr ⟨(Prod.mk.inj h).2, (Prod.mk.inj h).1⟩
    · rw [if_neg c2] at h
      exact .inl ⟨(Prod.mk.inj h).2, (Prod.mk.inj h).1⟩
def two (x y : Str) (l : List Str) : List Str := l.filter fun z => decide (z = x ∨ z = y)
theorem two_append (x y : Str) (a b : List Str) : two x y (a ++ b) = two x y a ++ two x y b := List.filter_append ..
theorem two_in {x y b : Str} (h : b = x ∨ b = y) (r : List Str) : two x y (b :: r) = b :: two x y r := List.filter_cons_of_pos (by simpa using h)
theorem two_out {x y b : Str} (h : ¬ (b = x ∨ b = y)) (r : List Str) : two x y (b :: r) = two x y r := List.filter_cons_of_neg (by simpa using h)
theorem two_mem {x y z : Str} {l : List Str} : z ∈ two x y l ↔ z ∈ l ∧ (z = x ∨ z = y) := by
  unfold two
  rw [List.mem_filter, decide_eq_true_iff]
theorem cnt_append (a b : List (Str × Str)) (q : Str × Str) : cnt (a ++ b) q = cnt a q + cnt b q := by
  unfold cnt
  rw [List.filter_append, List.length_append]
theorem two_lay {bs : List Str} (nd : bs.Nodup) (x y b : Str) : two x y (lay bs b) = (if b = x ∨ b = y then [b] else []) ++ (two x y bs).filter fun z => decide (z ≠ b) := by
  rw [lay_filter nd]
  have e : two x y (bs.filter fun z => decide (z ≠ b)) = (two x y bs).filter fun z => decide (z ≠ b) := by
    unfold two
    rw [List.filter_filter, List.filter_filter]
    apply List.filter_congr
    intro z _
    exact Bool.and_comm _ _
  by_cases c : b = x ∨ b = y
  · rw [two_in c, if_pos c, e]
    rfl
  · rw [two_out c, if_neg c, e]
    rfl
/-- how often both are in a passing of b -/
theorem cnt_over {bs : List Str} {b t o : Str} (h : b = t) (ne : t ≠ o) : ∀ l : List Str, (cnt (l.map fun z => (b, z)) (asPair (t, o))) = (l.filter fun z => decide (z = o)).length := by
  subst h
  intro l
  unfold cnt
  rw [List.filter_map, List.length_map]
  congr 1
  apply List.filter_congr
  intro z _
  show decide (asPair (b, z) = asPair (b, o)) = decide (z = o)
  rw [decide_eq_decide]
  constructor
  · intro e
    rcases asPair_eq e with ⟨_, e⟩ | ⟨e, _⟩
    · exact e
    · exact absurd e ne
  · intro e
    rw [e]
theorem cnt_none {x y b : Str} (h : ¬ (b = x ∨ b = y)) : ∀ l : List Str, cnt (l.map fun z => (b, z)) (asPair (x, y)) = 0 := by
  intro l
  unfold cnt
  rw [List.length_eq_zero_iff, List.filter_eq_nil_iff]
  intro r hr
  obtain ⟨z, _, rfl⟩ := List.mem_map.mp hr
  intro e
  rcases asPair_eq (of_decide_eq_true e) with ⟨e, _⟩ | ⟨e, _⟩
  · exact h (.inl e)
  · exact h (.inr e)
theorem filter_two {x y t : Str} (h : t = x ∨ t = y) (l : List Str) : (l.filter fun z => decide (z = t)) = (two x y l).filter fun z => decide (z = t) := by
  unfold two
  rw [List.filter_filter]
  apply List.filter_congr
  intro z _
  by_cases c : z = t
  · rw [decide_eq_true c, c, decide_eq_true h]
    rfl
  · rw [decide_eq_false c]
    rfl
theorem cnt_two {x y : Str} (ne : x ≠ y) : ∀ (rs : List Str) {bs : List Str} {t o : Str}, bs.Nodup → two x y bs = [t, o] → (∀ b ∈ rs, b ∈ bs) → cnt (rowsM bs rs) (asPair (x, y)) = adj (t :: two x y rs)
  | [], bs, t, o, nd, e, h => rfl
  | b :: r, bs, t, o, nd, e, h => by
    have hb := h b List.mem_cons_self
    have p := lay_perm hb
    have nd2 : (lay bs b).Nodup := p.nodup_iff.mpr nd
    have h2 : ∀ c ∈ r, c ∈ lay bs b := fun c hc => p.mem_iff.mpr (h c (List.mem_cons_of_mem _ hc))
    have tm : t = x ∨ t = y := (two_mem.mp (by rw [e]; exact List.mem_cons_self)).2
    have om : o = x ∨ o = y := (two_mem.mp (by rw [e]; exact List.mem_cons_of_mem _ List.mem_cons_self)).2
    have nto : t ≠ o := by
      have z : (two x y bs).Nodup := nd.filter _
      rw [e] at z
      have z2 := (List.nodup_cons.mp z).1
      intro c
      exact z2 (by rw [c]; exact List.mem_cons_self)
    have ap : asPair (x, y) = asPair (t, o) := by
      rcases tm with rfl | rfl
      · rcases om with rfl | rfl
        · exact absurd rfl nto
        · rfl
      · rcases om with rfl | rfl
        · exact asPair_swap _ _
        · exact absurd rfl nto
    show cnt ((over bs b).map (fun z => (b, z)) ++ rowsM (lay bs b) r) (asPair (x, y)) = _
    rw [cnt_append]
    obtain ⟨es, nover⟩ := split_at hb
    have es2 : two x y (over bs b) ++ two x y (b :: bs.drop (bs.idxOf b + 1)) = [t, o] := by
      rw [← two_append, ← e]
      exact congrArg (two x y) es.symm
    have nov : b ∉ two x y (over bs b) := fun z => nover (two_mem.mp z).1
    by_cases c : b = x ∨ b = y
    · rw [two_in c] at es2 ⊢
      have bto : b = t ∨ b = o := by
        have z : b ∈ two x y bs := two_mem.mpr ⟨hb, c⟩
        rw [e] at z
        rcases List.mem_cons.mp z with z | z
        · exact .inl z
        · exact .inr (List.mem_singleton.mp z)
      rcases bto with rfl | rfl
      · have z0 : two x y (over bs b) = [] := by
          cases q : two x y (over bs b) with
          | nil => rfl
          | cons a l =>
            rw [q] at es2 nov
            have z := (List.cons.inj es2).1
            exact absurd (by rw [z]; exact List.mem_cons_self) nov
        have l2 : two x y (lay bs b) = [b, o] := by
          rw [two_lay nd, if_pos c, e, List.filter_cons_of_neg (by simp), List.filter_cons_of_pos (by simpa using nto.symm)]
          rfl
        rw [cnt_two ne r nd2 l2 h2, ap, cnt_over (bs := bs) rfl nto, filter_two om, z0]
        show 0 + _ = (if b = b then 0 else 1) + _
        rw [if_pos rfl]
      · have z0 : two x y (over bs b) = [t] := by
          cases q : two x y (over bs b) with
          | nil =>
            rw [q] at es2
            exact absurd (List.cons.inj es2).1.symm nto
          | cons a l =>
            rw [q] at es2 nov
            have z := List.cons.inj es2
            cases l with
            | nil => rw [z.1]
            | cons a2 l2 =>
              have z2 := (List.cons.inj z.2).1
              exact absurd (by rw [← z2]; exact List.mem_cons_of_mem _ List.mem_cons_self) nov
        have l2 : two x y (lay bs b) = [b, t] := by
          rw [two_lay nd, if_pos c, e, List.filter_cons_of_pos (by simpa using nto), List.filter_cons_of_neg (by simp)]
          rfl
        rw [cnt_two ne r nd2 l2 h2, ap, asPair_swap, cnt_over (bs := bs) rfl nto.symm, filter_two tm, z0, List.filter_cons_of_pos (by simp)]
        show 1 + _ = (if t = b then 0 else 1) + _
        rw [if_neg nto]
    · have l2 : two x y (lay bs b) = [t, o] := by
        rw [two_lay nd, if_neg c, e, List.filter_cons_of_pos (by simpa using fun z : t = b => c (z ▸ tm)), List.filter_cons_of_pos (by simpa using fun z : o = b => c (z ▸ om))]
        rfl
      rw [two_out c, cnt_two ne r nd2 l2 h2, cnt_none c, Nat.zero_add]
end Lt

set_option Elab.async false
set_option linter.all false
set_option maxRecDepth 100000
set_option maxHeartbeats 4000000
namespace Lt
open PySem PySem.Spec PyProof.Rows L2
/-! ### the rows of readings -/
theorem rows_in : ∀ {bs : List Str} (rs : List Str), (∀ b ∈ rs, b ∈ bs) → ∀ z ∈ rowsM bs rs, z.1 ∈ bs ∧ z.2 ∈ bs ∧ z.1 ≠ z.2
  | bs, [], _, z, hz => by cases hz
  | bs, b :: r, h, z, hz => by
    have hb := h b List.mem_cons_self
    have p := lay_perm hb
    have hz2 : z ∈ (over bs b).map (fun o => (b, o)) ++ rowsM (lay bs b) r := hz
    rcases List.mem_append.mp hz2 with hz | hz
    · obtain ⟨o, ho, rfl⟩ := List.mem_map.mp hz
      exact ⟨hb, over_mem ho, (over_ne ho).symm⟩
    · obtain ⟨q1, q2, q3⟩ := rows_in (bs := lay bs b) r (fun c hc => p.mem_iff.mpr (h c (List.mem_cons_of_mem _ hc))) z hz
      exact ⟨p.mem_iff.mp q1, p.mem_iff.mp q2, q3⟩
/-! ### which of both lies above -/
def lastOf (t : Str) : List Str → Str
  | [] => t
  | z :: r => lastOf z r
theorem lastOf_get : ∀ (l : List Str) (t : Str), l ≠ [] → l.getLast? = some (lastOf t l)
  | [z], t, _ => rfl
  | z :: y :: r, t, _ => by
    rw [List.getLast?_cons_cons]
    exact lastOf_get (y :: r) z (by simp)
theorem two_behind {x y : Str} : ∀ (rs : List Str) {bs : List Str} {t o : Str}, bs.Nodup → two x y bs = [t, o] → (∀ b ∈ rs, b ∈ bs) → ∃ o', two x y (behindM bs rs) = [lastOf t (two x y rs), o']
  | [], bs, t, o, nd, e, h => ⟨o, e⟩
  | b :: r, bs, t, o, nd, e, h => by
    have hb := h b List.mem_cons_self
    have p := lay_perm hb
    have nd2 : (lay bs b).Nodup := p.nodup_iff.mpr nd
    have h2 : ∀ c ∈ r, c ∈ lay bs b := fun c hc => p.mem_iff.mpr (h c (List.mem_cons_of_mem _ hc))
    have tm : t = x ∨ t = y := (two_mem.mp (by rw [e]; exact List.mem_cons_self)).2
    have om : o = x ∨ o = y := (two_mem.mp (by rw [e]; exact List.mem_cons_of_mem _ List.mem_cons_self)).2
    have nto : t ≠ o := by
      have z : (two x y bs).Nodup := nd.filter _
      rw [e] at z
      have z2 := (List.nodup_cons.mp z).1
      intro c
      exact z2 (by rw [c]; exact List.mem_cons_self)
    show ∃ o', two x y (behindM (lay bs b) r) = _
    by_cases c : b = x ∨ b = y
    · rw [two_in c]
      have bto : b = t ∨ b = o := by
        have z : b ∈ two x y bs := two_mem.mpr ⟨hb, c⟩
        rw [e] at z
        rcases List.mem_cons.mp z with z | z
        · exact .inl z
        · exact .inr (List.mem_singleton.mp z)
      rcases bto with rfl | rfl
      · have l2 : two x y (lay bs b) = [b, o] := by
          rw [two_lay nd, if_pos c, e, List.filter_cons_of_neg (by simp), List.filter_cons_of_pos (by simpa using nto.symm)]
          rfl
        exact two_behind r nd2 l2 h2
      · have l2 : two x y (lay bs b) = [b, t] := by
          rw [two_lay nd, if_pos c, e, List.filter_cons_of_pos (by simpa using nto), List.filter_cons_of_neg (by simp)]
          rfl
        exact two_behind r nd2 l2 h2
    · have l2 : two x y (lay bs b) = [t, o] := by
        rw [two_lay nd, if_neg c, e, List.filter_cons_of_pos (by simpa using fun z : t = b => c (z ▸ tm)), List.filter_cons_of_pos (by simpa using fun z : o = b => c (z ▸ om))]
        rfl
      rw [two_out c]
      exact two_behind r nd2 l2 h2
theorem two_pile : ∀ {bs : List Str} {x y : Str}, bs.Nodup → x ≠ y → x ∈ bs → y ∈ bs → ∃ t o, two x y bs = [t, o] := by
  intro bs x y nd ne hx hy
  have nd2 : (two x y bs).Nodup := nd.filter _
  have p : (two x y bs).Perm [x, y] := by
    refine (List.perm_ext_iff_of_nodup nd2 ?_).mpr fun z => ?_
    · simp [ne]
    · rw [two_mem]
      constructor
      · rintro ⟨_, rfl | rfl⟩
        · exact List.mem_cons_self
        · exact List.mem_cons_of_mem _ List.mem_cons_self
      · intro h
        rcases List.mem_cons.mp h with rfl | h
        · exact ⟨hx, .inl rfl⟩
        · obtain rfl := List.mem_singleton.mp h
          exact ⟨hy, .inr rfl⟩
  have l := p.length_eq
  match q : two x y bs, l with
  | [t, o], _ => exact ⟨t, o, rfl⟩
/-- on each later day two books pass one another as often as they change around -/
theorem day_cyc {ns rs : List Str} {x y : Str} (nd : ns.Nodup) (h : ∀ b ∈ rs, b ∈ ns) (hx : x ∈ rs) (hy : y ∈ ns) (ne : x ≠ y) : cnt (rowsM (behindM ns rs) rs) (asPair (x, y)) = cyc (two x y rs) := by
  obtain ⟨t, o, e⟩ := two_pile nd ne (h x hx) hy
  obtain ⟨o', e'⟩ := two_behind rs nd e h
  have pm := behindM_perm rs h
  rw [cnt_two ne rs (pm.nodup_iff.mpr nd) e' fun b hb => pm.mem_iff.mpr (h b hb)]
  have some1 : two x y rs ≠ [] := fun z => by
    have q : x ∈ two x y rs := two_mem.mpr ⟨hx, .inl rfl⟩
    rw [z] at q
    cases q
  unfold cyc
  rw [lastOf_get _ t some1]
theorem prs_at {ys : List Str} : ∀ {n : Nat} {q : Str × Str}, q ∈ prs ys n → ∃ i j : Nat, i < j ∧ ys[i]? = some q.1 ∧ ys[j]? = some q.2
  | 0, q, h => by cases h
  | n + 1, q, h => by
    cases e : ys[n]? with
    | none =>
      have e2 : prs ys (n + 1) = prs ys n ++ (match ys[n]? with | some a => (ys.drop (n + 1)).map fun b => (a, b) | none => []) := rfl
      rw [e2, e, List.append_nil] at h
      exact prs_at h
    | some a =>
      rw [prs_succ e] at h
      rcases List.mem_append.mp h with h | h
      · exact prs_at h
      · obtain ⟨b, hb, rfl⟩ := List.mem_map.mp h
        obtain ⟨k, hk⟩ := List.getElem?_of_mem hb
        rw [List.getElem?_drop] at hk
        exact ⟨n, n + 1 + k, by omega, e, hk⟩
theorem prs_pair {ys : List Str} (nd : ys.Nodup) (so : sortedS ys = true) {n : Nat} {q : Str × Str} (h : q ∈ prs ys n) : asPair (q.1, q.2) = q ∧ q.1 ≠ q.2 ∧ q.1 ∈ ys ∧ q.2 ∈ ys := by
  obtain ⟨i, j, lt, e1, e2⟩ := prs_at h
  obtain ⟨l1, f1⟩ := List.getElem?_eq_some_iff.mp e1
  obtain ⟨l2, f2⟩ := List.getElem?_eq_some_iff.mp e2
  have ne : q.1 ≠ q.2 := fun z => by
    rw [← z] at e2
    have := nd_ix nd e1 e2
    omega
  have pw := List.pairwise_iff_getElem.mp (sorted_pw so) i j l1 l2 lt
  rw [f1, f2] at pw
  refine ⟨?_, ne, List.mem_of_getElem? e1, List.mem_of_getElem? e2⟩
  unfold asPair
  by_cases c : ltS q.1 q.2
  · rw [if_pos c]
  · exact absurd (ltS_tri c pw) ne
/-- days that change around alike -/
theorem day_cnt {ns rs rs' ys : List Str} (nd : ns.Nodup) (h : ∀ b ∈ rs, b ∈ ns) (h' : ∀ b ∈ rs', b ∈ ns) (all : ∀ b ∈ ns, b ∈ rs) (all' : ∀ b ∈ ns, b ∈ rs') (c : ∀ x y, cyc (two x y rs') = cyc (two x y rs)) (py : ys.Perm ns) (so : sortedS ys = true) :
    ∀ q ∈ prs ys ys.length, cnt (rowsM (behindM ns rs') rs') q = cnt (rowsM (behindM ns rs) rs) q := by
  intro q hq
  obtain ⟨e, ne, m1, m2⟩ := prs_pair (py.nodup_iff.mpr nd) so hq
  have n1 := py.mem_iff.mp m1
  have n2 := py.mem_iff.mp m2
  rw [← e, day_cyc nd h' (all' _ n1) n2 ne, day_cyc nd h (all _ n1) n2 ne, c]
theorem day_sum {ns rs ys : List Str} (nd : ns.Nodup) (h : ∀ b ∈ rs, b ∈ ns) (py : ys.Perm ns) (so : sortedS ys = true) : (liftedM ns rs).sum = ((prs ys ys.length).map fun q => cnt (rowsM ns rs) q).sum := by
  rw [cnt_sum (prs_nodup (py.nodup_iff.mpr nd) ys.length) (rowsM ns rs) fun r hr => ?_, rows_count rs h]
  obtain ⟨z1, z2, z3⟩ := rows_in rs h r hr
  exact pair_in py so z1 z2 z3
theorem turn_cyc (rs : List Str) (k : Nat) (x y : Str) : cyc (two x y (rs.drop k ++ rs.take k)) = cyc (two x y rs) := by
  rw [two_append, cyc_turn, ← two_append, List.take_append_drop]
theorem back_cyc (rs : List Str) (x y : Str) : cyc (two x y rs.reverse) = cyc (two x y rs) := by
  have e : two x y rs.reverse = (two x y rs).reverse := List.filter_reverse ..
  rw [e, cyc_back]
/-! ### days done again -/
theorem day_again {bs rs : List Str} (nd : bs.Nodup) (h : ∀ b ∈ rs, b ∈ bs) : behindM (behindM bs rs) rs = behindM bs rs := by
  have pm := behindM_perm rs h
  rw [behind_is (pm.nodup_iff.mpr nd) rs fun b hb => pm.mem_iff.mpr (h b hb)]
  rw [behind_is nd rs h, List.filter_append, List.filter_filter]
  have e1 : (nub rs.reverse).filter (fun z => decide (z ∉ rs)) = [] := by
    rw [List.filter_eq_nil_iff]
    intro z hz
    have := List.mem_reverse.mp ((nub_mem _ _).mp hz)
    simpa using this
  rw [e1, List.nil_append]
  congr 1
  apply List.filter_congr
  intro z _
  rw [Bool.and_self]
theorem lifted_low (rest : List Str) : ∀ (rs : List Str) {l : List Str}, (∀ b ∈ rs, b ∈ l) → liftedM (l ++ rest) rs = liftedM l rs
  | [], l, _ => rfl
  | b :: r, l, h => by
    have hb := h b List.mem_cons_self
    have p := lay_perm hb
    show (l ++ rest).idxOf b :: liftedM (lay (l ++ rest) b) r = l.idxOf b :: liftedM (lay l b) r
    have e1 : (l ++ rest).idxOf b = l.idxOf b := by rw [List.idxOf_append, if_pos hb]
    have e2 : lay (l ++ rest) b = lay l b ++ rest := by
      unfold lay
      rw [e1, List.eraseIdx_append_of_lt_length (idx_lt hb)]
      rfl
    rw [e1, e2, lifted_low rest r fun c hc => p.mem_iff.mpr (h c (List.mem_cons_of_mem _ hc))]
theorem day_each {bs ns rs : List Str} (nd : bs.Nodup) (nn : ns.Nodup) (h : ∀ b ∈ rs, b ∈ bs) (h2 : ∀ b ∈ rs, b ∈ ns) (all : ∀ b ∈ ns, b ∈ rs) : liftedM (behindM bs rs) rs = liftedM (behindM ns rs) rs := by
  rw [behind_is nd rs h, behind_is nn rs h2]
  have e : (ns.filter fun z => decide (z ∉ rs)) = [] := by
    rw [List.filter_eq_nil_iff]
    intro z hz
    simpa using all z hz
  rw [e, List.append_nil]
  exact lifted_low _ rs fun b hb => (nub_mem _ _).mpr (List.mem_reverse.mpr hb)
end Lt

set_option Elab.async false
set_option linter.all false
set_option maxRecDepth 100000
set_option maxHeartbeats 4000000
namespace Lt
open PySem PySem.Spec PyProof.Rows L2
def top (i : Nat) : Stmt := PySem.Challenge.pw_laidontop_k04_whole_days_done_again.main.body.getD i (.Pass ⟨0, 0, 0, 0⟩)
abbrev sDraw : Stmt := top 15
theorem log_of {m : Int} (h0 : 0 < m) (h1 : m ≤ 1000000000000000000) : m.natAbs.log2 < 9000 := by
  have z : m.natAbs.log2 < 60 := (Nat.log2_lt (by omega)).mpr (Nat.lt_of_le_of_lt (show m.natAbs ≤ 1000000000000000000 by omega) (by decide))
  omega
theorem upd_self {H : Hp} {a : Addr} {o : HO} (h : H a = some o) : upd H a o = H := by
  funext b
  unfold upd
  by_cases e : b = a
  · rw [if_pos e, e, h]
  · rw [if_neg e]
section
variable {P : Program} {w : World} {K : PySem.W.Frag} {mg : Str → Option Value} {base : Heap}
def spDraw : Sp := fun vs H Q _ => ∃ (T S : Addr) (ns : List Int) (m : Int), vs = [.ref T, .int m] ∧ Tape H T S ns ∧ 0 < m ∧ m ≤ 1000000000000000000 ∧
  ∀ r i c : Int, 0 ≤ r → r < m → Q (.int r) (upd H T (.lst [.ref S, .int i, .int c]))
theorem scDraw : FnScope ["tape", "many", "prime", "cell", "found"] ["tape", "many"] (defScope sDraw) := ⟨rfl, rfl, rfl, by decide +kernel, rfl, by decide +kernel, by decide +kernel⟩
theorem ok_draw {f : Addr} {fd : FuncData} (F : Fun K "_law_draw" "_law_draw" sDraw f fd) (ml : mg "len" = none) : FnOk P w K mg base CX0 1 f fd ["tape", "many"] spDraw := by
  refine F.ok scDraw (fun vs H Q E h => ?_) (fun cdv A outer s H vs Q E hr h => ?_)
  · obtain ⟨T, S, ns, m, rfl, _⟩ := h
    rfl
  obtain ⟨T, S, ns, m, rfl, tp, m0, m1, q⟩ := h
  obtain ⟨i, c, hT⟩ := tp.at_
  have hS := tp.scr
  refine ⟨_, pss_cons (ps_set (i := 2) scDraw.nd rfl (.inl rfl) pe_int)
    (Evl.pss_cut (ps_if (pt_cmpR op_lt (pe_ix ix_list (pv 0) pe_int (fun _ _ => rfl)) (pv 1) (nomark _))
      (pss_cons (ps_set (i := 3) scDraw.nd rfl (.inl rfl) pe_int)
      (Evl.pss_cut (ps_if (pt_cmpR op_gt (pe_callB call_len_seq (by rfl) ml PySem.boot_len (pa_cons (pe_ix ix_list (pv 0) pe_int (fun _ _ => rfl)) pa_nil)) pe_int (nomark _))
        (pss_one (ps_set (i := 3) scDraw.nd rfl (.inl rfl) (pe_ix ix_list (pe_ix ix_list (pv 0) pe_int (fun _ _ => rfl))
          (pe_op op_mod (pe_ix ix_list (pv 0) pe_int (fun _ _ => rfl)) (pe_callB call_len_seq (by rfl) ml PySem.boot_len (pa_cons (pe_ix ix_list (pv 0) pe_int (fun _ _ => rfl)) pa_nil))) (fun _ _ => rfl)))) pss_nil)
      (Evl.pss_cut (ps_if (PW.pt (pw_or (pt_cmpR op_ge (pe_ix ix_list (pv 0) pe_int (fun _ _ => rfl)) (pe_callB call_len_seq (by rfl) ml PySem.boot_len (pa_cons (pe_ix ix_list (pv 0) pe_int (fun _ _ => rfl)) pa_nil)) (nomark _))
          (pw_or1 (pt_cmpR op_lt (pv 3) (pe_op op_pow pe_int pe_int) (nomark _)))))
        (pss_cons (ps_set (i := 3) scDraw.nd rfl (.inl rfl) (pe_op op_mod (pe_op op_add (pv 3) (pe_op op_mul pe_int (pe_ix ix_list (pv 0) pe_int (fun _ _ => rfl)))) (pv 2)))
        (pss_cons (ps_set (i := 3) scDraw.nd rfl (.inl rfl) (pe_op op_mod (pe_op op_add (pe_op op_add (pe_op op_mul (pv 3) (pv 3)) (pe_op op_mul pe_int (pv 3))) pe_int) (pv 2)))
        (pss_one (ps_set (i := 3) scDraw.nd rfl (.inl rfl) (pe_op op_mod (pe_op op_add (pe_op op_mul (pv 3) (pv 3)) pe_int) (pv 2)))))) pss_nil)
      (pss_cons (ps_asg (pe_op op_add (pe_ix ix_list (pv 0) pe_int (fun _ _ => rfl)) pe_int) (pg_sub (pv 0) pe_int set_list))
      (pss_one (ps_asg (pv 3) (pg_sub (pv 0) pe_int set_list))))))) pss_nil)
    (pss_cons (ps_set (i := 4) scDraw.nd rfl (.inl rfl) (pe_op op_mod (pe_ix ix_list (pv 0) pe_int (fun _ _ => rfl)) (pv 1)))
    (pss_cons (ps_asg (pe_op op_fdivW (pe_ix ix_list (pv 0) pe_int (fun _ _ => rfl)) (pv 1)) (pg_sub (pv 0) pe_int set_list))
    (pss_one (ps_ret (pv 4)))))), ?_⟩
  have lenE : ((ns.map V.int).length : Int) = ns.length := by rw [List.length_map]
  refine ⟨fun σ H' => ∃ (y3 : Option V) (i' c' : Int), σ = [some (.ref T), some (.int m), some (.int 2305843009213693951), y3, none] ∧ H' = upd H T (.lst [.ref S, .int i', .int c']), ?_, ?_⟩
  · refine ⟨_, rfl, T, _, 2, _, rfl, rfl, sql hT, rfl, _, rfl, _, _, rfl, rfl, _, rfl, ite2 (fun _ => ?_) (fun _ => ?_)⟩
    · -- the cell
      refine ⟨fun σ H' => ∃ c0 : Int, σ = [some (.ref T), some (.int m), some (.int 2305843009213693951), some (.int c0), none] ∧ H' = H, ?_, ?_⟩
      · refine ⟨_, rfl, T, _, 0, _, rfl, rfl, sql hT, rfl, S, _, rfl, .inl (sql hS), _, _, rfl, rfl, _, rfl, ite2 (fun g => ?_) (fun _ => ?_)⟩
        · have g1 : (0 : Int) < ((ns.map V.int).length : Int) := of_decide_eq_true g
          rw [lenE] at g1
          have e0 : 0 ≤ i % (ns.length : Int) := Int.emod_nonneg _ (by omega)
          have e1 : i % (ns.length : Int) < (ns.length : Int) := Int.emod_lt_of_pos _ g1
          have hk : (i % (ns.length : Int)).toNat < ns.length := by omega
          refine ⟨_, rfl, T, _, 0, _, rfl, rfl, sql hT, rfl, _, rfl, T, _, 1, _, rfl, rfl, sql hT, rfl, _, rfl, T, _, 0, _, rfl, rfl, sql hT, rfl, S, _, rfl, .inl (sql hS), _, _, rfl, rfl, ?_, S, _, _, .int ns[(i % (ns.length : Int)).toNat], rfl, rfl, sql hS, ?_, ?_⟩
          · show (0 : Int) < ((ns.map V.int).length : Int)
            rw [lenE]
            exact g1
          · show atI (ns.map V.int) (i % ((ns.map V.int).length : Int)) = _
            rw [lenE]
            exact at_of (j := (i % (ns.length : Int)).toNat) (by omega) (by rw [List.getElem?_map, List.getElem?_eq_getElem hk]; rfl)
          · exact ⟨_, rfl, rfl⟩
        · exact ⟨_, rfl, rfl⟩
      · rintro σ' H' ⟨c0, rfl, rfl⟩
        refine ⟨fun σ H2 => ∃ c1 : Int, σ = [some (.ref T), some (.int m), some (.int 2305843009213693951), some (.int c1), none] ∧ H2 = H', ?_, ?_⟩
        · refine ⟨_, rfl, T, _, 1, _, rfl, rfl, sql hT, rfl, _, rfl, T, _, 0, _, rfl, rfl, sql hT, rfl, S, _, rfl, .inl (sql hS), _, _, rfl, rfl, _, rfl, ?_⟩
          have near : ∀ x : Int, -(2 ^ 64) < x % 2305843009213693951 ∧ x % 2305843009213693951 < 2 ^ 64 := fun x => by
            have a1 := Int.emod_nonneg x (b := 2305843009213693951) (by decide)
            have a2 := Int.emod_lt_of_pos x (b := 2305843009213693951) (by decide)
            omega
          refine ite2 (fun _ => ?_) (fun _ => ⟨_, rfl, _, _, rfl, rfl, ⟨by decide, by decide, by decide⟩, _, _, rfl, rfl, _, rfl, ite2 (fun _ => ?_) (fun _ => ?_)⟩)
          · refine iteT ⟨_, rfl, _, rfl, T, _, 1, _, rfl, rfl, sql hT, rfl, _, _, rfl, rfl, .inl ⟨by decide, by decide⟩, _, _, rfl, rfl, _, rfl, _, _, rfl, rfl, (by decide : (0 : Int) < 2305843009213693951), ?_⟩
            refine ⟨_, rfl, _, rfl, _, _, rfl, rfl, .inl (near _), _, rfl, _, _, rfl, rfl, .inl ⟨by decide, by decide⟩, _, _, rfl, rfl, _, _, rfl, rfl, _, rfl, _, _, rfl, rfl, (by decide : (0 : Int) < 2305843009213693951), ?_⟩
            refine ⟨_, rfl, _, rfl, _, _, rfl, rfl, .inl (near _), _, _, rfl, rfl, _, rfl, _, _, rfl, rfl, (by decide : (0 : Int) < 2305843009213693951), ?_⟩
            exact ⟨_, rfl, rfl⟩
          · refine ⟨_, rfl, _, rfl, T, _, 1, _, rfl, rfl, sql hT, rfl, _, _, rfl, rfl, .inl ⟨by decide, by decide⟩, _, _, rfl, rfl, _, rfl, _, _, rfl, rfl, (by decide : (0 : Int) < 2305843009213693951), ?_⟩
            refine ⟨_, rfl, _, rfl, _, _, rfl, rfl, .inl (near _), _, rfl, _, _, rfl, rfl, .inl ⟨by decide, by decide⟩, _, _, rfl, rfl, _, _, rfl, rfl, _, rfl, _, _, rfl, rfl, (by decide : (0 : Int) < 2305843009213693951), ?_⟩
            refine ⟨_, rfl, _, rfl, _, _, rfl, rfl, .inl (near _), _, _, rfl, rfl, _, rfl, _, _, rfl, rfl, (by decide : (0 : Int) < 2305843009213693951), ?_⟩
            exact ⟨_, rfl, rfl⟩
          · exact ⟨_, rfl, rfl⟩
        · rintro σ' H2 ⟨c1, rfl, rfl⟩
          refine ⟨_, rfl, T, _, 1, _, rfl, rfl, sql hT, rfl, _, _, rfl, rfl, _, rfl, T, _, 1, 1, rfl, rfl, hT, rfl, ?_⟩
          refine ⟨_, rfl, _, rfl, T, _, 2, 2, rfl, rfl, upd_same, rfl, ?_⟩
          exact ⟨_, _, _, rfl, by rw [upd_upd]; rfl⟩
    · exact ⟨none, i, c, rfl, (upd_self hT).symm⟩
  · rintro σ' H' ⟨y3, i', c', rfl, rfl⟩
    refine ⟨_, rfl, T, _, 2, _, rfl, rfl, sql upd_same, rfl, _, rfl, _, _, rfl, rfl, m0, ?_⟩
    refine ⟨_, rfl, T, _, 2, _, rfl, rfl, sql upd_same, rfl, _, rfl, _, _, rfl, rfl, ⟨by omega, log_of m0 m1⟩, _, rfl, T, _, 2, 2, rfl, rfl, upd_same, rfl, ?_⟩
    refine ⟨_, rfl, ?_⟩
    rw [upd_upd]
    exact q _ _ _ (Int.emod_nonneg _ (by omega)) (Int.emod_lt_of_pos _ m0)
end
end Lt

set_option Elab.async false
set_option linter.all false
set_option maxRecDepth 100000
set_option maxHeartbeats 4000000
namespace Lt
open PySem PySem.Spec PyProof.Rows L2
/-- a def of the text that keeps a promise, as it is called by its name -/
def Has (P : Program) (w : World) (K : PySem.W.Frag) (mg : Str → Option Value) (base : Heap) (k : Nat) (x : Str) (ps : List Str) (sp : Sp) : Prop :=
  ∃ (f : Addr) (fd : FuncData), FnOk P w K mg base CX0 k f fd ps sp ∧ mg x = some (.ref f) ∧ PySem.W.keepIn K (.ref f) = true ∧ Binds K fd ps []
section
variable {X : Cx}
theorem pe_go {k j : Nat} {x : Str} {ps : List Str} {sp : Sp} {e : Expr} {es : List Expr} {p pos : Pos} {t : TA} (c : Has X.prog X.w X.K X.mg X.base k x ps sp) (hr : Room j X.A) (hk : k ≤ j) (hg : Gl X x) (h : PA X (e :: es) t)
    (h1 : (x == ("__debug__" : Str)) = false := by decide) (h2 : starEach (e :: es) X.env = (false, eval e X.env) :: starEach es X.env := by rfl)
    (h3 : (backTo pos (starEach es X.env)).any (·.1) = false := by rfl) : PE X (.Call (.Name x p) (e :: es) [] pos) (tCall sp [] E0 t) := by
  obtain ⟨f, fd, F, m, kp, b⟩ := c
  exact pe_call F (hr.mono hk) hg m kp b .nil pass0 h h1 h2 h3
theorem pe_go0 {k j : Nat} {x : Str} {ps : List Str} {sp : Sp} {p pos : Pos} (c : Has X.prog X.w X.K X.mg X.base k x ps sp) (hr : Room j X.A) (hk : k ≤ j) (hg : Gl X x)
    (h1 : (x == ("__debug__" : Str)) = false := by decide) : PE X (.Call (.Name x p) [] [] pos) (tCall sp [] E0 tNil) := by
  obtain ⟨f, fd, F, m, kp, b⟩ := c
  exact pe_call0 F (hr.mono hk) hg m kp b .nil pass0 h1
end
/-- the built-in names that the text reads -/
structure Bi (mg : Str → Option Value) : Prop where
  len : mg "len" = none
  range : mg "range" = none
  tuple : mg "tuple" = none
  list : mg "list" = none
  sorted : mg "sorted" = none
  enumerate : mg "enumerate" = none
  isinstance : mg "isinstance" = none
  bool : mg "bool" = none
  set : mg "set" = none
  sum : mg "sum" = none
  min : mg "min" = none
  dict : mg "dict" = none
abbrev sOrder : Stmt := top 17
abbrev sBooks : Stmt := top 18
def books : List Str := ["atlas", "bible", "comics", "diary", "essays", "fables", "guide"]
theorem books_nd : books.Nodup := by decide +kernel
theorem books_ok : ∀ b ∈ books, PyData.strOk b = true := by decide +kernel
structure IsPile (bs : List Str) : Prop where
  nd : bs.Nodup
  pos : 0 < bs.length
  most : bs.length ≤ 7
  ok : ∀ b ∈ bs, b ∈ books
abbrev natV (k : Nat) : V := .int (k : Int)
section
variable {P : Program} {w : World} {K : PySem.W.Frag} {mg : Str → Option Value} {base : Heap}
def spOrder : Sp := fun vs H Q _ => ∃ (T S : Addr) (ns : List Int) (n : Nat), vs = [.ref T, .int n] ∧ Tape H T S ns ∧ n ≤ 1000 ∧
  ∀ (p : Addr) (H' : Hp) (qs : List Nat), SameT T H H' → Tape H' T S ns → H p = none → H' p = some (.tup (qs.map natV)) → qs.Perm (List.range n) → Q (.ref p) H'
theorem scOrder : FnScope ["tape", "many", "found", "k"] ["tape", "many"] (defScope sOrder) := ⟨rfl, rfl, rfl, by decide +kernel, rfl, by decide +kernel, by decide +kernel⟩
theorem ok_order {f : Addr} {fd : FuncData} (F : Fun K "_law_any_order" "_law_any_order" sOrder f fd) (B : Bi mg) (cD : Has P w K mg base 1 "_law_draw" ["tape", "many"] spDraw) :
    FnOk P w K mg base CX0 2 f fd ["tape", "many"] spOrder := by
  refine F.ok scOrder (fun vs H Q E h => ?_) (fun cdv A outer s H vs Q E hr h => ?_)
  · obtain ⟨T, S, ns, m, rfl, _⟩ := h
    rfl
  obtain ⟨T, S, ns, n, rfl, tp, n1, q⟩ := h
  refine ⟨_, pss_cons (ps_set (i := 2) scOrder.nd rfl (.inl rfl) (pe_lst pa_nil))
    (pss_cons (ps_for PassesOwn.never rfl (pi_range1 (by rfl) B.range (pa_cons (pv 1) pa_nil)) (pg_name (i := 3) scOrder.nd rfl (.inl rfl))
      (pss_one (ps_expr (pe_bm PySem.F.plainAttrs_list PySem.F.slot_list_insert PySem.F.type_list_insert mt_insert (pv 2)
        (pa_cons (pe_go cD hr (Nat.le_refl _) rfl (pa_cons (pv 0) (pa_cons (pe_op op_add (pv 3) pe_int) pa_nil))) (pa_cons (pv 3) pa_nil))))))
    (pss_one (ps_ret (pe_callTy call_tuple_of (by rfl) B.tuple (by decide +kernel) (pa_cons (pv 2) pa_nil))))), ?_⟩
  refine ⟨Nat.zero_le _, fun L hL => ?_⟩
  obtain ⟨oT, hT⟩ := tp.taken
  have nLT : L ≠ T := new_ne hT hL
  refine ⟨_, rfl, (n : Int), rfl, by omega, by omega, for_range (lo := 0) (n := (n : Int).toNat) (fun i σ H' => ∃ (y3 : Option V) (qs : List Nat), σ = [some (.ref T), some (.int n), some (.ref L), y3] ∧ SameT T H H' ∧ Tape H' T S ns ∧ H' L = some (.lst (qs.map natV)) ∧ qs.Perm (List.range i))
    ⟨none, [], rfl, SameT.of (same_new hL _), tp.same (same_new hL _), upd_same, List.Perm.refl _⟩ ?_ ?_⟩
  · rintro i σ H' hi ⟨y3, qs, rfl, sm, tp', hL', pm⟩
    have lq : qs.length = i := by rw [pm.length_eq, List.length_range]
    have hi' : i < n := by omega
    refine ⟨_, rfl, .inl ⟨rfl, _, sql hL'⟩, _, rfl, _, rfl, _, _, rfl, rfl, T, S, ns, _, rfl, tp', by omega, by omega, fun r a c r0 r1 => ?_⟩
    have hL2 : upd H' T (.lst [.ref S, .int a, .int c]) L = some (.lst (qs.map natV)) := by
      rw [upd_ne nLT]
      exact hL'
    refine ⟨_, rfl, L, _, r, _, rfl, rfl, hL2, ?_, r0, by omega, ?_⟩
    · rw [List.length_map, lq]
      exact small1000 (by omega)
    · refine ⟨_, qs.take r.toNat ++ [i] ++ qs.drop r.toNat, rfl, fun b o nb hb => ?_, ?_, ?_, ?_⟩
      · rw [upd_ne (ne_of_none hb hL)]
        exact sameT_put _ b o nb (sm b o nb hb)
      · have t2 := tp'.put a c
        obtain ⟨x1, x2, t3⟩ := t2.at_
        refine ⟨⟨x1, x2, by rw [upd_ne nLT.symm]; exact t3⟩, ?_⟩
        rw [upd_ne (ne_of_none tp.scr hL)]
        exact t2.scr
      · rw [upd_same, List.map_append, List.map_append, List.map_take, List.map_drop, List.map_singleton]
        rw [show natV i = V.int (0 + (i : Int)) by rw [Int.zero_add]]
      · rw [List.range_succ]
        have e : (qs.take r.toNat ++ [i] ++ qs.drop r.toNat).Perm (qs.take r.toNat ++ qs.drop r.toNat ++ [i]) := by
          rw [List.append_assoc, List.append_assoc]
          exact List.Perm.append_left _ List.perm_append_comm
        rw [List.take_append_drop] at e
        exact e.trans (pm.append_right _)
  · rintro σ H' ⟨y3, qs, rfl, sm, tp', hL', pm⟩
    refine ⟨_, rfl, L, _, rfl, .inl ⟨sql hL', fun p hp => ?_⟩⟩
    have np : H p = none := by
      refine sm.free ?_ hp
      obtain ⟨o2, h2⟩ := tp'.taken
      exact new_ne h2 hp
    rw [Int.toNat_natCast] at pm
    exact q p _ qs (sm.trans (SameT.of (same_new hp _))) (tp'.same (same_new hp _)) np upd_same pm
def spBooks : Sp := fun vs H Q _ => vs = [] ∧ ∀ p, H p = none → Q (.ref p) (upd H p (.lst (books.map V.str)))
theorem scBooks : FnScope [] [] (defScope sBooks) := ⟨rfl, rfl, rfl, by decide +kernel, rfl, by decide +kernel, by decide +kernel⟩
theorem ok_books {f : Addr} {fd : FuncData} (F : Fun K "_law_books" "_law_books" sBooks f fd) : FnOk P w K mg base CX0 1 f fd [] spBooks := by
  refine F.ok scBooks (fun vs H Q E h => ?_) (fun cdv A outer s H vs Q E hr h => ?_)
  · obtain ⟨rfl, _⟩ := h
    rfl
  obtain ⟨rfl, q⟩ := h
  refine ⟨_, pss_one (ps_ret (pe_lst (pa_cons pe_str (pa_cons pe_str (pa_cons pe_str (pa_cons pe_str (pa_cons pe_str (pa_cons pe_str (pa_cons pe_str pa_nil))))))))), ?_⟩
  exact ⟨(by show 7 ≤ sizeLine; decide), fun p hp => q p hp⟩
end
end Lt

set_option Elab.async false
set_option linter.all false
set_option maxRecDepth 100000
set_option maxHeartbeats 4000000
namespace Lt
open PySem PySem.Spec PyProof.Rows L2
/-! ### picking by places -/
def pick (bs : List Str) (qs : List Nat) : List Str := qs.map fun k => (bs[k]?).getD Str.empty
theorem pick_range (bs : List Str) : pick bs (List.range bs.length) = bs := by
  apply List.ext_getElem?
  intro i
  unfold pick
  rw [List.getElem?_map]
  by_cases h : i < bs.length
  · rw [List.getElem?_range h, List.getElem?_eq_getElem h]
    show some ((bs[i]?).getD Str.empty) = some bs[i]
    rw [List.getElem?_eq_getElem h]
    rfl
  · rw [List.getElem?_eq_none (by rw [List.length_range]; omega), List.getElem?_eq_none (by omega)]
    rfl
theorem pick_perm {bs : List Str} {qs : List Nat} (h : qs.Perm (List.range bs.length)) : (pick bs qs).Perm bs := by
  have q := h.map fun k => (bs[k]?).getD Str.empty
  have e : (List.range bs.length).map (fun k => (bs[k]?).getD Str.empty) = bs := pick_range bs
  rw [e] at q
  exact q
theorem pile_of {n : Nat} {qs : List Nat} (h0 : 0 < n) (h7 : n ≤ 7) (h : qs.Perm (List.range n)) : IsPile (pick (books.take n) qs) := by
  have hl : (books.take n).length = n := by
    rw [List.length_take]
    show min n 7 = n
    omega
  have p : (pick (books.take n) qs).Perm (books.take n) := pick_perm (by rw [hl]; exact h)
  refine ⟨p.nodup_iff.mpr (books_nd.sublist (List.take_sublist _ _)), ?_, ?_, fun b hb => List.mem_of_mem_take (p.mem_iff.mp hb)⟩
  · rw [p.length_eq, hl]
    exact h0
  · rw [p.length_eq, hl]
    exact h7
end Lt

set_option Elab.async false
set_option linter.all false
set_option maxRecDepth 100000
set_option maxHeartbeats 4000000
namespace Lt
open PySem PySem.Spec PyProof.Rows L2
abbrev sBehind : Stmt := top 1
abbrev sLifted : Stmt := top 2
abbrev sPassings : Stmt := top 3
abbrev sLaid : Stmt := top 4
abbrev sAbove : Stmt := top 5
abbrev sPairs : Stmt := top 6
abbrev sAsPair : Stmt := top 7
theorem lay_map (bs : List Str) (b : Str) : (lay bs b).map V.str = [V.str b] ++ ((bs.take (bs.idxOf b)).map V.str ++ (bs.drop (bs.idxOf b + 1)).map V.str) := by
  unfold lay
  rw [List.map_cons, List.eraseIdx_eq_take_drop_succ, List.map_append]
  rfl
/-- a tuple, however it is known -/
def TpS (K : PySem.W.Frag) (H : Hp) (a : Addr) (xs : List V) : Prop := SqT K H a xs
theorem TpS.sqt {K : PySem.W.Frag} {H : Hp} {a : Addr} {xs : List V} (h : TpS K H a xs) : SqT K H a xs := h
theorem TpS.same {K : PySem.W.Frag} {H H' : Hp} {a : Addr} {xs : List V} (h : TpS K H a xs) (s : Same H H') : TpS K H' a xs := same_tup s h
theorem TpS.but {K : PySem.W.Frag} {T : Addr} {H H' : Hp} {a : Addr} {xs : List V} (h : TpS K H a xs) (s : SameT T H H') (n : ∀ u, H T = some u → (∀ ys, u ≠ .tup ys) ∧ ∀ o ys, u ≠ .frz o (.tup ys)) : TpS K H' a xs := by
  rcases h with (h | ⟨o, h⟩) | h
  · exact .inl (.inl (s _ _ (fun e => (n _ (e ▸ h)).1 _ rfl) h))
  · exact .inl (.inr ⟨o, s _ _ (fun e => (n _ (e ▸ h)).2 _ _ rfl) h⟩)
  · exact .inr h
theorem TpS.tab {K : PySem.W.Frag} {P : Addr} {H H' : Hp} {a : Addr} {xs : List V} (h : TpS K H a xs) (t : GxR.TabG H P) (s : SameT P H H') : TpS K H' a xs := by
  obtain ⟨ps, h1, _⟩ := t
  exact h.but s fun u e => by
    rw [h1] at e
    cases e
    exact ⟨(fun _ z => nomatch z), (fun _ _ z => nomatch z)⟩
theorem TpO.tps {K : PySem.W.Frag} {H : Hp} {a : Addr} {xs : List V} (h : TpO H a xs) : TpS K H a xs := h.sqt
section
variable {P : Program} {w : World} {K : PySem.W.Frag} {mg : Str → Option Value} {base : Heap}
/-! ### laid_on_top, books_above, as_pair -/
def spLaid : Sp := fun vs H Q _ => ∃ (p : Addr) (bs : List Str) (b : Str), vs = [.ref p, .str b] ∧ TpO H p (bs.map V.str) ∧ b ∈ bs ∧ bs.length ≤ 1000 ∧
  ∀ (q : Addr) (H' : Hp), Same H H' → TpO H' q ((lay bs b).map V.str) → Q (.ref q) H'
theorem scLaid : FnScope ["pile", "book", "at"] ["pile", "book"] (defScope sLaid) := ⟨rfl, rfl, rfl, by decide +kernel, rfl, by decide +kernel, by decide +kernel⟩
theorem ok_laid {f : Addr} {fd : FuncData} (F : Fun K "laid_on_top" "laid_on_top" sLaid f fd) : FnOk P w K mg base CX0 1 f fd ["pile", "book"] spLaid := by
  refine F.ok scLaid (fun vs H Q E h => ?_) (fun cdv A outer s H vs Q E hr h => ?_)
  · obtain ⟨p, bs, b, rfl, _⟩ := h
    rfl
  obtain ⟨p, bs, b, rfl, hp, hb, hl, q⟩ := h
  refine ⟨_, pss_cons (ps_set (i := 2) scLaid.nd rfl (.inl rfl) (pe_tm PySem.F.slot_tuple_index PySem.F.type_tuple_index mt_tup_index (pv 0) (pa_cons (pv 1) pa_nil)))
    (pss_one (ps_ret (pe_op op_catZ (pe_op op_catZ (pe_tupZ (pa_cons (pv 1) pa_nil)) (pe_slice sl_tupA (pv 0) po_none (po_some (pv 2))))
      (pe_slice sl_tupA (pv 0) (po_some (pe_op op_add (pv 2) pe_int)) po_none)))), ?_⟩
  have ib := idx_lt hb
  have lm : (bs.map V.str).length = bs.length := List.length_map _
  refine ⟨_, rfl, ⟨p, _, rfl, hp⟩, _, rfl, p, bs, b, bs.idxOf b, rfl, rfl, hp.sqt, idx_get hb, idx_first, ?_⟩
  refine ⟨_, rfl, (by show 1 ≤ sizeLine; decide), fun t u ht hu => ?_⟩
  have s1 : Same H (upd H t u) := same_new ht _
  have g1 : ¬ (HT.sIx (bs.map V.str).length 0 none = 0 ∧ HT.sIx (bs.map V.str).length (bs.map V.str).length (some ((bs.idxOf b : Nat) : Int)) = (bs.map V.str).length) := by
    rw [HT.sIx_nat, lm]
    omega
  refine ⟨_, rfl, _, rfl, _, rfl, p, _, rfl, (hp.same s1).sqt, fun z => absurd z g1, fun _ a ha => ?_⟩
  rw [cut_to (by rw [lm]; omega), ← List.map_take]
  have s2 := same_new ha (.tup ((bs.take (bs.idxOf b)).map V.str))
  have t2 : TpO (upd (upd H t u) a (.tup ((bs.take (bs.idxOf b)).map V.str))) t [V.str b] := (TpO.new hu).same s2
  have ha2 : upd (upd H t u) a (.tup ((bs.take (bs.idxOf b)).map V.str)) a = some (.tup ((bs.take (bs.idxOf b)).map V.str)) := upd_same
  have s12 := s1.trans s2
  generalize upd (upd H t u) a (.tup ((bs.take (bs.idxOf b)).map V.str)) = H2 at s12 t2 ha2 ⊢
  have fin : ∀ (c : Addr) (H3 : Hp), Same H H3 → TpO H3 c ([V.str b] ++ (bs.take (bs.idxOf b)).map V.str) → ∀ σ : L2.St, σ = [some (.ref p), some (.str b), some (.int ((bs.idxOf b : Nat) : Int))] →
      tSl (rSlA K) (tVar 0) (tPart (tOp (rI0 fun i j => .int (i + j)) (tVar 2) (tC (.int 1)))) tNoPart σ H3 fun y H4 => rCatZ K (.ref c) y H4 Q := by
    rintro c H3 s3 hc σ rfl
    have g2 : ¬ (HT.sIx (bs.map V.str).length 0 (some (((bs.idxOf b : Nat) : Int) + 1)) = 0 ∧ HT.sIx (bs.map V.str).length (bs.map V.str).length none = (bs.map V.str).length) := by
      have e : (((bs.idxOf b : Nat) : Int) + 1) = ((bs.idxOf b + 1 : Nat) : Int) := by omega
      rw [e, HT.sIx_nat, lm]
      omega
    refine ⟨_, rfl, _, rfl, _, _, rfl, rfl, _, rfl, p, _, rfl, (hp.same s3).sqt, fun z => absurd z g2, fun _ d hd => ?_⟩
    have ecut : cutV (bs.map V.str) (some (((bs.idxOf b : Nat) : Int) + 1)) none = (bs.drop (bs.idxOf b + 1)).map V.str := by
      have e : (((bs.idxOf b : Nat) : Int) + 1) = ((bs.idxOf b + 1 : Nat) : Int) := by omega
      rw [e, cut_from (by rw [lm]; omega), List.map_drop]
    rw [ecut]
    have s4 := same_new hd (.tup ((bs.drop (bs.idxOf b + 1)).map V.str))
    refine ⟨c, d, _, _, rfl, rfl, (hc.same s4).sqt, sqt upd_same, by simp, ?_, fun z => ?_, fun _ r v hr' hv => ?_⟩
    · rw [List.length_append, List.length_map, List.length_map, List.length_take, List.length_drop, List.length_singleton]
      exact Nat.le_of_lt (small1000 (by omega))
    · refine q c _ (s3.trans s4) ?_
      have e : (lay bs b).map V.str = [V.str b] ++ (bs.take (bs.idxOf b)).map V.str := by rw [lay_map, z, List.append_nil]
      rw [e]
      exact hc.same s4
    · refine q r _ (s3.trans (s4.trans (same_new hr' _))) ?_
      rw [lay_map, ← List.append_assoc]
      exact TpO.new hv
  refine ⟨t, a, _, _, rfl, rfl, t2.sqt, sqt ha2, by simp, ?_, fun z => ?_, fun _ c v hc hv => ?_⟩
  · rw [List.length_map, List.length_take, List.length_singleton]
    exact Nat.le_of_lt (small1000 (by omega))
  · refine fin t H2 s12 ?_ _ rfl
    rw [z, List.append_nil]
    exact t2
  · exact fin c _ (s12.trans (same_new hc _)) (TpO.new hv) _ rfl
def spAbove : Sp := fun vs H Q _ => ∃ (p : Addr) (bs : List Str) (b : Str), vs = [.ref p, .str b] ∧ TpO H p (bs.map V.str) ∧ b ∈ bs ∧
  ∀ (q : Addr) (H' : Hp), Same H H' → H' q = some (.tup ((over bs b).map V.str)) → Q (.ref q) H'
theorem scAbove : FnScope ["pile", "book"] ["pile", "book"] (defScope sAbove) := ⟨rfl, rfl, rfl, by decide +kernel, rfl, by decide +kernel, by decide +kernel⟩
theorem ok_above {f : Addr} {fd : FuncData} (F : Fun K "books_above" "books_above" sAbove f fd) : FnOk P w K mg base CX0 1 f fd ["pile", "book"] spAbove := by
  refine F.ok scAbove (fun vs H Q E h => ?_) (fun cdv A outer s H vs Q E hr h => ?_)
  · obtain ⟨p, bs, b, rfl, _⟩ := h
    rfl
  obtain ⟨p, bs, b, rfl, hp, hb, q⟩ := h
  refine ⟨_, pss_one (ps_ret (pe_slice sl_tupA (pv 0) po_none (po_some (pe_tm PySem.F.slot_tuple_index PySem.F.type_tuple_index mt_tup_index (pv 0) (pa_cons (pv 1) pa_nil))))), ?_⟩
  have ib := idx_lt hb
  have lm : (bs.map V.str).length = bs.length := List.length_map _
  refine ⟨_, rfl, _, rfl, ⟨p, _, rfl, hp⟩, _, rfl, p, bs, b, bs.idxOf b, rfl, rfl, hp.sqt, idx_get hb, idx_first, _, rfl, p, _, rfl, hp.sqt, fun z => ?_, fun _ a ha => ?_⟩
  · exfalso
    rw [HT.sIx_nat, lm] at z
    omega
  · refine q a _ (same_new ha _) ?_
    rw [upd_same, cut_to (by rw [lm]; omega), ← List.map_take]
    rfl
def spAsPair : Sp := fun vs H Q _ => ∃ a b : Str, vs = [.str a, .str b] ∧ ∀ q : Addr, H q = none → Q (.ref q) (upd H q (.tup [.str (asPair (a, b)).1, .str (asPair (a, b)).2]))
theorem scAsPair : FnScope ["book", "passed"] ["book", "passed"] (defScope sAsPair) := ⟨rfl, rfl, rfl, by decide +kernel, rfl, by decide +kernel, by decide +kernel⟩
theorem ok_asPair {f : Addr} {fd : FuncData} (F : Fun K "as_pair" "as_pair" sAsPair f fd) : FnOk P w K mg base CX0 1 f fd ["book", "passed"] spAsPair := by
  refine F.ok scAsPair (fun vs H Q E h => ?_) (fun cdv A outer s H vs Q E hr h => ?_)
  · obtain ⟨a, b, rfl, _⟩ := h
    rfl
  obtain ⟨a, b, rfl, q⟩ := h
  refine ⟨_, pss_one (ps_ret (pe_ifExp (pt_cmpR op_lt_str (pv 0) (pv 1) (nomark _)) (pe_tup (pa_cons (pv 0) (pa_cons (pv 1) pa_nil))) (pe_tup (pa_cons (pv 1) (pa_cons (pv 0) pa_nil))))), ?_⟩
  refine ⟨_, rfl, _, rfl, _, _, rfl, rfl, _, rfl, ite2 (fun c => ?_) (fun c => ?_)⟩
  · have c' : ltS a b := of_decide_eq_true c
    refine ⟨_, rfl, _, rfl, (by show 2 ≤ sizeLine; decide), fun t ht => ?_⟩
    have z := q t ht
    unfold asPair at z
    rw [if_pos c'] at z
    exact z
  · have c' : ¬ ltS a b := of_decide_eq_false (Bool.eq_false_iff.mpr c)
    refine ⟨_, rfl, _, rfl, (by show 2 ≤ sizeLine; decide), fun t ht => ?_⟩
    have z := q t ht
    unfold asPair at z
    rw [if_neg c'] at z
    exact z
/-! ### behind, lifted -/
def spBehind (K : PySem.W.Frag) : Sp := fun vs H Q _ => ∃ (p r : Addr) (bs rs : List Str), vs = [.ref p, .ref r] ∧ TpO H p (bs.map V.str) ∧ TpS K H r (rs.map V.str) ∧ bs.length ≤ 1000 ∧ (∀ b ∈ rs, b ∈ bs) ∧
  ∀ (q : Addr) (H' : Hp), Same H H' → TpO H' q ((behindM bs rs).map V.str) → Q (.ref q) H'
theorem take_step {rs : List Str} {i : Nat} {b : Str} (h : rs[i]? = some b) : rs.take (i + 1) = rs.take i ++ [b] := by
  rw [List.take_add_one, h]
  rfl
theorem take_sub {bs rs : List Str} (h : ∀ b ∈ rs, b ∈ bs) (i : Nat) : ∀ b ∈ rs.take i, b ∈ bs := fun b hb => h b (List.mem_of_mem_take hb)
theorem strs_get {rs : List Str} {i : Nat} {x : V} (h : (rs.map V.str)[i]? = some x) : ∃ b, rs[i]? = some b ∧ x = .str b := by
  rw [List.getElem?_map] at h
  cases e : rs[i]? with
  | none =>
    rw [e] at h
    cases h
  | some b =>
    rw [e] at h
    cases h
    exact ⟨b, rfl, rfl⟩
theorem scBehind : FnScope ["pile", "readings", "order", "book"] ["pile", "readings"] (defScope sBehind) := ⟨rfl, rfl, rfl, by decide +kernel, rfl, by decide +kernel, by decide +kernel⟩
theorem ok_behind {f : Addr} {fd : FuncData} (F : Fun K "behind" "behind" sBehind f fd) (cL : Has P w K mg base 1 "laid_on_top" ["pile", "book"] spLaid) : FnOk P w K mg base CX0 2 f fd ["pile", "readings"] (spBehind K) := by
  refine F.ok scBehind (fun vs H Q E h => ?_) (fun cdv A outer s H vs Q E hr h => ?_)
  · obtain ⟨p, r, bs, rs, rfl, _⟩ := h
    rfl
  obtain ⟨p, r, bs, rs, rfl, hp, hrr, hl, hm, q⟩ := h
  refine ⟨_, pss_cons (ps_set (i := 2) scBehind.nd rfl (.inl rfl) (pv 0))
    (pss_cons (ps_for PassesOwn.never rfl (pi_tup (pv 1)) (pg_name (i := 3) scBehind.nd rfl (.inl rfl))
      (pss_one (ps_set (i := 2) scBehind.nd rfl (.inl rfl) (pe_go cL hr (by decide) rfl (pa_cons (pv 2) (pa_cons (pv 3) pa_nil))))))
    (pss_one (ps_ret (pv 2)))), ?_⟩
  refine ⟨_, rfl, _, rfl, r, rfl, ⟨_, hrr.sqt⟩, for_tup (K := K) (a := r) (xs := rs.map V.str) (fun i σ H' => ∃ (o : Addr) (y3 : Option V), σ = [some (.ref p), some (.ref r), some (.ref o), y3] ∧ Same H H' ∧ TpO H' o ((behindM bs (rs.take i)).map V.str))
    ⟨p, none, rfl, Same.refl _, hp⟩ (fun i σ H' _ ⟨_, _, _, sm, _⟩ => (hrr.same sm).sqt) ?_ ?_⟩
  · rintro i x σ H' hx ⟨o, y3, rfl, sm, ho⟩
    obtain ⟨b, hb, rfl⟩ := strs_get hx
    have pm := behindM_perm (rs.take i) (take_sub hm i)
    refine ⟨_, rfl, _, rfl, o, _, b, rfl, ho, pm.mem_iff.mpr (hm b (List.mem_of_getElem? hb)), by rw [pm.length_eq]; exact hl, fun o2 H2 s2 h2 => ?_⟩
    refine ⟨o2, _, rfl, sm.trans s2, ?_⟩
    rw [take_step hb, behindM_snoc]
    exact h2
  · rintro σ H' ⟨o, y3, rfl, sm, ho⟩
    rw [List.length_map, List.take_length] at ho
    exact ⟨_, rfl, q o H' sm ho⟩
def spLifted (K : PySem.W.Frag) : Sp := fun vs H Q _ => ∃ (p r : Addr) (bs rs : List Str), vs = [.ref p, .ref r] ∧ TpO H p (bs.map V.str) ∧ TpS K H r (rs.map V.str) ∧ bs.length ≤ 1000 ∧ rs.length ≤ 1000 ∧ (∀ b ∈ rs, b ∈ bs) ∧
  ∀ (l : Addr) (H' : Hp), Same H H' → H l = none → H' l = some (.lst ((liftedM bs rs).map natV)) → Q (.ref l) H'
theorem liftedM_len (bs : List Str) : ∀ rs : List Str, (liftedM bs rs).length = rs.length := by
  intro rs
  induction rs generalizing bs with
  | nil => rfl
  | cons x r ih => exact congrArg (· + 1) (ih (lay bs x))
theorem scLifted : FnScope ["pile", "readings", "numbers", "order", "book"] ["pile", "readings"] (defScope sLifted) := ⟨rfl, rfl, rfl, by decide +kernel, rfl, by decide +kernel, by decide +kernel⟩
theorem ok_lifted {f : Addr} {fd : FuncData} (F : Fun K "lifted" "lifted" sLifted f fd) (cL : Has P w K mg base 1 "laid_on_top" ["pile", "book"] spLaid) : FnOk P w K mg base CX0 2 f fd ["pile", "readings"] (spLifted K) := by
  refine F.ok scLifted (fun vs H Q E h => ?_) (fun cdv A outer s H vs Q E hr h => ?_)
  · obtain ⟨p, r, bs, rs, rfl, _⟩ := h
    rfl
  obtain ⟨p, r, bs, rs, rfl, hp, hrr, hl, hl2, hm, q⟩ := h
  refine ⟨_, pss_cons (ps_set (i := 2) scLifted.nd rfl (.inl rfl) (pe_lst pa_nil))
    (pss_cons (ps_set (i := 3) scLifted.nd rfl (.inl rfl) (pv 0))
    (pss_cons (ps_for PassesOwn.never rfl (pi_tup (pv 1)) (pg_name (i := 4) scLifted.nd rfl (.inl rfl))
      (pss_cons (ps_expr (pe_bm PySem.F.plainAttrs_list PySem.F.slot_list_append PySem.F.type_list_append mt_append (pv 2) (pa_cons (pe_tm PySem.F.slot_tuple_index PySem.F.type_tuple_index mt_tup_index (pv 3) (pa_cons (pv 4) pa_nil)) pa_nil)))
      (pss_one (ps_set (i := 3) scLifted.nd rfl (.inl rfl) (pe_go cL hr (by decide) rfl (pa_cons (pv 3) (pa_cons (pv 4) pa_nil)))))))
    (pss_one (ps_ret (pv 2))))), ?_⟩
  refine ⟨Nat.zero_le _, fun L hL => ?_⟩
  have s1 : Same H (upd H L (.lst [])) := same_new hL _
  refine ⟨_, rfl, _, rfl, r, rfl, ⟨_, (hrr.same s1).sqt⟩, for_tup (K := K) (a := r) (xs := rs.map V.str) (fun i σ H' => ∃ (o : Addr) (y4 : Option V), σ = [some (.ref p), some (.ref r), some (.ref L), some (.ref o), y4] ∧ Same H H' ∧ TpO H' o ((behindM bs (rs.take i)).map V.str) ∧ H' L = some (.lst ((liftedM bs (rs.take i)).map natV)))
    ⟨p, none, rfl, s1, hp.same s1, upd_same⟩ (fun i σ H' _ ⟨_, _, _, sm, _⟩ => (hrr.same sm).sqt) ?_ ?_⟩
  · rintro i x σ H' hx ⟨o, y4, rfl, sm, ho, hL'⟩
    obtain ⟨b, hb, rfl⟩ := strs_get hx
    have pm := behindM_perm (rs.take i) (take_sub hm i)
    have hbm := pm.mem_iff.mpr (hm b (List.mem_of_getElem? hb))
    have nLo : L ≠ o := fun e => by
      subst e
      obtain ⟨u, h1, o1, rfl, _⟩ := ho
      rw [hL'] at h1
      cases h1
    refine ⟨_, rfl, .inl ⟨rfl, _, sql hL'⟩, _, rfl, ⟨o, _, rfl, ho⟩, _, rfl, o, _, b, _, rfl, rfl, ho.sqt, idx_get hbm, idx_first, L, _, _, rfl, rfl, hL', ?_, ?_⟩
    · rw [List.length_map, liftedM_len, List.length_take]
      exact small1000 (by omega)
    · have ho2 : TpO (upd H' L (.lst ((liftedM bs (rs.take i)).map natV ++ [natV ((behindM bs (rs.take i)).idxOf b)]))) o ((behindM bs (rs.take i)).map V.str) := ho.move fun u h => by
        rw [upd_ne nLo.symm]
        exact h
      refine ⟨_, rfl, _, rfl, o, _, b, rfl, ho2, hbm, by rw [pm.length_eq]; exact hl, fun o2 H2 s2 h2 => ?_⟩
      refine ⟨o2, _, rfl, (same_put sm hL).trans s2, ?_, ?_⟩
      · rw [take_step hb, behindM_snoc]
        exact h2
      · rw [take_step hb, liftedM_snoc, List.map_append]
        exact s2 _ _ upd_same
  · rintro σ H' ⟨o, y4, rfl, sm, ho, hL'⟩
    rw [List.length_map, List.take_length] at hL'
    exact ⟨_, rfl, q L H' sm hL hL'⟩
end
end Lt

set_option Elab.async false
set_option linter.all false
set_option maxRecDepth 100000
set_option maxHeartbeats 4000000
namespace Lt
open PySem PySem.Spec PyProof.Rows L2
/-! ### lists of pairs -/
def KeepT (H H' : Hp) : Prop := ∀ b xs, H b = some (.tup xs) → H' b = some (.tup xs)
theorem KeepT.of {H H' : Hp} (s : Same H H') : KeepT H H' := fun b xs h => s _ _ h
theorem KeepT.put {H : Hp} {D : Addr} {o : HO} {u : HO} (h : H D = some u) (n : ∀ xs, u ≠ .tup xs) : KeepT H (upd H D o) := fun b xs q => by
  rw [upd_ne (ne_of q h fun z => n xs z.symm)]
  exact q
theorem KeepT.trans {H H1 H2 : Hp} (a : KeepT H H1) (b : KeepT H1 H2) : KeepT H H2 := fun c xs h => b c xs (a c xs h)
def PairsL (H : Hp) (ts : List Addr) (ps : List (Str × Str)) : Prop := ts.length = ps.length ∧ ∀ (i : Nat) (t : Addr) (q : Str × Str), ts[i]? = some t → ps[i]? = some q → H t = some (.tup [.str q.1, .str q.2])
theorem PairsL.nil (H : Hp) : PairsL H [] [] := ⟨rfl, fun i t q h => by simp at h⟩
theorem PairsL.move {H H' : Hp} {ts : List Addr} {ps : List (Str × Str)} (h : PairsL H ts ps) (k : KeepT H H') : PairsL H' ts ps := ⟨h.1, fun i t q a b => k _ _ (h.2 i t q a b)⟩
theorem PairsL.snoc {H : Hp} {ts : List Addr} {ps : List (Str × Str)} {t : Addr} {q : Str × Str} (h : PairsL H ts ps) (ht : H t = some (.tup [.str q.1, .str q.2])) : PairsL H (ts ++ [t]) (ps ++ [q]) := by
  refine ⟨by rw [List.length_append, List.length_append, h.1]; rfl, fun i t' q' a b => ?_⟩
  by_cases hi : i < ts.length
  · rw [List.getElem?_append_left hi] at a
    rw [List.getElem?_append_left (by rw [← h.1]; exact hi)] at b
    exact h.2 i t' q' a b
  · rw [List.getElem?_append_right (by omega)] at a
    rw [List.getElem?_append_right (by rw [← h.1]; omega), ← h.1] at b
    by_cases hz : i - ts.length = 0
    · rw [hz] at a b
      cases a
      cases b
      exact ht
    · rw [List.getElem?_eq_none (by rw [List.length_singleton]; omega)] at a
      cases a
abbrev sPairsData (ps : List (Str × Str)) : List PyData := ps.map fun q => .tuple [.str q.1, .str q.2]
theorem PairsL.dp {K : PySem.W.Frag} {H : Hp} : ∀ {ts : List Addr} {ps : List (Str × Str)}, PairsL H ts ps → DpAll K H (ts.map V.ref) (sPairsData ps)
  | [], [], _ => .nil
  | [], q :: r, h => by cases h.1
  | t :: ts, [], h => by cases h.1
  | t :: ts, q :: r, h => by
    refine .cons (.tup (sqt (h.2 0 t q rfl rfl)) (.cons (.str _) (.cons (.str _) .nil))) (PairsL.dp ⟨by simpa using h.1, fun i t' q' a b => h.2 (i + 1) t' q' a b⟩)
section
variable {P : Program} {w : World} {K : PySem.W.Frag} {mg : Str → Option Value} {base : Heap}
def spPairs (K : PySem.W.Frag) : Sp := fun vs H Q _ => ∃ (p : Addr) (bs : List Str), vs = [.ref p] ∧ SqT K H p (bs.map V.str) ∧ bs.length ≤ 20 ∧
  ∀ (l : Addr) (H' : Hp) (ys : List Str) (ts : List Addr), Same H H' → ys.Perm bs → sortedS ys = true → H l = none → H' l = some (.lst (ts.map V.ref)) → PairsL H' ts (prs ys ys.length) → Q (.ref l) H'
theorem scPairs : FnScope ["books", "ordered", "at", "one", "other"] ["books"] (defScope sPairs) := ⟨rfl, rfl, rfl, by decide +kernel, rfl, by decide +kernel, by decide +kernel⟩
theorem ok_pairs {f : Addr} {fd : FuncData} (F : Fun K "pairs_of" "pairs_of" sPairs f fd) (B : Bi mg) : FnOk P w K mg base CX0 1 f fd ["books"] (spPairs K) := by
  refine F.ok scPairs (fun vs H Q E h => ?_) (fun cdv A outer s H vs Q E hr h => ?_)
  · obtain ⟨p, bs, rfl, _⟩ := h
    rfl
  obtain ⟨p, bs, rfl, hp, hl, q⟩ := h
  refine ⟨_, pss_cons (ps_set (i := 1) scPairs.nd rfl (.inr rfl) (pe_callB cr_sortedT (by rfl) B.sorted (by decide +kernel) (pa_cons (pv 0) pa_nil)))
    (pss_one (ps_ret (pe_lc2 (own := [("at", 2), ("one", 3), ("other", 4)]) (vs1 := [4]) (g := gTup K 2 (gCons (gName 2) (gCons (gName 3) gNil))) (tt := tYes) (g1 := gName 4) (tt1 := tYes)
      (wi1 := iList K (tSl (rSlL K) (tVar 1) (tPart (tOp (rI0 fun i j => .int (i + j)) (tVar 2) (tC (.int 1)))) tNoPart))
      (by rfl) scPairs.nd (pi_enum (by rfl) B.enumerate (pa_cons (pv 1) pa_nil))
      (blkOk_by (own := [("at", 2), ("one", 3), ("other", 4)]) (N := ["books", "ordered", "at", "one", "other"]) (sc := defScope sPairs) (by decide +kernel)) (by decide)
      (fun _ _ _ _ _ => pg_tup rfl (pgs_cons (pg_name (i := 2) scPairs.nd rfl (.inl rfl)) (pgs_cons (pg_name (i := 3) scPairs.nd rfl (.inl rfl)) pgs_nil)))
      (fun _ _ _ _ _ => pts_nil) (fun _ _ _ _ _ => pi_list (pe_slice sl_list (pv 1) (po_some (pe_op op_add (pv 2) pe_int)) po_none))
      (fun _ _ _ _ _ => pg_name (i := 4) scPairs.nd rfl (.inl rfl)) (fun _ _ _ _ _ => pts_nil)
      (fun _ _ _ _ _ => pe_tup (pa_cons (pv 3) (pa_cons (pv 4) pa_nil)))))), ?_⟩
  refine ⟨_, rfl, p, bs, rfl, hp, by omega, fun ys o pm so ho => ?_⟩
  have ly : ys.length = bs.length := pm.length_eq
  have s1 := same_new ho (.lst (ys.map V.str))
  have ho1 : upd H o (.lst (ys.map V.str)) o = some (.lst (ys.map V.str)) := upd_same
  generalize upd H o (.lst (ys.map V.str)) = H1 at s1 ho1 ⊢
  refine ⟨_, rfl, o, _, rfl, sql ho1, fun D hD => ?_⟩
  have plen : ∀ n, n ≤ ys.length → (prs ys n).length ≤ 400 := fun n hn => by
    have z := prs_len ys n
    have z2 : n * ys.length ≤ 20 * 20 := Nat.mul_le_mul (by omega) (by omega)
    omega
  refine in_it (walk_enum (K := K) (a := o) (xs := ys.map V.str)) (fun i H' => ∃ ts : List Addr, Same H1 H' ∧ H' D = some (.lst (ts.map V.ref)) ∧ PairsL H' ts (prs ys i))
    ⟨[], same_new hD _, upd_same, PairsL.nil _⟩ (fun i H' _ ⟨_, sm, _⟩ => sm.seq (sql ho1)) ?_ ?_
  · rintro i x H2 H3 hi ⟨ts, sm, hD2, pl⟩ ⟨T, x1, x2, rfl, nT, rfl, e1, e2⟩
    rw [List.length_map] at hi
    cases e1
    obtain ⟨a, ha, rfl⟩ := strs_get e2
    have s3 := same_new nT (.tup [natV i, .str a])
    have hD3 : upd H2 T (.tup [natV i, .str a]) D = some (.lst (ts.map V.ref)) := s3 _ _ hD2
    refine ⟨T, _, rfl, sqt upd_same, rfl, _, _, rfl, _, _, rfl, rfl, rfl, ?_⟩
    refine ⟨_, rfl, _, rfl, _, _, rfl, rfl, _, rfl, o, _, rfl, s3.seq (sm.seq (sql ho1)), fun c hc => ?_⟩
    have ecut : cutV (ys.map V.str) (some ((i : Int) + 1)) none = (ys.drop (i + 1)).map V.str := by
      rw [show ((i : Int) + 1) = ((i + 1 : Nat) : Int) by omega, cut_from (by rw [List.length_map]; omega), List.map_drop]
    rw [ecut]
    have s4 := same_new hc (.lst ((ys.drop (i + 1)).map V.str))
    have hc4 : upd (upd H2 T (.tup [natV i, .str a])) c (.lst ((ys.drop (i + 1)).map V.str)) c = some (.lst ((ys.drop (i + 1)).map V.str)) := upd_same
    have hD4 := s4 _ _ hD3
    have sm4 : Same H1 (upd (upd H2 T (.tup [natV i, .str a])) c (.lst ((ys.drop (i + 1)).map V.str))) := sm.trans (s3.trans s4)
    have pl4 := (pl.move (KeepT.of s3)).move (KeepT.of s4)
    have ncD : c ≠ D := (ne_of_none hD3 hc).symm
    generalize upd (upd H2 T (.tup [natV i, .str a])) c (.lst ((ys.drop (i + 1)).map V.str)) = H4 at hc4 hD4 sm4 pl4 ⊢
    refine ⟨c, rfl, ⟨_, sql hc4⟩, in_it (walk_list (K := K) (a := c) (xs := (ys.drop (i + 1)).map V.str)) (fun j H' => ∃ ts : List Addr, Same H1 H' ∧ H' D = some (.lst (ts.map V.ref)) ∧ H' c = some (.lst ((ys.drop (i + 1)).map V.str)) ∧ PairsL H' ts (prs ys i ++ ((ys.drop (i + 1)).take j).map fun b => (a, b)))
      ⟨ts, sm4, hD4, hc4, by rw [List.take_zero, List.map_nil, List.append_nil]; exact pl4⟩ (fun j H' _ ⟨_, _, _, h', _⟩ => sql h') ?_ ?_⟩
    · rintro j x H5 H6 hj ⟨ts5, sm5, hD5, hc5, pl5⟩ ⟨rfl, ex⟩
      rw [List.length_map] at hj
      obtain ⟨b, hb, rfl⟩ := strs_get ex
      refine ⟨rfl, _, rfl, _, rfl, (by show 2 ≤ sizeLine; decide), fun t ht => ?_⟩
      have s6 := same_new ht (.tup [.str a, .str b])
      have hD6 := s6 _ _ hD5
      have lts : ts5.length ≤ 500 := by
        rw [pl5.1, List.length_append, List.length_map, List.length_take]
        have z := plen i (by omega)
        have z2 : (ys.drop (i + 1)).length ≤ ys.length := by rw [List.length_drop]; omega
        omega
      refine ⟨_, hD6, ?_, ts5 ++ [t], ?_, ?_, ?_, ?_⟩
      · rw [List.length_map]
        exact small1000 (by omega)
      · exact same_put (sm5.trans s6) hD
      · rw [upd_same, List.map_append]
        rfl
      · rw [upd_ne ncD]
        exact s6 _ _ hc5
      · have z := ((pl5.move (KeepT.of s6)).snoc (t := t) (q := (a, b)) upd_same).move (KeepT.put (D := D) (o := .lst (ts5.map V.ref ++ [.ref t])) hD6 (fun xs z => nomatch z))
        rw [List.take_add_one, hb, List.map_append, ← List.append_assoc]
        exact z
    · rintro H5 ⟨ts5, sm5, hD5, hc5, pl5⟩
      rw [List.length_map, List.take_length] at pl5
      refine ⟨ts5, sm5, hD5, ?_⟩
      rw [prs_succ ha]
      exact pl5
  · rintro H5 ⟨ts, sm, hD5, pl⟩
    rw [List.length_map] at pl
    exact q D H5 ys ts (s1.trans sm) pm so (s1.free hD) hD5 pl
end
end Lt

set_option Elab.async false
set_option linter.all false
set_option maxRecDepth 100000
set_option maxHeartbeats 4000000
namespace Lt
open PySem PySem.Spec PyProof.Rows L2
def key (q : Str × Str) : List Key := [Sum.inr q.1, Sum.inr q.2]
theorem key_inj {q r : Str × Str} (h : key q = key r) : q = r := by
  unfold key at h
  injection h with h1 h2
  injection h2 with h2 _
  injection h1 with h1
  injection h2 with h2
  exact Prod.ext h1 h2
theorem key_map (q : Str × Str) : (key q).map kV = [V.str q.1, V.str q.2] := rfl
/-- what a dict of pairs holds -/
def Counts (kvs : List (List Key × V)) (ps : List (Str × Str)) (rows : List (Str × Str)) : Prop := ∀ q ∈ ps, valV kvs (key q) = some (natV (cnt rows q))
theorem Counts.more {kvs : List (List Key × V)} {ps rows : List (Str × Str)} (h : Counts kvs ps rows) {r : Str × Str} (hr : asPair r ∈ ps) :
    Counts (putK kvs (key (asPair r)) (.int ((cnt rows (asPair r) : Int) + 1))) ps (rows ++ [r]) := fun q hq => by
  rw [valV_put, cnt_snoc]
  by_cases e : asPair r = q
  · subst e
    rw [if_pos rfl, if_pos rfl]
    rfl
  · rw [if_neg (fun z => e (key_inj z).symm), if_neg e, Nat.add_zero]
    exact h q hq
abbrev tri (rows : List (Str × Str)) (q : Str × Str) : PyData := .tuple [.str q.1, .str q.2, .int (cnt rows q : Nat)]
def TriL (rows : List (Str × Str)) (H : Hp) (ts : List Addr) (ps : List (Str × Str)) : Prop := ts.length = ps.length ∧
  ∀ (i : Nat) (t : Addr) (q : Str × Str), ts[i]? = some t → ps[i]? = some q → H t = some (.tup [.str q.1, .str q.2, natV (cnt rows q)])
theorem TriL.move {rows : List (Str × Str)} {H H' : Hp} {ts : List Addr} {ps : List (Str × Str)} (h : TriL rows H ts ps) (k : KeepT H H') : TriL rows H' ts ps := ⟨h.1, fun i t q a b => k _ _ (h.2 i t q a b)⟩
theorem TriL.snoc {rows : List (Str × Str)} {H : Hp} {ts : List Addr} {ps : List (Str × Str)} {t : Addr} {q : Str × Str} (h : TriL rows H ts ps) (ht : H t = some (.tup [.str q.1, .str q.2, natV (cnt rows q)])) : TriL rows H (ts ++ [t]) (ps ++ [q]) := by
  refine ⟨by rw [List.length_append, List.length_append, h.1]; rfl, fun i t' q' a b => ?_⟩
  by_cases hi : i < ts.length
  · rw [List.getElem?_append_left hi] at a
    rw [List.getElem?_append_left (by rw [← h.1]; exact hi)] at b
    exact h.2 i t' q' a b
  · rw [List.getElem?_append_right (by omega)] at a
    rw [List.getElem?_append_right (by rw [← h.1]; omega), ← h.1] at b
    by_cases hz : i - ts.length = 0
    · rw [hz] at a b
      cases a
      cases b
      exact ht
    · rw [List.getElem?_eq_none (by rw [List.length_singleton]; omega)] at a
      cases a
theorem TriL.dp {rows : List (Str × Str)} {K : PySem.W.Frag} {H : Hp} : ∀ {ts : List Addr} {ps : List (Str × Str)}, TriL rows H ts ps → DpAll K H (ts.map V.ref) (ps.map (tri rows))
  | [], [], _ => .nil
  | [], q :: r, h => by cases h.1
  | t :: ts, [], h => by cases h.1
  | t :: ts, q :: r, h =>
    .cons (.tup (sqt (h.2 0 t q rfl rfl)) (.cons (.str _) (.cons (.str _) (.cons (.int _) .nil)))) (TriL.dp ⟨by simpa using h.1, fun i t' q' a b => h.2 (i + 1) t' q' a b⟩)
theorem rowsM_len : ∀ {bs : List Str} (rs : List Str), (∀ b ∈ rs, b ∈ bs) → (rowsM bs rs).length ≤ rs.length * bs.length
  | bs, [], _ => Nat.zero_le _
  | bs, b :: r, h => by
    have p := lay_perm (h b (List.mem_cons_self ..))
    have ih := rowsM_len (bs := lay bs b) r fun c hc => p.mem_iff.mpr (h c (List.mem_cons_of_mem _ hc))
    rw [p.length_eq] at ih
    show ((over bs b).map (fun o => (b, o)) ++ rowsM (lay bs b) r).length ≤ (r.length + 1) * bs.length
    rw [List.length_append, List.length_map, Nat.succ_mul]
    have z : (over bs b).length ≤ bs.length := by
      unfold over
      rw [List.length_take]
      omega
    omega
section
variable {P : Program} {w : World} {K : PySem.W.Frag} {mg : Str → Option Value} {base : Heap}
def spPassings (K : PySem.W.Frag) : Sp := fun vs H Q _ => ∃ (p r : Addr) (bs rs : List Str), vs = [.ref p, .ref r] ∧ TpO H p (bs.map V.str) ∧ TpS K H r (rs.map V.str) ∧ bs.length ≤ 7 ∧ rs.length ≤ 60 ∧ (∀ b ∈ rs, b ∈ bs) ∧
  ∀ (l : Addr) (H' : Hp) (ys : List Str) (xs : List V), Same H H' → H l = none → ys.Perm bs → sortedS ys = true → H' l = some (.lst xs) → DpAll K H' xs ((prs ys ys.length).map (tri (rowsM bs rs))) → Q (.ref l) H'
abbrev nPassings : List Str := ["pile", "readings", "pairs", "numbers", "order", "book", "passed", "pair", "one", "other"]
theorem scPassings : FnScope nPassings ["pile", "readings"] (defScope sPassings) := ⟨rfl, rfl, rfl, by decide +kernel, rfl, by decide +kernel, by decide +kernel⟩
theorem ok_passings {f : Addr} {fd : FuncData} (F : Fun K "passings" "passings" sPassings f fd) (cL : Has P w K mg base 1 "laid_on_top" ["pile", "book"] spLaid) (cA : Has P w K mg base 1 "books_above" ["pile", "book"] spAbove)
    (cP : Has P w K mg base 1 "pairs_of" ["books"] (spPairs K)) (cS : Has P w K mg base 1 "as_pair" ["book", "passed"] spAsPair) : FnOk P w K mg base CX0 2 f fd ["pile", "readings"] (spPassings K) := by
  refine F.ok scPassings (fun vs H Q E h => ?_) (fun cdv A outer s H vs Q E hr h => ?_)
  · obtain ⟨p, r, bs, rs, rfl, _⟩ := h
    rfl
  obtain ⟨p, r, bs, rs, rfl, hp, hrr, hl, hl2, hm, q⟩ := h
  refine ⟨_, pss_cons (ps_set (i := 2) scPassings.nd rfl (.inl rfl) (pe_go cP hr (by decide) rfl (pa_cons (pv 0) pa_nil)))
    (pss_cons (ps_set (i := 3) scPassings.nd rfl (.inr rfl) (pe_dcK (hu_of hr) (by rfl) (pv 2) (by decide +kernel) (by decide +kernel) (by decide +kernel) rfl))
    (pss_cons (ps_set (i := 4) scPassings.nd rfl (.inl rfl) (pv 0))
    (pss_cons (ps_for PassesOwn.never rfl (pi_tup (pv 1)) (pg_name (i := 5) scPassings.nd rfl (.inl rfl))
      (pss_cons (ps_for PassesOwn.never rfl (pi_tup (pe_go cA hr (by decide) rfl (pa_cons (pv 4) (pa_cons (pv 5) pa_nil)))) (pg_name (i := 6) scPassings.nd rfl (.inl rfl))
        (pss_one (ps_daug (hu_of hr) (pv 3) (pe_go cS hr (by decide) rfl (pa_cons (pv 5) (pa_cons (pv 6) pa_nil))) pe_int in_add (fun _ _ _ => rfl))))
      (pss_one (ps_set (i := 4) scPassings.nd rfl (.inl rfl) (pe_go cL hr (by decide) rfl (pa_cons (pv 4) (pa_cons (pv 5) pa_nil)))))))
    (pss_one (ps_ret (pe_lc (own := [("one", 8), ("other", 9)]) (g := gTup K 2 (gCons (gName 8) (gCons (gName 9) gNil))) (tt := tYes) (by rfl) scPassings.nd (pi_list (pv 2))
        (blkOk_by (own := [("one", 8), ("other", 9)]) (N := nPassings) (sc := defScope sPassings) (by decide +kernel))
        (fun _ _ _ _ _ => pg_tup rfl (pgs_cons (pg_name (i := 8) scPassings.nd rfl (.inl rfl)) (pgs_cons (pg_name (i := 9) scPassings.nd rfl (.inl rfl)) pgs_nil)))
        (fun _ _ _ _ _ => pts_nil)
        (fun _ _ _ _ _ => pe_tup (pa_cons (pv 8) (pa_cons (pv 9) (pa_cons (pe_dget (hu_of hr) (pv 3) (pe_tup (pa_cons (pv 8) (pa_cons (pv 9) pa_nil))) (fun _ _ => rfl)) pa_nil)))))))))), ?_⟩
  refine ⟨_, rfl, p, bs, rfl, hp.sqt, by omega, fun l H1 ys ts s1 pm so nl hl1 pl1 => ?_⟩
  have ly : ys.length = bs.length := pm.length_eq
  have lps : (prs ys ys.length).length ≤ 49 := by
    have z := prs_len ys ys.length
    have z2 : ys.length * ys.length ≤ 7 * 7 := Nat.mul_le_mul (by omega) (by omega)
    omega
  have inPs : ∀ {a b : Str}, a ∈ bs → b ∈ bs → a ≠ b → asPair (a, b) ∈ prs ys ys.length := fun {a b} ha hb ne => pair_in pm so ha hb ne
  generalize hps : prs ys ys.length = ps at pl1 lps inPs
  -- the dict
  refine ⟨_, rfl, l, ts, ps.map key, rfl, sql hl1, by rw [List.length_map]; exact pl1.1, fun i t k e1 e2 => ?_, by rw [List.length_map]; omega, fun D hD => ?_⟩
  · rw [List.getElem?_map] at e2
    cases e3 : ps[i]? with
    | none =>
      rw [e3] at e2
      cases e2
    | some q' =>
      rw [e3] at e2
      cases e2
      exact pl1.2 i t q' e1 e3
  have sm2 := same_new hD (.dT (consts 0 (ps.map key)))
  have hD2 : upd H1 D (.dT (consts 0 (ps.map key))) D = some (.dT (consts 0 (ps.map key))) := upd_same
  have lk2 : (consts 0 (ps.map key)).length ≤ ts.length := by
    have z := consts_len 0 (ps.map key)
    rw [List.length_map, ← pl1.1] at z
    exact z
  have hv2 : ∀ q ∈ ps, valV (consts 0 (ps.map key)) (key q) = some (natV 0) := fun q hq => consts_val 0 _ _ (List.mem_map.mpr ⟨q, hq, rfl⟩)
  generalize consts 0 (ps.map key) = kvs0 at sm2 hD2 lk2 hv2 ⊢
  generalize upd H1 D (.dT kvs0) = H2 at sm2 hD2 ⊢
  have c0 : Counts kvs0 ps (rowsM bs (rs.take 0)) := fun q hq => hv2 q hq
  -- the readings
  refine ⟨_, rfl, _, rfl, r, rfl, ⟨_, ((hrr.same s1).same sm2).sqt⟩, for_tup (K := K) (a := r) (xs := rs.map V.str)
    (fun i σ H' => ∃ (o : Addr) (y5 y6 : Option V) (kvs : List (List Key × V)), σ = [some (.ref p), some (.ref r), some (.ref l), some (.ref D), some (.ref o), y5, y6, none, none, none] ∧ Same H1 H' ∧
      TpO H' o ((behindM bs (rs.take i)).map V.str) ∧ H' D = some (.dT kvs) ∧ kvs.length ≤ 49 + (rowsM bs (rs.take i)).length ∧ Counts kvs ps (rowsM bs (rs.take i)))
    ⟨p, none, none, kvs0, rfl, sm2, (hp.same s1).same sm2, hD2, by rw [pl1.1] at lk2; omega, c0⟩ (fun i σ H' _ ⟨_, _, _, _, _, sm, _⟩ => ((hrr.same s1).same sm).sqt) ?_ ?_⟩
  · rintro i x σ H' hx ⟨o, y5, y6, kvs, rfl, sm, ho, hD', lk, ct⟩
    obtain ⟨b, hb, rfl⟩ := strs_get hx
    have hi : i < rs.length := (List.getElem?_eq_some_iff.mp hb).1
    have pmi := behindM_perm (rs.take i) (take_sub hm i)
    have hbs : b ∈ bs := hm b (List.mem_of_getElem? hb)
    have hbm := pmi.mem_iff.mpr hbs
    have rl : (rowsM bs (rs.take i)).length ≤ 420 := by
      have z := rowsM_len (rs.take i) (take_sub hm i)
      have z2 : (rs.take i).length * bs.length ≤ 60 * 7 := Nat.mul_le_mul (by rw [List.length_take]; omega) hl
      omega
    generalize hcur : behindM bs (rs.take i) = cur at ho pmi hbm
    have ol : (over cur b).length ≤ 7 := by
      unfold over
      rw [List.length_take, pmi.length_eq]
      omega
    refine ⟨_, rfl, _, rfl, o, cur, b, rfl, ho, hbm, fun a H3 s3 ha => ?_⟩
    refine ⟨a, rfl, ⟨_, sqt ha⟩, for_tup (K := K) (a := a) (xs := (over cur b).map V.str)
      (fun j σ H' => ∃ (y6 : Option V) (kvs : List (List Key × V)), σ = [some (.ref p), some (.ref r), some (.ref l), some (.ref D), some (.ref o), some (.str b), y6, none, none, none] ∧ Same H1 H' ∧ H' a = some (.tup ((over cur b).map V.str)) ∧
        TpO H' o (cur.map V.str) ∧ H' D = some (.dT kvs) ∧ kvs.length ≤ 49 + (rowsM bs (rs.take i)).length + j ∧ Counts kvs ps (rowsM bs (rs.take i) ++ ((over cur b).take j).map fun z => (b, z)))
      ⟨y6, kvs, rfl, sm.trans s3, ha, ho.same s3, s3 _ _ hD', lk, by rw [List.take_zero, List.map_nil, List.append_nil]; exact ct⟩ (fun j σ H' _ ⟨_, _, _, _, h', _⟩ => sqt h') ?_ ?_⟩
    · rintro j x σ H4 hx4 ⟨y6', kvs4, rfl, sm4, ha4, ho4, hD4, lk4, ct4⟩
      obtain ⟨z, hz, rfl⟩ := strs_get hx4
      have hj : j < (over cur b).length := (List.getElem?_eq_some_iff.mp hz).1
      have zo := List.mem_of_getElem? hz
      have zin : z ∈ bs := pmi.mem_iff.mp (over_mem zo)
      have hin := inPs hbs zin (over_ne zo).symm
      refine ⟨_, rfl, _, rfl, _, rfl, b, z, rfl, fun t ht => ?_⟩
      have s5 := same_new ht (.tup [.str (asPair (b, z)).1, .str (asPair (b, z)).2])
      have hk5 : upd H4 t (.tup [.str (asPair (b, z)).1, .str (asPair (b, z)).2]) t = some (.tup ((key (asPair (b, z))).map kV)) := upd_same
      have hD5 := s5 _ _ hD4
      refine ⟨D, natV (cnt (rowsM bs (rs.take i) ++ ((over cur b).take j).map fun z => (b, z)) (asPair (b, z))), rfl, ?_, _, _, rfl, rfl, _, DPut.t hD5 hk5 (small1000 (by omega)), ?_⟩
      · have g := DGet.t hD5 hk5
        rw [ct4 _ hin] at g
        exact g
      · refine ⟨_, _, rfl, same_put (sm4.trans s5) hD, ?_, ?_, upd_same, ?_, ?_⟩
        · exact (KeepT.put (D := D) hD5 (fun xs z => nomatch z)) _ _ (s5 _ _ ha4)
        · refine (ho4.same s5).move fun u h => ?_
          have ne : o ≠ D := fun e => by
            subst e
            obtain ⟨u2, h2, o2, rfl, _⟩ := ho4
            rw [hD4] at h2
            cases h2
          rw [upd_ne ne]
          exact h
        · have zz := length_putK kvs4 (key (asPair (b, z))) (V.int ((cnt (rowsM bs (rs.take i) ++ ((over cur b).take j).map fun z => (b, z)) (asPair (b, z)) : Int) + 1))
          exact Nat.le_trans zz (by omega)
        · have zz := ct4.more (r := (b, z)) hin
          rw [List.take_add_one, hz, List.map_append, ← List.append_assoc]
          exact zz
    · rintro σ H4 ⟨y6', kvs4, rfl, sm4, ha4, ho4, hD4, lk4, ct4⟩
      rw [List.length_map] at lk4 ct4
      rw [List.take_length] at ct4
      refine ⟨_, rfl, _, rfl, o, cur, b, rfl, ho4, hbm, by rw [pmi.length_eq]; omega, fun o2 H5 s5 ho5 => ?_⟩
      refine ⟨o2, _, _, kvs4, rfl, sm4.trans s5, ?_, s5 _ _ hD4, ?_, ?_⟩
      · rw [take_step hb, behindM_snoc, hcur]
        exact ho5
      · rw [take_step hb, rowsM_snoc, hcur, List.length_append, List.length_map]
        omega
      · rw [take_step hb, rowsM_snoc, hcur]
        exact ct4
  · rintro σ H3 ⟨o, y5, y6, kvs, rfl, sm3, ho3, hD3, lk3, ct3⟩
    rw [List.length_map, List.take_length] at ct3
    -- the answer
    refine ⟨_, rfl, l, rfl, ⟨_, sm3.seq (sql hl1)⟩, fun D2 hD2' => lc_list (K := K) (a := l) (xs := ts.map V.ref)
      (fun i H' => ∃ xs : List Addr, Same H3 H' ∧ H' D2 = some (.lst (xs.map V.ref)) ∧ TriL (rowsM bs rs) H' xs (ps.take i))
      ⟨[], same_new hD2' _, upd_same, rfl, fun i t q h => by simp at h⟩ (fun i H' _ ⟨_, sm, _⟩ => sm.seq (sm3.seq (sql hl1))) ?_ ?_⟩
    · rintro i x H4 hx ⟨xs, sm4, hx4, dp4⟩
      have hi : i < ts.length := by
        have z := (List.getElem?_eq_some_iff.mp hx).1
        rw [List.length_map] at z
        exact z
      rw [List.getElem?_map, List.getElem?_eq_getElem hi] at hx
      cases hx
      have hi2 : i < ps.length := by rw [← pl1.1]; exact hi
      have ht : H4 ts[i] = some (.tup [.str ps[i].1, .str ps[i].2]) := sm4 _ _ (sm3 _ _ (pl1.2 i _ _ (List.getElem?_eq_getElem hi) (List.getElem?_eq_getElem hi2)))
      refine ⟨ts[i], _, rfl, sqt ht, rfl, _, _, rfl, _, _, rfl, rfl, rfl, _, rfl, _, rfl, _, rfl, _, rfl, _, rfl, (by show 2 ≤ sizeLine; decide), fun k hk => ?_⟩
      have s5 := same_new hk (.tup [.str ps[i].1, .str ps[i].2])
      have hk5 : upd H4 k (.tup [.str ps[i].1, .str ps[i].2]) k = some (.tup ((key ps[i]).map kV)) := upd_same
      have g := DGet.t (s5 _ _ (sm4 _ _ hD3)) hk5
      rw [ct3 _ (List.getElem_mem hi2)] at g
      refine ⟨D, _, rfl, g, (by show 3 ≤ sizeLine; decide), fun t ht5 => ?_⟩
      have s6 := same_new ht5 (.tup [.str ps[i].1, .str ps[i].2, natV (cnt (rowsM bs rs) ps[i])])
      have hx6 := s6 _ _ (s5 _ _ hx4)
      have lx : xs.length ≤ 49 := by
        have z := dp4.1
        rw [List.length_take] at z
        omega
      refine ⟨_, hx6, by rw [List.length_map]; exact small1000 (by omega), xs ++ [t], same_put (sm4.trans (s5.trans s6)) hD2', by rw [upd_same, List.map_append]; rfl, ?_⟩
      rw [List.take_add_one, List.getElem?_eq_getElem hi2]
      exact ((dp4.move (KeepT.of (s5.trans s6))).snoc (t := t) (q := ps[i]) upd_same).move (KeepT.put hx6 (fun xs z => nomatch z))
    · rintro H4 ⟨xs, sm4, hx4, dp4⟩
      rw [List.length_map, pl1.1, List.take_length] at dp4
      exact q D2 H4 ys _ (s1.trans (sm3.trans sm4)) (s1.free (sm3.free hD2')) pm so hx4 (by rw [hps]; exact dp4.dp)
end
end Lt

set_option Elab.async false
set_option linter.all false
set_option maxRecDepth 100000
set_option maxHeartbeats 4000000
namespace Lt
open PySem PySem.Spec PyProof.Rows L2
abbrev sLike : Stmt := top 16
abbrev sRead : Stmt := top 22
abbrev sTwo : Stmt := top 23
section
variable {P : Program} {w : World} {K : PySem.W.Frag} {mg : Str → Option Value} {base : Heap}
/-! ### the readings gone through by hand -/
def spRead (K : PySem.W.Frag) : Sp := fun vs H Q _ => ∃ (p r : Addr) (bs rs : List Str), vs = [.ref p, .ref r] ∧ (SqL K H p (bs.map V.str) ∨ SqT K H p (bs.map V.str)) ∧ TpS K H r (rs.map V.str) ∧ bs.length ≤ 7 ∧ rs.length ≤ 60 ∧ (∀ b ∈ rs, b ∈ bs) ∧
  ∀ (t a n o : Addr) (H' : Hp) (ts : List Addr), Same H H' → H' t = some (.tup [.ref a, .ref n, .ref o]) → H' a = some (.tup ((behindM bs rs).map V.str)) → H' n = some (.lst ((liftedM bs rs).map natV)) →
    H' o = some (.lst (ts.map V.ref)) → PairsL H' ts (rowsM bs rs) → Q (.ref t) H'
abbrev nRead : List Str := ["pile", "readings", "left", "numbers", "rows", "book", "above", "other"]
theorem scRead : FnScope nRead ["pile", "readings"] (defScope sRead) := ⟨rfl, rfl, rfl, by decide +kernel, rfl, by decide +kernel, by decide +kernel⟩
theorem flat_map (ss : List Str) : (ss.map V.str).all flatV = true := flat_strs ss
theorem ok_read {f : Addr} {fd : FuncData} (F : Fun K "_law_read" "_law_read" sRead f fd) (B : Bi mg) : FnOk P w K mg base CX0 1 f fd ["pile", "readings"] (spRead K) := by
  refine F.ok scRead (fun vs H Q E h => ?_) (fun cdv A outer s H vs Q E hr h => ?_)
  · obtain ⟨p, r, bs, rs, rfl, _⟩ := h
    rfl
  obtain ⟨p, r, bs, rs, rfl, hp, hrr, hl, hl2, hm, q⟩ := h
  refine ⟨_, pss_cons (ps_par3 (i := 2) (j := 3) (l := 4) (by rfl) scRead.nd rfl rfl rfl (by decide) (by decide) (by decide) rfl rfl rfl
      (pa_cons (pe_callTy call_list_of (by rfl) B.list (by decide +kernel) (pa_cons (pv 0) pa_nil)) (pa_cons (pe_lst pa_nil) (pa_cons (pe_lst pa_nil) pa_nil))) (by rfl))
    (pss_cons (ps_for PassesOwn.never rfl (pi_tup (pv 1)) (pg_name (i := 5) scRead.nd rfl (.inr rfl))
      (pss_cons (ps_set (i := 6) scRead.nd rfl (.inl rfl) (pe_slice sl_list (pv 2) po_none (po_some (pe_bm PySem.F.plainAttrs_list PySem.F.slot_list_index PySem.F.type_list_index mt_index (pv 2) (pa_cons (pv 5) pa_nil)))))
      (pss_cons (ps_expr (pe_bm PySem.F.plainAttrs_list PySem.F.slot_list_append PySem.F.type_list_append mt_append (pv 3) (pa_cons (pe_callB call_len_seq (by rfl) B.len PySem.boot_len (pa_cons (pv 6) pa_nil)) pa_nil)))
      (pss_cons (ps_set (i := 4) scRead.nd rfl (.inl rfl) (pe_op op_cat (pv 4) (pe_lc (own := [("other", 7)]) (g := gName 7) (tt := tYes) (by rfl) scRead.nd (pi_list (pv 6))
          (blkOk_by (own := [("other", 7)]) (N := nRead) (sc := defScope sRead) (by decide +kernel)) (fun _ _ _ _ _ => pg_name (i := 7) scRead.nd rfl (.inl rfl)) (fun _ _ _ _ _ => pts_nil)
          (fun _ _ _ _ _ => pe_tup (pa_cons (pv 5) (pa_cons (pv 7) pa_nil))))))
      (pss_cons (ps_expr (pe_bm PySem.F.plainAttrs_list PySem.F.slot_list_remove PySem.F.type_list_remove (mt_removeS (hu_of hr)) (pv 2) (pa_cons (pv 5) pa_nil)))
      (pss_one (ps_expr (pe_bm PySem.F.plainAttrs_list PySem.F.slot_list_insert PySem.F.type_list_insert mt_insert (pv 2) (pa_cons pe_int (pa_cons (pv 5) pa_nil))))))))))
    (pss_one (ps_ret (pe_tup (pa_cons (pe_callTy call_tuple_of (by rfl) B.tuple (by decide +kernel) (pa_cons (pv 2) pa_nil)) (pa_cons (pv 3) (pa_cons (pv 4) pa_nil))))))), ?_⟩
  refine ⟨_, rfl, p, _, rfl, hp, fun L hL => ⟨Nat.zero_le _, fun N hN => ⟨Nat.zero_le _, fun R hR => ⟨_, _, _, rfl, ?_⟩⟩⟩⟩
  have s1 := same_new hL (.lst (bs.map V.str))
  have s2 := same_new hN (.lst [])
  have s3 := same_new hR (.lst [])
  have sm0 : Same H (upd (upd (upd H L (.lst (bs.map V.str))) N (.lst [])) R (.lst [])) := s1.trans (s2.trans s3)
  have nLN : L ≠ N := ne_of_none upd_same hN
  have nLR : L ≠ R := ne_of_none (s2 _ _ upd_same) hR
  have nNR : N ≠ R := ne_of_none upd_same hR
  have nN0 : H N = none := s1.free hN
  have hL3 : upd (upd (upd H L (.lst (bs.map V.str))) N (.lst [])) R (.lst []) L = some (.lst (bs.map V.str)) := s3 _ _ (s2 _ _ upd_same)
  have hN3 : upd (upd (upd H L (.lst (bs.map V.str))) N (.lst [])) R (.lst []) N = some (.lst []) := s3 _ _ upd_same
  have hR3 : upd (upd (upd H L (.lst (bs.map V.str))) N (.lst [])) R (.lst []) R = some (.lst []) := upd_same
  generalize upd (upd (upd H L (.lst (bs.map V.str))) N (.lst [])) R (.lst []) = H3 at sm0 hL3 hN3 hR3 ⊢
  refine ⟨_, rfl, r, rfl, ⟨_, (hrr.same sm0).sqt⟩, for_tup (K := K) (a := r) (xs := rs.map V.str)
    (fun i σ H' => ∃ (R : Addr) (y5 y6 : Option V) (ts : List Addr), σ = [some (.ref p), some (.ref r), some (.ref L), some (.ref N), some (.ref R), y5, y6, none] ∧ Same H H' ∧ L ≠ R ∧ N ≠ R ∧
      H' L = some (.lst ((behindM bs (rs.take i)).map V.str)) ∧ H' N = some (.lst ((liftedM bs (rs.take i)).map natV)) ∧ H' R = some (.lst (ts.map V.ref)) ∧ PairsL H' ts (rowsM bs (rs.take i)))
    ⟨R, none, none, [], rfl, sm0, nLR, nNR, hL3, hN3, hR3, PairsL.nil _⟩ (fun i σ H' _ ⟨_, _, _, _, _, sm, _⟩ => (hrr.same sm).sqt) ?_ ?_⟩
  · rintro i x σ H' hx ⟨R, y5, y6, ts, rfl, sm, nLR, nNR, hL', hN', hR', pl⟩
    obtain ⟨b, hb, rfl⟩ := strs_get hx
    have hi : i < rs.length := (List.getElem?_eq_some_iff.mp hb).1
    have pmi := behindM_perm (rs.take i) (take_sub hm i)
    have hbm := pmi.mem_iff.mpr (hm b (List.mem_of_getElem? hb))
    have rl : (rowsM bs (rs.take i)).length ≤ 420 := by
      have z := rowsM_len (rs.take i) (take_sub hm i)
      have z2 : (rs.take i).length * bs.length ≤ 60 * 7 := Nat.mul_le_mul (by rw [List.length_take]; omega) hl
      omega
    have e1 : lay (behindM bs (rs.take i)) b = behindM bs (rs.take (i + 1)) := by rw [take_step hb, behindM_snoc]
    have e2 : liftedM bs (rs.take i) ++ [(behindM bs (rs.take i)).idxOf b] = liftedM bs (rs.take (i + 1)) := by rw [take_step hb, liftedM_snoc]
    have e3 : rowsM bs (rs.take i) ++ (over (behindM bs (rs.take i)) b).map (fun o => (b, o)) = rowsM bs (rs.take (i + 1)) := by rw [take_step hb, rowsM_snoc]
    rw [← e1, ← e2, ← e3]
    have lnum : (liftedM bs (rs.take i)).length ≤ 60 := by rw [liftedM_len, List.length_take]; omega
    generalize behindM bs (rs.take i) = cur at hL' pmi hbm ⊢
    generalize rowsM bs (rs.take i) = rows at pl rl ⊢
    generalize liftedM bs (rs.take i) = nums at hN' lnum ⊢
    have lc : cur.length ≤ 7 := by rw [pmi.length_eq]; exact hl
    have ib := idx_lt hbm
    have lm : (cur.map V.str).length = cur.length := List.length_map _
    -- above
    refine ⟨_, rfl, _, rfl, .inl ⟨rfl, _, sql hL'⟩, _, rfl, L, _, _, cur.idxOf b, .str b, rfl, rfl, sql hL', rfl, flat_map _, by rw [List.getElem?_map, idx_get hbm]; rfl, by show (b == b) = true; exact beq_self_eq_true b, fun m z hm' hz => ?_, _, rfl, L, _, rfl, sql hL', fun A' hA => ?_⟩
    · obtain ⟨c, hc, rfl⟩ := strs_get hz
      show (c == b) = false
      exact beq_eq_false_iff_ne.mpr fun e => idx_first m hm' (by rw [hc, e])
    rw [cut_to (by rw [lm]; omega), ← List.map_take]
    have sA := same_new hA (.lst ((cur.take (cur.idxOf b)).map V.str))
    have hA' : upd H' A' (.lst ((cur.take (cur.idxOf b)).map V.str)) A' = some (.lst ((over cur b).map V.str)) := upd_same
    have hLA := sA _ _ hL'
    have hNA := sA _ _ hN'
    have hRA := sA _ _ hR'
    have plA := pl.move (KeepT.of sA)
    have smA := sm.trans sA
    have nAN : A' ≠ N := (ne_of_none hN' hA).symm
    have nAL : A' ≠ L := (ne_of_none hL' hA).symm
    have nAR : A' ≠ R := (ne_of_none hR' hA).symm
    generalize upd H' A' (.lst ((cur.take (cur.idxOf b)).map V.str)) = HA at hA' hLA hNA hRA plA smA ⊢
    have ol : (over cur b).length = cur.idxOf b := by
      unfold over
      rw [List.length_take]
      omega
    -- numbers
    refine ⟨_, rfl, .inl ⟨rfl, _, sql hNA⟩, _, rfl, A', _, rfl, .inl (sql hA'), N, _, _, rfl, rfl, hNA, by rw [List.length_map]; exact small1000 (by omega), ?_⟩
    have en : nums.map natV ++ [V.int (((over cur b).map V.str).length : Int)] = (nums ++ [cur.idxOf b]).map natV := by rw [List.map_append, List.length_map, ol]; rfl
    rw [en]
    have smN : Same H (upd HA N (.lst ((nums ++ [cur.idxOf b]).map natV))) := same_put smA nN0
    have plN := plA.move (KeepT.put (D := N) (o := .lst ((nums ++ [cur.idxOf b]).map natV)) hNA (fun xs z => nomatch z))
    have hAN : upd HA N (.lst ((nums ++ [cur.idxOf b]).map natV)) A' = some (.lst ((over cur b).map V.str)) := by rw [upd_ne nAN]; exact hA'
    have hLN : upd HA N (.lst ((nums ++ [cur.idxOf b]).map natV)) L = some (.lst (cur.map V.str)) := by rw [upd_ne nLN]; exact hLA
    have hRN : upd HA N (.lst ((nums ++ [cur.idxOf b]).map natV)) R = some (.lst (ts.map V.ref)) := by rw [upd_ne nNR.symm]; exact hRA
    have hNN : upd HA N (.lst ((nums ++ [cur.idxOf b]).map natV)) N = some (.lst ((nums ++ [cur.idxOf b]).map natV)) := upd_same
    generalize upd HA N (.lst ((nums ++ [cur.idxOf b]).map natV)) = HN at smN plN hAN hLN hRN hNN ⊢
    -- rows
    refine ⟨_, rfl, _, rfl, A', rfl, ⟨_, sql hAN⟩, fun D hD => lc_list (K := K) (a := A') (xs := (over cur b).map V.str)
      (fun j H2 => ∃ us : List Addr, Same HN H2 ∧ H2 D = some (.lst (us.map V.ref)) ∧ PairsL H2 us (((over cur b).take j).map fun o => (b, o)))
      ⟨[], same_new hD _, upd_same, PairsL.nil _⟩ (fun j H2 _ ⟨_, s2, _⟩ => s2.seq (sql hAN)) ?_ ?_⟩
    · rintro j x H2 hx2 ⟨us, s2, hD2, pl2⟩
      obtain ⟨o, ho, rfl⟩ := strs_get hx2
      refine ⟨rfl, _, rfl, _, rfl, (by show 2 ≤ sizeLine; decide), fun t ht => ?_⟩
      have s5 := same_new ht (.tup [.str b, .str o])
      refine ⟨_, s5 _ _ hD2, ?_, us ++ [t], same_put (s2.trans s5) hD, by rw [upd_same, List.map_append]; rfl, ?_⟩
      · have z := pl2.1
        rw [List.length_map, List.length_take] at z
        rw [List.length_map]
        exact small1000 (by omega)
      · rw [List.take_add_one, ho, List.map_append]
        exact ((pl2.move (KeepT.of s5)).snoc (t := t) (q := (b, o)) upd_same).move (KeepT.put (s5 _ _ hD2) (fun xs z => nomatch z))
    · rintro H2 ⟨us, s2, hD2, pl2⟩
      rw [List.length_map, List.take_length] at pl2
      have lus : us.length ≤ 7 := by rw [pl2.1, List.length_map]; omega
      have lts : ts.length ≤ 420 := by rw [plN.1]; exact rl
      refine ⟨R, D, _, _, rfl, rfl, s2 _ _ hRN, hD2, by rw [List.length_map, List.length_map]; exact Nat.le_of_lt (small1000 (by omega)), fun R2 hR2 => ?_⟩
      have s6 := same_new hR2 (.lst (ts.map V.ref ++ us.map V.ref))
      have hR6 : upd H2 R2 (.lst (ts.map V.ref ++ us.map V.ref)) R2 = some (.lst ((ts ++ us).map V.ref)) := by rw [upd_same, List.map_append]
      have sm6 : Same H (upd H2 R2 (.lst (ts.map V.ref ++ us.map V.ref))) := smN.trans (s2.trans s6)
      have hL6 := s6 _ _ (s2 _ _ hLN)
      have hN6 := s6 _ _ (s2 _ _ hNN)
      have nLR2 : L ≠ R2 := ne_of_none (s2 _ _ hLN) hR2
      have nNR2 : N ≠ R2 := ne_of_none (s2 _ _ hNN) hR2
      have pl6 : PairsL (upd H2 R2 (.lst (ts.map V.ref ++ us.map V.ref))) (ts ++ us) (rows ++ (over cur b).map fun o => (b, o)) := by
        have a1 := (plN.move (KeepT.of s2)).move (KeepT.of s6)
        have a2 := pl2.move (KeepT.of s6)
        refine ⟨by rw [List.length_append, List.length_append, a1.1, a2.1], fun k t z h1 h2 => ?_⟩
        by_cases hk : k < ts.length
        · rw [List.getElem?_append_left hk] at h1
          rw [List.getElem?_append_left (by rw [← a1.1]; exact hk)] at h2
          exact a1.2 k t z h1 h2
        · rw [List.getElem?_append_right (by omega)] at h1
          rw [List.getElem?_append_right (by rw [← a1.1]; omega), ← a1.1] at h2
          exact a2.2 _ t z h1 h2
      generalize upd H2 R2 (.lst (ts.map V.ref ++ us.map V.ref)) = H6 at hR6 sm6 hL6 hN6 pl6 ⊢
      -- remove, insert
      refine ⟨_, rfl, .inl ⟨rfl, _, sql hL6⟩, _, rfl, L, cur, b, cur.idxOf b, rfl, rfl, hL6, idx_get hbm, idx_first, ?_⟩
      refine ⟨_, rfl, .inl ⟨rfl, _, sql upd_same⟩, _, rfl, L, _, 0, _, rfl, rfl, upd_same, ?_, by decide, by decide, ?_⟩
      · rw [List.length_map]
        have z := List.length_eraseIdx_le cur (cur.idxOf b)
        exact small1000 (by omega)
      · rw [upd_upd]
        have el : ((cur.eraseIdx (cur.idxOf b)).map V.str).take (0 : Int).toNat ++ [V.str b] ++ ((cur.eraseIdx (cur.idxOf b)).map V.str).drop (0 : Int).toNat = (lay cur b).map V.str := rfl
        rw [el]
        refine ⟨R2, _, _, ts ++ us, rfl, same_put sm6 hL, nLR2, nNR2, upd_same, ?_, ?_, ?_⟩
        · rw [upd_ne nLN.symm]
          exact hN6
        · rw [upd_ne nLR2.symm]
          exact hR6
        · exact pl6.move (KeepT.put hL6 (fun xs z => nomatch z))
  · rintro σ H' ⟨R, y5, y6, ts, rfl, sm, nLR, nNR, hL', hN', hR', pl⟩
    rw [List.length_map, List.take_length] at hL' hN' pl
    refine ⟨_, rfl, L, _, rfl, .inl ⟨sql hL', fun a ha => ?_⟩⟩
    have s4 := same_new ha (.tup ((behindM bs rs).map V.str))
    refine ⟨_, rfl, _, rfl, (by show 3 ≤ sizeLine; decide), fun t ht => ?_⟩
    have s5 := same_new ht (.tup [.ref a, .ref N, .ref R])
    exact q t a N R _ ts (sm.trans (s4.trans s5)) upd_same (s5 _ _ upd_same) (s5 _ _ (s4 _ _ hN')) (s5 _ _ (s4 _ _ hR')) ((pl.move (KeepT.of s4)).move (KeepT.of s5))
end
end Lt

set_option Elab.async false
set_option linter.all false
set_option maxRecDepth 100000
set_option maxHeartbeats 4000000
namespace Lt
open PySem PySem.Spec PyProof.Rows L2
theorem eqv_two (a b c d : Str) : PyData.eqv (.list [.str a, .str b]) (.list [.str c, .str d]) = decide ((a, b) = (c, d)) := by
  simp only [PyData.eqv, PyData.eqvAll, Bool.and_true]
  by_cases h1 : a = c
  · by_cases h2 : b = d
    · subst h1 h2
      simp
    · have z : (b == d) = false := beq_eq_false_iff_ne.mpr h2
      rw [z, Bool.and_false]
      exact (decide_eq_false fun e => h2 (Prod.mk.inj e).2).symm
  · have z : (a == c) = false := beq_eq_false_iff_ne.mpr h1
    rw [z, Bool.false_and]
    exact (decide_eq_false fun e => h1 (Prod.mk.inj e).1).symm
theorem shaped_two {a b : Str} (ha : PyData.strOk a = true) (hb : PyData.strOk b = true) : SeqAt.shaped (.list [.str a, .str b]) = true :=
  shaped_of (by simp [PyData.canLay0, PyData.canLayAll0, ha, hb]) (by simp [PyData.depth, PyData.depthAll])
section
variable {P : Program} {w : World} {K : PySem.W.Frag} {mg : Str → Option Value} {base : Heap}
def spTwo (K : PySem.W.Frag) : Sp := fun vs H Q _ => ∃ (p r : Addr) (bs : List Str) (ts : List Addr) (rows : List (Str × Str)), vs = [.ref p, .ref r] ∧ SqL K H p (bs.map V.str) ∧ bs.length ≤ 7 ∧ (∀ b ∈ bs, PyData.strOk b = true) ∧
  H r = some (.lst (ts.map V.ref)) ∧ PairsL H ts rows ∧ rows.length ≤ 900 ∧ (∀ z ∈ rows, PyData.strOk z.1 = true ∧ PyData.strOk z.2 = true) ∧
  ∀ (l : Addr) (H' : Hp) (ys : List Str) (xs : List V), Same H H' → H l = none → ys.Perm bs → sortedS ys = true → H' l = some (.lst xs) → DpAll K H' xs ((prs ys ys.length).map (tri rows)) → Q (.ref l) H'
abbrev nTwo : List Str := ["books", "rows", "found", "some", "at", "one", "other", "row"]
theorem scTwo : FnScope nTwo ["books", "rows"] (defScope sTwo) := ⟨rfl, rfl, rfl, by decide +kernel, rfl, by decide +kernel, by decide +kernel⟩
theorem ok_two {f : Addr} {fd : FuncData} (F : Fun K "_law_two" "_law_two" sTwo f fd) (B : Bi mg) : FnOk P w K mg base CX0 1 f fd ["books", "rows"] (spTwo K) := by
  refine F.ok scTwo (fun vs H Q E h => ?_) (fun cdv A outer s H vs Q E hr h => ?_)
  · obtain ⟨p, r, bs, ts, rows, rfl, _⟩ := h
    rfl
  obtain ⟨p, r, bs, ts, rows, rfl, hp, hl, okB, hrr, pl, hl2, okR, q⟩ := h
  refine ⟨_, pss_cons (ps_par (i := 2) (j := 3) (by rfl) scTwo.nd rfl rfl (by decide) rfl rfl (pa_cons (pe_lst pa_nil) (pa_cons (pe_callB cr_sortedS (by rfl) B.sorted (by decide +kernel) (pa_cons (pv 0) pa_nil)) pa_nil)) (by rfl))
    (pss_cons (ps_for PassesOwn.never rfl (pi_enum (by rfl) B.enumerate (pa_cons (pv 3) pa_nil)) (pg_tup rfl (pgs_cons (pg_name (i := 4) scTwo.nd rfl (.inl rfl)) (pgs_cons (pg_name (i := 5) scTwo.nd rfl (.inr rfl)) pgs_nil)))
      (pss_one (ps_for PassesOwn.never rfl (pi_list (pe_slice sl_list (pv 3) (po_some (pe_op op_add (pv 4) pe_int)) po_none)) (pg_name (i := 6) scTwo.nd rfl (.inr rfl))
        (pss_one (ps_expr (pe_bm PySem.F.plainAttrs_list PySem.F.slot_list_append PySem.F.type_list_append mt_append (pv 2) (pa_cons (pe_tup (pa_cons (pv 5) (pa_cons (pv 6) (pa_cons
          (pe_callB call_len_seq (by rfl) B.len PySem.boot_len (pa_cons (pe_lc (own := [("row", 7)]) (g := gName 7) (tt := tTest (tOp (rEqD K) (tCB (rSortedT K) (tCons (tVar 7) tNil)) (tLst (tCons (tVar 5) (tCons (tVar 6) tNil)))))
            (by rfl) scTwo.nd (pi_list (pv 1)) (blkOk_by (own := [("row", 7)]) (N := nTwo) (sc := defScope sTwo) (by decide +kernel)) (fun _ _ _ _ _ => pg_name (i := 7) scTwo.nd rfl (.inl rfl))
            (fun _ _ _ _ _ => pts_one (pt_cmpR (oEqD (K := K) hr.units rfl) (pe_callB (cSortT (K := K) rfl) (by rfl) B.sorted (by decide +kernel) (pa_cons (pv 7) pa_nil)) (pe_lst (pa_cons (pv 5) (pa_cons (pv 6) pa_nil))) (nomark _)))
            (fun _ _ _ _ _ => pe_int)) pa_nil)) pa_nil)))) pa_nil)))))))
    (pss_one (ps_ret (pv 2)))), ?_⟩
  refine ⟨Nat.zero_le _, fun Fd hF => ⟨_, rfl, p, bs, rfl, (same_new hF _).seq hp, by omega, fun ys So pm so hSo => ⟨_, _, rfl, ?_⟩⟩⟩
  have ly : ys.length = bs.length := pm.length_eq
  have s1 := same_new hF (.lst [])
  have s2 := same_new hSo (.lst (ys.map V.str))
  have sm0 : Same H (upd (upd H Fd (.lst [])) So (.lst (ys.map V.str))) := s1.trans s2
  have nFS : Fd ≠ So := ne_of_none upd_same hSo
  have hF2 : upd (upd H Fd (.lst [])) So (.lst (ys.map V.str)) Fd = some (.lst []) := s2 _ _ upd_same
  have hS2 : upd (upd H Fd (.lst [])) So (.lst (ys.map V.str)) So = some (.lst (ys.map V.str)) := upd_same
  generalize upd (upd H Fd (.lst [])) So (.lst (ys.map V.str)) = H2 at sm0 hF2 hS2 ⊢
  have okY : ∀ b ∈ ys, PyData.strOk b = true := fun b hb => okB b (pm.mem_iff.mp hb)
  have plen : ∀ n, n ≤ ys.length → (prs ys n).length ≤ 49 := fun n hn => by
    have z := prs_len ys n
    have z2 : n * ys.length ≤ 7 * 7 := Nat.mul_le_mul (by omega) (by omega)
    omega
  refine ⟨_, rfl, So, _, rfl, sql hS2, for_it (walk_enum (K := K) (a := So) (xs := ys.map V.str))
    (fun i σ H' => ∃ (y4 y5 y6 : Option V) (us : List Addr), σ = [some (.ref p), some (.ref r), some (.ref Fd), some (.ref So), y4, y5, y6, none] ∧ Same H H' ∧ H' Fd = some (.lst (us.map V.ref)) ∧ H' So = some (.lst (ys.map V.str)) ∧ TriL rows H' us (prs ys i))
    ⟨none, none, none, [], rfl, sm0, hF2, hS2, rfl, fun i t q h => by simp at h⟩ (fun i σ H' _ ⟨_, _, _, _, _, _, _, h, _⟩ => sql h) ?_ ?_⟩
  · rintro i x σ H3 H4 hi ⟨y4, y5, y6, us, rfl, sm, hF3, hS3, tl⟩ ⟨T, x1, x2, rfl, nT, rfl, e1, e2⟩
    rw [List.length_map] at hi
    cases e1
    obtain ⟨a, ha, rfl⟩ := strs_get e2
    have s4 := same_new nT (.tup [natV i, .str a])
    have sm4 := sm.trans s4
    have hF4 := s4 _ _ hF3
    have hS4 := s4 _ _ hS3
    have tl4 := tl.move (KeepT.of s4)
    have hT4 : upd H3 T (.tup [natV i, .str a]) T = some (.tup [natV i, .str a]) := upd_same
    generalize upd H3 T (.tup [natV i, .str a]) = H4 at sm4 hF4 hS4 tl4 hT4 ⊢
    refine ⟨T, _, rfl, sqt hT4, rfl, _, _, rfl, _, _, rfl, rfl, ?_⟩
    refine ⟨_, rfl, _, rfl, _, _, rfl, rfl, _, rfl, So, _, rfl, sql hS4, fun c hc => ?_⟩
    have ecut : cutV (ys.map V.str) (some ((i : Int) + 1)) none = (ys.drop (i + 1)).map V.str := by
      rw [show ((i : Int) + 1) = ((i + 1 : Nat) : Int) by omega, cut_from (by rw [List.length_map]; omega), List.map_drop]
    rw [ecut]
    have s5 := same_new hc (.lst ((ys.drop (i + 1)).map V.str))
    have sm5 := sm4.trans s5
    have hF5 := s5 _ _ hF4
    have hS5 := s5 _ _ hS4
    have tl5 := tl4.move (KeepT.of s5)
    have hc5 : upd H4 c (.lst ((ys.drop (i + 1)).map V.str)) c = some (.lst ((ys.drop (i + 1)).map V.str)) := upd_same
    have ncF : c ≠ Fd := (ne_of_none hF4 hc).symm
    generalize upd H4 c (.lst ((ys.drop (i + 1)).map V.str)) = H5 at sm5 hF5 hS5 tl5 hc5 ⊢
    refine ⟨c, rfl, ⟨_, sql hc5⟩, for_list (K := K) (a := c) (xs := (ys.drop (i + 1)).map V.str)
      (fun j σ H' => ∃ (y6 : Option V) (us : List Addr), σ = [some (.ref p), some (.ref r), some (.ref Fd), some (.ref So), some (natV i), some (.str a), y6, none] ∧ Same H H' ∧ H' Fd = some (.lst (us.map V.ref)) ∧ H' So = some (.lst (ys.map V.str)) ∧
        H' c = some (.lst ((ys.drop (i + 1)).map V.str)) ∧ TriL rows H' us (prs ys i ++ ((ys.drop (i + 1)).take j).map fun b => (a, b)))
      ⟨y6, us, rfl, sm5, hF5, hS5, hc5, by rw [List.take_zero, List.map_nil, List.append_nil]; exact tl5⟩ (fun j σ H' _ ⟨_, _, _, _, _, _, h, _⟩ => sql h) ?_ ?_⟩
    · rintro j x σ H6 hx ⟨y6, us6, rfl, sm6, hF6, hS6, hc6, tl6⟩
      obtain ⟨b, hb, rfl⟩ := strs_get hx
      have okab : SeqAt.shaped (.list [.str a, .str b]) = true := shaped_two (okY a (List.mem_of_getElem? ha)) (okY b (List.mem_of_mem_drop (List.mem_of_getElem? hb)))
      refine ⟨_, rfl, .inl ⟨rfl, _, sql hF6⟩, _, rfl, _, rfl, _, rfl, r, rfl, ⟨_, sm6.seq (sql hrr)⟩, fun D hD => lc_list (K := K) (a := r) (xs := ts.map V.ref)
        (fun k H' => Same H6 H' ∧ H' D = some (.lst (List.replicate (cnt (rows.take k) (a, b)) (V.int 1))))
        ⟨same_new hD _, upd_same⟩ (fun k H' _ ⟨s', _⟩ => s'.seq (sm6.seq (sql hrr))) ?_ ?_⟩
      · rintro k x H7 hx7 ⟨s7, hD7⟩
        have hk : k < ts.length := by
          have z := (List.getElem?_eq_some_iff.mp hx7).1
          rw [List.length_map] at z
          exact z
        rw [List.getElem?_map, List.getElem?_eq_getElem hk] at hx7
        cases hx7
        have hk2 : k < rows.length := by rw [← pl.1]; exact hk
        have ht : H7 ts[k] = some (.tup [.str rows[k].1, .str rows[k].2]) := s7 _ _ (sm6 _ _ (pl.2 k _ _ (List.getElem?_eq_getElem hk) (List.getElem?_eq_getElem hk2)))
        have okr := okR rows[k] (List.getElem_mem hk2)
        refine ⟨rfl, _, rfl, ts[k], [rows[k].1, rows[k].2], rfl, sqt ht, by show 2 < 64; decide, fun zs l pz sz hl' => ?_⟩
        have ez : zs = [(asPair rows[k]).1, (asPair rows[k]).2] := sorted_two pz sz
        subst ez
        have okp : PyData.strOk (asPair rows[k]).1 = true ∧ PyData.strOk (asPair rows[k]).2 = true := by
          unfold asPair
          by_cases c : ltS rows[k].1 rows[k].2
          · rw [if_pos c]
            exact okr
          · rw [if_neg c]
            exact ⟨okr.2, okr.1⟩
        have s8 := same_new hl' (.lst ([(asPair rows[k]).1, (asPair rows[k]).2].map V.str))
        refine ⟨_, rfl, _, rfl, (by show 2 ≤ sizeLine; decide), fun m hm' => ?_⟩
        have s9 := same_new hm' (.lst [V.str a, V.str b])
        refine ⟨.list [.str (asPair rows[k]).1, .str (asPair rows[k]).2], .list [.str a, .str b], .lst (sql (s9 _ _ upd_same)) (.cons (.str _) (.cons (.str _) .nil)), .lst (sql upd_same) (.cons (.str _) (.cons (.str _) .nil)), shaped_two okp.1 okp.2, okab, _, rfl, ?_⟩
        rw [eqv_two]
        have es : cnt (rows.take (k + 1)) (a, b) = cnt (rows.take k) (a, b) + if asPair rows[k] = (a, b) then 1 else 0 := by
          rw [List.take_add_one, List.getElem?_eq_getElem hk2]
          exact cnt_snoc _ _ _
        have lcnt : cnt (rows.take k) (a, b) ≤ 900 := by
          unfold cnt
          have z := List.length_filter_le (fun r => decide (asPair r = (a, b))) (rows.take k)
          rw [List.length_take] at z
          omega
        refine ite2 (fun c => ?_) (fun c => ?_)
        · have c' : asPair rows[k] = (a, b) := of_decide_eq_true c
          refine ⟨_, s9 _ _ (s8 _ _ hD7), by rw [List.length_replicate]; exact small1000 (by omega), same_put (s7.trans (s8.trans s9)) hD, ?_⟩
          rw [upd_same, es, if_pos c', List.replicate_succ']
        · have c' : ¬ asPair rows[k] = (a, b) := of_decide_eq_false (Bool.eq_false_iff.mpr c)
          refine ⟨s7.trans (s8.trans s9), ?_⟩
          rw [es, if_neg c', Nat.add_zero]
          exact s9 _ _ (s8 _ _ hD7)
      · rintro H7 ⟨s7, hD7⟩
        rw [List.length_map, pl.1, List.take_length] at hD7
        refine ⟨D, _, rfl, .inl (sql hD7), (by show 3 ≤ sizeLine; decide), fun t ht => ?_⟩
        rw [List.length_replicate]
        have s8 := same_new ht (.tup [.str a, .str b, natV (cnt rows (a, b))])
        have hF8 := s8 _ _ (s7 _ _ hF6)
        have lus : us6.length ≤ 60 := by
          rw [tl6.1, List.length_append, List.length_map, List.length_take, List.length_drop]
          have z := plen i (by omega)
          omega
        refine ⟨Fd, _, _, rfl, rfl, hF8, by rw [List.length_map]; exact small1000 (by omega), ?_⟩
        refine ⟨_, us6 ++ [t], rfl, same_put (sm6.trans (s7.trans s8)) hF, by rw [upd_same, List.map_append]; rfl, ?_, ?_, ?_⟩
        · rw [upd_ne nFS.symm]
          exact s8 _ _ (s7 _ _ hS6)
        · rw [upd_ne ncF]
          exact s8 _ _ (s7 _ _ hc6)
        · rw [List.take_add_one, hb, List.map_append, ← List.append_assoc]
          exact ((tl6.move (KeepT.of (s7.trans s8))).snoc (t := t) (q := (a, b)) upd_same).move (KeepT.put hF8 (fun xs z => nomatch z))
    · rintro σ H6 ⟨y6, us6, rfl, sm6, hF6, hS6, hc6, tl6⟩
      rw [List.length_map, List.take_length] at tl6
      refine ⟨_, _, y6, us6, rfl, sm6, hF6, hS6, ?_⟩
      rw [prs_succ ha]
      exact tl6
  · rintro σ H3 ⟨y4, y5, y6, us, rfl, sm, hF3, hS3, tl⟩
    rw [List.length_map] at tl
    exact ⟨_, rfl, q Fd H3 ys _ sm hF pm so hF3 tl.dp⟩
/-! ### alike -/
def kindName : PyData → String
  | .none => "NoneType"
  | .bool _ => "bool"
  | .int _ => "int"
  | .str _ => "str"
  | .list _ => "list"
  | .tuple _ => "tuple"
  | .dict _ => "dict"
theorem ty_dp {H : Hp} {v : V} {d : PyData} (h : Dp K H v d) : TyX K H v (.type (kindName d)) := by
  cases h with
  | non => exact .base .non
  | bl b => exact .base (.bl b)
  | int i => exact .base (.int i)
  | str x => exact .base (.str x)
  | lst h a =>
    rcases h with (h | ⟨o, h⟩) | ⟨o, its, n, h, hc, _⟩
    · exact .base (.lst h)
    · exact .base (.frz h)
    · exact .kList h hc
  | tup h a =>
    rcases h with (h | ⟨o, h⟩) | ⟨o, its, n, h, hc, _⟩
    · exact .base (.tup h)
    · exact .fTuple h
    · exact .kTuple h hc
end
end Lt

set_option Elab.async false
set_option linter.all false
set_option maxRecDepth 100000
set_option maxHeartbeats 4000000
namespace Lt
open PySem PySem.Spec PyProof.Rows L2
/-- data of bounded depth, its rows not too long -/
def Fine : Nat → PyData → Prop
  | _, .none => True
  | _, .bool _ => True
  | _, .int _ => True
  | _, .str x => PyData.strOk x = true
  | 0, .list _ => False
  | 0, .tuple _ => False
  | n + 1, .list ds => ds.length ≤ 1000 ∧ ∀ d ∈ ds, Fine n d
  | n + 1, .tuple ds => ds.length ≤ 1000 ∧ ∀ d ∈ ds, Fine n d
  | _, .dict _ => False
theorem kit_yes {K : PySem.W.Frag} {a : String} {cs : List Value} {b : String} (h : kitB a b = some true) : PySem.W.kitAny K (.type a) (.type b :: cs) = some true :=
  kitAny_cons (kit_ty h) (fun z => nomatch z) fun _ => rfl
theorem kit_no {K : PySem.W.Frag} {a : String} {cs : List Value} {b : String} {r : Bool} (h : kitB a b = some false) (t : PySem.W.kitAny K (.type a) cs = some r) : PySem.W.kitAny K (.type a) (.type b :: cs) = some r :=
  kitAny_cons (kit_ty h) (fun _ => t) fun z => nomatch z
section
variable {X : Cx} {K : PySem.W.Frag}
theorem ixS (e : X.K = K) : IxR X (rIx K) := by
  subst e
  exact ix_seq
end
section
variable {P : Program} {w : World} {K : PySem.W.Frag} {mg : Str → Option Value} {base : Heap}
def spLike (K : PySem.W.Frag) (n : Nat) : Sp := fun vs H Q _ => ∃ (v1 v2 : V) (d : PyData) (m : Nat), n = m + 1 ∧ vs = [v1, v2] ∧ Dp K H v1 d ∧ Dp K H v2 d ∧ Fine m d ∧ ∀ H', Same H H' → Q (.bl true) H'
theorem scLike : FnScope ["one", "two", "k"] ["one", "two"] (defScope sLike) := ⟨rfl, rfl, rfl, by decide +kernel, rfl, by decide +kernel, by decide +kernel⟩
theorem like_step {f : Addr} {fd : FuncData} {n : Nat} (F : Fun K "_law_like" "_law_like" sLike f fd) (B : Bi mg) (cI : Has P w K mg base n "_law_like" ["one", "two"] (spLike K n)) :
    FnOk P w K mg base CX0 (n + 1) f fd ["one", "two"] (spLike K (n + 1)) := by
  refine F.ok scLike (fun vs H Q E h => ?_) (fun cdv A outer s H vs Q E hr h => ?_)
  · obtain ⟨v1, v2, d, m, _, rfl, _⟩ := h
    rfl
  obtain ⟨v1, v2, d, m, hn, rfl, h1, h2, fine, q⟩ := h
  cases hn
  refine ⟨_, pss_cons (ps_if (pt_val (pe_callB call_isiT (by rfl) B.isinstance (by decide +kernel) (pa_cons (pv 0) (pa_cons (pe_tup (pa_cons (pe_bltn (v := .ty "list") (by rfl) B.list (by decide +kernel) rfl) (pa_cons (pe_bltn (v := .ty "tuple") (by rfl) B.tuple (by decide +kernel) rfl) pa_nil))) pa_nil))))
      (pss_cons (ps_if (PW.pt (pw_or (pt_cmpR op_ne (pe_callB call_isi (by rfl) B.isinstance (by decide +kernel) (pa_cons (pv 0) (pa_cons (pe_bltn (v := .ty "list") (by rfl) B.list (by decide +kernel) rfl) pa_nil)))
            (pe_callB call_isi (by rfl) B.isinstance (by decide +kernel) (pa_cons (pv 1) (pa_cons (pe_bltn (v := .ty "list") (by rfl) B.list (by decide +kernel) rfl) pa_nil))) (nomark _))
          (pw_or1 (pt_cmpR op_ne (pe_callB call_isi (by rfl) B.isinstance (by decide +kernel) (pa_cons (pv 0) (pa_cons (pe_bltn (v := .ty "tuple") (by rfl) B.tuple (by decide +kernel) rfl) pa_nil)))
            (pe_callB call_isi (by rfl) B.isinstance (by decide +kernel) (pa_cons (pv 1) (pa_cons (pe_bltn (v := .ty "tuple") (by rfl) B.tuple (by decide +kernel) rfl) pa_nil))) (nomark _))))) (pss_one (ps_ret pe_bl)) pss_nil)
      (pss_cons (ps_if (pt_cmpR op_ne (pe_callB call_len_seq (by rfl) B.len PySem.boot_len (pa_cons (pv 0) pa_nil)) (pe_callB call_len_seq (by rfl) B.len PySem.boot_len (pa_cons (pv 1) pa_nil)) (nomark _)) (pss_one (ps_ret pe_bl)) pss_nil)
      (pss_one (ps_ret (pe_cmpR (op_eqD hr.units) (pe_lc (own := [("k", 2)]) (g := gName 2) (tt := tNot (tB (tCall (spLike K n) [] E0 (tCons (tOp (rIx K) (tVar 0) (tVar 2)) (tCons (tOp (rIx K) (tVar 1) (tVar 2)) tNil)))))
          (by rfl) scLike.nd (pi_range1 (by rfl) B.range (pa_cons (pe_callB call_len_seq (by rfl) B.len PySem.boot_len (pa_cons (pv 0) pa_nil)) pa_nil)) (blkOk_by (own := [("k", 2)]) (N := ["one", "two", "k"]) (sc := defScope sLike) (by decide +kernel))
          (fun _ _ _ _ _ => pg_name (i := 2) scLike.nd rfl (.inl rfl))
          (fun _ _ _ _ _ => pts_one (pt_not (pt_val (pe_go cI hr (Nat.le_refl _) rfl (pa_cons (pe_ix (ixS (K := K) rfl) (pv 0) (pv 2) (fun _ _ => rfl)) (pa_cons (pe_ix (ixS (K := K) rfl) (pv 1) (pv 2) (fun _ _ => rfl)) pa_nil))))))
          (fun _ _ _ _ _ => pv 2)) (pe_lst pa_nil) (nomark _)))))) pss_nil)
    (pss_cons (ps_if (pt_val (pe_callB call_isiT (by rfl) B.isinstance (by decide +kernel) (pa_cons (pv 1) (pa_cons (pe_tup (pa_cons (pe_bltn (v := .ty "list") (by rfl) B.list (by decide +kernel) rfl) (pa_cons (pe_bltn (v := .ty "tuple") (by rfl) B.tuple (by decide +kernel) rfl) pa_nil))) pa_nil)))) (pss_one (ps_ret pe_bl)) pss_nil)
    (pss_one (ps_ret (pe_and (pe_cmpR op_eq (pe_callB call_isi (by rfl) B.isinstance (by decide +kernel) (pa_cons (pv 0) (pa_cons (pe_bltn (v := .ty "bool") (by rfl) B.bool (by decide +kernel) rfl) pa_nil)))
        (pe_callB call_isi (by rfl) B.isinstance (by decide +kernel) (pa_cons (pv 1) (pa_cons (pe_bltn (v := .ty "bool") (by rfl) B.bool (by decide +kernel) rfl) pa_nil))) (nomark _)) (pe_one (pe_cmpR (op_eqD hr.units) (pv 0) (pv 1) (nomark _))))))), ?_⟩
  have cls2 : Paired ClsV [V.ty "list", V.ty "tuple"] [Value.type "list", Value.type "tuple"] := .cons (.ty _) (.cons (.ty _) .nil)
  have kinds : (∃ (T : String) (bl : Bool), (∀ H', Same H H' → TyX K H' v1 (.type T) ∧ TyX K H' v2 (.type T)) ∧ kitB T "list" = some false ∧ kitB T "tuple" = some false ∧ kitB T "bool" = some bl ∧ SeqAt.shaped d = true ∧ PyData.eqv d d = true) ∨
      ∃ (T : String) (l : Bool) (a b : Addr) (xs ys : List V) (ds : List PyData) (m : Nat), (∀ H', Same H H' → TyX K H' v1 (.type T) ∧ TyX K H' v2 (.type T)) ∧ kitB T "list" = some l ∧ kitB T "tuple" = some (!l) ∧ v1 = .ref a ∧ v2 = .ref b ∧
        (∀ H', Same H H' → SqL K H' a xs ∨ SqT K H' a xs) ∧ (∀ H', Same H H' → SqL K H' b ys ∨ SqT K H' b ys) ∧ DpAll K H xs ds ∧ DpAll K H ys ds ∧ ds.length ≤ 1000 ∧ n = m + 1 ∧ ∀ d ∈ ds, Fine m d := by
    have both : ∀ H', Same H H' → TyX K H' v1 (.type (kindName d)) ∧ TyX K H' v2 (.type (kindName d)) := fun H' s' => ⟨ty_dp (dp_same s' h1), ty_dp (dp_same s' h2)⟩
    cases d with
    | none => exact .inl ⟨"NoneType", false, both, by decide +kernel, by decide +kernel, by decide +kernel, by decide +kernel, by simp [PyData.eqv]⟩
    | bool b => exact .inl ⟨"bool", true, both, by decide +kernel, by decide +kernel, by decide +kernel, shaped_of (by simp [PyData.canLay0]) (by simp [PyData.depth]), by simp [PyData.eqv]⟩
    | int i => exact .inl ⟨"int", false, both, by decide +kernel, by decide +kernel, by decide +kernel, shaped_of (by simp [PyData.canLay0]) (by simp [PyData.depth]), by simp [PyData.eqv]⟩
    | str x =>
      have fx : PyData.strOk x = true := by
        cases n <;> exact fine
      exact .inl ⟨"str", false, both, by decide +kernel, by decide +kernel, by decide +kernel, shaped_of (by simp [PyData.canLay0, fx]) (by simp [PyData.depth]), by simp [PyData.eqv]⟩
    | dict kvs => cases h1
    | list ds =>
      cases n with
      | zero => exact fine.elim
      | succ m =>
        cases h1 with
        | lst g1 a1 =>
          cases h2 with
          | lst g2 a2 => exact .inr ⟨"list", true, _, _, _, _, ds, m, both, by decide +kernel, by decide +kernel, rfl, rfl, fun H' s' => .inl (s'.seq g1), fun H' s' => .inl (s'.seq g2), a1, a2, fine.1, rfl, fine.2⟩
    | tuple ds =>
      cases n with
      | zero => exact fine.elim
      | succ m =>
        cases h1 with
        | tup g1 a1 =>
          cases h2 with
          | tup g2 a2 => exact .inr ⟨"tuple", false, _, _, _, _, ds, m, both, by decide +kernel, by decide +kernel, rfl, rfl, fun H' s' => .inr (same_tup s' g1), fun H' s' => .inr (same_tup s' g2), a1, a2, fine.1, rfl, fine.2⟩
  rcases kinds with ⟨T, bl, ty, k1, k2, kb, sh, ev⟩ | ⟨T, l, a, b, xs, ys, ds, m, ty, k1, k2, rfl, rfl, sa, sb, da, db, hl, rfl, fd'⟩
  · refine ⟨_, rfl, (by show 2 ≤ sizeLine; decide), fun tp htp => ?_⟩
    have s1 := same_new htp (.tup [V.ty "list", V.ty "tuple"])
    refine ⟨v1, tp, _, _, _, false, rfl, upd_same, cls2, (ty _ s1).1, kit_no k1 (kit_no k2 rfl), _, rfl, ?_⟩
    refine ⟨_, rfl, (by show 2 ≤ sizeLine; decide), fun tp2 htp2 => ?_⟩
    have s2 := s1.trans (same_new htp2 (.tup [V.ty "list", V.ty "tuple"]))
    refine ⟨v2, tp2, _, _, _, false, rfl, upd_same, cls2, (ty _ s2).2, kit_no k1 (kit_no k2 rfl), _, rfl, ?_⟩
    refine ⟨_, rfl, v1, _, _, _, bl, rfl, .ty _, (ty _ s2).1, kit_ty kb, _, rfl, v2, _, _, _, bl, rfl, .ty _, (ty _ s2).2, kit_ty kb, rfl, true, ?_, ?_⟩
    · rw [decide_eq_true rfl]
    · refine ⟨_, rfl, _, rfl, d, d, dp_same s2 h1, dp_same s2 h2, sh, sh, ?_⟩
      rw [ev]
      exact q _ s2
  · have lx := dpAll_len da
    have ly := dpAll_len db
    refine ⟨_, rfl, (by show 2 ≤ sizeLine; decide), fun tp htp => ?_⟩
    have s1 := same_new htp (.tup [V.ty "list", V.ty "tuple"])
    have anyT : PySem.W.kitAny K (.type T) [Value.type "list", Value.type "tuple"] = some true := by
      cases l with
      | true => exact kit_yes k1
      | false => exact kit_no k1 (kit_yes k2)
    refine ⟨.ref a, tp, _, _, _, true, rfl, upd_same, cls2, (ty _ s1).1, anyT, _, rfl, ?_⟩
    refine ⟨_, rfl, .ref a, _, _, _, l, rfl, .ty _, (ty _ s1).1, kit_ty k1, _, rfl, .ref b, _, _, _, l, rfl, .ty _, (ty _ s1).2, kit_ty k1, rfl, false, ?_, ?_⟩
    · rw [decide_eq_true rfl]
      rfl
    refine ⟨_, rfl, .ref a, _, _, _, !l, rfl, .ty _, (ty _ s1).1, kit_ty k2, _, rfl, .ref b, _, _, _, !l, rfl, .ty _, (ty _ s1).2, kit_ty k2, rfl, false, ?_, ?_⟩
    · rw [decide_eq_true rfl]
      rfl
    refine ⟨_, rfl, a, xs, rfl, sa _ s1, _, rfl, b, ys, rfl, sb _ s1, rfl, false, ?_, ?_⟩
    · rw [lx, ly, decide_eq_true rfl]
      rfl
    refine ⟨_, rfl, a, xs, rfl, sa _ s1, _, rfl, by omega, by omega, fun D hD => lc_range (lo := 0) (n := (xs.length : Int).toNat) (fun i H' => Same H H' ∧ H' D = some (.lst [])) ⟨s1.trans (same_new hD _), upd_same⟩ ?_ ?_⟩
    · rintro i H' hi ⟨s', hD'⟩
      have hi' : i < xs.length := by omega
      have gx : xs[i]? = some xs[i] := List.getElem?_eq_getElem hi'
      have gy : ys[i]? = some (ys[i]'(by omega)) := List.getElem?_eq_getElem (by omega)
      obtain ⟨d1, e1, p1⟩ := dpAll_get da gx
      obtain ⟨d2, e2, p2⟩ := dpAll_get db gy
      rw [e1] at e2
      cases e2
      have ea : atI xs (0 + (i : Int)) = some xs[i] := at_of (j := i) (by omega) gx
      have eb : atI ys (0 + (i : Int)) = some (ys[i]'(by omega)) := at_of (j := i) (by omega) gy
      rcases sa _ s' with za | za <;> rcases sb _ s' with zb | zb
      · refine ⟨rfl, _, rfl, _, rfl, .inl ⟨a, xs, _, _, rfl, rfl, za, ea, _, rfl, _, rfl, .inl ⟨b, ys, _, _, rfl, rfl, zb, eb, ?_⟩⟩⟩
        exact ⟨_, _, d1, m, rfl, rfl, dp_same s' p1, dp_same s' p2, fd' d1 (List.mem_of_getElem? e1), fun H2 s2 => ⟨true, rfl, s'.trans s2, s2 _ _ hD'⟩⟩
      · refine ⟨rfl, _, rfl, _, rfl, .inl ⟨a, xs, _, _, rfl, rfl, za, ea, _, rfl, _, rfl, .inr (.inl ⟨b, ys, _, _, rfl, rfl, zb, eb, ?_⟩)⟩⟩
        exact ⟨_, _, d1, m, rfl, rfl, dp_same s' p1, dp_same s' p2, fd' d1 (List.mem_of_getElem? e1), fun H2 s2 => ⟨true, rfl, s'.trans s2, s2 _ _ hD'⟩⟩
      · refine ⟨rfl, _, rfl, _, rfl, .inr (.inl ⟨a, xs, _, _, rfl, rfl, za, ea, _, rfl, _, rfl, .inl ⟨b, ys, _, _, rfl, rfl, zb, eb, ?_⟩⟩)⟩
        exact ⟨_, _, d1, m, rfl, rfl, dp_same s' p1, dp_same s' p2, fd' d1 (List.mem_of_getElem? e1), fun H2 s2 => ⟨true, rfl, s'.trans s2, s2 _ _ hD'⟩⟩
      · refine ⟨rfl, _, rfl, _, rfl, .inr (.inl ⟨a, xs, _, _, rfl, rfl, za, ea, _, rfl, _, rfl, .inr (.inl ⟨b, ys, _, _, rfl, rfl, zb, eb, ?_⟩)⟩)⟩
        exact ⟨_, _, d1, m, rfl, rfl, dp_same s' p1, dp_same s' p2, fd' d1 (List.mem_of_getElem? e1), fun H2 s2 => ⟨true, rfl, s'.trans s2, s2 _ _ hD'⟩⟩
    · rintro H' ⟨s', hD'⟩
      refine ⟨Nat.zero_le _, fun e he => ?_⟩
      have s5 := same_new he (.lst [])
      refine ⟨.list [], .list [], .lst (sql (s5 _ _ hD')) .nil, .lst (sql upd_same) .nil, by decide +kernel, by decide +kernel, ?_⟩
      have ev : PyData.eqv (.list []) (.list []) = true := by simp [PyData.eqv, PyData.eqvAll]
      rw [ev]
      exact q _ (s'.trans s5)
end
end Lt

set_option Elab.async false
set_option linter.all false
set_option maxRecDepth 100000
set_option maxHeartbeats 4000000
/-! dict(t), t a tuple of pairs: over the library's dict of pairs. -/
namespace Lt
open PySem PySem.Spec PyProof.Rows L2
section
variable {X : Cx}
def rDictT (K : PySem.W.Frag) : List V → Hp → VK → Prop := fun xs H Q => ∃ (a : Addr) (ps : List Addr) (kvs : List (Key × V)), xs = [.ref a] ∧ TpO H a (ps.map V.ref) ∧ Paired (fun p kv => SqT K H p [kV kv.1, kv.2]) ps kvs ∧
  ∀ p, H p = none → Q (.ref p) (upd H p (.dK (mergeK [] kvs)))
theorem call_dictT (calm : X.calm = true) : CallR X (.type "dict") (rDictT X.K) := by
  rintro pins s σ H _ us Q inv rel ⟨a, ps, kvs, rfl, tp, pairs, q⟩
  rw [Vals.ref1 rel]
  obtain ⟨_, hu, o, rfl, cls, nod⟩ := tp
  obtain ⟨at1, fit, vs, vals, o', at2, cls2, n, dat⟩ := inv.hok a _ hu
  have ev := refs_at vals
  subst ev
  rw [at1] at at2
  cases at2
  obtain ⟨prs, kv, len, each⟩ := L2.pairs_of inv pairs
  have pick : ∀ j : Nat, ∃ u : Value, ∀ z : Key × Value, prs[j]? = some z → ∃ b, ps[j]? = some b ∧ IsTup s.heap b #[u, z.2] ∧ keyIs z.1 u = true := by
    intro j
    cases e : prs[j]? with
    | none => exact ⟨.none, fun z hz => nomatch hz⟩
    | some z =>
      obtain ⟨b, u, e1, e2, e3⟩ := each j z e
      exact ⟨u, fun z' hz => by cases hz; exact ⟨b, e1, e2, e3⟩⟩
  obtain ⟨f, hf⟩ := Classical.axiomOfChoice pick
  have at3 : ∀ (i : Nat) (k v : Value), (prs.mapIdx fun j (z : Key × Value) => (f j, z.2))[i]? = some (k, v) → ∃ z, prs[i]? = some z ∧ k = f i ∧ v = z.2 := fun i k v e => by
    rw [List.getElem?_mapIdx] at e
    cases e2 : prs[i]? with
    | none =>
      rw [e2] at e
      cases e
    | some z =>
      rw [e2] at e
      cases e
      exact ⟨z, rfl, rfl, rfl⟩
  have lps : ps.length ≤ sizeLine := by
    rw [List.length_map] at fit
    exact fit
  have lprs : (prs.mapIdx fun j (z : Key × Value) => (f j, z.2)).length = prs.length := List.length_mapIdx
  refine PySem.call_dict_pairs (knd := mixKind X.prog X.w) (kvs := prs) (PairArg.tuple a (ps.map Value.ref).toArray (fun j => (ps[j]?).getD 0) (prs.mapIdx fun j (z : Key × Value) => (f j, z.2))) (inv.ok.hd calm) ⟨⟨o, n, at1, cls, nod, dat⟩, ?_, fun j k v e => ?_⟩ ⟨lprs.symm, fun i k v e => ?_⟩ (by rw [lprs, len]; exact lps) fun h' tk dd keeps => ?_
  · rw [lprs, len, List.size_toArray, List.length_map]
  · obtain ⟨z, e1, rfl, rfl⟩ := at3 j k v e
    obtain ⟨b, g1, g2, g3⟩ := hf j z e1
    have g4 : (ps[j]?).getD 0 = b := by rw [g1]; rfl
    show _ = some (Value.ref ((ps[j]?).getD 0)) ∧ PairAt s.heap ((ps[j]?).getD 0) _ _
    rw [g4]
    exact ⟨by simp [g1], .inl g2⟩
  · obtain ⟨z, e1, rfl, rfl⟩ := at3 i k v e
    obtain ⟨b, g1, g2, g3⟩ := hf i z e1
    exact ⟨z.1, e1, g3⟩
  · have sys : (s.heap.objs.size == sysModules) = false := beq_eq_false_iff_ne.mpr (Nat.ne_of_gt inv.big)
    have small : (mergeK [] kvs).length ≤ sizeLine := by
      have z := length_mergeK kvs []
      rw [List.length_nil, Nat.zero_add, kv.length, len] at z
      exact Nat.le_trans z lps
    exact ⟨.ref s.heap.objs.size, upd H s.heap.objs.size (.dK (mergeK [] kvs)), inv.laid (t' := tk) (fun b u e => keeps b u (fun z => nomatch z) e) (Nat.le_refl _) (show ObjOk X.prog X.w _ _ _ (.dK (mergeK [] kvs)) from ⟨small, sys, merged [] prs, KV.merge kv .nil, dd⟩), rfl, q _ (inv.hok.fresh (Nat.le_refl _))⟩
end
end Lt

set_option Elab.async false
set_option linter.all false
set_option maxRecDepth 100000
set_option maxHeartbeats 4000000
namespace Lt
open PySem PySem.Spec PyProof.Rows L2
abbrev sWants : Stmt := top 19
abbrev sDay : Stmt := top 20
abbrev sBelow : Stmt := top 21
abbrev sLater : Stmt := top 24
/-! ### wants -/
structure IsWants (m n : Nat) (ws : List (Str × Nat)) : Prop where
  sub : (ws.map (·.1)).Sublist (books.take m)
  pos : ∀ p ∈ ws, 0 < p.2
  some_ : ws ≠ []
  few : (ws.map (·.2)).sum ≤ n
/-- tuples (book, many) at ts -/
def WL (H : Hp) (ts : List Addr) (ws : List (Str × Nat)) : Prop := ts.length = ws.length ∧ ∀ (i : Nat) (t : Addr) (p : Str × Nat), ts[i]? = some t → ws[i]? = some p → H t = some (.tup [.str p.1, natV p.2])
theorem WL.move {H H' : Hp} {ts : List Addr} {ws : List (Str × Nat)} (h : WL H ts ws) (k : ∀ t xs, H t = some (.tup xs) → H' t = some (.tup xs)) : WL H' ts ws := ⟨h.1, fun i t p a b => k _ _ (h.2 i t p a b)⟩
theorem WL.snoc {H : Hp} {ts : List Addr} {ws : List (Str × Nat)} {t : Addr} {p : Str × Nat} (h : WL H ts ws) (ht : H t = some (.tup [.str p.1, natV p.2])) : WL H (ts ++ [t]) (ws ++ [p]) := by
  refine ⟨by rw [List.length_append, List.length_append, h.1]; rfl, fun i t' p' a b => ?_⟩
  rcases Nat.lt_or_ge i ts.length with hi | hi
  · rw [List.getElem?_append_left hi] at a
    rw [List.getElem?_append_left (by rw [← h.1]; exact hi)] at b
    exact h.2 i t' p' a b
  · rw [List.getElem?_append_right hi] at a
    rw [List.getElem?_append_right (by rw [← h.1]; exact hi), ← h.1] at b
    cases e : i - ts.length with
    | zero =>
      rw [e] at a b
      cases a
      cases b
      exact ht
    | succ k =>
      rw [e] at a
      cases a
def WAt (H : Hp) (W : Addr) (ws : List (Str × Nat)) : Prop := ∃ ts, TpO H W (ts.map V.ref) ∧ WL H ts ws
theorem WAt.same {H H' : Hp} {W : Addr} {ws : List (Str × Nat)} (h : WAt H W ws) (s : Same H H') : WAt H' W ws := by
  obtain ⟨ts, a, b⟩ := h
  exact ⟨ts, a.same s, b.move fun t xs e => s _ _ e⟩
theorem WAt.sameT {T : Addr} {H H' : Hp} {W : Addr} {ws : List (Str × Nat)} (h : WAt H W ws) {xs : List V} (hT : H T = some (.lst xs)) (s : SameT T H H') : WAt H' W ws := by
  obtain ⟨ts, a, b⟩ := h
  exact ⟨ts, a.sameT s (a.ne hT fun o z => nomatch z), b.move fun t ys e => s _ _ (ne_of e hT fun z => nomatch z) e⟩
theorem sameT_new {T : Addr} {H H' : Hp} {p : Addr} {o : HO} (s : SameT T H H') (h : H p = none) : SameT T H (upd H' p o) := fun b u n q => by
  rw [upd_ne (ne_of_none q h)]
  exact s b u n q
section
variable {P : Program} {w : World} {K : PySem.W.Frag} {mg : Str → Option Value} {base : Heap}
def spWants : Sp := fun vs H Q _ => ∃ (T S : Addr) (ns : List Int) (m n : Nat), vs = [.ref T, .int m, .int n] ∧ Tape H T S ns ∧ 0 < m ∧ m ≤ 7 ∧ 0 < n ∧ n ≤ 1000 ∧
  ∀ (W : Addr) (H' : Hp) (ws : List (Str × Nat)), SameT T H H' → Tape H' T S ns → H W = none → WAt H' W ws → IsWants m n ws → Q (.ref W) H'
abbrev nWants : List Str := ["tape", "books", "readers", "found", "left", "at", "book", "many"]
theorem scWants : FnScope nWants ["tape", "books", "readers"] (defScope sWants) := ⟨rfl, rfl, rfl, by decide +kernel, rfl, by decide +kernel, by decide +kernel⟩
theorem ok_wants {f : Addr} {fd : FuncData} (F : Fun K "_law_wants" "_law_wants" sWants f fd) (B : Bi mg) (cD : Has P w K mg base 1 "_law_draw" ["tape", "many"] spDraw) (cB : Has P w K mg base 1 "_law_books" [] spBooks) :
    FnOk P w K mg base CX0 2 f fd ["tape", "books", "readers"] spWants := by
  refine F.ok scWants (fun vs H Q E h => ?_) (fun cdv A outer s H vs Q E hr h => ?_)
  · obtain ⟨T, S, ns, m, n, rfl, _⟩ := h
    rfl
  obtain ⟨T, S, ns, m, n, rfl, tp, m0, m7, n0, n1, q⟩ := h
  refine ⟨_, pss_cons (ps_par (i := 3) (j := 4) (by rfl) scWants.nd rfl rfl (by decide) rfl rfl (pa_cons (pe_lst pa_nil) (pa_cons (pv 2) pa_nil)) (by rfl))
    (pss_cons (ps_for PassesOwn.never rfl (pi_enum (by rfl) B.enumerate (pa_cons (pe_slice sl_list (pe_go0 cB hr (by decide) rfl) po_none (po_some (pv 1))) pa_nil)) (pg_tup rfl (pgs_cons (pg_name (i := 5) scWants.nd rfl (.inl rfl)) (pgs_cons (pg_name (i := 6) scWants.nd rfl (.inl rfl)) pgs_nil)))
      (pss_cons (ps_set (i := 7) scWants.nd rfl (.inl rfl) (pe_op op_add pe_int (pe_go cD hr (by decide) rfl (pa_cons (pv 0) (pa_cons pe_int pa_nil)))))
      (pss_one (ps_if (PW.pt (pw_and (pt_cmpR op_gt (pv 4) pe_int (nomark _)) (pw_and1 (PW.pt (pw_or (pt_cmpR op_gt (pe_go cD hr (by decide) rfl (pa_cons (pv 0) (pa_cons pe_int pa_nil))) pe_int (nomark _)) (pw_or1 (pt_cmpR op_eq (pv 5) pe_int (nomark _))))))))
        (pss_cons (ps_expr (pe_bm PySem.F.plainAttrs_list PySem.F.slot_list_append PySem.F.type_list_append mt_append (pv 3) (pa_cons (pe_tup (pa_cons (pv 6) (pa_cons (pe_callB (call_min2 rfl) (by rfl) B.min (by decide +kernel) (pa_cons (pv 7) (pa_cons (pv 4) pa_nil))) pa_nil))) pa_nil)))
        (pss_one (ps_set (i := 4) scWants.nd rfl (.inl rfl) (pe_op op_sub (pv 4) (pe_ix ix_tup (pe_ix ix_list (pv 3) (pe_un un_neg pe_int) (fun _ _ => rfl)) pe_int (fun _ _ => rfl)))))) pss_nil))))
    (pss_one (ps_ret (pe_callTy call_tupleZ (by rfl) B.tuple (by decide +kernel) (pa_cons (pv 3) pa_nil))))), ?_⟩
  refine ⟨Nat.zero_le _, fun Fd hF => ⟨_, rfl, ⟨_, _, rfl, ?_⟩⟩⟩
  have s1 := same_new hF (.lst [])
  have nFT : Fd ≠ T := by
    obtain ⟨o, ho⟩ := tp.taken
    exact new_ne ho hF
  refine ⟨rfl, fun b hb => ⟨_, rfl, _, rfl, b, _, rfl, sql upd_same, fun y hy => ?_⟩⟩
  have s2 := same_new hb (.lst (books.map V.str))
  have ecut : cutV (books.map V.str) none (some (m : Int)) = (books.take m).map V.str := by rw [cut_to (by show m ≤ 7; exact m7), List.map_take]
  rw [ecut]
  have s3 := same_new hy (.lst ((books.take m).map V.str))
  have sm0 := s1.trans (s2.trans s3)
  have hF0 := s3 _ _ (s2 _ _ (upd_same (H := H) (a := Fd) (o := .lst [])))
  have nyF : y ≠ Fd := (ne_of_none (s2 _ _ (upd_same (H := H) (a := Fd) (o := .lst []))) hy).symm
  have ny0 : H y = none := (s1.trans s2).free hy
  have hy0 : upd (upd (upd H Fd (.lst [])) b (.lst (books.map V.str))) y (.lst ((books.take m).map V.str)) y = some (.lst ((books.take m).map V.str)) := upd_same
  generalize upd (upd (upd H Fd (.lst [])) b (.lst (books.map V.str))) y (.lst ((books.take m).map V.str)) = H0 at sm0 hF0 hy0 ⊢
  have nyT : y ≠ T := by
    obtain ⟨o, ho⟩ := tp.taken
    exact new_ne ho ny0
  have lbm : (books.take m).length = m := by
    rw [List.length_take]
    show min m 7 = m
    omega
  refine ⟨y, _, rfl, sql hy0, for_it (walk_enum (K := K) (a := y) (xs := (books.take m).map V.str))
    (fun i σ H' => ∃ (y5 y6 y7 : Option V) (ts : List Addr) (ws : List (Str × Nat)) (l : Nat), σ = [some (.ref T), some (.int m), some (.int n), some (.ref Fd), some (.int l), y5, y6, y7] ∧ SameT T H H' ∧ Tape H' T S ns ∧ H' Fd = some (.lst (ts.map V.ref)) ∧ H' y = some (.lst ((books.take m).map V.str)) ∧
      WL H' ts ws ∧ (ws.map (·.1)).Sublist ((books.take m).take i) ∧ (∀ p ∈ ws, 0 < p.2) ∧ (ws.map (·.2)).sum + l = n ∧ (0 < i → ws ≠ []))
    ⟨none, none, none, [], [], n, rfl, SameT.of sm0, tp.same sm0, hF0, hy0, ⟨rfl, fun i t p h => by simp at h⟩, List.nil_sublist _, fun p h => (nomatch h), by simp, fun z => absurd z (Nat.lt_irrefl _)⟩ (fun i σ H' _ ⟨_, _, _, _, _, _, _, _, _, _, h, _⟩ => sql h) ?_ ?_⟩
  · rintro i x σ H3 H4 hi ⟨y5, y6, y7, ts, ws, l, rfl, sm, tp3, hF3, hy3, wl, sub, pos, sum, some1⟩ ⟨t, x1, x2, rfl, nt, rfl, e1, e2⟩
    rw [List.length_map, lbm] at hi
    cases e1
    obtain ⟨a, ha, rfl⟩ := strs_get e2
    have s4 := same_new nt (.tup [natV i, .str a])
    have sm4 := sm.trans (SameT.of s4)
    have tp4 := tp3.same s4
    have hF4 := s4 _ _ hF3
    have hy4 := s4 _ _ hy3
    have wl4 := wl.move fun t xs e => s4 _ _ e
    have ht4 : upd H3 t (.tup [natV i, .str a]) t = some (.tup [natV i, .str a]) := upd_same
    generalize upd H3 t (.tup [natV i, .str a]) = H4 at sm4 tp4 hF4 hy4 wl4 ht4 ⊢
    refine ⟨t, _, rfl, sqt ht4, rfl, _, _, rfl, _, _, rfl, rfl, ?_⟩
    refine ⟨_, rfl, T, S, ns, 4, rfl, tp4, by decide, by decide, fun r i1 c1 r0 r1 => ⟨_, _, rfl, rfl, ?_⟩⟩
    have sm5 := sm4.trans (sameT_put (T := T) (H := H4) (.lst [.ref S, .int i1, .int c1]))
    have tp5 := tp4.put i1 c1
    have hF5 : upd H4 T (.lst [.ref S, .int i1, .int c1]) Fd = some (.lst (ts.map V.ref)) := by rw [upd_ne nFT]; exact hF4
    have hy5 : upd H4 T (.lst [.ref S, .int i1, .int c1]) y = some (.lst ((books.take m).map V.str)) := by rw [upd_ne nyT]; exact hy4
    have wl5 : WL (upd H4 T (.lst [.ref S, .int i1, .int c1])) ts ws := wl4.move fun t' xs e => by
      rw [upd_ne]
      · exact e
      · obtain ⟨i', c', hT⟩ := tp4.at_
        exact ne_of e hT fun z => nomatch z
    generalize upd H4 T (.lst [.ref S, .int i1, .int c1]) = H5 at sm5 tp5 hF5 hy5 wl5 ⊢
    have sub' : (ws.map (·.1)).Sublist ((books.take m).take (i + 1)) := sub.trans (List.take_sublist_take_left (Nat.le_succ i))
    refine ⟨_, rfl, _, _, rfl, rfl, _, rfl, ite2 (fun g => ?_) (fun g => ?none)⟩
    case none =>
      refine iteF ⟨_, _, _, ts, ws, l, rfl, sm5, tp5, hF5, hy5, wl5, sub', pos, sum, fun _ e => ?_⟩
      have l0 : ¬ (0 : Int) < (l : Int) := fun z => g (decide_eq_true z)
      rw [e] at sum
      have z : ([].map fun x : Str × Nat => x.2).sum = 0 := rfl
      rw [z] at sum
      omega
    have l0 : (0 : Int) < (l : Int) := of_decide_eq_true g
    have hai : ((books.take m).take (i + 1)) = (books.take m).take i ++ [a] := take_step ha
    refine ⟨_, rfl, T, S, ns, 4, rfl, tp5, by decide, by decide, fun r2 i2 c2 r20 r21 => ⟨_, _, rfl, rfl, _, rfl, ?_⟩⟩
    have sm6 := sm5.trans (sameT_put (T := T) (H := H5) (.lst [.ref S, .int i2, .int c2]))
    have tp6 := tp5.put i2 c2
    have hF6 : upd H5 T (.lst [.ref S, .int i2, .int c2]) Fd = some (.lst (ts.map V.ref)) := by rw [upd_ne nFT]; exact hF5
    have hy6 : upd H5 T (.lst [.ref S, .int i2, .int c2]) y = some (.lst ((books.take m).map V.str)) := by rw [upd_ne nyT]; exact hy5
    have wl6 : WL (upd H5 T (.lst [.ref S, .int i2, .int c2])) ts ws := wl5.move fun t' xs e => by
      rw [upd_ne]
      · exact e
      · obtain ⟨i', c', hT⟩ := tp5.at_
        exact ne_of e hT fun z => nomatch z
    generalize upd H5 T (.lst [.ref S, .int i2, .int c2]) = H6 at sm6 tp6 hF6 hy6 wl6 ⊢
    obtain ⟨v, ev, v0, vl⟩ : ∃ v : Nat, (if (l : Int) < 1 + r then (l : Int) else 1 + r) = (v : Int) ∧ 0 < v ∧ v ≤ l := by
      by_cases c : (l : Int) < 1 + r
      · exact ⟨l, if_pos c, by omega, Nat.le_refl _⟩
      · exact ⟨(1 + r).toNat, by rw [if_neg c]; omega, by omega, by omega⟩
    have lts : ts.length ≤ 7 := by
      rw [wl.1, ← List.length_map (f := (·.1))]
      refine Nat.le_trans sub.length_le ?_
      rw [List.length_take, lbm]
      omega
    refine ite2 (fun g2 => ?yes) (fun g2 => ⟨_, rfl, rfl, _, rfl, ite2 (fun g3 => ?yes2) (fun g3 => ?no)⟩)
    case no =>
      refine ⟨_, _, _, ts, ws, l, rfl, sm6, tp6, hF6, hy6, wl6, sub', pos, sum, fun _ => some1 ?_⟩
      have ne : ¬ V.int ((i : Nat) : Int) = V.int 0 := fun z => g3 (decide_eq_true z)
      rcases Nat.eq_zero_or_pos i with z | z
      · exact absurd (by rw [z]; rfl) ne
      · exact z
    case yes | yes2 =>
      refine ⟨_, rfl, .inl ⟨rfl, _, sql hF6⟩, _, rfl, _, rfl, _, rfl, _, _, rfl, (by show 2 ≤ sizeLine; decide), fun pr hpr => ?_⟩
      rw [ev]
      have s7 := same_new hpr (.tup [.str a, natV v])
      have sm7 := sm6.trans (SameT.of s7)
      have tp7 := tp6.same s7
      have hF7 := s7 _ _ hF6
      have hy7 := s7 _ _ hy6
      have wl7 := (wl6.move fun t xs e => s7 _ _ e).snoc (p := (a, v)) (t := pr) (upd_same (H := H6))
      have npF : pr ≠ Fd := (ne_of_none hF6 hpr).symm
      have hp7 : upd H6 pr (.tup [.str a, natV v]) pr = some (.tup [.str a, natV v]) := upd_same
      generalize upd H6 pr (.tup [.str a, natV v]) = H7 at sm7 tp7 hF7 hy7 wl7 hp7 ⊢
      refine ⟨Fd, _, _, rfl, rfl, hF7, by rw [List.length_map]; exact small1000 (by omega), ?_⟩
      have e8 : ts.map V.ref ++ [V.ref pr] = (ts ++ [pr]).map V.ref := by rw [List.map_append]; rfl
      rw [e8]
      have sm8 : SameT T H (upd H7 Fd (.lst ((ts ++ [pr]).map V.ref))) := sameT_new sm7 hF
      have tp8 : Tape (upd H7 Fd (.lst ((ts ++ [pr]).map V.ref))) T S ns := by
        obtain ⟨i', c', hT⟩ := tp7.at_
        refine ⟨⟨i', c', by rw [upd_ne nFT.symm]; exact hT⟩, ?_⟩
        rw [upd_ne (ne_of_none tp.scr hF)]
        exact tp7.scr
      have hy8 : upd H7 Fd (.lst ((ts ++ [pr]).map V.ref)) y = some (.lst ((books.take m).map V.str)) := by rw [upd_ne nyF]; exact hy7
      have wl8 : WL (upd H7 Fd (.lst ((ts ++ [pr]).map V.ref))) (ts ++ [pr]) (ws ++ [(a, v)]) := wl7.move fun t' xs e => by
        rw [upd_ne (ne_of e hF7 fun z => nomatch z)]
        exact e
      have hp8 : upd H7 Fd (.lst ((ts ++ [pr]).map V.ref)) pr = some (.tup [.str a, natV v]) := by rw [upd_ne npF]; exact hp7
      have hF8 : upd H7 Fd (.lst ((ts ++ [pr]).map V.ref)) Fd = some (.lst ((ts ++ [pr]).map V.ref)) := upd_same
      generalize upd H7 Fd (.lst ((ts ++ [pr]).map V.ref)) = H8 at sm8 tp8 hy8 wl8 hp8 hF8 ⊢
      refine ⟨_, rfl, _, rfl, _, rfl, Fd, _, _, .ref pr, rfl, rfl, sql hF8, by rw [List.map_append]; exact atI_last _ _, pr, _, 1, natV v, rfl, rfl, sqt hp8, rfl, _, _, rfl, rfl, ?_⟩
      refine ⟨some (natV i), some (.str a), some (.int (1 + r)), ts ++ [pr], ws ++ [(a, v)], l - v, ?_, sm8, tp8, hF8, hy8, wl8, ?_, ?_, ?_, fun _ z => ?_⟩
      · rw [show (((l - v : Nat)) : Int) = (l : Int) - (v : Int) by omega]
        rfl
      · rw [hai, List.map_append]
        exact sub.append (List.Sublist.refl _)
      · intro p hp
        rcases List.mem_append.mp hp with hp | hp
        · exact pos p hp
        · rw [List.mem_singleton.mp hp]
          exact v0
      · rw [List.map_append, List.sum_append]
        show _ + (v + 0) + (l - v) = n
        omega
      · cases ws <;> cases z
  · rintro σ H' ⟨y5, y6, y7, ts, ws, l, rfl, sm, tp3, hF3, hy3, wl, sub, pos, sum, some1⟩
    rw [List.length_map, lbm] at sub some1
    refine ⟨_, rfl, Fd, _, rfl, sql hF3, fun W u hW hu => ?_⟩
    have s4 := same_new hW u
    have nW : H W = none := by
      refine sm.free ?_ hW
      obtain ⟨o, ho⟩ := tp3.taken
      exact new_ne ho hW
    refine q W _ ws (sm.trans (SameT.of s4)) (tp3.same s4) nW ⟨ts, TpO.new hu, wl.move fun t xs e => s4 _ _ e⟩ ⟨?_, pos, some1 m0, by omega⟩
    rw [List.take_of_length_le (by rw [lbm]; exact Nat.le_refl _)] at sub
    exact sub
end
end Lt

set_option Elab.async false
set_option linter.all false
set_option maxRecDepth 100000
set_option maxHeartbeats 4000000
namespace Lt
open PySem PySem.Spec PyProof.Rows L2
/-- each book as often as it is wanted -/
def flat : List (Str × Nat) → List Str
  | [] => []
  | p :: r => List.replicate p.2 p.1 ++ flat r
theorem flat_append : ∀ a b : List (Str × Nat), flat (a ++ b) = flat a ++ flat b
  | [], b => rfl
  | p :: r, b => by
    show _ ++ flat (r ++ b) = (_ ++ flat r) ++ flat b
    rw [flat_append r b, List.append_assoc]
theorem flat_len : ∀ ws : List (Str × Nat), (flat ws).length = (ws.map (·.2)).sum
  | [] => rfl
  | p :: r => by
    show (List.replicate p.2 p.1 ++ flat r).length = p.2 + _
    rw [List.length_append, List.length_replicate, flat_len r]
    rfl
theorem flat_mem : ∀ {ws : List (Str × Nat)} {b : Str}, b ∈ flat ws → b ∈ ws.map (·.1)
  | p :: r, b, h => by
    rcases List.mem_append.mp h with h | h
    · rw [(List.mem_replicate.mp h).2]
      exact List.mem_cons_self
    · exact List.mem_cons_of_mem _ (flat_mem h)
theorem mem_flat : ∀ {ws : List (Str × Nat)} {b : Str}, (∀ p ∈ ws, 0 < p.2) → b ∈ ws.map (·.1) → b ∈ flat ws
  | p :: r, b, pos, h => by
    rcases List.mem_cons.mp h with h | h
    · have p0 := pos p List.mem_cons_self
      exact List.mem_append_left _ (List.mem_replicate.mpr ⟨by omega, h⟩)
    · exact List.mem_append_right _ (mem_flat (fun q hq => pos q (List.mem_cons_of_mem _ hq)) h)
theorem flat_take {ws : List (Str × Nat)} (i : Nat) : (flat (ws.take i)).length ≤ (flat ws).length := by
  have e := flat_append (ws.take i) (ws.drop i)
  rw [List.take_append_drop] at e
  rw [e, List.length_append]
  omega
theorem refs_get {ts : List Addr} {i : Nat} {x : V} (h : (ts.map V.ref)[i]? = some x) : ∃ t, ts[i]? = some t ∧ x = .ref t := by
  rw [List.getElem?_map] at h
  cases e : ts[i]? with
  | none =>
    rw [e] at h
    cases h
  | some t =>
    rw [e] at h
    cases h
    exact ⟨t, rfl, rfl⟩
section
variable {P : Program} {w : World} {K : PySem.W.Frag} {mg : Str → Option Value} {base : Heap}
def spDay : Sp := fun vs H Q _ => ∃ (T S W : Addr) (ns : List Int) (ws : List (Str × Nat)), vs = [.ref T, .ref W] ∧ Tape H T S ns ∧ WAt H W ws ∧ ws.length ≤ 7 ∧ (flat ws).length ≤ 100 ∧
  ∀ (D : Addr) (H' : Hp) (rs : List Str), SameT T H H' → Tape H' T S ns → H D = none → TpO H' D (rs.map V.str) → rs.Perm (flat ws) → Q (.ref D) H'
abbrev nDay : List Str := ["tape", "wants", "rows", "book", "many", "at"]
theorem scDay : FnScope nDay ["tape", "wants"] (defScope sDay) := ⟨rfl, rfl, rfl, by decide +kernel, rfl, by decide +kernel, by decide +kernel⟩
theorem ok_day {f : Addr} {fd : FuncData} (F : Fun K "_law_day" "_law_day" sDay f fd) (B : Bi mg) (cO : Has P w K mg base 2 "_law_any_order" ["tape", "many"] spOrder) :
    FnOk P w K mg base CX0 3 f fd ["tape", "wants"] spDay := by
  refine F.ok scDay (fun vs H Q E h => ?_) (fun cdv A outer s H vs Q E hr h => ?_)
  · obtain ⟨T, S, W, ns, ws, rfl, _⟩ := h
    rfl
  obtain ⟨T, S, W, ns, ws, rfl, tp, ⟨ts, hW, wl⟩, l7, l100, q⟩ := h
  refine ⟨_, pss_cons (ps_set (i := 2) scDay.nd rfl (.inr rfl) (pe_lst pa_nil))
    (pss_cons (ps_for PassesOwn.never rfl (pi_tup (pv 1)) (pg_tup rfl (pgs_cons (pg_name (i := 3) scDay.nd rfl (.inl rfl)) (pgs_cons (pg_name (i := 4) scDay.nd rfl (.inl rfl)) pgs_nil)))
      (pss_one (ps_set (i := 2) scDay.nd rfl (.inr rfl) (pe_op op_cat (pv 2) (pe_op op_rep (pe_lst (pa_cons (pv 3) pa_nil)) (pv 4))))))
    (pss_one (ps_ret (pe_callTy call_tupleZ (by rfl) B.tuple (by decide +kernel) (pa_cons
      (pe_lc (own := [("at", 5)]) (g := gName 5) (tt := tYes) (by rfl) scDay.nd (pi_tup (pe_go cO hr (by decide) rfl (pa_cons (pv 0) (pa_cons (pe_callB call_len_seq (by rfl) B.len PySem.boot_len (pa_cons (pv 2) pa_nil)) pa_nil))))
        (blkOk_by (own := [("at", 5)]) (N := nDay) (sc := defScope sDay) (by decide +kernel))
        (fun _ _ _ _ _ => pg_name (i := 5) scDay.nd rfl (Or.inl rfl)) (fun _ _ _ _ _ => pts_nil) (fun _ _ _ _ _ => pe_ix (ixL (K := K) rfl) (pv 2) (pv 5) (fun _ _ => rfl))) pa_nil))))), ?_⟩
  refine ⟨Nat.zero_le _, fun R0 hR0 => ?_⟩
  have s1 := same_new hR0 (.lst [])
  refine ⟨_, rfl, W, rfl, ⟨_, (hW.same s1).sqt⟩, for_tup (K := K) (a := W) (xs := ts.map V.ref) (fun i σ H' => ∃ (R : Addr) (y3 y4 : Option V), σ = [some (.ref T), some (.ref W), some (.ref R), y3, y4, none] ∧ Same H H' ∧ H R = none ∧ H' R = some (.lst ((flat (ws.take i)).map V.str)))
    ⟨R0, none, none, rfl, s1, hR0, upd_same⟩ (fun i σ H' _ ⟨_, _, _, _, sm, _⟩ => (hW.same sm).sqt) ?_ ?_⟩
  · rintro i x σ H' hx ⟨R, y3, y4, rfl, sm, nR, hR⟩
    obtain ⟨t, ht, rfl⟩ := refs_get hx
    have hi : i < ts.length := (List.getElem?_eq_some_iff.mp ht).1
    have hp : ws[i]? = some (ws[i]'(by rw [← wl.1]; exact hi)) := List.getElem?_eq_getElem _
    generalize ws[i]'(by rw [← wl.1]; exact hi) = p at hp
    have hT := sm _ _ (wl.2 i t p ht hp)
    have ts1 : ws.take (i + 1) = ws.take i ++ [p] := by
      rw [List.take_add_one, hp]
      rfl
    have fl : flat (ws.take (i + 1)) = flat (ws.take i) ++ List.replicate p.2 p.1 := by
      rw [ts1, flat_append]
      show _ ++ (_ ++ []) = _
      rw [List.append_nil]
    have lf := flat_take (ws := ws) (i + 1)
    rw [fl, List.length_append, List.length_replicate] at lf
    refine ⟨t, _, rfl, sqt hT, rfl, _, _, rfl, _, _, rfl, rfl, ?_⟩
    refine ⟨_, rfl, _, rfl, (by show 1 ≤ sizeLine; decide), fun b hb => ⟨_, rfl, b, _, _, rfl, rfl, upd_same, by omega, by omega, ?_, fun d hd => ?_⟩⟩
    · show 1 * ((p.2 : Int)).toNat ≤ sizeLine
      exact Nat.le_of_lt (small1000 (by omega))
    · have s2 := same_new hb (.lst [V.str p.1])
      have s3 := same_new hd (.lst (List.replicate ((p.2 : Int)).toNat [V.str p.1]).flatten)
      have ez : (List.replicate ((p.2 : Int)).toNat [V.str p.1]).flatten = (List.replicate p.2 p.1).map V.str := by
        rw [Int.toNat_natCast, List.map_replicate]
        generalize p.2 = k
        induction k with
        | zero => rfl
        | succ k ih => rw [List.replicate_succ, List.flatten_cons, ih, List.replicate_succ]; rfl
      rw [ez] at s3 ⊢
      refine ⟨R, d, _, _, rfl, rfl, s3 _ _ (s2 _ _ hR), upd_same, by rw [List.length_map, List.length_map, List.length_replicate]; exact Nat.le_of_lt (small1000 (by omega)), fun R2 hR2 => ?_⟩
      refine ⟨R2, _, _, rfl, sm.trans (s2.trans (s3.trans (same_new hR2 _))), (sm.trans (s2.trans s3)).free hR2, ?_⟩
      rw [upd_same, fl, List.map_append]
  · rintro σ H3 ⟨R, y3, y4, rfl, sm1, nR, hR⟩
    rw [List.length_map, wl.1, List.take_length] at hR
    have tp3 := tp.same sm1
    have sm3 : SameT T H H3 := SameT.of sm1
    have nRT : R ≠ T := by
      obtain ⟨o, ho⟩ := tp.taken
      exact new_ne ho nR
    refine ⟨_, rfl, _, rfl, R, _, rfl, .inl (sql hR), T, S, ns, ((flat ws).map V.str).length, rfl, tp3, by rw [List.length_map]; omega, fun t H4 qs sm4 tp4 nt ht pm => ?_⟩
    rw [List.length_map] at pm
    have lq : qs.length = (flat ws).length := by rw [pm.length_eq, List.length_range]
    have hy4 : H4 R = some (.lst ((flat ws).map V.str)) := sm4 _ _ nRT hR
    have pp := pick_perm pm
    have lp : (pick (flat ws) qs).length = qs.length := by
      unfold pick
      rw [List.length_map]
    refine ⟨t, rfl, ⟨_, sqt ht⟩, fun D hD => lc_tup (K := K) (a := t) (xs := qs.map natV) (fun i H' => SameT D H4 H' ∧ H' D = some (.lst (((pick (flat ws) qs).take i).map V.str)))
      ⟨SameT.of (same_new hD _), upd_same⟩ (fun i H' _ h' => sqt (h'.1 _ _ (ne_of_none ht hD) ht)) ?_ ?_⟩
    · rintro i x H' hx ⟨smD, hD'⟩
      rw [List.getElem?_map] at hx
      cases e : qs[i]? with
      | none =>
        rw [e] at hx
        cases hx
      | some k =>
        rw [e] at hx
        cases hx
        have hk : k < (flat ws).length := List.mem_range.mp (pm.mem_iff.mp (List.mem_of_getElem? e))
        refine ⟨rfl, _, rfl, _, rfl, R, _, _, .str (flat ws)[k], rfl, rfl, sql (smD _ _ (ne_of_none hy4 hD) hy4), at_of rfl (by rw [List.getElem?_map, List.getElem?_eq_getElem hk]; rfl), _, hD', ?_, ?_⟩
        · rw [List.length_map, List.length_take]
          exact small1000 (by omega)
        · refine ⟨fun b' o nb h => by rw [upd_ne nb]; exact smD b' o nb h, ?_⟩
          have ep : (pick (flat ws) qs)[i]? = some (flat ws)[k] := by
            unfold pick
            rw [List.getElem?_map, e]
            show some (((flat ws)[k]?).getD Str.empty) = _
            rw [List.getElem?_eq_getElem hk]
            rfl
          rw [upd_same, List.take_add_one, ep, List.map_append]
          rfl
    · rintro H' ⟨smD, hD'⟩
      rw [List.length_map, List.take_of_length_le (by omega)] at hD'
      refine ⟨D, _, rfl, sql hD', fun p u hp hu => ?_⟩
      have s5 : Same H4 H' := fun b' o h => smD b' o (ne_of_none h hD) h
      have tp5 := tp4.same (s5.trans (same_new hp u))
      have np : H p = none := by
        refine (sm3.trans (sm4.trans (SameT.of s5))).free ?_ hp
        obtain ⟨o2, h2⟩ := (tp4.same s5).taken
        exact new_ne h2 hp
      exact q p _ (pick (flat ws) qs) (sm3.trans (sm4.trans (SameT.of (s5.trans (same_new hp _))))) tp5 np (TpO.new hu) pp
end
end Lt

set_option Elab.async false
set_option linter.all false
set_option maxRecDepth 100000
set_option maxHeartbeats 4000000
namespace Lt
open PySem PySem.Spec PyProof.Rows L2
abbrev wnames (ws : List (Str × Nat)) : List Str := ws.map fun x => x.1
theorem merge_has (k : Key) : ∀ (kvs acc : List (Key × V)), (valV (mergeK acc kvs) k).isSome = true ↔ (valV acc k).isSome = true ∨ k ∈ kvs.map Prod.fst
  | [], acc => ⟨fun h => .inl h, fun h => h.elim (fun h => h) fun h => nomatch h⟩
  | x :: r, acc => by
    show (valV (mergeK (putK acc x.1 x.2) r) k).isSome = true ↔ _
    rw [merge_has k r, valV_put, List.map_cons, List.mem_cons]
    by_cases e : k = x.1
    · rw [if_pos e]
      exact ⟨fun _ => .inr (.inl e), fun _ => .inl rfl⟩
    · rw [if_neg e]
      exact ⟨fun h => h.elim .inl fun h => .inr (.inr h), fun h => h.elim .inl fun h => h.elim (fun h => absurd h e) .inr⟩
def wkvs (ws : List (Str × Nat)) : List (Key × V) := ws.map fun p => (Sum.inr p.1, natV p.2)
theorem wkvs_has (ws : List (Str × Nat)) (b : Str) : (valV (mergeK [] (wkvs ws)) (Sum.inr b)).isSome = decide (b ∈ wnames ws) := by
  rw [Bool.eq_iff_iff, merge_has, decide_eq_true_iff]
  unfold wkvs
  rw [List.map_map]
  constructor
  · rintro (h | h)
    · cases h
    · obtain ⟨p, hp, e⟩ := List.mem_map.mp h
      exact List.mem_map.mpr ⟨p, hp, Sum.inr.inj e⟩
  · intro h
    obtain ⟨p, hp, e⟩ := List.mem_map.mp h
    exact .inr (List.mem_map.mpr ⟨p, hp, by show Sum.inr p.1 = _; rw [e]⟩)
theorem nodup_le : ∀ {l m : List Str}, l.Nodup → (∀ z ∈ l, z ∈ m) → l.length ≤ m.length
  | [], m, _, _ => Nat.zero_le _
  | a :: l, m, nd, h => by
    obtain ⟨n1, n2⟩ := List.nodup_cons.mp nd
    have ha := h a List.mem_cons_self
    have z := nodup_le (m := m.erase a) n2 fun z hz => (List.mem_erase_of_ne (a := z) (b := a) fun e : z = a => n1 (e ▸ hz)).mpr (h z (List.mem_cons_of_mem _ hz))
    have z2 := List.length_erase_of_mem ha
    have z3 := List.length_pos_of_mem ha
    rw [List.length_cons]
    omega
theorem cut_any (xs : List V) (j : Nat) : ∃ k, cutV xs none (some (j : Int)) = xs.take k := by
  refine ⟨min j xs.length, ?_⟩
  unfold cutV
  rw [HT.sIx_none, HT.sIx_nat]
  simp
theorem WL.paired {K : PySem.W.Frag} {H : Hp} : ∀ {ts : List Addr} {ws : List (Str × Nat)}, WL H ts ws → Paired (fun p (kv : Key × V) => SqT K H p [kV kv.1, kv.2]) ts (wkvs ws)
  | [], [], _ => .nil
  | [], _ :: _, h => nomatch h.1
  | _ :: _, [], h => nomatch h.1
  | t :: ts, p :: ws, h => .cons (sqt (h.2 0 t p rfl rfl)) (WL.paired (ts := ts) (ws := ws) ⟨by simpa using h.1, fun i t' p' a b => h.2 (i + 1) t' p' (by simpa using a) (by simpa using b)⟩)
section
variable {X : Cx} {K : PySem.W.Frag}
theorem cDictT (e : X.K = K) (c : X.calm = true) : CallR X (.type "dict") (rDictT K) := by
  subst e
  exact call_dictT c
end
section
variable {P : Program} {w : World} {K : PySem.W.Frag} {mg : Str → Option Value} {base : Heap}
def spBelow : Sp := fun vs H Q _ => ∃ (T S W : Addr) (ns : List Int) (ws : List (Str × Nat)), vs = [.ref T, .ref W] ∧ Tape H T S ns ∧ WAt H W ws ∧ (wnames ws).Sublist books ∧
  ∀ (p : Addr) (H' : Hp) (bs : List Str), SameT T H H' → Tape H' T S ns → H p = none → TpO H' p (bs.map V.str) → bs.Nodup → bs.length ≤ 7 → (∀ b ∈ bs, b ∈ books) → (∀ b ∈ wnames ws, b ∈ bs) → Q (.ref p) H'
abbrev nBelow : List Str := ["tape", "wants", "others", "some", "book", "many", "at"]
theorem scBelow : FnScope nBelow ["tape", "wants"] (defScope sBelow) := ⟨rfl, rfl, rfl, by decide +kernel, rfl, by decide +kernel, by decide +kernel⟩
theorem ok_below {f : Addr} {fd : FuncData} (F : Fun K "_law_below" "_law_below" sBelow f fd) (B : Bi mg) (cD : Has P w K mg base 1 "_law_draw" ["tape", "many"] spDraw) (cO : Has P w K mg base 2 "_law_any_order" ["tape", "many"] spOrder)
    (cB : Has P w K mg base 1 "_law_books" [] spBooks) : FnOk P w K mg base CX0 3 f fd ["tape", "wants"] spBelow := by
  refine F.ok scBelow (fun vs H Q E h => ?_) (fun cdv A outer s H vs Q E hr h => ?_)
  · obtain ⟨T, S, W, ns, ws, rfl, _⟩ := h
    rfl
  obtain ⟨T, S, W, ns, ws, rfl, tp, ⟨ts, hW, wl⟩, sub, q⟩ := h
  refine ⟨_, pss_cons (ps_set (i := 2) scBelow.nd rfl (.inl rfl) (pe_slice sl_list
      (pe_lc (own := [("book", 4)]) (g := gName 4) (tt := tB (tDNotIn (tVar 4) (tCB (rDictT K) (tCons (tVar 1) tNil)))) (by rfl) scBelow.nd (pi_list (pe_go0 cB hr (by decide) rfl))
        (blkOk_by (own := [("book", 4)]) (N := nBelow) (sc := defScope sBelow) (by decide +kernel))
        (fun _ _ _ _ _ => pg_name (i := 4) scBelow.nd rfl (Or.inl rfl)) (fun _ _ _ _ _ => pts_one (pt_cmp (pc_dnotin (hu_of hr) (pv 4) (pe_callTy (cDictT (K := K) rfl rfl) (by rfl) B.dict (by decide +kernel) (pa_cons (pv 1) pa_nil))) (by rfl))) (fun _ _ _ _ _ => pv 4))
      po_none (po_some (pe_go cD hr (by decide) rfl (pa_cons (pv 0) (pa_cons pe_int pa_nil))))))
    (pss_cons (ps_set (i := 3) scBelow.nd rfl (.inr rfl) (pe_op op_cat
      (pe_lc (own := [("book", 4), ("many", 5)]) (g := gTup K 2 (gCons (gName 4) (gCons (gName 5) gNil))) (tt := tYes) (by rfl) scBelow.nd (pi_tup (pv 1))
        (blkOk_by (own := [("book", 4), ("many", 5)]) (N := nBelow) (sc := defScope sBelow) (by decide +kernel))
        (fun _ _ _ _ _ => pg_tup rfl (pgs_cons (pg_name (i := 4) scBelow.nd rfl (.inl rfl)) (pgs_cons (pg_name (i := 5) scBelow.nd rfl (.inl rfl)) pgs_nil))) (fun _ _ _ _ _ => pts_nil) (fun _ _ _ _ _ => pv 4))
      (pv 2)))
    (pss_one (ps_ret (pe_callTy call_tupleZ (by rfl) B.tuple (by decide +kernel) (pa_cons
      (pe_lc (own := [("at", 6)]) (g := gName 6) (tt := tYes) (by rfl) scBelow.nd (pi_tup (pe_go cO hr (by decide) rfl (pa_cons (pv 0) (pa_cons (pe_callB call_len_seq (by rfl) B.len PySem.boot_len (pa_cons (pv 3) pa_nil)) pa_nil))))
        (blkOk_by (own := [("at", 6)]) (N := nBelow) (sc := defScope sBelow) (by decide +kernel))
        (fun _ _ _ _ _ => pg_name (i := 6) scBelow.nd rfl (Or.inl rfl)) (fun _ _ _ _ _ => pts_nil) (fun _ _ _ _ _ => pe_ix (ixL (K := K) rfl) (pv 3) (pv 6) (fun _ _ => rfl))) pa_nil))))), ?_⟩
  refine ⟨rfl, fun b hb => ⟨b, rfl, ⟨_, sql upd_same⟩, fun D hD => lc_list (K := K) (a := b) (xs := books.map V.str) (fun i H' => SameT D (upd H b (.lst (books.map V.str))) H' ∧ H' D = some (.lst (((books.take i).filter fun z => decide (z ∉ wnames ws)).map V.str)))
    ⟨SameT.of (same_new hD _), upd_same⟩ (fun i H' _ h' => sql (h'.1 _ _ (ne_of_none upd_same hD) upd_same)) ?_ ?_⟩⟩
  · rintro i x H' hx ⟨smD, hD'⟩
    obtain ⟨z, hz, rfl⟩ := strs_get hx
    have s0 : Same H H' := (same_new hb (.lst (books.map V.str))).trans fun b' o h => smD b' o (ne_of_none h hD) h
    refine ⟨rfl, _, rfl, _, rfl, W, ts, wkvs ws, rfl, hW.same s0, (wl.move fun t xs e => s0 _ _ e).paired, fun d hd => ?_⟩
    have hdD : d ≠ D := (ne_of_none hD' hd).symm
    have step : (books.take (i + 1)).filter (fun z => decide (z ∉ wnames ws)) = (books.take i).filter (fun z => decide (z ∉ wnames ws)) ++ if z ∈ wnames ws then [] else [z] := by
      rw [take_step hz, List.filter_append]
      congr 1
      by_cases c : z ∈ wnames ws
      · rw [if_pos c, List.filter_cons_of_neg (by simpa using c)]
        rfl
      · rw [if_neg c, List.filter_cons_of_pos (by simpa using c)]
        rfl
    have smd : SameT D (upd H b (.lst (books.map V.str))) (upd H' d (.dK (mergeK [] (wkvs ws)))) := fun b' o n h => by
      have e := smD b' o n h
      rw [upd_ne (ne_of_none e hd)]
      exact e
    refine ⟨d, _, rfl, DGet.k (k := Sum.inr z) upd_same, !decide (z ∈ wnames ws), by rw [wkvs_has], ?_⟩
    by_cases c : z ∈ wnames ws
    · rw [decide_eq_true c]
      refine iteF ⟨smd, ?_⟩
      rw [upd_ne hdD.symm, step, if_pos c, List.append_nil]
      exact hD'
    · rw [decide_eq_false c]
      refine ⟨_, rfl, _, (by rw [upd_ne hdD.symm]; exact hD'), ?_, fun b' o n h => ?_, ?_⟩
      · rw [List.length_map]
        exact small1000 (Nat.le_trans (List.length_filter_le _ _) (by rw [List.length_take]; show min i 7 ≤ 1000; omega))
      · rw [upd_ne n]
        exact smd b' o n h
      · rw [upd_same, step, if_neg c, List.map_append]
        rfl
  · rintro H1 ⟨smD, hD1⟩
    have s1 : Same H H1 := (same_new hb (.lst (books.map V.str))).trans fun b' o h => smD b' o (ne_of_none h hD) h
    have tp1 := tp.same s1
    have nD : H D = none := (same_new hb (.lst (books.map V.str))).free hD
    have nDT : D ≠ T := by
      obtain ⟨o, ho⟩ := tp.taken
      exact new_ne ho nD
    rw [List.length_map, List.take_of_length_le (Nat.le_refl _)] at hD1
    refine ⟨_, rfl, T, S, ns, 3, rfl, tp1, by decide, by decide, fun r i1 c1 r0 r1 => ⟨_, rfl, D, _, rfl, sql (by rw [upd_ne nDT]; exact hD1), fun oa hoa => ?_⟩⟩
    obtain ⟨k, ek⟩ := cut_any ((books.filter fun z => decide (z ∉ wnames ws)).map V.str) r.toNat
    rw [show ((r.toNat : Nat) : Int) = r by omega, ← List.map_take] at ek
    rw [ek]
    have os : ∀ z ∈ (books.filter fun z => decide (z ∉ wnames ws)).take k, z ∈ books ∧ z ∉ wnames ws := fun z hz => by
      have z1 := List.mem_filter.mp (List.mem_of_mem_take hz)
      exact ⟨z1.1, by simpa using z1.2⟩
    have on : ((books.filter fun z => decide (z ∉ wnames ws)).take k).Nodup := (books_nd.filter _).sublist (List.take_sublist _ _)
    generalize (books.filter fun z => decide (z ∉ wnames ws)).take k = oths at os on ⊢
    have wn : (wnames ws).Nodup := books_nd.sublist sub
    have nd : (wnames ws ++ oths).Nodup := by
      rw [List.nodup_append]
      exact ⟨wn, on, fun a ha b' hb' e => (os b' hb').2 (e ▸ ha)⟩
    have inb : ∀ z ∈ wnames ws ++ oths, z ∈ books := fun z hz => (List.mem_append.mp hz).elim (fun h => sub.subset h) fun h => (os z h).1
    have l7 : (wnames ws ++ oths).length ≤ 7 := nodup_le nd inb
    have s2 : Same (upd H1 T (.lst [.ref S, .int i1, .int c1])) (upd (upd H1 T (.lst [.ref S, .int i1, .int c1])) oa (.lst (oths.map V.str))) := same_new hoa _
    have sm2 : SameT T H (upd (upd H1 T (.lst [.ref S, .int i1, .int c1])) oa (.lst (oths.map V.str))) := (SameT.of s1).trans ((sameT_put _).trans (SameT.of s2))
    have tp2 := (tp1.put i1 c1).same s2
    have ho2 : upd (upd H1 T (.lst [.ref S, .int i1, .int c1])) oa (.lst (oths.map V.str)) oa = some (.lst (oths.map V.str)) := upd_same
    generalize upd (upd H1 T (.lst [.ref S, .int i1, .int c1])) oa (.lst (oths.map V.str)) = H2 at sm2 tp2 ho2 ⊢
    obtain ⟨ti, tc, hTT⟩ := tp.at_
    have hW2 : TpO H2 W (ts.map V.ref) := hW.sameT sm2 (hW.ne hTT fun o z => nomatch z)
    have wl2 : WL H2 ts ws := wl.move fun t ys e => sm2 _ _ (ne_of e hTT fun z => nomatch z) e
    refine ⟨_, rfl, W, rfl, ⟨_, hW2.sqt⟩, fun D2 hD2 => lc_tup (K := K) (a := W) (xs := ts.map V.ref) (fun i H' => SameT D2 H2 H' ∧ H' D2 = some (.lst ((wnames (ws.take i)).map V.str)))
      ⟨SameT.of (same_new hD2 _), upd_same⟩ (fun i H' _ h' => (hW2.sameT h'.1 (hW2.taken hD2)).sqt) ?_ ?_⟩
    · rintro i x H' hx ⟨sD, hD'⟩
      obtain ⟨t, ht, rfl⟩ := refs_get hx
      have hi : i < ts.length := (List.getElem?_eq_some_iff.mp ht).1
      have hp : ws[i]? = some (ws[i]'(by rw [← wl.1]; exact hi)) := List.getElem?_eq_getElem _
      generalize ws[i]'(by rw [← wl.1]; exact hi) = p at hp
      have e2 := wl2.2 i t p ht hp
      have hT := sD _ _ (ne_of_none e2 hD2) e2
      refine ⟨t, _, rfl, sqt hT, rfl, _, _, rfl, _, _, rfl, rfl, rfl, _, rfl, _, hD', ?_, fun b' o n h => ?_, ?_⟩
      · have z : (wnames (ws.take i)).length ≤ (wnames ws).length := by
          show ((ws.take i).map _).length ≤ (ws.map _).length
          rw [List.length_map, List.length_map, List.length_take]
          omega
        rw [List.length_append] at l7
        rw [List.length_map]
        exact small1000 (by omega)
      · rw [upd_ne n]
        exact sD b' o n h
      · rw [upd_same, List.take_add_one, hp]
        show some (HO.lst (_ ++ [V.str p.1])) = some (.lst (((ws.take i ++ [p]).map _).map V.str))
        rw [List.map_append, List.map_append]
        rfl
    · rintro H3 ⟨sD, hD3⟩
      rw [List.length_map, wl.1, List.take_length] at hD3
      have s3 : Same H2 H3 := fun b' o h => sD b' o (ne_of_none h hD2) h
      refine ⟨_, rfl, D2, oa, _, _, rfl, rfl, hD3, s3 _ _ ho2, (by have z := l7; rw [List.length_append] at z; rw [List.length_map (f := V.str), List.length_map (f := V.str)]; exact Nat.le_of_lt (small1000 (by omega))), fun R hR => ?_⟩
      have s4 : Same H3 (upd H3 R (.lst ((wnames ws).map V.str ++ oths.map V.str))) := same_new hR _
      rw [← List.map_append] at s4 ⊢
      have sm4 := sm2.trans (SameT.of (s3.trans s4))
      have tp4 := tp2.same (s3.trans s4)
      have nRT : R ≠ T := by
        obtain ⟨o, ho⟩ := (tp2.same s3).taken
        exact new_ne ho hR
      have hR4 : upd H3 R (.lst ((wnames ws ++ oths).map V.str)) R = some (.lst ((wnames ws ++ oths).map V.str)) := upd_same
      generalize upd H3 R (.lst ((wnames ws ++ oths).map V.str)) = H4 at sm4 tp4 hR4 ⊢
      have winb : ∀ b ∈ wnames ws, b ∈ wnames ws ++ oths := fun b h => List.mem_append_left _ h
      generalize wnames ws ++ oths = bs0 at nd inb l7 hR4 winb ⊢
      refine ⟨_, rfl, _, rfl, R, _, rfl, .inl (sql hR4), T, S, ns, (bs0.map V.str).length, rfl, tp4, by rw [List.length_map]; omega, fun t H5 qs sm5 tp5 nt ht pm => ?_⟩
      rw [List.length_map] at pm
      have lq : qs.length = bs0.length := by rw [pm.length_eq, List.length_range]
      have hy5 : H5 R = some (.lst (bs0.map V.str)) := sm5 _ _ nRT hR4
      have pp := pick_perm pm
      have lp : (pick bs0 qs).length = qs.length := by
        unfold pick
        rw [List.length_map]
      refine ⟨t, rfl, ⟨_, sqt ht⟩, fun D hD => lc_tup (K := K) (a := t) (xs := qs.map natV) (fun i H' => SameT D H5 H' ∧ H' D = some (.lst (((pick bs0 qs).take i).map V.str)))
        ⟨SameT.of (same_new hD _), upd_same⟩ (fun i H' _ h' => sqt (h'.1 _ _ (ne_of_none ht hD) ht)) ?_ ?_⟩
      · rintro i x H' hx ⟨smD, hD'⟩
        rw [List.getElem?_map] at hx
        cases e : qs[i]? with
        | none =>
          rw [e] at hx
          cases hx
        | some k =>
          rw [e] at hx
          cases hx
          have hk : k < bs0.length := List.mem_range.mp (pm.mem_iff.mp (List.mem_of_getElem? e))
          refine ⟨rfl, _, rfl, _, rfl, R, _, _, .str bs0[k], rfl, rfl, sql (smD _ _ (ne_of_none hy5 hD) hy5), at_of rfl (by rw [List.getElem?_map, List.getElem?_eq_getElem hk]; rfl), _, hD', ?_, ?_⟩
          · rw [List.length_map, List.length_take]
            exact small1000 (by omega)
          · refine ⟨fun b' o nb h => by rw [upd_ne nb]; exact smD b' o nb h, ?_⟩
            have ep : (pick bs0 qs)[i]? = some bs0[k] := by
              unfold pick
              rw [List.getElem?_map, e]
              show some ((bs0[k]?).getD Str.empty) = _
              rw [List.getElem?_eq_getElem hk]
              rfl
            rw [upd_same, List.take_add_one, ep, List.map_append]
            rfl
      · rintro H' ⟨smD, hD'⟩
        rw [List.length_map, List.take_of_length_le (by omega)] at hD'
        refine ⟨D, _, rfl, sql hD', fun p u hp hu => ?_⟩
        have s5 : Same H5 H' := fun b' o h => smD b' o (ne_of_none h hD) h
        have np : H p = none := by
          refine (sm4.trans (sm5.trans (SameT.of s5))).free ?_ hp
          obtain ⟨o2, h2⟩ := (tp5.same s5).taken
          exact new_ne h2 hp
        exact q p _ (pick bs0 qs) (sm4.trans (sm5.trans (SameT.of (s5.trans (same_new hp _))))) (tp5.same (s5.trans (same_new hp u))) np (TpO.new hu) (pp.nodup_iff.mpr nd) (by rw [pp.length_eq]; exact l7)
          (fun b hb => inb b (pp.mem_iff.mp hb)) fun b hb => pp.mem_iff.mpr (winb b hb)
end
end Lt

set_option Elab.async false
set_option linter.all false
set_option maxRecDepth 100000
set_option maxHeartbeats 4000000
namespace Lt
open PySem PySem.Spec PyProof.Rows L2
abbrev sFarP : Stmt := top 9
abbrev sFarL : Stmt := top 10
abbrev sEach : Stmt := top 11
abbrev sDayP : Stmt := top 12
abbrev sSettled : Stmt := top 13
theorem sum_nat (l : List Nat) : (l.map fun k : Nat => (k : Int)).sum = (l.sum : Int) := by
  induction l with
  | nil => rfl
  | cons a r ih =>
    rw [List.map_cons, List.sum_cons, List.sum_cons, ih]
    omega
theorem natV_map (ns : List Nat) : ns.map natV = (ns.map fun k : Nat => (k : Int)).map V.int := by
  rw [List.map_map]
  rfl
theorem tabG_same {H H' : Hp} {P : Addr} (t : GxR.TabG H P) (s : Same H H') : GxR.TabG H' P := by
  obtain ⟨ps, h, k⟩ := t
  exact ⟨ps, s _ _ h, k⟩
theorem tabG_ne {H : Hp} {P T : Addr} {xs : List V} (t : GxR.TabG H P) (h : H T = some (.lst xs)) : P ≠ T := by
  obtain ⟨ps, h1, _⟩ := t
  exact ne_of h1 h fun z => nomatch z
theorem lifted_small {bs rs : List Str} (h : ∀ b ∈ rs, b ∈ bs) : (liftedM bs rs).sum ≤ rs.length * bs.length := by
  rw [← rows_count rs h]
  exact rowsM_len rs h
section
variable {P : Program} {w : World} {K : PySem.W.Frag} {mg : Str → Option Value} {base : Heap}
/-! ### far days -/
def spFarP (K : PySem.W.Frag) : Sp := fun vs H Q _ => ∃ (p r : Addr) (bs rs : List Str) (d : Int), vs = [.ref p, .ref r, .int d] ∧ TpO H p (bs.map V.str) ∧ TpS K H r (rs.map V.str) ∧ bs.length ≤ 1000 ∧ (∀ b ∈ rs, b ∈ bs) ∧
  ∀ (q : Addr) (H' : Hp), Same H H' → TpO H' q ((if 0 < d then behindM bs rs else bs).map V.str) → Q (.ref q) H'
theorem scFarP : FnScope ["pile", "day", "days"] ["pile", "day", "days"] (defScope sFarP) := ⟨rfl, rfl, rfl, by decide +kernel, rfl, by decide +kernel, by decide +kernel⟩
theorem ok_farP {f : Addr} {fd : FuncData} (F : Fun K "far_pile" "far_pile" sFarP f fd) (cBe : Has P w K mg base 2 "behind" ["pile", "readings"] (spBehind K)) : FnOk P w K mg base CX0 3 f fd ["pile", "day", "days"] (spFarP K) := by
  refine F.ok scFarP (fun vs H Q E h => ?_) (fun cdv A outer s H vs Q E hr h => ?_)
  · obtain ⟨p, r, bs, rs, d, rfl, _⟩ := h
    rfl
  obtain ⟨p, r, bs, rs, d, rfl, hp, hrr, hl, hm, q⟩ := h
  refine ⟨_, pss_one (ps_ret (pe_ifExp (pt_cmpR op_gt (pv 2) pe_int (nomark _)) (pe_go cBe hr (by decide) rfl (pa_cons (pv 0) (pa_cons (pv 1) pa_nil))) (pv 0))), ?_⟩
  refine ⟨_, rfl, _, _, rfl, rfl, _, rfl, ite2 (fun c => ?_) (fun c => ?_)⟩
  · have c' : 0 < d := of_decide_eq_true c
    rw [if_pos c'] at q
    exact ⟨_, rfl, _, rfl, p, r, bs, rs, rfl, hp, hrr, hl, hm, fun o H' s' ho => q o H' s' ho⟩
  · have c' : ¬ 0 < d := fun z => c (decide_eq_true z)
    rw [if_neg c'] at q
    exact ⟨_, rfl, q p H (Same.refl _) hp⟩
def spFarL (K : PySem.W.Frag) : Sp := fun vs H Q _ => ∃ (p r : Addr) (bs rs : List Str) (d : Int), vs = [.ref p, .ref r, .int d] ∧ TpO H p (bs.map V.str) ∧ TpS K H r (rs.map V.str) ∧ bs.length ≤ 7 ∧ rs.length ≤ 60 ∧ (∀ b ∈ rs, b ∈ bs) ∧
  ∀ H' : Hp, Same H H' → Q (.int (if d ≤ 0 then 0 else ((liftedM bs rs).sum : Int) + (d - 1) * ((liftedM (behindM bs rs) rs).sum : Int))) H'
theorem scFarL : FnScope ["pile", "day", "days", "first", "later"] ["pile", "day", "days"] (defScope sFarL) := ⟨rfl, rfl, rfl, by decide +kernel, rfl, by decide +kernel, by decide +kernel⟩
theorem ok_farL {f : Addr} {fd : FuncData} (F : Fun K "far_lifted" "far_lifted" sFarL f fd) (B : Bi mg) (cBe : Has P w K mg base 2 "behind" ["pile", "readings"] (spBehind K)) (cLi : Has P w K mg base 2 "lifted" ["pile", "readings"] (spLifted K)) :
    FnOk P w K mg base CX0 3 f fd ["pile", "day", "days"] (spFarL K) := by
  refine F.ok scFarL (fun vs H Q E h => ?_) (fun cdv A outer s H vs Q E hr h => ?_)
  · obtain ⟨p, r, bs, rs, d, rfl, _⟩ := h
    rfl
  obtain ⟨p, r, bs, rs, d, rfl, hp, hrr, hl, hl2, hm, q⟩ := h
  refine ⟨_, pss_cons (ps_if (pt_cmpR op_le (pv 2) pe_int (nomark _)) (pss_one (ps_ret pe_int)) pss_nil)
    (pss_cons (ps_set (i := 3) scFarL.nd rfl (.inl rfl) (pe_callB (cr_sum rfl) (by rfl) B.sum (by decide +kernel) (pa_cons (pe_go cLi hr (by decide) rfl (pa_cons (pv 0) (pa_cons (pv 1) pa_nil))) pa_nil)))
    (pss_cons (ps_set (i := 4) scFarL.nd rfl (.inl rfl) (pe_callB (cr_sum rfl) (by rfl) B.sum (by decide +kernel) (pa_cons (pe_go cLi hr (by decide) rfl (pa_cons (pe_go cBe hr (by decide) rfl (pa_cons (pv 0) (pa_cons (pv 1) pa_nil))) (pa_cons (pv 1) pa_nil))) pa_nil)))
    (pss_one (ps_ret (pe_op op_add (pv 3) (pe_op op_mul (pe_op op_sub (pv 2) pe_int) (pv 4))))))), ?_⟩
  refine ⟨_, rfl, _, _, rfl, rfl, _, rfl, ite2 (fun c => ?_) (fun c => ?_)⟩
  · have c' : d ≤ 0 := of_decide_eq_true c
    rw [if_pos c'] at q
    exact q H (Same.refl _)
  · have c' : ¬ d ≤ 0 := fun z => c (decide_eq_true z)
    rw [if_neg c'] at q
    have pm := behindM_perm rs hm
    have hm2 : ∀ b ∈ rs, b ∈ behindM bs rs := fun b hb => pm.mem_iff.mpr (hm b hb)
    refine ⟨_, rfl, _, rfl, p, r, bs, rs, rfl, hp, hrr, by omega, by omega, hm, fun l1 H1 s1 n1 h1 => ?_⟩
    rw [natV_map] at h1
    refine ⟨l1, _, rfl, sql h1, ?_⟩
    refine ⟨_, rfl, _, rfl, p, r, bs, rs, rfl, hp.same s1, hrr.same s1, by omega, hm, fun o H2 s2 ho => ⟨_, rfl, o, r, behindM bs rs, rs, rfl, ho, (hrr.same s1).same s2, by rw [pm.length_eq]; omega, by omega, hm2, fun l2 H3 s3 n3 h3 => ?_⟩⟩
    rw [natV_map] at h3
    refine ⟨l2, _, rfl, sql h3, ?_⟩
    rw [sum_nat, sum_nat]
    have sm := lifted_small hm2
    rw [pm.length_eq] at sm
    have sm2 : rs.length * bs.length ≤ 60 * 7 := Nat.mul_le_mul hl2 hl
    refine ⟨_, rfl, _, rfl, _, _, rfl, rfl, _, rfl, _, _, rfl, rfl, .inr ⟨by omega, by omega⟩, _, _, rfl, rfl, ?_⟩
    exact q H3 (s1.trans (s2.trans s3))
end
end Lt

set_option Elab.async false
set_option linter.all false
set_option maxRecDepth 100000
set_option maxHeartbeats 4000000
namespace Lt
open PySem PySem.Spec PyProof.Rows L2
section
variable {P : Program} {w : World} {K : PySem.W.Frag} {mg : Str → Option Value} {base : Heap}
/-! ### the wanted books behind the first day -/
def spSettled (K : PySem.W.Frag) (Pt : Addr) : Sp := fun vs H Q _ => ∃ (W r : Addr) (ws : List (Str × Nat)) (rs : List Str), vs = [.ref W, .ref r] ∧ WAt H W ws ∧ TpS K H r (rs.map V.str) ∧ ws.length ≤ 7 ∧ (∀ b ∈ rs, b ∈ wnames ws) ∧ GxR.TabG H Pt ∧
  ∀ (q : Addr) (H' : Hp), SameT Pt H H' → GxR.TabG H' Pt → TpO H' q ((behindM (wnames ws) rs).map V.str) → Q (.ref q) H'
theorem scSettled : FnScope ["wants", "day"] ["wants", "day"] (defScope sSettled) := ⟨rfl, rfl, rfl, by decide +kernel, rfl, by decide +kernel, by decide +kernel⟩
theorem TpO.neTab {H : Hp} {a P : Addr} {xs : List V} (h : TpO H a xs) (t : GxR.TabG H P) : a ≠ P := by
  obtain ⟨ps, h1, _⟩ := t
  exact h.ne h1 fun o z => nomatch z
theorem tabbed {P : Addr} {H H' : Hp} (t : GxR.Tabbed P H H') : SameT P H H' := fun b o n h => by
  rw [t.2 b n]
  exact h
theorem ok_settled {f c Pt : Addr} {fd : FuncData} (F : Fun K "settled_pile" "settled_pile" sSettled f fd) (hc : fd.code = .ref c) (TB : GxR.TabB base mg c Pt) (B : Bi mg) (cBe : Has P w K mg base 2 "behind" ["pile", "readings"] (spBehind K)) :
    FnOk P w K mg base CX0 3 f fd ["wants", "day"] (spSettled K Pt) := by
  obtain ⟨oc, od, kV, doc, pm, an, cdv, ct, osl, rfl, lk, hcd⟩ := F.ex
  refine fn_of lk hcd scSettled (fun vs H Q E h => ?_) fun A outer s H vs Q E hr h => ?_
  · obtain ⟨W, r, ws, rs, rfl, _⟩ := h
    rfl
  obtain ⟨W, r, ws, rs, rfl, ⟨ts, hW, wl⟩, hrr, hl, hm, tg, q⟩ := h
  have hc' : cdv = .ref c := hc
  subst hc'
  refine ⟨_, PSs.nox (pss_one (ps_ret (pe_go cBe hr (by decide) rfl (pa_cons (pe_tupG hr (by rfl) B.tuple TB rfl ⟨rfl, rfl, by decide +kernel, rfl, rfl, rfl, by decide⟩ (pv 0)) (pa_cons (pv 1) pa_nil))))), ?_⟩
  refine ⟨_, rfl, W, ts, ws.map fun p => (V.str p.1, natV p.2), rfl, hW.sqt, by rw [List.length_map]; exact wl.1, fun i t p e1 e2 => ?_, tg, fun H2 a u tb ha hu => ?_⟩
  · rw [List.getElem?_map] at e2
    cases e3 : ws[i]? with
    | none =>
      rw [e3] at e2
      cases e2
    | some z =>
      rw [e3] at e2
      cases e2
      exact sqt (wl.2 i t z e1 e3)
  · have s2 : SameT Pt H (upd H2 a u) := (tabbed tb).trans (SameT.of (same_new ha u))
    have e : (ws.map fun p => (V.str p.1, natV p.2)).map (·.1) = (wnames ws).map V.str := by
      show _ = (ws.map _).map _
      rw [List.map_map, List.map_map]
      rfl
    rw [e] at hu
    refine ⟨_, rfl, a, r, wnames ws, rs, rfl, TpO.new hu, hrr.tab tg s2, ?_, hm, fun o H3 s3 ho => q o H3 (s2.trans (SameT.of s3)) (tabG_same (tabG_same tb.1 (same_new ha u)) s3) ho⟩
    show (ws.map _).length ≤ 1000
    rw [List.length_map]
    omega
/-! ### each day -/
def spEach (K : PySem.W.Frag) (Pt : Addr) : Sp := fun vs H Q _ => ∃ (W r : Addr) (ws : List (Str × Nat)) (rs : List Str), vs = [.ref W, .ref r] ∧ WAt H W ws ∧ TpS K H r (rs.map V.str) ∧ ws.length ≤ 7 ∧ rs.length ≤ 60 ∧ (∀ b ∈ rs, b ∈ wnames ws) ∧ GxR.TabG H Pt ∧
  ∀ H' : Hp, SameT Pt H H' → GxR.TabG H' Pt → Q (.int ((liftedM (behindM (wnames ws) rs) rs).sum : Int)) H'
theorem scEach : FnScope ["wants", "day"] ["wants", "day"] (defScope sEach) := ⟨rfl, rfl, rfl, by decide +kernel, rfl, by decide +kernel, by decide +kernel⟩
theorem wn_len (ws : List (Str × Nat)) : (wnames ws).length = ws.length := List.length_map ..
theorem ok_each {f Pt : Addr} {fd : FuncData} (F : Fun K "each_day" "each_day" sEach f fd) (B : Bi mg) (cSe : Has P w K mg base 3 "settled_pile" ["wants", "day"] (spSettled K Pt)) (cLi : Has P w K mg base 2 "lifted" ["pile", "readings"] (spLifted K)) :
    FnOk P w K mg base CX0 4 f fd ["wants", "day"] (spEach K Pt) := by
  refine F.ok scEach (fun vs H Q E h => ?_) (fun cdv A outer s H vs Q E hr h => ?_)
  · obtain ⟨W, r, ws, rs, rfl, _⟩ := h
    rfl
  obtain ⟨W, r, ws, rs, rfl, hW, hrr, hl, hl2, hm, tg, q⟩ := h
  refine ⟨_, pss_one (ps_ret (pe_callB (cr_sum rfl) (by rfl) B.sum (by decide +kernel) (pa_cons (pe_go cLi hr (by decide) rfl (pa_cons (pe_go cSe hr (by decide) rfl (pa_cons (pv 0) (pa_cons (pv 1) pa_nil))) (pa_cons (pv 1) pa_nil))) pa_nil))), ?_⟩
  refine ⟨_, rfl, _, rfl, W, r, ws, rs, rfl, hW, hrr, hl, hm, tg, fun o H1 s1 tg1 ho => ?_⟩
  have pm := behindM_perm rs hm
  refine ⟨_, rfl, o, r, _, rs, rfl, ho, hrr.tab tg s1, by rw [pm.length_eq, wn_len]; omega, by omega, fun b hb => pm.mem_iff.mpr (hm b hb), fun l H2 s2 n2 h2 => ?_⟩
  rw [natV_map] at h2
  refine ⟨l, _, rfl, sql h2, ?_⟩
  rw [sum_nat]
  exact q H2 (s1.trans (SameT.of s2)) (tabG_same tg1 s2)
def spDayP (K : PySem.W.Frag) (Pt : Addr) : Sp := fun vs H Q _ => ∃ (W r : Addr) (ws : List (Str × Nat)) (rs : List Str), vs = [.ref W, .ref r] ∧ WAt H W ws ∧ TpS K H r (rs.map V.str) ∧ ws.length ≤ 7 ∧ rs.length ≤ 60 ∧ (∀ b ∈ rs, b ∈ wnames ws) ∧ GxR.TabG H Pt ∧
  ∀ (l : Addr) (H' : Hp) (ys : List Str) (xs : List V), SameT Pt H H' → GxR.TabG H' Pt → ys.Perm (wnames ws) → sortedS ys = true → H' l = some (.lst xs) → DpAll K H' xs ((prs ys ys.length).map (tri (rowsM (behindM (wnames ws) rs) rs))) → Q (.ref l) H'
theorem scDayP : FnScope ["wants", "day"] ["wants", "day"] (defScope sDayP) := ⟨rfl, rfl, rfl, by decide +kernel, rfl, by decide +kernel, by decide +kernel⟩
theorem ok_dayP {f Pt : Addr} {fd : FuncData} (F : Fun K "day_passings" "day_passings" sDayP f fd) (cSe : Has P w K mg base 3 "settled_pile" ["wants", "day"] (spSettled K Pt)) (cPa : Has P w K mg base 2 "passings" ["pile", "readings"] (spPassings K)) :
    FnOk P w K mg base CX0 4 f fd ["wants", "day"] (spDayP K Pt) := by
  refine F.ok scDayP (fun vs H Q E h => ?_) (fun cdv A outer s H vs Q E hr h => ?_)
  · obtain ⟨W, r, ws, rs, rfl, _⟩ := h
    rfl
  obtain ⟨W, r, ws, rs, rfl, hW, hrr, hl, hl2, hm, tg, q⟩ := h
  refine ⟨_, pss_one (ps_ret (pe_go cPa hr (by decide) rfl (pa_cons (pe_go cSe hr (by decide) rfl (pa_cons (pv 0) (pa_cons (pv 1) pa_nil))) (pa_cons (pv 1) pa_nil)))), ?_⟩
  refine ⟨_, rfl, _, rfl, W, r, ws, rs, rfl, hW, hrr, hl, hm, tg, fun o H1 s1 tg1 ho => ?_⟩
  have pm := behindM_perm rs hm
  refine ⟨_, rfl, o, r, _, rs, rfl, ho, hrr.tab tg s1, by rw [pm.length_eq, wn_len]; exact hl, hl2, fun b hb => pm.mem_iff.mpr (hm b hb), fun l H2 ys xs s2 n2 py so h2 d2 => ?_⟩
  exact q l H2 ys xs (s1.trans (SameT.of s2)) (tabG_same tg1 s2) (py.trans pm) so h2 d2
/-! ### the second day by hand -/
def spLater (K : PySem.W.Frag) : Sp := fun vs H Q _ => ∃ (W r : Addr) (ws : List (Str × Nat)) (rs : List Str), vs = [.ref W, .ref r] ∧ WAt H W ws ∧ TpS K H r (rs.map V.str) ∧ ws.length ≤ 7 ∧ rs.length ≤ 60 ∧ (∀ b ∈ rs, b ∈ wnames ws) ∧
  ∀ (t a n o : Addr) (H' : Hp) (ts : List Addr), Same H H' → H' t = some (.tup [.ref a, .ref n, .ref o]) → H' a = some (.tup ((behindM (behindM (wnames ws) rs) rs).map V.str)) → H' n = some (.lst ((liftedM (behindM (wnames ws) rs) rs).map natV)) →
    H' o = some (.lst (ts.map V.ref)) → PairsL H' ts (rowsM (behindM (wnames ws) rs) rs) → Q (.ref t) H'
abbrev nLater : List Str := ["wants", "day", "pile", "book", "many"]
theorem scLater : FnScope nLater ["wants", "day"] (defScope sLater) := ⟨rfl, rfl, rfl, by decide +kernel, rfl, by decide +kernel, by decide +kernel⟩
theorem ok_later {f : Addr} {fd : FuncData} (F : Fun K "_law_later_day" "_law_later_day" sLater f fd) (cRd : Has P w K mg base 1 "_law_read" ["pile", "readings"] (spRead K)) : FnOk P w K mg base CX0 2 f fd ["wants", "day"] (spLater K) := by
  refine F.ok scLater (fun vs H Q E h => ?_) (fun cdv A outer s H vs Q E hr h => ?_)
  · obtain ⟨W, r, ws, rs, rfl, _⟩ := h
    rfl
  obtain ⟨W, r, ws, rs, rfl, ⟨ts, hW, wl⟩, hrr, hl, hl2, hm, q⟩ := h
  refine ⟨_, pss_cons (ps_set (i := 2) scLater.nd rfl (.inl rfl) (pe_ix ix_tup (pe_go cRd hr (by decide) rfl (pa_cons
      (pe_lc (own := [("book", 3), ("many", 4)]) (g := gTup K 2 (gCons (gName 3) (gCons (gName 4) gNil))) (tt := tYes) (by rfl) scLater.nd (pi_tup (pv 0))
        (blkOk_by (own := [("book", 3), ("many", 4)]) (N := nLater) (sc := defScope sLater) (by decide +kernel))
        (fun _ _ _ _ _ => pg_tup rfl (pgs_cons (pg_name (i := 3) scLater.nd rfl (.inl rfl)) (pgs_cons (pg_name (i := 4) scLater.nd rfl (.inl rfl)) pgs_nil))) (fun _ _ _ _ _ => pts_nil) (fun _ _ _ _ _ => pv 3))
      (pa_cons (pv 1) pa_nil))) pe_int (fun _ _ => rfl)))
    (pss_one (ps_ret (pe_go cRd hr (by decide) rfl (pa_cons (pv 2) (pa_cons (pv 1) pa_nil))))), ?_⟩
  have pm := behindM_perm rs hm
  refine ⟨_, rfl, W, rfl, ⟨_, hW.sqt⟩, fun D hD => lc_tup (K := K) (a := W) (xs := ts.map V.ref) (fun i H' => SameT D H H' ∧ H' D = some (.lst ((wnames (ws.take i)).map V.str)))
    ⟨SameT.of (same_new hD _), upd_same⟩ (fun i H' _ h' => (hW.sameT h'.1 (hW.taken hD)).sqt) ?_ ?_⟩
  · rintro i x H' hx ⟨sD, hD'⟩
    obtain ⟨t, ht, rfl⟩ := refs_get hx
    have hi : i < ts.length := (List.getElem?_eq_some_iff.mp ht).1
    have hp : ws[i]? = some (ws[i]'(by rw [← wl.1]; exact hi)) := List.getElem?_eq_getElem _
    generalize ws[i]'(by rw [← wl.1]; exact hi) = p at hp
    have e2 := wl.2 i t p ht hp
    have hT := sD _ _ (ne_of_none e2 hD) e2
    refine ⟨t, _, rfl, sqt hT, rfl, _, _, rfl, _, _, rfl, rfl, rfl, _, rfl, _, hD', ?_, fun b' o n h => ?_, ?_⟩
    · rw [List.length_map, wn_len, List.length_take]
      exact small1000 (by omega)
    · rw [upd_ne n]
      exact sD b' o n h
    · rw [upd_same, List.take_add_one, hp]
      show some (HO.lst (_ ++ [V.str p.1])) = some (.lst (((ws.take i ++ [p]).map _).map V.str))
      rw [List.map_append, List.map_append]
      rfl
  · rintro H1 ⟨sD, hD1⟩
    rw [List.length_map, wl.1, List.take_length] at hD1
    have s1 : Same H H1 := fun b' o h => sD b' o (ne_of_none h hD) h
    refine ⟨_, rfl, D, r, wnames ws, rs, rfl, .inl (sql hD1), hrr.same s1, by rw [wn_len]; exact hl, hl2, hm, fun t a n o H2 us s2 ht ha hn ho pl => ?_⟩
    refine ⟨t, _, 0, .ref a, rfl, rfl, sqt ht, rfl, ?_⟩
    refine ⟨_, rfl, _, rfl, a, r, behindM (wnames ws) rs, rs, rfl, .inr (sqt ha), (hrr.same s1).same s2, by rw [pm.length_eq, wn_len]; exact hl, hl2, fun b hb => pm.mem_iff.mpr (hm b hb), fun t2 a2 n2 o2 H3 us2 s3 ht2 ha2 hn2 ho2 pl2 => ?_⟩
    exact q t2 a2 n2 o2 H3 us2 (s1.trans (s2.trans s3)) ht2 ha2 hn2 ho2 pl2
end
end Lt

set_option Elab.async false
set_option linter.all false
set_option maxRecDepth 100000
set_option maxHeartbeats 4000000
/-! t[::-1], t a tuple. -/
namespace Lt
open PySem PySem.Spec PyProof.Rows L2
theorem back_adjust (n : Nat) : Builtin.Slice.sliceAdjust none none (-1) (n : Int) = ((n : Int) - 1, -1) := by
  unfold Builtin.Slice.sliceAdjust
  simp
theorem back_places (n : Nat) : Builtin.Slice.slicePlaces ((n : Int) - 1) (-1) (-1) = n := by
  unfold Builtin.Slice.slicePlaces
  simp
  by_cases c : (-1 : Int) < (n : Int) - 1
  · rw [if_pos c]
    omega
  · rw [if_neg c]
    omega
theorem fm_congr {f g : Nat → Option Value} : ∀ l : List Nat, (∀ x ∈ l, f x = g x) → l.filterMap f = l.filterMap g
  | [], _ => rfl
  | x :: r, h => by rw [List.filterMap_cons, List.filterMap_cons, h x List.mem_cons_self, fm_congr r fun y hy => h y (List.mem_cons_of_mem _ hy)]
theorem back_pick (xs : Array Value) : ((List.range xs.size).filterMap fun m : Nat => xs[(((xs.size : Nat) : Int) - 1 + (m : Int) * -1).toNat]?) = xs.toList.reverse := by
  have e := PySem.W.krv_all xs
  have e2 := congrArg List.reverse e
  rw [← List.filterMap_reverse, ← PySem.W.krv_range, List.filterMap_map] at e2
  rw [← e2]
  refine fm_congr _ fun m hm => ?_
  have hm := List.mem_range.mp hm
  show xs[_]? = xs[xs.size - 1 - m]?
  congr 1
  omega
section
variable {prog : Program} {w : World} {A : Around} {E : Value → Shared → Prop} {s : Shared}
theorem back_parts {sl : Addr} {vs : Value} {n : Nat} {Q : Int × Int × Nat → Shared → Prop} (hs : s.heap.IsSliceOf sl .none .none vs) (ps : IsPart vs (some (-1))) (q : Q ((n : Int) - 1, -1, n) s) :
    wpAny (model prog w) A (Builtin.Slice.sliceApplied (.ref sl) (pure (n : Int))) Q E s := by
  obtain ⟨o, at1, _, dat⟩ := hs
  have fin : wpAny (model prog w) A (pure (Builtin.Slice.sliceAdjust none none (-1) (n : Int)) >>= fun z : Int × Int => pure (z.1, (-1 : Int), Builtin.Slice.slicePlaces z.1 z.2 (-1))) Q E s := by
    rw [back_adjust]
    refine wpAny_bind (wpAny_pure (wpAny_pure ?_))
    rw [back_places]
    exact q
  unfold Builtin.Slice.sliceApplied Builtin.Slice.sliceFields
  refine wpAny_bind (wpAny_bind (wpAny_field at1 dat (x := .none) rfl (wpAny_bind (wpAny_field at1 dat (x := .none) rfl (wpAny_bind (wpAny_field at1 dat (x := vs) rfl (wpAny_pure (wpAny_bind (HT.slicePart_ ps ?_)))))))))
  show wpAny _ _ (if ((-1 : Int) == 0) = true then _ else _) _ _ s
  rw [if_neg (by decide)]
  refine wpAny_bind (HT.slicePart_ .none (wpAny_bind (HT.slicePart_ .none (wpAny_bind (wpAny_pure ?_)))))
  show wpAny _ _ (pure ((Builtin.Slice.sliceAdjust none none (-1) (n : Int)).1, (-1 : Int), _)) _ _ s
  rw [back_adjust]
  refine wpAny_pure ?_
  show Q (_, _, Builtin.Slice.slicePlaces ((n : Int) - 1) (-1) (-1)) s
  rw [back_places]
  exact q
theorem back_tup {t sl : Addr} {items : Array Value} {vs : Value} {Q : Value → Shared → Prop} (ht : IsTup s.heap t items) (hs : s.heap.IsSliceOf sl .none .none vs) (ps : IsPart vs (some (-1))) (fit : items.size ≤ sizeLine)
    (q : Q (.ref s.heap.objs.size) { s with heap := s.heap.push { cls := .type "tuple", data := .seq items.toList.reverse.toArray } }) : wpAny (model prog w) A (getItem (.ref t) (.ref sl)) Q E s := by
  have ty : s.TypeIs (.ref sl) "slice" := by
    obtain ⟨o, at1, cls, _⟩ := hs
    exact ⟨o, at1, cls⟩
  unfold getItem
  refine wpAny_holding (wpAny_bind (wpAny_sequenceKey ht.typeIs (by decide) (wpAny_bind (wpAny_callSpecial?_slot (name := Str.ofString "__getitem__") ht.typeIs slot_tuple_getitem (wpAny_call_entry slot_tuple_getitem ht.typeIs entry_tuple_getitem ?_ (args_tuple_getitem _ _))))))
  refine wpAny_bind (m := Builtin.Tuple.tupleItemsOf (.ref t)) (tupleItemsOf_ ht (wpAny_bind (wpAny_typeOf ty ?_)))
  rw [if_pos (by decide)]
  refine wpAny_bind (back_parts hs ps ?_)
  have no : ¬ ((((items.size : Int) - 1) == 0 && (-1 : Int) == 1 && items.size == items.size) = true) := by
    rw [show ((-1 : Int) == 1) = false from rfl, Bool.and_false, Bool.false_and]
    exact Bool.false_ne_true
  have small : sizeOk (.seq items.toList.reverse.toArray) := by
    show items.toList.reverse.toArray.size ≤ sizeLine
    rw [List.size_toArray, List.length_reverse, Array.length_toList]
    exact fit
  show wpAny _ _ (if (((items.size : Int) - 1) == 0 && (-1 : Int) == 1 && items.size == items.size) = true then _ else _) _ _ s
  rw [if_neg no, back_pick]
  exact wpAny_bind (m := Builtin.Tuple.tupleExact _) (wpAny_newObj_type (wpAny_pure ⟨_, rfl, wpAny_pure q⟩) small)
end
section
variable {X : Cx}
def tRevT (K : PySem.W.Frag) (te : TE) : TE := fun σ H Q => te σ H fun x H1 => ∃ a xs, x = .ref a ∧ SqT K H1 a xs ∧ ∀ p, H1 p = none → Q (.ref p) (upd H1 p (.tup xs.reverse))
theorem pe_revT {e : Expr} {te : TE} {k : Nat} {p1 p2 p3 pos : Pos} (he : PE X e te) : PE X (.Subscript e (.Slice none none (some (.UnaryOp .USub (.Constant (.int 1) k p1) p2)) p3) pos) (tRevT X.K te) := by
  refine ⟨fun pins s σ H Q inv h => Subscript_ (thn (he.run pins s σ H _ inv h) fun v s1 ⟨x, H1, inv1, rel, a, xs, ex, sq, q⟩ => ?_)⟩
  subst ex
  cases rel
  refine wpAny_Slice (thn (po_none.run pins s1 σ H1 (fun o G => o = none ∧ G = H1) inv1 ⟨rfl, rfl⟩) fun v1 s2 ⟨l1, G2, inv2, part1, z1, z2⟩ => thn (po_none.run pins s2 σ G2 (fun o G => o = none ∧ G = G2) inv2 ⟨rfl, rfl⟩) fun v2 s3 ⟨l2, G3, inv3, part2, z3, z4⟩ =>
    thn ((po_some (pe_un un_neg pe_int)).run pins s3 σ G3 (fun o G => o = some (-1) ∧ G = G3) inv3 ⟨1, rfl, -1, rfl, rfl, rfl⟩) fun v3 s4 ⟨l3, G4, inv4, part3, z5, z6⟩ => ?_)
  subst z1 z2 z3 z4 z5 z6
  have n1 : v1 = .none := by cases part1; rfl
  have n2 : v2 = .none := by cases part2; rfl
  subst n1 n2
  have inv5 := inv4.kept (t' := s4.toks) (h' := s4.heap.push { cls := .type "slice", data := .fields #[.none, .none, v3] }) fun b ob e' => Heap.get?_push_of_some _ e'
  obtain ⟨its, vals, tp, fit⟩ := inv5.tuple sq
  refine tail_any (ops := [.ref a, .ref s4.heap.objs.size]) tp.typeIs slot_tuple_getitem.lookup ?_ (by with_unfolding_all rfl)
  refine back_tup tp (Heap.IsSliceOf.new _ .none .none v3) part3 (by rw [List.size_toArray, ← vals.length]; exact fit) ?_
  refine ⟨.ref _, _, inv5.laid (t' := s4.toks) (o := .tup xs.reverse) (fun b ob e' => Heap.get?_push_of_some _ e') (Nat.le_refl _) ?_, rfl, q _ (inv5.hok.fresh (Nat.le_refl _))⟩
  exact ⟨by rw [List.length_reverse]; exact fit, _, vals.reverse, IsTup.new _ _⟩
end
end Lt

set_option Elab.async false
set_option linter.all false
set_option maxRecDepth 100000
set_option maxHeartbeats 4000000
namespace Lt
open PySem PySem.Spec PyProof.Rows L2
abbrev sLaw : Stmt := top 25
section
variable {P : Program} {w : World} {K : PySem.W.Frag} {mg : Str → Option Value} {base : Heap}
theorem like_all {f : Addr} {fd : FuncData} (F : Fun K "_law_like" "_law_like" sLike f fd) (B : Bi mg) (m : mg "_law_like" = some (.ref f)) (b : Binds K fd ["one", "two"] []) :
    ∀ n : Nat, FnOk P w K mg base CX0 n f fd ["one", "two"] (spLike K n)
  | 0 => by
    have no : ∀ vs H Q E, ¬ spLike K 0 vs H Q E := fun vs H Q E h => by
      obtain ⟨_, _, _, m, h, _⟩ := h
      cases h
    exact ⟨fun vs H Q E h => absurd h (no vs H Q E), fun A outer s H args us vs Q E _ _ _ _ h => absurd h (no vs H Q E)⟩
  | n + 1 => like_step F B ⟨f, fd, like_all F B m b n, m, F.kp, b⟩
/-! ### shapes of what is compared -/
theorem fine_strs {ss : List Str} (hl : ss.length ≤ 1000) (ok : ∀ b ∈ ss, PyData.strOk b = true) (n : Nat) : Fine (n + 1) (.tuple (ss.map PyData.str)) := by
  refine ⟨by rw [List.length_map]; exact hl, fun d hd => ?_⟩
  obtain ⟨b, hb, rfl⟩ := List.mem_map.mp hd
  cases n <;> exact ok b hb
theorem fine_nats {ns : List Nat} (hl : ns.length ≤ 1000) (n : Nat) : Fine (n + 1) (.list ((ns.map fun k : Nat => (k : Int)).map PyData.int)) := by
  refine ⟨by rw [List.length_map, List.length_map]; exact hl, fun d hd => ?_⟩
  obtain ⟨b, hb, rfl⟩ := List.mem_map.mp hd
  cases n <;> exact True.intro
theorem prs_sub {ys : List Str} : ∀ {n : Nat} {q : Str × Str}, q ∈ prs ys n → q.1 ∈ ys ∧ q.2 ∈ ys
  | 0, q, h => by cases h
  | n + 1, q, h => by
    cases e : ys[n]? with
    | none =>
      have e2 : prs ys (n + 1) = prs ys n ++ (match ys[n]? with | some a => (ys.drop (n + 1)).map fun b => (a, b) | none => []) := rfl
      rw [e2, e, List.append_nil] at h
      exact prs_sub h
    | some a =>
      rw [prs_succ e] at h
      rcases List.mem_append.mp h with h | h
      · exact prs_sub h
      · obtain ⟨b, hb, rfl⟩ := List.mem_map.mp h
        exact ⟨List.mem_of_getElem? e, List.mem_of_mem_drop hb⟩
theorem fine_tri {ys : List Str} {rows : List (Str × Str)} (hl : ys.length ≤ 7) (ok : ∀ b ∈ ys, PyData.strOk b = true) (n : Nat) : Fine (n + 2) (.list ((prs ys ys.length).map (tri rows))) := by
  have lp : (prs ys ys.length).length ≤ 49 := by
    have z := prs_len ys ys.length
    have z2 : ys.length * ys.length ≤ 7 * 7 := Nat.mul_le_mul hl hl
    omega
  refine ⟨by rw [List.length_map]; omega, fun d hd => ?_⟩
  obtain ⟨q, hq, rfl⟩ := List.mem_map.mp hd
  have z := prs_sub hq
  refine ⟨by show 3 ≤ 1000; decide, fun d hd => ?_⟩
  simp only [List.mem_cons, List.not_mem_nil, or_false] at hd
  rcases hd with rfl | rfl | rfl
  · cases n <;> exact ok _ z.1
  · cases n <;> exact ok _ z.2
  · cases n <;> exact True.intro
/-- data that is fine is shaped, and is itself -/
theorem fine_can : ∀ (n : Nat) (d : PyData), Fine n d → d.canLay0 = true ∧ d.depth ≤ n
  | n, .none, _ => ⟨by simp [PyData.canLay0], by simp [PyData.depth]⟩
  | n, .bool _, _ => ⟨by simp [PyData.canLay0], by simp [PyData.depth]⟩
  | n, .int _, _ => ⟨by simp [PyData.canLay0], by simp [PyData.depth]⟩
  | n, .str x, h => by
    have h' : PyData.strOk x = true := by cases n <;> exact h
    exact ⟨by simp [PyData.canLay0, h'], by simp [PyData.depth]⟩
  | 0, .list _, h => h.elim
  | 0, .tuple _, h => h.elim
  | n + 1, .list ds, h => by
    have a := fun d hd => fine_can n d (h.2 d hd)
    refine ⟨by rw [PyData.canLay0]; exact canAll ds fun d hd => (a d hd).1, ?_⟩
    rw [PyData.depth]
    exact Nat.succ_le_succ (depthAll_le ds fun d hd => (a d hd).2)
  | n + 1, .tuple ds, h => by
    have a := fun d hd => fine_can n d (h.2 d hd)
    refine ⟨by rw [PyData.canLay0]; exact canAll ds fun d hd => (a d hd).1, ?_⟩
    rw [PyData.depth]
    exact Nat.succ_le_succ (depthAll_le ds fun d hd => (a d hd).2)
  | n, .dict _, h => by cases n <;> exact h.elim
theorem fine_shaped {n : Nat} {d : PyData} (h : Fine n d) (hn : n ≤ 64) : SeqAt.shaped d = true := shaped_of (fine_can n d h).1 (Nat.le_trans (fine_can n d h).2 hn)
theorem fine_eqv {n : Nat} {d : PyData} (h : Fine n d) : PyData.eqv d d = true := PySem.SeqAt.eqv_refl d (fine_can n d h).1
theorem rowsM_sub : ∀ {bs : List Str} (rs : List Str), (∀ b ∈ rs, b ∈ bs) → ∀ z ∈ rowsM bs rs, z.1 ∈ bs ∧ z.2 ∈ bs
  | bs, [], _, z, hz => by cases hz
  | bs, b :: r, h, z, hz => by
    have hb := h b (List.mem_cons_self ..)
    have p := lay_perm hb
    rcases List.mem_append.mp (show z ∈ (over bs b).map (fun o => (b, o)) ++ rowsM (lay bs b) r from hz) with hz | hz
    · obtain ⟨o, ho, rfl⟩ := List.mem_map.mp hz
      exact ⟨hb, over_mem ho⟩
    · have q := rowsM_sub (bs := lay bs b) r (fun c hc => p.mem_iff.mpr (h c (List.mem_cons_of_mem _ hc))) z hz
      exact ⟨p.mem_iff.mp q.1, p.mem_iff.mp q.2⟩

end
end Lt

set_option Elab.async false
set_option linter.all false
set_option maxRecDepth 100000
set_option maxHeartbeats 4000000
namespace Lt
open PySem PySem.Spec PyProof.Rows L2
/-- what stands through a turn of the law -/
structure Wd (H : Hp) (T S p D W E Pt : Addr) (ns : List Int) (bs rs : List Str) (ws : List (Str × Nat)) (es : List Int) : Prop where
  tp : Tape H T S ns
  hp : TpO H p (bs.map V.str)
  hD : TpO H D (rs.map V.str)
  hW : WAt H W ws
  tg : GxR.TabG H Pt
  hE : H E = some (.lst (es.map V.int))
section
variable {H H' : Hp} {T S p D W E Pt : Addr} {ns es : List Int} {bs rs : List Str} {ws : List (Str × Nat)}
theorem Wd.same (h : Wd H T S p D W E Pt ns bs rs ws es) (s : Same H H') : Wd H' T S p D W E Pt ns bs rs ws es :=
  ⟨h.tp.same s, h.hp.same s, h.hD.same s, h.hW.same s, tabG_same h.tg s, s _ _ h.hE⟩
theorem Wd.tab (h : Wd H T S p D W E Pt ns bs rs ws es) (s : SameT Pt H H') (t : GxR.TabG H' Pt) : Wd H' T S p D W E Pt ns bs rs ws es := by
  obtain ⟨i, c, hT⟩ := h.tp.at_
  obtain ⟨ts, h1, h2⟩ := h.hW
  have n : ∀ {a : Addr} {xs : List V}, H a = some (.lst xs) → a ≠ Pt := fun e => (tabG_ne h.tg e).symm
  refine ⟨⟨⟨i, c, s _ _ (n hT) hT⟩, s _ _ (n h.tp.scr) h.tp.scr⟩, h.hp.sameT s (h.hp.neTab h.tg), h.hD.sameT s (h.hD.neTab h.tg), ⟨ts, h1.sameT s (h1.neTab h.tg), h2.move fun t' xs e => s _ _ ?_ e⟩, t, s _ _ (n h.hE) h.hE⟩
  obtain ⟨ps, h3, _⟩ := h.tg
  exact ne_of e h3 fun z => nomatch z
theorem Wd.neE (h : Wd H T S p D W E Pt ns bs rs ws es) : E ≠ T := by
  obtain ⟨i, c, hT⟩ := h.tp.at_
  refine ne_of h.hE hT fun z => ?_
  injection z with z
  cases es with
  | nil => cases z
  | cons a r => cases z
theorem Wd.put (h : Wd H T S p D W E Pt ns bs rs ws es) (i c : Int) : Wd (upd H T (.lst [.ref S, .int i, .int c])) T S p D W E Pt ns bs rs ws es := by
  obtain ⟨i', c', hT⟩ := h.tp.at_
  have s := sameT_put (T := T) (H := H) (.lst [.ref S, .int i, .int c])
  refine ⟨h.tp.put i c, h.hp.sameT s (h.hp.ne hT fun o z => nomatch z), h.hD.sameT s (h.hD.ne hT fun o z => nomatch z), h.hW.sameT hT s, ?_, by rw [upd_ne h.neE]; exact h.hE⟩
  obtain ⟨ps, h1, h2⟩ := h.tg
  exact ⟨ps, by rw [upd_ne (ne_of h1 hT fun z => nomatch z)]; exact h1, h2⟩
end
theorem tabG_but {H H' : Hp} {T S Pt : Addr} {ns : List Int} (t : GxR.TabG H Pt) (tp : Tape H T S ns) (s : SameT T H H') : GxR.TabG H' Pt := by
  obtain ⟨i, c, hT⟩ := tp.at_
  obtain ⟨ps, h1, h2⟩ := t
  exact ⟨ps, s _ _ (ne_of h1 hT fun z => nomatch z) h1, h2⟩
mutual
theorem dp_move {K : PySem.W.Frag} {H H' : Hp} (eL : ∀ a xs, SqL K H a xs → SqL K H' a xs) (eT : ∀ a xs, SqT K H a xs → SqT K H' a xs) : ∀ {v : V} {d : PyData}, Dp K H v d → Dp K H' v d
  | _, _, .non => .non
  | _, _, .bl b => .bl b
  | _, _, .int i => .int i
  | _, _, .str x => .str x
  | _, _, .lst h a => .lst (eL _ _ h) (dpAll_move eL eT a)
  | _, _, .tup h a => .tup (eT _ _ h) (dpAll_move eL eT a)
theorem dpAll_move {K : PySem.W.Frag} {H H' : Hp} (eL : ∀ a xs, SqL K H a xs → SqL K H' a xs) (eT : ∀ a xs, SqT K H a xs → SqT K H' a xs) : ∀ {vs : List V} {ds : List PyData}, DpAll K H vs ds → DpAll K H' vs ds
  | _, _, .nil => .nil
  | _, _, .cons h t => .cons (dp_move eL eT h) (dpAll_move eL eT t)
end
theorem dpAll_tab {K : PySem.W.Frag} {H H' : Hp} {Pt : Addr} {vs : List V} {ds : List PyData} (h : DpAll K H vs ds) (t : GxR.TabG H Pt) (s : SameT Pt H H') : DpAll K H' vs ds := by
  obtain ⟨ps, h1, h2⟩ := t
  refine dpAll_move (fun a xs q => ?_) (fun a xs q => TpS.tab (K := K) q ⟨ps, h1, h2⟩ s) h
  rcases q with (q | ⟨o, q⟩) | q
  · exact .inl (.inl (s _ _ (ne_of q h1 fun z => nomatch z) q))
  · exact .inl (.inr ⟨o, s _ _ (ne_of q h1 fun z => nomatch z) q⟩)
  · exact .inr q
theorem turned {K : PySem.W.Frag} {σ : L2.St} {H : Hp} {Q : VK} {D : Addr} {rs : List Str} {k : Nat} (h4 : σ[4]? = some (some (.ref D))) (h15 : σ[15]? = some (some (.int (k : Int)))) (hD : TpO H D (rs.map V.str)) (hk : k < rs.length) (hl : rs.length ≤ 1000)
    (q : ∀ (o : Addr) (H' : Hp), Same H H' → TpS K H' o ((rs.drop k ++ rs.take k).map V.str) → Q (.ref o) H') :
    tOp (rCatZ K) (tSl (rSlA K) (tVar 4) (tPart (tVar 15)) tNoPart) (tSl (rSlA K) (tVar 4) tNoPart (tPart (tVar 15))) σ H Q := by
  refine ⟨_, h4, _, h15, _, rfl, D, _, rfl, hD.sqt, fun whole => ?_, fun part x hx => ?_⟩
  · have k0 : k = 0 := by
      have z := whole.1
      rw [HT.sIx_nat, List.length_map] at z
      omega
    subst k0
    refine ⟨_, h4, _, h15, _, rfl, D, _, rfl, hD.sqt, fun z => ?_, fun _ y hy => ?_⟩
    · have z2 := z.2
      rw [HT.sIx_nat, List.length_map] at z2
      omega
    · have s1 := same_new hy (.tup (cutV (rs.map V.str) none (some ((0 : Nat) : Int))))
      refine ⟨D, y, _, _, rfl, rfl, (hD.same s1).sqt, sqt upd_same, ?_, ?_, fun _ => q D _ s1 ?_, fun z => ?_⟩
      · intro z
        rw [List.map_eq_nil_iff] at z
        rw [z] at hk
        exact Nat.lt_irrefl _ hk
      · have z := cutV_length (rs.map V.str) none (some ((0 : Nat) : Int))
        have z3 : 2000 ≤ sizeLine := by decide
        rw [List.length_map] at z ⊢
        omega
      · rw [List.drop_zero, List.take_zero, List.append_nil]
        exact (hD.same s1).sqt
      · rw [cut_to (Nat.zero_le _)] at z
        exact absurd (List.take_zero ..) z
  · have s1 := same_new hx (.tup (cutV (rs.map V.str) (some (k : Int)) none))
    have e1 : cutV (rs.map V.str) (some (k : Int)) none = (rs.drop k).map V.str := by rw [cut_from (by rw [List.length_map]; omega), List.map_drop]
    rw [e1] at s1 ⊢
    refine ⟨_, h4, _, h15, _, rfl, D, _, rfl, (hD.same s1).sqt, fun z => ?_, fun _ y hy => ?_⟩
    · have z2 := z.2
      rw [HT.sIx_nat, List.length_map] at z2
      omega
    · have s2 := same_new hy (.tup (cutV (rs.map V.str) none (some (k : Int))))
      have e2 : cutV (rs.map V.str) none (some (k : Int)) = (rs.take k).map V.str := by rw [cut_to (by rw [List.length_map]; omega), List.map_take]
      rw [e2] at s2 ⊢
      have k0 : 0 < k := by
        rcases Nat.eq_zero_or_pos k with z | z
        · exfalso
          apply part
          rw [z]
          exact ⟨by rw [HT.sIx_nat]; exact Nat.zero_min _, by rw [HT.sIx_none]⟩
        · exact z
      refine ⟨x, y, _, _, rfl, rfl, sqt (s2 _ _ upd_same), sqt upd_same, ?_, ?_, fun z => ?_, fun _ o u ho hu => q o _ (s1.trans (s2.trans (same_new ho u))) ?_⟩
      · intro z
        have z2 := congrArg List.length z
        rw [List.length_map, List.length_drop, List.length_nil] at z2
        omega
      · rw [List.length_map, List.length_map, List.length_drop, List.length_take]
        have : 2000 ≤ sizeLine := by decide
        omega
      · have z2 := congrArg List.length z
        rw [List.length_map, List.length_take, List.length_nil] at z2
        omega
      · rw [← List.map_append] at hu
        exact (TpO.new hu).sqt
section
variable {P : Program} {w : World} {K : PySem.W.Frag} {mg : Str → Option Value} {base : Heap}
def spLaw (K : PySem.W.Frag) (Pt : Addr) : Sp := fun vs H Q _ => ∃ (a : Addr) (ns : List Int), vs = [.ref a] ∧ SqL K H a (ns.map V.int) ∧ ns.length ≤ 63 ∧ GxR.TabG H Pt ∧ ∀ H', Q (.bl true) H'
abbrev nLaw : List Str := ["script", "tape", "turn", "wants", "day", "pile", "here", "whole", "each", "days", "numbers", "rows", "daily", "there", "far", "at", "other", "book", "many"]
theorem scLaw : FnScope nLaw ["script"] (defScope sLaw) := ⟨rfl, rfl, rfl, by decide +kernel, rfl, by decide +kernel, by decide +kernel⟩
theorem ok_law {f Pt : Addr} {fd : FuncData} (F : Fun K "law" "law" sLaw f fd) (B : Bi mg) (cD : Has P w K mg base 1 "_law_draw" ["tape", "many"] spDraw) (cWa : Has P w K mg base 2 "_law_wants" ["tape", "books", "readers"] spWants)
    (cDy : Has P w K mg base 3 "_law_day" ["tape", "wants"] spDay) (cBw : Has P w K mg base 3 "_law_below" ["tape", "wants"] spBelow) (cRd : Has P w K mg base 1 "_law_read" ["pile", "readings"] (spRead K))
    (cTw : Has P w K mg base 1 "_law_two" ["books", "rows"] (spTwo K)) (cLk : Has P w K mg base 4 "_law_like" ["one", "two"] (spLike K 4)) (cLt : Has P w K mg base 2 "_law_later_day" ["wants", "day"] (spLater K))
    (cFp : Has P w K mg base 3 "far_pile" ["pile", "day", "days"] (spFarP K)) (cFl : Has P w K mg base 3 "far_lifted" ["pile", "day", "days"] (spFarL K)) (cEa : Has P w K mg base 4 "each_day" ["wants", "day"] (spEach K Pt))
    (cDp : Has P w K mg base 4 "day_passings" ["wants", "day"] (spDayP K Pt)) : FnOk P w K mg base CX0 5 f fd ["script"] (spLaw K Pt) := by
  refine F.ok scLaw (fun vs H Q E h => ?_) (fun cdv A outer s H vs Q E hr h => ?_)
  · obtain ⟨a, ns, rfl, _⟩ := h
    rfl
  obtain ⟨a, ns, rfl, hS, h63, tg0, q⟩ := h
  refine ⟨_, pss_cons (ps_set (i := 1) scLaw.nd rfl (.inl rfl) (pe_lst (pa_cons (pe_callTy call_list_of (by rfl) B.list (by decide +kernel) (pa_cons (pv 0) pa_nil)) (pa_cons pe_int (pa_cons pe_int pa_nil)))))
    (pss_cons (ps_for PassesOwn.never rfl (pi_range1 (by rfl) B.range (pa_cons pe_int pa_nil)) (pg_name (i := 2) scLaw.nd rfl (.inl rfl))
      (pss_cons (ps_set (i := 3) scLaw.nd rfl (.inl rfl) (pe_go cWa hr (by decide) rfl (pa_cons (pv 1) (pa_cons pe_int (pa_cons pe_int pa_nil)))))
      (pss_cons (ps_par (i := 4) (j := 5) (by rfl) scLaw.nd rfl rfl (by decide) rfl rfl (pa_cons (pe_go cDy hr (by decide) rfl (pa_cons (pv 1) (pa_cons (pv 3) pa_nil))) (pa_cons (pe_go cBw hr (by decide) rfl (pa_cons (pv 1) (pa_cons (pv 3) pa_nil))) pa_nil)) (by rfl))
      (pss_cons (ps_par3 (i := 6) (j := 7) (l := 8) (by rfl) scLaw.nd rfl rfl rfl (by decide) (by decide) (by decide) rfl rfl rfl (pa_cons (pv 5) (pa_cons pe_int (pa_cons (pe_lst pa_nil) pa_nil))) (by rfl))
      (pss_cons (ps_for PassesOwn.never rfl (pi_range1 (by rfl) B.range (pa_cons pe_int pa_nil)) (pg_name (i := 9) scLaw.nd rfl (.inl rfl))
        (pss_cons (ps_if (PW.pt (pw_or (pt_not (pt_val (pe_go cLk hr (by decide) rfl (pa_cons (pe_go cFp hr (by decide) rfl (pa_cons (pv 5) (pa_cons (pv 4) (pa_cons (pv 9) pa_nil)))) (pa_cons (pv 6) pa_nil)))))
            (pw_or1 (pt_not (pt_val (pe_go cLk hr (by decide) rfl (pa_cons (pe_go cFl hr (by decide) rfl (pa_cons (pv 5) (pa_cons (pv 4) (pa_cons (pv 9) pa_nil)))) (pa_cons (pv 7) pa_nil)))))))) (pss_one (ps_ret pe_bl)) pss_nil)
        (pss_cons (ps_asg (pe_go cRd hr (by decide) rfl (pa_cons (pv 6) (pa_cons (pv 4) pa_nil))) (pg_tup rfl (pgs_cons (pg_name (i := 6) scLaw.nd rfl (.inl rfl)) (pgs_cons (pg_name (i := 10) scLaw.nd rfl (.inl rfl)) (pgs_cons (pg_name (i := 11) scLaw.nd rfl (.inl rfl)) pgs_nil)))))
        (pss_cons (ps_expr (pe_bm PySem.F.plainAttrs_list PySem.F.slot_list_append PySem.F.type_list_append mt_append (pv 8) (pa_cons (pe_callB (cr_sum rfl) (by rfl) B.sum (by decide +kernel) (pa_cons (pv 10) pa_nil)) pa_nil)))
        (pss_one (ps_set (i := 7) scLaw.nd rfl (.inl rfl) (pe_op op_add (pv 7) (pe_ix ix_list (pv 8) (pe_un un_neg pe_int) (fun _ _ => rfl)))))))))
      (pss_cons (ps_set (i := 12) scLaw.nd rfl (.inl rfl) (pe_go cEa hr (by decide) rfl (pa_cons (pv 3) (pa_cons (pv 4) pa_nil))))
      (pss_cons (ps_if (pt_cmpR (op_neD hr.units) (pe_slice sl_list (pv 8) (po_some pe_int) po_none) (pe_op op_rep (pe_lst (pa_cons (pv 12) pa_nil)) pe_int) (nomark _)) (pss_one (ps_ret pe_bl)) pss_nil)
      (pss_cons (ps_asg (pe_go cLt hr (by decide) rfl (pa_cons (pv 3) (pa_cons (pv 4) pa_nil))) (pg_tup rfl (pgs_cons (pg_name (i := 13) scLaw.nd rfl (.inl rfl)) (pgs_cons (pg_name (i := 10) scLaw.nd rfl (.inl rfl)) (pgs_cons (pg_name (i := 11) scLaw.nd rfl (.inl rfl)) pgs_nil)))))
      (pss_cons (ps_if (pt_not (pt_val (pe_go cLk hr (by decide) rfl (pa_cons (pv 12) (pa_cons (pe_callB (cr_sum rfl) (by rfl) B.sum (by decide +kernel) (pa_cons (pv 10) pa_nil)) pa_nil))))) (pss_one (ps_ret pe_bl)) pss_nil)
      (pss_cons (ps_if (pt_not (pt_val (pe_go cLk hr (by decide) rfl (pa_cons (pe_go cDp hr (by decide) rfl (pa_cons (pv 3) (pa_cons (pv 4) pa_nil))) (pa_cons (pe_go cTw hr (by decide) rfl (pa_cons
          (pe_lc (own := [("book", 17), ("many", 18)]) (g := gTup K 2 (gCons (gName 17) (gCons (gName 18) gNil))) (tt := tYes) (by rfl) scLaw.nd (pi_tup (pv 3))
            (blkOk_by (own := [("book", 17), ("many", 18)]) (N := nLaw) (sc := defScope sLaw) (by decide +kernel))
            (fun _ _ _ _ _ => pg_tup rfl (pgs_cons (pg_name (i := 17) scLaw.nd rfl (.inl rfl)) (pgs_cons (pg_name (i := 18) scLaw.nd rfl (.inl rfl)) pgs_nil))) (fun _ _ _ _ _ => pts_nil) (fun _ _ _ _ _ => pv 17))
          (pa_cons (pv 11) pa_nil))) pa_nil))))) (pss_one (ps_ret pe_bl)) pss_nil)
      (pss_cons (ps_set (i := 14) scLaw.nd rfl (.inl rfl) (pe_op op_add pe_int (pe_go cD hr (by decide) rfl (pa_cons (pv 1) (pa_cons (pe_op op_pow pe_int pe_int) pa_nil)))))
      (pss_cons (ps_if (pt_not (pt_val (pe_go cLk hr (by decide) rfl (pa_cons (pe_go cFl hr (by decide) rfl (pa_cons (pv 5) (pa_cons (pv 4) (pa_cons (pv 14) pa_nil))))
          (pa_cons (pe_op op_add (pe_ix ix_list (pv 8) pe_int (fun _ _ => rfl)) (pe_op op_mul (pe_op op_sub (pv 14) pe_int) (pv 12))) pa_nil))))) (pss_one (ps_ret pe_bl)) pss_nil)
      (pss_cons (ps_if (pt_cmpR (op_neD hr.units) (pe_go cFp hr (by decide) rfl (pa_cons (pv 5) (pa_cons (pv 4) (pa_cons (pv 14) pa_nil)))) (pe_go cFp hr (by decide) rfl (pa_cons (pv 5) (pa_cons (pv 4) (pa_cons pe_int pa_nil)))) (nomark _)) (pss_one (ps_ret pe_bl)) pss_nil)
      (pss_cons (ps_set (i := 15) scLaw.nd rfl (.inl rfl) (pe_go cD hr (by decide) rfl (pa_cons (pv 1) (pa_cons (pe_callB call_len_seq (by rfl) B.len PySem.boot_len (pa_cons (pv 4) pa_nil)) pa_nil))))
      (pss_one (ps_for PassesOwn.never rfl (pi_list (pe_lst (pa_cons (pe_op op_catZ (pe_slice sl_tupA (pv 4) (po_some (pv 15)) po_none) (pe_slice sl_tupA (pv 4) po_none (po_some (pv 15)))) (pa_cons (pe_revT (pv 4)) pa_nil)))) (pg_name (i := 16) scLaw.nd rfl (.inl rfl))
        (pss_one (ps_if (PW.pt (pw_or (pt_cmpR (op_neD hr.units) (pe_go cDp hr (by decide) rfl (pa_cons (pv 3) (pa_cons (pv 16) pa_nil))) (pe_go cDp hr (by decide) rfl (pa_cons (pv 3) (pa_cons (pv 4) pa_nil))) (nomark _))
            (pw_or1 (pt_cmpR op_ne (pe_go cEa hr (by decide) rfl (pa_cons (pv 3) (pa_cons (pv 16) pa_nil))) (pv 12) (nomark _))))) (pss_one (ps_ret pe_bl)) pss_nil))))))))))))))))))
    (pss_one (ps_ret pe_bl))), ?_⟩
  refine ⟨_, rfl, a, _, rfl, .inl hS, fun S hS0 => ⟨(by show 3 ≤ sizeLine; decide), fun T hT0 => ?_⟩⟩
  have tp0 : Tape (upd (upd H S (.lst (ns.map V.int))) T (.lst [.ref S, .int 0, .int 0])) T S ns := ⟨⟨0, 0, upd_same⟩, by rw [upd_ne (ne_of_none upd_same hT0)]; exact upd_same⟩
  have tg1 := tabG_same (tabG_same tg0 (same_new hS0 (.lst (ns.map V.int)))) (same_new hT0 (.lst [.ref S, .int 0, .int 0]))
  refine ⟨4, rfl, by decide, by decide, for_range (lo := 0) (n := 4) (fun i σ H' => (∃ l : List (Option V), l.length = 17 ∧ σ = some (.ref a) :: some (.ref T) :: l) ∧ Tape H' T S ns ∧ GxR.TabG H' Pt)
    ⟨⟨List.replicate 17 none, rfl, rfl⟩, tp0, tg1⟩ ?_ ?_⟩
  · rintro i σ H1 hi ⟨⟨l, ll, rfl⟩, tp, tg⟩
    obtain ⟨y2, y3, y4, y5, y6, y7, y8, y9, y10, y11, y12, y13, y14, y15, y16, y17, y18, rfl⟩ : ∃ y2 y3 y4 y5 y6 y7 y8 y9 y10 y11 y12 y13 y14 y15 y16 y17 y18, l = [y2, y3, y4, y5, y6, y7, y8, y9, y10, y11, y12, y13, y14, y15, y16, y17, y18] := by
      match l, ll with
      | [y2, y3, y4, y5, y6, y7, y8, y9, y10, y11, y12, y13, y14, y15, y16, y17, y18], _ => exact ⟨_, _, _, _, _, _, _, _, _, _, _, _, _, _, _, _, _, rfl⟩
    obtain ⟨ti, tc, hTT⟩ := tp.at_
    -- wants
    refine ⟨_, rfl, T, S, ns, 5, 7, rfl, tp, by decide, by decide, by decide, by decide, fun W H2 ws sm2 tp2 nW hW isW => ?_⟩
    have tg2 := tabG_but tg tp sm2
    have lw : ws.length ≤ 5 := by
      have z := isW.sub.length_le
      rw [List.length_map, List.length_take] at z
      omega
    have subB : (wnames ws).Sublist books := isW.sub.trans (List.take_sublist _ _)
    have ndW : (wnames ws).Nodup := books_nd.sublist subB
    have lf : (flat ws).length ≤ 7 := by rw [flat_len]; exact isW.few
    -- day, pile
    refine ⟨_, rfl, _, rfl, T, S, W, ns, ws, rfl, tp2, hW, by omega, by omega, fun D H3 rs sm3 tp3 nD hD pm => ?_⟩
    obtain ⟨t2i, t2c, hT2⟩ := tp2.at_
    obtain ⟨t3i, t3c, hT3⟩ := tp3.at_
    have hW3 := hW.sameT hT2 sm3
    have tg3 := tabG_but tg2 tp2 sm3
    refine ⟨_, rfl, _, rfl, T, S, W, ns, ws, rfl, tp3, hW3, subB, fun p H4 bs sm4 tp4 np hp nd lb inb wi => ⟨_, _, rfl, ?_⟩⟩
    have hW4 := hW3.sameT hT3 sm4
    have tg4 := tabG_but tg3 tp3 sm4
    have hD4 := hD.sameT sm4 (hD.ne hT3 fun o z => nomatch z)
    have lr : rs.length ≤ 7 := by rw [pm.length_eq]; exact lf
    have rW : ∀ b ∈ rs, b ∈ wnames ws := fun b hb => flat_mem (pm.mem_iff.mp hb)
    have Wr : ∀ b ∈ wnames ws, b ∈ rs := fun b hb => pm.mem_iff.mpr (mem_flat isW.pos hb)
    have rB : ∀ b ∈ rs, b ∈ bs := fun b hb => wi b (rW b hb)
    have r0 : 0 < rs.length := by
      cases e : ws with
      | nil => exact absurd e isW.some_
      | cons z zs => exact List.length_pos_of_mem (Wr z.1 (by rw [e]; exact List.mem_cons_self))
    have okB : ∀ b ∈ bs, PyData.strOk b = true := fun b hb => books_ok b (inb b hb)
    have okW : ∀ b ∈ wnames ws, PyData.strOk b = true := fun b hb => books_ok b (subB.subset hb)
    refine ⟨_, rfl, Nat.zero_le _, fun E hE => ⟨_, _, _, rfl, ?_⟩⟩
    have nE : H4 E = none := hE
    have pmb := behindM_perm rs rB
    have rB2 : ∀ b ∈ rs, b ∈ behindM bs rs := fun b hb => pmb.mem_iff.mpr (rB b hb)
    have again := day_again nd rB
    have each := day_each nd ndW rB rW Wr
    have l1 := lifted_small rB
    have l2 := lifted_small rB2
    rw [pmb.length_eq] at l2
    have l49 : rs.length * bs.length ≤ 7 * 7 := Nat.mul_le_mul lr lb
    generalize eL1 : (liftedM bs rs).sum = L1 at l1
    generalize eL2 : (liftedM (behindM bs rs) rs).sum = L2 at l2
    have ePl : ∀ j : Nat, (if 0 < (0 + (j : Int)) then behindM bs rs else bs) = if j = 0 then bs else behindM bs rs := fun j => by
      by_cases c : j = 0
      · rw [if_pos c, if_neg (by omega)]
      · rw [if_neg c, if_pos (by omega)]
    have eWh : ∀ j : Nat, (if (0 + (j : Int)) ≤ 0 then (0 : Int) else (L1 : Int) + ((0 + (j : Int)) - 1) * (L2 : Int)) = if j = 0 then 0 else (L1 : Int) + ((j : Int) - 1) * (L2 : Int) := fun j => by
      by_cases c : j = 0
      · rw [if_pos c, if_pos (by omega)]
      · rw [if_neg c, if_neg (by omega), Int.zero_add]
    have s5 := same_new hE (.lst [])
    have plm : ∀ j : Nat, (if j = 0 then bs else behindM bs rs).Perm bs := fun j => by
      by_cases c : j = 0
      · rw [if_pos c]
      · rw [if_neg c]
        exact pmb
    refine ⟨5, rfl, by decide, by decide, for_range (lo := 0) (n := 5) (fun j σ H' => ∃ (h : Addr) (y2 y9 y10 y11 : Option V), σ = [some (.ref a), some (.ref T), y2, some (.ref W), some (.ref D), some (.ref p), some (.ref h), some (.int (if j = 0 then 0 else (L1 : Int) + ((j : Int) - 1) * (L2 : Int))), some (.ref E), y9, y10, y11, y12, y13, y14, y15, y16, y17, y18] ∧
        Same H4 H' ∧ SqT K H' h ((if j = 0 then bs else behindM bs rs).map V.str) ∧ H' E = some (.lst (((List.range j).map fun k => if k = 0 then (L1 : Int) else (L2 : Int)).map V.int)))
      ⟨p, _, _, _, _, rfl, s5, (hp.same s5).sqt, upd_same⟩ ?_ ?_⟩
    · rintro j σ H6 hj ⟨h, y2, y9, y10, y11, rfl, s6, hh, hE6⟩
      have okP : ∀ b ∈ (if j = 0 then bs else behindM bs rs), PyData.strOk b = true := fun b hb => okB b ((plm j).mem_iff.mp hb)
      have lP : (if j = 0 then bs else behindM bs rs).length ≤ 7 := by rw [(plm j).length_eq]; exact lb
      refine ⟨_, rfl, _, rfl, _, rfl, p, D, bs, rs, 0 + (j : Int), rfl, hp.same s6, (hD4.same s6).tps, by omega, rB, fun o H7 s7 ho => ?_⟩
      rw [ePl] at ho
      have fP := fine_strs (ss := if j = 0 then bs else behindM bs rs) (by omega) okP 2
      refine ⟨_, rfl, _, _, _, 3, rfl, rfl, .tup ho.sqt (dpAll_strs _), .tup (same_tup s7 hh) (dpAll_strs _), fP, fun H8 s8 => ⟨true, rfl, ?_⟩⟩
      have s68 := s7.trans s8
      refine ⟨_, rfl, _, rfl, _, rfl, p, D, bs, rs, 0 + (j : Int), rfl, (hp.same s6).same s68, ((hD4.same s6).same s68).tps, lb, by omega, rB, fun H9 s9 => ?_⟩
      rw [eL1, eL2, eWh]
      refine ⟨_, rfl, _, _, _, 3, rfl, rfl, .int _, .int _, trivial, fun H10 s10 => ⟨true, rfl, ?_⟩⟩
      have s610 := s68.trans (s9.trans s10)
      have mP : ∀ b ∈ rs, b ∈ (if j = 0 then bs else behindM bs rs) := fun b hb => (plm j).mem_iff.mpr (rB b hb)
      refine ⟨_, rfl, _, rfl, h, D, _, rs, rfl, .inr (same_tup s610 hh), ((hD4.same s6).same s610).tps, lP, by omega, mP, fun t2 a2 n2 o2 H11 ts s11 ht ha hn ho2 plr => ?_⟩
      refine ⟨t2, _, rfl, sqt ht, rfl, _, _, rfl, _, _, rfl, _, _, rfl, rfl, ?_⟩
      have s611 := s610.trans s11
      have hE11 := s611 _ _ hE6
      rw [natV_map] at hn
      refine ⟨_, rfl, .inl ⟨rfl, _, sql hE11⟩, _, rfl, n2, _, rfl, sql hn, E, _, _, rfl, rfl, hE11, by rw [List.length_map, List.length_map, List.length_range]; exact small1000 (by omega), ?_⟩
      have ev : ((liftedM (if j = 0 then bs else behindM bs rs) rs).map fun k : Nat => (k : Int)).sum = if j = 0 then (L1 : Int) else (L2 : Int) := by
        rw [sum_nat]
        by_cases c : j = 0
        · rw [if_pos c, if_pos c, eL1]
        · rw [if_neg c, if_neg c, eL2]
      rw [ev]
      have e12 : ((List.range j).map fun k => if k = 0 then (L1 : Int) else (L2 : Int)).map V.int ++ [V.int (if j = 0 then (L1 : Int) else (L2 : Int))] = ((List.range (j + 1)).map fun k => if k = 0 then (L1 : Int) else (L2 : Int)).map V.int := by
        rw [List.range_succ, List.map_append, List.map_append]
        rfl
      refine ⟨_, rfl, _, rfl, _, rfl, E, _, _, .int (if j = 0 then (L1 : Int) else (L2 : Int)), rfl, rfl, sql upd_same, atI_last _ _, _, _, rfl, rfl, ?_⟩
      rw [e12]
      have nEa : E ≠ a2 := fun z => by
        rw [← z, hE11] at ha
        cases ha
      refine ⟨a2, y2, some (.int (0 + (j : Int))), some (.ref n2), some (.ref o2), ?_, same_put (s6.trans s611) nE, ?_, upd_same⟩
      · have e : (if j = 0 then (0 : Int) else (L1 : Int) + ((j : Int) - 1) * (L2 : Int)) + (if j = 0 then (L1 : Int) else (L2 : Int)) = if j + 1 = 0 then 0 else (L1 : Int) + (((j + 1 : Nat) : Int) - 1) * (L2 : Int) := by
          rw [if_neg (Nat.succ_ne_zero j)]
          by_cases c : j = 0
          · rw [if_pos c, if_pos c, c]
            omega
          · rw [if_neg c, if_neg c, show ((j + 1 : Nat) : Int) - 1 = ((j : Int) - 1) + 1 by omega, Int.add_mul, Int.one_mul, Int.add_assoc]
        rw [← e]
        rfl
      · rw [if_neg (Nat.succ_ne_zero j)]
        have e : behindM (if j = 0 then bs else behindM bs rs) rs = behindM bs rs := by
          by_cases c : j = 0
          · rw [if_pos c]
          · rw [if_neg c, again]
        rw [e] at ha
        exact sqt (by rw [upd_ne nEa.symm]; exact ha)
    · rintro σ H6 ⟨h, y2, y9, y10, y11, rfl, s6, hh, hE6⟩
      have eEs : ((List.range 5).map fun k => if k = 0 then (L1 : Int) else (L2 : Int)) = [(L1 : Int), (L2 : Int), (L2 : Int), (L2 : Int), (L2 : Int)] := rfl
      rw [eEs] at hE6
      have wd6 : Wd H6 T S p D W E Pt ns bs rs ws [(L1 : Int), (L2 : Int), (L2 : Int), (L2 : Int), (L2 : Int)] := ⟨tp4.same s6, hp.same s6, hD4.same s6, hW4.same s6, tabG_same tg4 s6, hE6⟩
      clear hE6 hh s6
      -- daily
      refine ⟨_, rfl, _, rfl, W, D, ws, rs, rfl, wd6.hW, wd6.hD.tps, by omega, by omega, rW, wd6.tg, fun H7 s7 tg7 => ?_⟩
      have wd7 := wd6.tab s7 tg7
      rw [← each, eL2]
      -- each[1:] != [daily] * 4
      refine ⟨_, rfl, _, rfl, E, _, rfl, sql wd7.hE, fun c hc => ?_⟩
      have s8 := same_new hc (.lst (cutV ([(L1 : Int), (L2 : Int), (L2 : Int), (L2 : Int), (L2 : Int)].map V.int) (some 1) none))
      have ecut : cutV ([(L1 : Int), (L2 : Int), (L2 : Int), (L2 : Int), (L2 : Int)].map V.int) (some 1) none = [(L2 : Int), (L2 : Int), (L2 : Int), (L2 : Int)].map V.int := by
        have z := cut_from (xs := [(L1 : Int), (L2 : Int), (L2 : Int), (L2 : Int), (L2 : Int)].map V.int) (j := 1) (by simp)
        exact z
      rw [ecut] at s8 ⊢
      have wd8 := wd7.same s8
      have hc8 : upd H7 c (.lst ([(L2 : Int), (L2 : Int), (L2 : Int), (L2 : Int)].map V.int)) c = some (.lst ([(L2 : Int), (L2 : Int), (L2 : Int), (L2 : Int)].map V.int)) := upd_same
      generalize upd H7 c (.lst ([(L2 : Int), (L2 : Int), (L2 : Int), (L2 : Int)].map V.int)) = H8 at wd8 hc8 ⊢
      refine ⟨_, rfl, (by show 1 ≤ sizeLine; decide), fun b hb => ⟨b, 4, _, rfl, rfl, upd_same, by decide, by decide, (by show 1 * 4 ≤ sizeLine; decide), fun d hd => ?_⟩⟩
      have s9 := (same_new hb (.lst [V.int (L2 : Int)])).trans (same_new hd (.lst (List.replicate (4 : Int).toNat [V.int (L2 : Int)]).flatten))
      have wd9 := wd8.same s9
      have hc9 := s9 _ _ hc8
      have hd9 : upd (upd H8 b (.lst [V.int (L2 : Int)])) d (.lst (List.replicate (4 : Int).toNat [V.int (L2 : Int)]).flatten) d = some (.lst ([(L2 : Int), (L2 : Int), (L2 : Int), (L2 : Int)].map V.int)) := upd_same
      generalize upd (upd H8 b (.lst [V.int (L2 : Int)])) d (.lst (List.replicate (4 : Int).toNat [V.int (L2 : Int)]).flatten) = H9 at wd9 hc9 hd9 ⊢
      have f4 : Fine 3 (.list ([(L2 : Int), (L2 : Int), (L2 : Int), (L2 : Int)].map PyData.int)) := by
        have z := fine_nats (ns := [L2, L2, L2, L2]) (by simp) 2
        exact z
      refine ⟨_, _, .lst (sql hc9) (dpAll_ints _), .lst (sql hd9) (dpAll_ints _), fine_shaped f4 (by decide), fine_shaped f4 (by decide), false, by rw [fine_eqv f4]; rfl, ?_⟩
      -- the second day by hand
      refine ⟨_, rfl, _, rfl, W, D, ws, rs, rfl, wd9.hW, wd9.hD.tps, by omega, by omega, rW, fun t2 a2 n2 o2 H10 ts s10 ht ha hn ho2 plr => ?_⟩
      refine ⟨t2, _, rfl, sqt ht, rfl, _, _, rfl, _, _, rfl, _, _, rfl, rfl, ?_⟩
      have wd10 := wd9.same s10
      rw [natV_map] at hn
      refine ⟨_, rfl, _, rfl, n2, _, rfl, sql hn, ?_⟩
      rw [sum_nat, ← each, eL2]
      refine ⟨_, _, _, 3, rfl, rfl, .int _, .int _, trivial, fun H11 s11 => ⟨true, rfl, ?_⟩⟩
      have wd11 := wd10.same s11
      have ho11 := s11 _ _ ho2
      have pl11 := plr.move (KeepT.of s11)
      have pmW := behindM_perm rs rW
      have rW2 : ∀ b ∈ rs, b ∈ behindM (wnames ws) rs := fun b hb => pmW.mem_iff.mpr (rW b hb)
      -- passings
      refine ⟨_, rfl, _, rfl, W, D, ws, rs, rfl, wd11.hW, wd11.hD.tps, by omega, by omega, rW, wd11.tg, fun l12 H12 ys xs s12 tg12 pys so hl12 dp12 => ?_⟩
      have wd12 := wd11.tab s12 tg12
      have ho12 := s12 _ _ (tabG_ne wd11.tg ho11).symm ho11
      have pl12 := pl11.move fun b' zs e => s12 _ _ (by obtain ⟨ps, h3, _⟩ := wd11.tg; exact ne_of e h3 fun z => nomatch z) e
      obtain ⟨ts12, hW12, wl12⟩ := wd12.hW
      refine ⟨_, rfl, W, rfl, ⟨_, hW12.sqt⟩, fun Dn hDn => lc_tup (K := K) (a := W) (xs := ts12.map V.ref) (fun i H' => SameT Dn H12 H' ∧ H' Dn = some (.lst ((wnames (ws.take i)).map V.str)))
        ⟨SameT.of (same_new hDn _), upd_same⟩ (fun i H' _ h' => (hW12.sameT h'.1 (hW12.taken hDn)).sqt) ?_ ?_⟩
      · rintro i x H' hx ⟨sD, hD'⟩
        obtain ⟨t, ht', rfl⟩ := refs_get hx
        have hi : i < ts12.length := (List.getElem?_eq_some_iff.mp ht').1
        have hp' : ws[i]? = some (ws[i]'(by rw [← wl12.1]; exact hi)) := List.getElem?_eq_getElem _
        generalize ws[i]'(by rw [← wl12.1]; exact hi) = pr at hp'
        have e2 := wl12.2 i t pr ht' hp'
        have hT' := sD _ _ (ne_of_none e2 hDn) e2
        refine ⟨t, _, rfl, sqt hT', rfl, _, _, rfl, _, _, rfl, rfl, rfl, _, rfl, _, hD', ?_, fun b' o n h' => ?_, ?_⟩
        · rw [List.length_map, wn_len, List.length_take]
          exact small1000 (by omega)
        · rw [upd_ne n]
          exact sD b' o n h'
        · rw [upd_same, List.take_add_one, hp']
          show some (HO.lst (_ ++ [V.str pr.1])) = some (.lst (((ws.take i ++ [pr]).map _).map V.str))
          rw [List.map_append, List.map_append]
          rfl
      · rintro H13 ⟨sD, hD13⟩
        rw [List.length_map, wl12.1, List.take_length] at hD13
        have s13 : Same H12 H13 := fun b' o h' => sD b' o (ne_of_none h' hDn) h'
        have wd13 := wd12.same s13
        have rlen := rowsM_len rs rW2
        have rl49 : rs.length * (behindM (wnames ws) rs).length ≤ 7 * 7 := Nat.mul_le_mul lr (by rw [pmW.length_eq, wn_len]; omega)
        have okRows : ∀ z ∈ rowsM (behindM (wnames ws) rs) rs, PyData.strOk z.1 = true ∧ PyData.strOk z.2 = true := fun z hz => by
          have zz := rowsM_sub rs rW2 z hz
          exact ⟨okW _ (pmW.mem_iff.mp zz.1), okW _ (pmW.mem_iff.mp zz.2)⟩
        refine ⟨_, rfl, Dn, o2, wnames ws, ts, _, rfl, sql hD13, by rw [wn_len]; omega, okW, s13 _ _ ho12, pl12.move (KeepT.of s13), by omega, okRows, fun tw H14 ys2 xs2 s14 ntw pm2 so2 htw dtw => ?_⟩
        have eys : ys2 = ys := sorted_one so2 so (pm2.trans pys.symm)
        subst eys
        have okY : ∀ b ∈ ys2, PyData.strOk b = true := fun b hb => okW b (pys.mem_iff.mp hb)
        have fTri := fine_tri (ys := ys2) (rows := rowsM (behindM (wnames ws) rs) rs) (by rw [pys.length_eq, wn_len]; omega) okY 1
        have s1214 := s13.trans s14
        refine ⟨_, _, _, 3, rfl, rfl, .lst (sql (s1214 _ _ hl12)) (dpAll_same s1214 dp12), .lst (sql htw) dtw, fTri, fun H15 s15 => ⟨true, rfl, ?_⟩⟩
        have wd15 := wd12.same (s1214.trans s15)
        -- far
        refine ⟨_, rfl, _, _, rfl, rfl, ⟨by decide, by decide, by decide⟩, T, S, ns, _, rfl, wd15.tp, by decide, by decide, fun r i1 c1 r0' r1' => ⟨_, _, rfl, rfl, ?_⟩⟩
        have wd16 := wd15.put i1 c1
        generalize upd H15 T (.lst [.ref S, .int i1, .int c1]) = H16 at wd16 ⊢
        refine ⟨_, rfl, _, rfl, _, rfl, p, D, bs, rs, 1 + r, rfl, wd16.hp, wd16.hD.tps, lb, by omega, rB, fun H17 s17 => ?_⟩
        have wd17 := wd16.same s17
        rw [eL1, eL2, if_neg (by omega : ¬ (1 + r : Int) ≤ 0)]
        refine ⟨_, rfl, E, _, 0, .int (L1 : Int), rfl, rfl, sql wd17.hE, rfl, _, rfl, _, _, rfl, rfl, _, rfl, _, _, rfl, rfl, .inr ⟨by omega, by omega⟩, _, _, rfl, rfl, ?_⟩
        refine ⟨_, _, _, 3, rfl, rfl, .int _, .int _, trivial, fun H18 s18 => ⟨true, rfl, ?_⟩⟩
        have wd18 := wd17.same s18
        -- far piles
        have okBe : ∀ b ∈ behindM bs rs, PyData.strOk b = true := fun b hb => okB b (pmb.mem_iff.mp hb)
        have fBe := fine_strs (ss := behindM bs rs) (by rw [pmb.length_eq]; omega) okBe 2
        refine ⟨_, rfl, _, rfl, _, rfl, p, D, bs, rs, 1 + r, rfl, wd18.hp, wd18.hD.tps, by omega, rB, fun f1 H19 s19 hf1 => ?_⟩
        rw [if_pos (by omega : (0 : Int) < 1 + r)] at hf1
        have wd19 := wd18.same s19
        refine ⟨_, rfl, _, rfl, p, D, bs, rs, 1, rfl, wd19.hp, wd19.hD.tps, by omega, rB, fun f2 H20 s20 hf2 => ?_⟩
        rw [if_pos (by decide : (0 : Int) < 1)] at hf2
        have wd20 := wd19.same s20
        refine ⟨_, _, .tup (hf1.same s20).sqt (dpAll_strs _), .tup hf2.sqt (dpAll_strs _), fine_shaped fBe (by decide), fine_shaped fBe (by decide), false, by rw [fine_eqv fBe]; rfl, ?_⟩
        -- at
        refine ⟨_, rfl, _, rfl, D, _, rfl, .inr wd20.hD.sqt, T, S, ns, _, rfl, wd20.tp, by rw [List.length_map]; omega, by rw [List.length_map]; omega, fun k i2 c2 k0 k1 => ?_⟩
        rw [List.length_map] at k1
        have wd21 := wd20.put i2 c2
        generalize upd H20 T (.lst [.ref S, .int i2, .int c2]) = H21 at wd21 ⊢
        obtain ⟨kn, rfl⟩ : ∃ kn : Nat, k = (kn : Int) := ⟨k.toNat, by omega⟩
        refine turned (K := K) (k := kn) (D := D) (rs := rs) rfl rfl wd21.hD (by omega) (by omega) fun o1 H22 s22 ho1 => ?_
        have wd22 := wd21.same s22
        refine ⟨_, rfl, D, _, rfl, wd22.hD.sqt, fun rv hrv => ⟨(by show 2 ≤ sizeLine; decide), fun L hL => ?_⟩⟩
        have s23 := (same_new hrv (.tup (rs.map V.str).reverse)).trans (same_new hL (.lst [.ref o1, .ref rv]))
        have wd23 := wd22.same s23
        have ho23 := ho1.same s23
        have hv23 : TpS K (upd (upd H22 rv (.tup (rs.map V.str).reverse)) L (.lst [.ref o1, .ref rv])) rv (rs.reverse.map V.str) := by
          rw [List.map_reverse]
          exact sqt (same_new hL (.lst [.ref o1, .ref rv]) _ _ upd_same)
        have hL23 : upd (upd H22 rv (.tup (rs.map V.str).reverse)) L (.lst [.ref o1, .ref rv]) L = some (.lst [.ref o1, .ref rv]) := upd_same
        generalize upd (upd H22 rv (.tup (rs.map V.str).reverse)) L (.lst [.ref o1, .ref rv]) = H23 at wd23 ho23 hv23 hL23 ⊢
        refine ⟨L, rfl, ⟨_, sql hL23⟩, for_list (K := K) (a := L) (xs := [V.ref o1, V.ref rv])
          (fun j σ H' => (∃ y16 : Option V, σ = [some (.ref a), some (.ref T), y2, some (.ref W), some (.ref D), some (.ref p), some (.ref h), some (.int (if 5 = 0 then 0 else (L1 : Int) + (((5 : Nat) : Int) - 1) * (L2 : Int))), some (.ref E), y9, some (.ref n2), some (.ref o2), some (.int (L2 : Int)), some (.ref a2), some (.int (1 + r)), some (.int (kn : Int)), y16, y17, y18]) ∧
            Wd H' T S p D W E Pt ns bs rs ws [(L1 : Int), (L2 : Int), (L2 : Int), (L2 : Int), (L2 : Int)] ∧ H' L = some (.lst [.ref o1, .ref rv]) ∧ TpS K H' o1 ((rs.drop kn ++ rs.take kn).map V.str) ∧ TpS K H' rv (rs.reverse.map V.str))
          ⟨⟨_, rfl⟩, wd23, hL23, ho23, hv23⟩ (fun j σ H' _ h' => sql h'.2.2.1) ?_ ?_⟩
        · rintro j x σ H24 hx ⟨⟨y16', rfl⟩, wd24, hL24, ho24, hv24⟩
          obtain ⟨o, rs', rfl, hos, pr, cy⟩ : ∃ (o : Addr) (rs' : List Str), x = .ref o ∧ TpS K H24 o (rs'.map V.str) ∧ rs'.Perm rs ∧ ∀ x y, cyc (two x y rs') = cyc (two x y rs) := by
            match j, hx with
            | 0, hx =>
              cases hx
              refine ⟨o1, _, rfl, ho24, ?_, turn_cyc rs kn⟩
              have z := List.perm_append_comm (l₁ := rs.drop kn) (l₂ := rs.take kn)
              rw [List.take_append_drop] at z
              exact z
            | 1, hx =>
              cases hx
              exact ⟨rv, _, rfl, hv24, List.reverse_perm rs, back_cyc rs⟩
          have lr' : rs'.length ≤ 7 := by rw [pr.length_eq]; exact lr
          have rW' : ∀ b ∈ rs', b ∈ wnames ws := fun b hb => rW b (pr.mem_iff.mp hb)
          have Wr' : ∀ b ∈ wnames ws, b ∈ rs' := fun b hb => pr.mem_iff.mpr (Wr b hb)
          refine ⟨_, rfl, _, rfl, W, o, ws, rs', rfl, wd24.hW, hos, by omega, by omega, rW', wd24.tg, fun la H25 ysa xsa s25 tg25 pya soa hla dpa => ?_⟩
          have wd25 := wd24.tab s25 tg25
          refine ⟨_, rfl, _, rfl, W, D, ws, rs, rfl, wd25.hW, wd25.hD.tps, by omega, by omega, rW, wd25.tg, fun lb' H26 ysb xsb s26 tg26 pyb sob hlb dpb => ?_⟩
          have wd26 := wd25.tab s26 tg26
          have eyab : ysa = ysb := sorted_one soa sob (pya.trans pyb.symm)
          subst eyab
          have dc := day_cnt ndW rW rW' Wr Wr' cy pya soa
          have etri : (prs ysa ysa.length).map (tri (rowsM (behindM (wnames ws) rs') rs')) = (prs ysa ysa.length).map (tri (rowsM (behindM (wnames ws) rs) rs)) := by
            apply List.map_congr_left
            intro z hz
            show PyData.tuple [.str z.1, .str z.2, .int (cnt _ z : Nat)] = _
            rw [dc z hz]
          rw [etri] at dpa
          have okYa : ∀ b ∈ ysa, PyData.strOk b = true := fun b hb => okW b (pya.mem_iff.mp hb)
          have fT := fine_tri (ys := ysa) (rows := rowsM (behindM (wnames ws) rs) rs) (by rw [pya.length_eq, wn_len]; omega) okYa 1
          refine ⟨_, _, .lst (sql (s26 _ _ (tabG_ne wd25.tg hla).symm hla)) (dpAll_tab dpa wd25.tg s26), .lst (sql hlb) dpb, fine_shaped fT (by decide), fine_shaped fT (by decide), false, by rw [fine_eqv fT]; rfl, ?_⟩
          have hos26 := (hos.tab wd24.tg s25).tab wd25.tg s26
          refine ⟨_, rfl, _, rfl, W, o, ws, rs', rfl, wd26.hW, hos26, by omega, by omega, rW', wd26.tg, fun H27 s27 tg27 => ?_⟩
          have wd27 := wd26.tab s27 tg27
          have pmW' := behindM_perm rs' rW'
          have es : (liftedM (behindM (wnames ws) rs') rs').sum = L2 := by
            rw [day_sum (pmW'.nodup_iff.mpr ndW) (fun b hb => pmW'.mem_iff.mpr (rW' b hb)) (pya.trans pmW'.symm) soa, ← eL2, each, day_sum (pmW.nodup_iff.mpr ndW) rW2 (pya.trans pmW.symm) soa]
            congr 1
            apply List.map_congr_left
            intro z hz
            exact dc z hz
          rw [es]
          refine ⟨_, rfl, rfl, false, by rw [decide_eq_true rfl]; rfl, ?_⟩
          have nLP : ∀ {G : Hp}, GxR.TabG G Pt → G L = some (.lst [.ref o1, .ref rv]) → L ≠ Pt := fun g e => (tabG_ne g e).symm
          have hL25 := s25 _ _ (nLP wd24.tg hL24) hL24
          have hL26 := s26 _ _ (nLP wd25.tg hL25) hL25
          exact ⟨⟨_, rfl⟩, wd27, s27 _ _ (nLP wd26.tg hL26) hL26, ((ho24.tab wd24.tg s25).tab wd25.tg s26).tab wd26.tg s27, ((hv24.tab wd24.tg s25).tab wd25.tg s26).tab wd26.tg s27⟩
        · rintro σ H24 ⟨⟨y16', rfl⟩, wd24, _⟩
          exact ⟨⟨_, rfl, rfl⟩, wd24.tp, wd24.tg⟩
  · rintro σ H1 _
    exact q _
end
end Lt

set_option Elab.async false
set_option linter.all false
set_option maxRecDepth 100000
set_option maxHeartbeats 0
namespace Lt
open PySem PySem.Spec PyProof.Rows L2
def dd0 : He.DefD := ⟨("behind", none), "behind", "behind", defArgs sBehind, defBody sBehind, defScope sBehind, [], []⟩
def dd1 : He.DefD := ⟨("lifted", none), "lifted", "lifted", defArgs sLifted, defBody sLifted, defScope sLifted, [], []⟩
def dd2 : He.DefD := ⟨("passings", none), "passings", "passings", defArgs sPassings, defBody sPassings, defScope sPassings, [], []⟩
def dd3 : He.DefD := ⟨("laid_on_top", none), "laid_on_top", "laid_on_top", defArgs sLaid, defBody sLaid, defScope sLaid, [], []⟩
def dd4 : He.DefD := ⟨("books_above", none), "books_above", "books_above", defArgs sAbove, defBody sAbove, defScope sAbove, [], []⟩
def dd5 : He.DefD := ⟨("pairs_of", none), "pairs_of", "pairs_of", defArgs sPairs, defBody sPairs, defScope sPairs, [], []⟩
def dd6 : He.DefD := ⟨("as_pair", none), "as_pair", "as_pair", defArgs sAsPair, defBody sAsPair, defScope sAsPair, [], []⟩
def dd7 : He.DefD := ⟨("far_pile", none), "far_pile", "far_pile", defArgs sFarP, defBody sFarP, defScope sFarP, [], []⟩
def dd8 : He.DefD := ⟨("far_lifted", none), "far_lifted", "far_lifted", defArgs sFarL, defBody sFarL, defScope sFarL, [], []⟩
def dd9 : He.DefD := ⟨("each_day", none), "each_day", "each_day", defArgs sEach, defBody sEach, defScope sEach, [], []⟩
def dd10 : He.DefD := ⟨("day_passings", none), "day_passings", "day_passings", defArgs sDayP, defBody sDayP, defScope sDayP, [], []⟩
def dd11 : He.DefD := ⟨("settled_pile", none), "settled_pile", "settled_pile", defArgs sSettled, defBody sSettled, defScope sSettled, [], []⟩
def dd12 : He.DefD := ⟨("_law_draw", none), "_law_draw", "_law_draw", defArgs sDraw, defBody sDraw, defScope sDraw, [], []⟩
def dd13 : He.DefD := ⟨("_law_like", none), "_law_like", "_law_like", defArgs sLike, defBody sLike, defScope sLike, [], []⟩
def dd14 : He.DefD := ⟨("_law_any_order", none), "_law_any_order", "_law_any_order", defArgs sOrder, defBody sOrder, defScope sOrder, [], []⟩
def dd15 : He.DefD := ⟨("_law_books", none), "_law_books", "_law_books", defArgs sBooks, defBody sBooks, defScope sBooks, [], []⟩
def dd16 : He.DefD := ⟨("_law_wants", none), "_law_wants", "_law_wants", defArgs sWants, defBody sWants, defScope sWants, [], []⟩
def dd17 : He.DefD := ⟨("_law_day", none), "_law_day", "_law_day", defArgs sDay, defBody sDay, defScope sDay, [], []⟩
def dd18 : He.DefD := ⟨("_law_below", none), "_law_below", "_law_below", defArgs sBelow, defBody sBelow, defScope sBelow, [], []⟩
def dd19 : He.DefD := ⟨("_law_read", none), "_law_read", "_law_read", defArgs sRead, defBody sRead, defScope sRead, [], []⟩
def dd20 : He.DefD := ⟨("_law_two", none), "_law_two", "_law_two", defArgs sTwo, defBody sTwo, defScope sTwo, [], []⟩
def dd21 : He.DefD := ⟨("_law_later_day", none), "_law_later_day", "_law_later_day", defArgs sLater, defBody sLater, defScope sLater, [], []⟩
def dd22 : He.DefD := ⟨("law", none), "law", "law", defArgs sLaw, defBody sLaw, defScope sLaw, [], []⟩
def defsAt : List He.DefD := [dd0, dd1, dd2, dd3, dd4, dd5, dd6, dd7, dd8, dd9, dd10, dd11, dd12, dd13, dd14, dd15, dd16, dd17, dd18, dd19, dd20, dd21, dd22]
def factsAt : List He.Fa := [.glo "behind", .glo "lifted", .glo "passings", .glo "laid_on_top", .glo "books_above", .glo "pairs_of", .glo "as_pair", .glo "far_pile", .glo "far_lifted", .glo "each_day", .glo "day_passings", .glo "settled_pile", .glo "_law_draw", .glo "_law_like", .glo "_law_any_order", .glo "_law_books", .glo "_law_wants", .glo "_law_day", .glo "_law_below", .glo "_law_read", .glo "_law_two", .glo "_law_later_day", .glo "law", .free "len", .free "range", .free "tuple", .free "list", .free "sorted", .free "enumerate", .free "isinstance", .free "bool", .free "set", .free "sum", .free "min", .free "dict"]
def tabAt : He.Defn := ("settled_pile", none)
abbrev rowX : PySem.W.OpenRow := PySem.W.OpenLaw.row PySem.Challenge.rw_laidontop_k04_whole_days_done_again
abbrev hookAt : PySem.W.Hook := He.hookX 4 factsAt defsAt [] [tabAt] fun _ => true
def seenAt (s : PySem.W.SharedT) : He.AlX := He.obsX 4 factsAt defsAt [] [tabAt] (fun _ => true) (HandSHeadRun.getT s)
theorem seenAt_eq (s : PySem.W.SharedT) : seenAt s = hookAt.obs s.abs := He.obsX_eq (HandSHeadRun.getT_eq s)
def namesAt : List Str := ["behind", "lifted", "passings", "laid_on_top", "books_above", "pairs_of", "as_pair", "far_pile", "far_lifted", "each_day", "day_passings", "settled_pile", "_law_draw", "_law_like", "_law_any_order", "_law_books", "_law_wants", "_law_day", "_law_below", "_law_read", "_law_two", "_law_later_day"]
theorem runAt (w : World) : HandSHeadRun.RunEq rowX (PySem.W.view rowX.prog [25]) hookAt seenAt 2000 namesAt w := by
  intro os
  kernel_rfl
theorem fun_of {K : PySem.W.Frag} {x y : Str} {st : Stmt} {f : Addr} {fd : FuncData} (F : FunD K x y (defArgs st) (defBody st) (defScope st) [] [] f fd) : Fun K x y st f fd := by
  obtain ⟨oc, od, dV, kV, doc, pm, an, cdv, ct, sl, e, lk, cd, dfl, _⟩ := F.ex
  rcases dfl with ⟨_, rfl⟩ | ⟨no, _⟩
  · exact ⟨⟨oc, od, kV, doc, pm, an, cdv, ct, sl, e, lk, cd⟩, F.kp⟩
  · exact absurd rfl no
theorem code_at {K : PySem.W.Frag} {x y : Str} {st : Stmt} {p : He.Defn} {fd : FuncData} (F : Fun K x y st (He.fAd K p) fd) : fd.code = .ref (He.cT K p).1 := by
  obtain ⟨oc, od, kV, doc, pm, an, cdv, ct, sl, rfl, lk, cd⟩ := F.ex
  obtain ⟨c, rfl⟩ := He.codeIn_ref cd
  have e := He.codeOf_eq (c := c) lk rfl
  show Value.ref c = .ref (He.codeOf K p)
  rw [e]
theorem lawAt {w : World} {K : PySem.W.Frag} {h : Heap} {mg : Str → Option Value} {fa : Addr} (X : K.In h) (G : h.Ns mainGlobals mg) (hfa : mg ("law" : Str) = some (.ref fa)) (c : He.SaysX factsAt defsAt [] [tabAt] (fun _ => true) w h K) :
    LamX.LawAtS PySem.Challenge.rw_laidontop_k04_whole_days_done_again w K CX0 5 63 "script" mg fa h := by
  have d := c.t.d
  obtain ⟨fd0, D0⟩ := d.def_ 0 (d := dd0) rfl
  have F0 : Fun K "behind" "behind" sBehind (He.fAd K ("behind", none)) fd0 := fun_of D0
  have g0 : mg "behind" = some (.ref (He.fAd K ("behind", none))) := He.glo_ok X G (d.fact 0 (f := .glo "behind") rfl)
  have b0 := F0.binds (ps := ["pile", "readings"]) fun _ _ _ _ _ _ us hl => match us, hl with | [_, _], _ => rfl
  obtain ⟨fd1, D1⟩ := d.def_ 1 (d := dd1) rfl
  have F1 : Fun K "lifted" "lifted" sLifted (He.fAd K ("lifted", none)) fd1 := fun_of D1
  have g1 : mg "lifted" = some (.ref (He.fAd K ("lifted", none))) := He.glo_ok X G (d.fact 1 (f := .glo "lifted") rfl)
  have b1 := F1.binds (ps := ["pile", "readings"]) fun _ _ _ _ _ _ us hl => match us, hl with | [_, _], _ => rfl
  obtain ⟨fd2, D2⟩ := d.def_ 2 (d := dd2) rfl
  have F2 : Fun K "passings" "passings" sPassings (He.fAd K ("passings", none)) fd2 := fun_of D2
  have g2 : mg "passings" = some (.ref (He.fAd K ("passings", none))) := He.glo_ok X G (d.fact 2 (f := .glo "passings") rfl)
  have b2 := F2.binds (ps := ["pile", "readings"]) fun _ _ _ _ _ _ us hl => match us, hl with | [_, _], _ => rfl
  obtain ⟨fd3, D3⟩ := d.def_ 3 (d := dd3) rfl
  have F3 : Fun K "laid_on_top" "laid_on_top" sLaid (He.fAd K ("laid_on_top", none)) fd3 := fun_of D3
  have g3 : mg "laid_on_top" = some (.ref (He.fAd K ("laid_on_top", none))) := He.glo_ok X G (d.fact 3 (f := .glo "laid_on_top") rfl)
  have b3 := F3.binds (ps := ["pile", "book"]) fun _ _ _ _ _ _ us hl => match us, hl with | [_, _], _ => rfl
  obtain ⟨fd4, D4⟩ := d.def_ 4 (d := dd4) rfl
  have F4 : Fun K "books_above" "books_above" sAbove (He.fAd K ("books_above", none)) fd4 := fun_of D4
  have g4 : mg "books_above" = some (.ref (He.fAd K ("books_above", none))) := He.glo_ok X G (d.fact 4 (f := .glo "books_above") rfl)
  have b4 := F4.binds (ps := ["pile", "book"]) fun _ _ _ _ _ _ us hl => match us, hl with | [_, _], _ => rfl
  obtain ⟨fd5, D5⟩ := d.def_ 5 (d := dd5) rfl
  have F5 : Fun K "pairs_of" "pairs_of" sPairs (He.fAd K ("pairs_of", none)) fd5 := fun_of D5
  have g5 : mg "pairs_of" = some (.ref (He.fAd K ("pairs_of", none))) := He.glo_ok X G (d.fact 5 (f := .glo "pairs_of") rfl)
  have b5 := F5.binds (ps := ["books"]) fun _ _ _ _ _ _ us hl => match us, hl with | [_], _ => rfl
  obtain ⟨fd6, D6⟩ := d.def_ 6 (d := dd6) rfl
  have F6 : Fun K "as_pair" "as_pair" sAsPair (He.fAd K ("as_pair", none)) fd6 := fun_of D6
  have g6 : mg "as_pair" = some (.ref (He.fAd K ("as_pair", none))) := He.glo_ok X G (d.fact 6 (f := .glo "as_pair") rfl)
  have b6 := F6.binds (ps := ["book", "passed"]) fun _ _ _ _ _ _ us hl => match us, hl with | [_, _], _ => rfl
  obtain ⟨fd7, D7⟩ := d.def_ 7 (d := dd7) rfl
  have F7 : Fun K "far_pile" "far_pile" sFarP (He.fAd K ("far_pile", none)) fd7 := fun_of D7
  have g7 : mg "far_pile" = some (.ref (He.fAd K ("far_pile", none))) := He.glo_ok X G (d.fact 7 (f := .glo "far_pile") rfl)
  have b7 := F7.binds (ps := ["pile", "day", "days"]) fun _ _ _ _ _ _ us hl => match us, hl with | [_, _, _], _ => rfl
  obtain ⟨fd8, D8⟩ := d.def_ 8 (d := dd8) rfl
  have F8 : Fun K "far_lifted" "far_lifted" sFarL (He.fAd K ("far_lifted", none)) fd8 := fun_of D8
  have g8 : mg "far_lifted" = some (.ref (He.fAd K ("far_lifted", none))) := He.glo_ok X G (d.fact 8 (f := .glo "far_lifted") rfl)
  have b8 := F8.binds (ps := ["pile", "day", "days"]) fun _ _ _ _ _ _ us hl => match us, hl with | [_, _, _], _ => rfl
  obtain ⟨fd9, D9⟩ := d.def_ 9 (d := dd9) rfl
  have F9 : Fun K "each_day" "each_day" sEach (He.fAd K ("each_day", none)) fd9 := fun_of D9
  have g9 : mg "each_day" = some (.ref (He.fAd K ("each_day", none))) := He.glo_ok X G (d.fact 9 (f := .glo "each_day") rfl)
  have b9 := F9.binds (ps := ["wants", "day"]) fun _ _ _ _ _ _ us hl => match us, hl with | [_, _], _ => rfl
  obtain ⟨fd10, D10⟩ := d.def_ 10 (d := dd10) rfl
  have F10 : Fun K "day_passings" "day_passings" sDayP (He.fAd K ("day_passings", none)) fd10 := fun_of D10
  have g10 : mg "day_passings" = some (.ref (He.fAd K ("day_passings", none))) := He.glo_ok X G (d.fact 10 (f := .glo "day_passings") rfl)
  have b10 := F10.binds (ps := ["wants", "day"]) fun _ _ _ _ _ _ us hl => match us, hl with | [_, _], _ => rfl
  obtain ⟨fd11, D11⟩ := d.def_ 11 (d := dd11) rfl
  have F11 : Fun K "settled_pile" "settled_pile" sSettled (He.fAd K ("settled_pile", none)) fd11 := fun_of D11
  have g11 : mg "settled_pile" = some (.ref (He.fAd K ("settled_pile", none))) := He.glo_ok X G (d.fact 11 (f := .glo "settled_pile") rfl)
  have b11 := F11.binds (ps := ["wants", "day"]) fun _ _ _ _ _ _ us hl => match us, hl with | [_, _], _ => rfl
  obtain ⟨fd12, D12⟩ := d.def_ 12 (d := dd12) rfl
  have F12 : Fun K "_law_draw" "_law_draw" sDraw (He.fAd K ("_law_draw", none)) fd12 := fun_of D12
  have g12 : mg "_law_draw" = some (.ref (He.fAd K ("_law_draw", none))) := He.glo_ok X G (d.fact 12 (f := .glo "_law_draw") rfl)
  have b12 := F12.binds (ps := ["tape", "many"]) fun _ _ _ _ _ _ us hl => match us, hl with | [_, _], _ => rfl
  obtain ⟨fd13, D13⟩ := d.def_ 13 (d := dd13) rfl
  have F13 : Fun K "_law_like" "_law_like" sLike (He.fAd K ("_law_like", none)) fd13 := fun_of D13
  have g13 : mg "_law_like" = some (.ref (He.fAd K ("_law_like", none))) := He.glo_ok X G (d.fact 13 (f := .glo "_law_like") rfl)
  have b13 := F13.binds (ps := ["one", "two"]) fun _ _ _ _ _ _ us hl => match us, hl with | [_, _], _ => rfl
  obtain ⟨fd14, D14⟩ := d.def_ 14 (d := dd14) rfl
  have F14 : Fun K "_law_any_order" "_law_any_order" sOrder (He.fAd K ("_law_any_order", none)) fd14 := fun_of D14
  have g14 : mg "_law_any_order" = some (.ref (He.fAd K ("_law_any_order", none))) := He.glo_ok X G (d.fact 14 (f := .glo "_law_any_order") rfl)
  have b14 := F14.binds (ps := ["tape", "many"]) fun _ _ _ _ _ _ us hl => match us, hl with | [_, _], _ => rfl
  obtain ⟨fd15, D15⟩ := d.def_ 15 (d := dd15) rfl
  have F15 : Fun K "_law_books" "_law_books" sBooks (He.fAd K ("_law_books", none)) fd15 := fun_of D15
  have g15 : mg "_law_books" = some (.ref (He.fAd K ("_law_books", none))) := He.glo_ok X G (d.fact 15 (f := .glo "_law_books") rfl)
  have b15 := F15.binds (ps := []) fun _ _ _ _ _ _ us hl => match us, hl with | [], _ => rfl
  obtain ⟨fd16, D16⟩ := d.def_ 16 (d := dd16) rfl
  have F16 : Fun K "_law_wants" "_law_wants" sWants (He.fAd K ("_law_wants", none)) fd16 := fun_of D16
  have g16 : mg "_law_wants" = some (.ref (He.fAd K ("_law_wants", none))) := He.glo_ok X G (d.fact 16 (f := .glo "_law_wants") rfl)
  have b16 := F16.binds (ps := ["tape", "books", "readers"]) fun _ _ _ _ _ _ us hl => match us, hl with | [_, _, _], _ => rfl
  obtain ⟨fd17, D17⟩ := d.def_ 17 (d := dd17) rfl
  have F17 : Fun K "_law_day" "_law_day" sDay (He.fAd K ("_law_day", none)) fd17 := fun_of D17
  have g17 : mg "_law_day" = some (.ref (He.fAd K ("_law_day", none))) := He.glo_ok X G (d.fact 17 (f := .glo "_law_day") rfl)
  have b17 := F17.binds (ps := ["tape", "wants"]) fun _ _ _ _ _ _ us hl => match us, hl with | [_, _], _ => rfl
  obtain ⟨fd18, D18⟩ := d.def_ 18 (d := dd18) rfl
  have F18 : Fun K "_law_below" "_law_below" sBelow (He.fAd K ("_law_below", none)) fd18 := fun_of D18
  have g18 : mg "_law_below" = some (.ref (He.fAd K ("_law_below", none))) := He.glo_ok X G (d.fact 18 (f := .glo "_law_below") rfl)
  have b18 := F18.binds (ps := ["tape", "wants"]) fun _ _ _ _ _ _ us hl => match us, hl with | [_, _], _ => rfl
  obtain ⟨fd19, D19⟩ := d.def_ 19 (d := dd19) rfl
  have F19 : Fun K "_law_read" "_law_read" sRead (He.fAd K ("_law_read", none)) fd19 := fun_of D19
  have g19 : mg "_law_read" = some (.ref (He.fAd K ("_law_read", none))) := He.glo_ok X G (d.fact 19 (f := .glo "_law_read") rfl)
  have b19 := F19.binds (ps := ["pile", "readings"]) fun _ _ _ _ _ _ us hl => match us, hl with | [_, _], _ => rfl
  obtain ⟨fd20, D20⟩ := d.def_ 20 (d := dd20) rfl
  have F20 : Fun K "_law_two" "_law_two" sTwo (He.fAd K ("_law_two", none)) fd20 := fun_of D20
  have g20 : mg "_law_two" = some (.ref (He.fAd K ("_law_two", none))) := He.glo_ok X G (d.fact 20 (f := .glo "_law_two") rfl)
  have b20 := F20.binds (ps := ["books", "rows"]) fun _ _ _ _ _ _ us hl => match us, hl with | [_, _], _ => rfl
  obtain ⟨fd21, D21⟩ := d.def_ 21 (d := dd21) rfl
  have F21 : Fun K "_law_later_day" "_law_later_day" sLater (He.fAd K ("_law_later_day", none)) fd21 := fun_of D21
  have g21 : mg "_law_later_day" = some (.ref (He.fAd K ("_law_later_day", none))) := He.glo_ok X G (d.fact 21 (f := .glo "_law_later_day") rfl)
  have b21 := F21.binds (ps := ["wants", "day"]) fun _ _ _ _ _ _ us hl => match us, hl with | [_, _], _ => rfl
  obtain ⟨fd22, D22⟩ := d.def_ 22 (d := dd22) rfl
  have F22 : Fun K "law" "law" sLaw (He.fAd K ("law", none)) fd22 := fun_of D22
  have g22 : mg "law" = some (.ref (He.fAd K ("law", none))) := He.glo_ok X G (d.fact 22 (f := .glo "law") rfl)
  have B : Bi mg := ⟨He.free_ok X G (d.fact 23 (f := .free "len") rfl), He.free_ok X G (d.fact 24 (f := .free "range") rfl), He.free_ok X G (d.fact 25 (f := .free "tuple") rfl), He.free_ok X G (d.fact 26 (f := .free "list") rfl), He.free_ok X G (d.fact 27 (f := .free "sorted") rfl), He.free_ok X G (d.fact 28 (f := .free "enumerate") rfl), He.free_ok X G (d.fact 29 (f := .free "isinstance") rfl), He.free_ok X G (d.fact 30 (f := .free "bool") rfl), He.free_ok X G (d.fact 31 (f := .free "set") rfl), He.free_ok X G (d.fact 32 (f := .free "sum") rfl), He.free_ok X G (d.fact 33 (f := .free "min") rfl), He.free_ok X G (d.fact 34 (f := .free "dict") rfl)⟩
  have e := hfa.symm.trans g22
  cases e
  have bl := FunD.bindsA (ps := ["script"]) D22 fun _ _ _ _ _ _ us hl => match us, hl with | [_], _ => rfl
  have one : ∀ p ∈ [He.cT K tabAt], p = He.cT K tabAt := fun p hp => List.mem_singleton.mp hp
  have here := List.mem_singleton.mpr (rfl : tabAt = tabAt)
  refine ⟨fd22, [He.cT K tabAt], spLaw K (He.cT K tabAt).2, fun p hp => ?_, fun p hp => ?_, fun p hp => ?_, fun s v => bl s [v] rfl, fun H a ns hl _ hH hS => ?_, fun base _ _ TBs => ?_⟩
  · rw [one p hp]
    exact c.empty tabAt here
  · rw [one p hp]
    exact c.out tabAt here
  · rw [one p hp]
    exact PySem.W.codeHd_of_K X (c.hd tabAt here)
  · exact ⟨a, ns, rfl, hS, hl, ⟨#[], hH _ (List.mem_singleton.mpr rfl), by first | trivial | exact rfl | simp [TriplesOk]⟩, fun _ => rfl⟩
  · have tb := TBs _ (List.mem_singleton.mpr rfl)
    have TB : GxR.TabB base mg (He.cT K tabAt).1 (He.cT K tabAt).2 := ⟨tb.code, tb.bm, tb.gP⟩
    have cD : Has PySem.Challenge.rw_laidontop_k04_whole_days_done_again.prog w K mg base 1 "_law_draw" ["tape", "many"] spDraw := ⟨_, _, ok_draw F12 B.len, g12, F12.kp, b12⟩
    have cO : Has PySem.Challenge.rw_laidontop_k04_whole_days_done_again.prog w K mg base 2 "_law_any_order" ["tape", "many"] spOrder := ⟨_, _, ok_order F14 B cD, g14, F14.kp, b14⟩
    have cB : Has PySem.Challenge.rw_laidontop_k04_whole_days_done_again.prog w K mg base 1 "_law_books" [] spBooks := ⟨_, _, ok_books F15, g15, F15.kp, b15⟩
    have cWa : Has PySem.Challenge.rw_laidontop_k04_whole_days_done_again.prog w K mg base 2 "_law_wants" ["tape", "books", "readers"] spWants := ⟨_, _, ok_wants F16 B cD cB, g16, F16.kp, b16⟩
    have cDy : Has PySem.Challenge.rw_laidontop_k04_whole_days_done_again.prog w K mg base 3 "_law_day" ["tape", "wants"] spDay := ⟨_, _, ok_day F17 B cO, g17, F17.kp, b17⟩
    have cBw : Has PySem.Challenge.rw_laidontop_k04_whole_days_done_again.prog w K mg base 3 "_law_below" ["tape", "wants"] spBelow := ⟨_, _, ok_below F18 B cD cO cB, g18, F18.kp, b18⟩
    have cRd : Has PySem.Challenge.rw_laidontop_k04_whole_days_done_again.prog w K mg base 1 "_law_read" ["pile", "readings"] (spRead K) := ⟨_, _, ok_read F19 B, g19, F19.kp, b19⟩
    have cTw : Has PySem.Challenge.rw_laidontop_k04_whole_days_done_again.prog w K mg base 1 "_law_two" ["books", "rows"] (spTwo K) := ⟨_, _, ok_two F20 B, g20, F20.kp, b20⟩
    have cLk : Has PySem.Challenge.rw_laidontop_k04_whole_days_done_again.prog w K mg base 4 "_law_like" ["one", "two"] (spLike K 4) := ⟨_, _, like_all F13 B g13 b13 4, g13, F13.kp, b13⟩
    have cLt : Has PySem.Challenge.rw_laidontop_k04_whole_days_done_again.prog w K mg base 2 "_law_later_day" ["wants", "day"] (spLater K) := ⟨_, _, ok_later F21 cRd, g21, F21.kp, b21⟩
    have cLd : Has PySem.Challenge.rw_laidontop_k04_whole_days_done_again.prog w K mg base 1 "laid_on_top" ["pile", "book"] spLaid := ⟨_, _, ok_laid F3, g3, F3.kp, b3⟩
    have cAb : Has PySem.Challenge.rw_laidontop_k04_whole_days_done_again.prog w K mg base 1 "books_above" ["pile", "book"] spAbove := ⟨_, _, ok_above F4, g4, F4.kp, b4⟩
    have cPr : Has PySem.Challenge.rw_laidontop_k04_whole_days_done_again.prog w K mg base 1 "pairs_of" ["books"] (spPairs K) := ⟨_, _, ok_pairs F5 B, g5, F5.kp, b5⟩
    have cAs : Has PySem.Challenge.rw_laidontop_k04_whole_days_done_again.prog w K mg base 1 "as_pair" ["book", "passed"] spAsPair := ⟨_, _, ok_asPair F6, g6, F6.kp, b6⟩
    have cBe : Has PySem.Challenge.rw_laidontop_k04_whole_days_done_again.prog w K mg base 2 "behind" ["pile", "readings"] (spBehind K) := ⟨_, _, ok_behind F0 cLd, g0, F0.kp, b0⟩
    have cLi : Has PySem.Challenge.rw_laidontop_k04_whole_days_done_again.prog w K mg base 2 "lifted" ["pile", "readings"] (spLifted K) := ⟨_, _, ok_lifted F1 cLd, g1, F1.kp, b1⟩
    have cPa : Has PySem.Challenge.rw_laidontop_k04_whole_days_done_again.prog w K mg base 2 "passings" ["pile", "readings"] (spPassings K) := ⟨_, _, ok_passings F2 cLd cAb cPr cAs, g2, F2.kp, b2⟩
    have cFp : Has PySem.Challenge.rw_laidontop_k04_whole_days_done_again.prog w K mg base 3 "far_pile" ["pile", "day", "days"] (spFarP K) := ⟨_, _, ok_farP F7 cBe, g7, F7.kp, b7⟩
    have cFl : Has PySem.Challenge.rw_laidontop_k04_whole_days_done_again.prog w K mg base 3 "far_lifted" ["pile", "day", "days"] (spFarL K) := ⟨_, _, ok_farL F8 B cBe cLi, g8, F8.kp, b8⟩
    have cSe : Has PySem.Challenge.rw_laidontop_k04_whole_days_done_again.prog w K mg base 3 "settled_pile" ["wants", "day"] (spSettled K (He.cT K tabAt).2) := ⟨_, _, ok_settled F11 (code_at (p := tabAt) F11) TB B cBe, g11, F11.kp, b11⟩
    have cEa : Has PySem.Challenge.rw_laidontop_k04_whole_days_done_again.prog w K mg base 4 "each_day" ["wants", "day"] (spEach K (He.cT K tabAt).2) := ⟨_, _, ok_each F9 B cSe cLi, g9, F9.kp, b9⟩
    have cDp : Has PySem.Challenge.rw_laidontop_k04_whole_days_done_again.prog w K mg base 4 "day_passings" ["wants", "day"] (spDayP K (He.cT K tabAt).2) := ⟨_, _, ok_dayP F10 cSe cPa, g10, F10.kp, b10⟩
    exact ok_law F22 B cD cWa cDy cBw cRd cTw cLk cLt cFp cFl cEa cDp
end Lt
open PySem PySem.W PySem.Calls PyProof.Rows in
set_option maxRecDepth 100000 in
set_option maxHeartbeats 0 in
theorem PySem.Challenge.cw_laidontop_k04_whole_days_done_again_holds : PySem.Challenge.rw_laidontop_k04_whole_days_done_again.Holds := by
  w_on; o_law
  refine HandSHeadRun.head_any (r := Lt.rowX) (q := view Lt.rowX.prog [25]) (H := Lt.hookAt) (ob := Lt.seenAt) (M := 2000) (loose := Lt.namesAt) (d := HandSHeadRun.topDef Lt.rowX.prog 25) (kwd := []) Lt.seenAt_eq (by kernel_rfl) (fun s => by kernel_rfl) Lt.runAt
    (by kernel_rfl) (by kernel_rfl) (by kernel_rfl) (by rfl) (by first | assumption | decide +kernel) (by decide +kernel) ⟨rfl, rfl, rfl, rfl, rfl, by decide +kernel⟩ ?hw ?hc
  case hw => w_witness2
  case hc =>
    refine LamX.walk_ofTsE (l := PySem.Challenge.rw_laidontop_k04_whole_days_done_again) (n := 63) (k := 5) (x := "script") (CX := fun _ => L2.CX0) rfl (by decide) (by kernel_rfl) ⟨rfl, by decide, by decide⟩ ?F (fun _ _ _ _ _ z => z)
    rintro w mg fa h ⟨K, KX, c⟩ G hm
    refine ⟨K, KX, Lt.lawAt KX G ?_ c⟩
    have e : (HandSHeadRun.topDef Lt.rowX.prog 25).name = ("law" : PySem.Str) := by kernel_rfl
    rw [← e]
    exact hm
