import PyProof.Rows.All
import Wide.All
import OpenK.AllK
import Wide.FinOn
import HandS.Base
import HandS.Call
import HandS.List
import HandS.Comp
import HandS.Dict
import HandS.More
import HandS.Words
import HandS.Strs
import HandS.TupAny
import KE.DataFind
import KE.Datum
import KE.GoesMore
import KE.GoesComp
import HandS.ForMost
import HandS.IsInst
import HandS.Wide
import HandS.Style
import HandS.Walk
import HandS.Evl
import PySem.Challenge.RW_laidontop_k02_readings_by_hand
set_option Elab.async false
set_option linter.all false
set_option maxRecDepth 100000
set_option maxHeartbeats 4000000
/-! Rules for what this text needs beside the hand layer's: a text taken out of a list, a tuple of texts sorted, a dict of a constant over tuple keys, methods of tuples. -/
namespace Lt
open PySem PySem.Spec PyProof.Rows L2

theorem erase_map {a b : Type} (f : a → b) : ∀ (l : List a) (j : Nat), (l.map f).eraseIdx j = (l.eraseIdx j).map f
  | [], j => by simp
  | x :: r, 0 => by simp
  | x :: r, j + 1 => by simp [erase_map f r j]
theorem txts_data {K : PySem.W.Frag} {H : Hp} : ∀ ss : List Str, DpAll K H (ss.map V.str) (ss.map PySem.W.Datum.toD)
  | [] => .nil
  | x :: r => .cons (.str x) (txts_data r)
section
variable {X : Cx}
def rRemS : V → List V → Hp → VK → Prop := fun x xs H Q => ∃ (l : Addr) (ss : List Str) (z : Str) (j : Nat),
  x = .ref l ∧ xs = [.str z] ∧ H l = some (.lst (ss.map V.str)) ∧ ss[j]? = some z ∧ (∀ m : Nat, m < j → ss[m]? ≠ some z) ∧
  Q .non (upd H l (.lst ((ss.eraseIdx j).map V.str)))
/-- xs.remove(y), texts: the first place of y goes -/
theorem mt_removeS (hu : X.A.units + 1 < cLine) : MtM X "list.remove" rRemS := by
  rintro pins s σ H _ _ v us Q inv relx relxs ⟨l, ss, z, j, rfl, rfl, hH, hj, hno, q⟩
  cases relx
  obtain ⟨_, rfl, t, rfl⟩ := relxs.one
  obtain ⟨hz, its, n, vals, hl, ho⟩ := inv.lstM hH
  have isl : s.heap.IsList l its.toArray := ⟨_, ho, rfl, n, rfl⟩
  obtain ⟨as, rds⟩ := Dp.readsAll inv (ss.map PySem.W.Datum.toD) (ss.map V.str) its (txts_data ss) vals
  have gone := vals.eraseIdx j
  rw [erase_map] at gone
  rw [List.length_map] at hz hl
  refine PySem.W.remove_list_datum (xs := ss) (x := z) isl ⟨as, by simpa using rds⟩ ⟨_, Reads.str z t⟩ (show X.A.units + 1 + 0 < cLine from hu) hj hno (by rw [List.size_toArray]; omega)
    ⟨.non, _, inv.lset (its' := its.eraseIdx j) (t' := s.toks) hH ho (by simp) gone ?_, rfl, q⟩
  have le := List.length_eraseIdx_le ss j
  rw [List.length_map]
  omega
/-- sorted(t), t a tuple of fewer than 64 texts -/
def rSortedT (K : PySem.W.Frag) : List V → Hp → VK → Prop := fun vs H Q => ∃ (a : Addr) (xs : List Str), vs = [V.ref a] ∧ SqT K H a (xs.map V.str) ∧ xs.length < 64 ∧
  ∀ (ys : List Str) (p : Addr), ys.Perm xs → sortedS ys = true → H p = none →
    Q (.ref p) (upd H p (.lst (ys.map V.str)))
theorem cr_sortedT : CallR X (.builtin "sorted") (rSortedT X.K) := by
  rintro pins s σ H _ us Q inv rel ⟨a, xs, rfl, sq, few, q⟩
  rw [Vals.ref1 rel]
  obtain ⟨its, vals, ⟨o, ho, hc, n, hd⟩, _⟩ := inv.tuple sq
  have len : its.length = xs.length := by rw [← vals.length, List.length_map]
  have txt : StrsAre its xs := vals.strs
  have fits : its.length ≤ sizeLine := Nat.le_trans (Nat.le_of_lt (len ▸ few)) (by decide)
  refine Calls.call_function_entry kind_sorted plain_sorted entry_sorted (args_sorted1 _) (wpAny_bind (m := checkCount "sorted" 1 1 _) (wpAny_pure
    (wpAny_bind (wpAny_collect_seq a (.inr rfl) ho hc hd (fun h1 kept => ?_) (by rw [List.size_toArray]; exact fits)))))
  have back : its.toArray.toList = its := by simp
  rw [back]
  refine wpAny_bind (wpAny_newList ?_ fits)
  have lst : (h1.push (seqObj "list" its.toArray 0)).get? h1.objs.size = some (seqObj "list" its.toArray 0) := Heap.get?_push_size _ rfl
  have inv1 : Inv X pins σ H { s with heap := h1 } := inv.kept (t' := s.toks) kept
  show wpAny _ _ _ _ _ { s with heap := h1.push (seqObj "list" its.toArray 0) }
  refine wpAny_bind (wpAny_holding (wpAny_call_entry slot_list_sort ⟨_, lst, rfl⟩ entry_list_sort (list_sort_treeK strKind_oneLt (s := { s with heap := h1.push (seqObj "list" its.toArray 0) }) lst txt.keysOf
    (fun v1 v2 rest e => keyKind_strs (by rw [← e]; exact txt)) (len ▸ few) fun st perm ord => ⟨_, rfl, ?_⟩) (args_list_sort _)))
  obtain ⟨ys, are, permS, ordS⟩ := sorted_out_str txt perm ord
  obtain ⟨ep, at1⟩ := sortedHeap_at (vs := its) (out := (arrOf st).map (·.2)) lst
  have lys : (ys.map V.str).length ≤ sizeLine := by
    rw [List.length_map, permS.length_eq]
    exact small64 few
  refine wpAny_pure ⟨_, rfl, .ref h1.objs.size, _, inv1.laid (t' := s.toks) (fun b u e => ?_) (Nat.le_refl _) (show ObjOk X.prog X.w _ _ _ (.lst (ys.map V.str)) from ⟨lys, _, ep, vals_of_strs are, by rw [Array.toArray_toList]; exact at1⟩), rfl,
    q ys _ permS ordS (inv1.hok.fresh (Nat.le_refl _))⟩
  have lt : b < h1.objs.size := Heap.lt_size e
  rw [sortedHeap_old (Nat.ne_of_lt lt) (by rw [size_push']; exact Nat.lt_succ_of_lt lt)]
  exact Heap.get?_push_of_some _ e
end
/-! ### {x: c for x in rows}, the rows tuples of ints and texts: over the library's DictComp_goes -/
def consts (c : Int) (ks : List (List Key)) : List (List Key × V) := ks.foldl (fun acc k => putK acc k (.int c)) []
theorem consts_snoc (c : Int) (ks : List (List Key)) (k : List Key) : consts c (ks ++ [k]) = putK (consts c ks) k (.int c) := by
  unfold consts
  rw [List.foldl_append]
  rfl
theorem consts_len (c : Int) (ks : List (List Key)) : (consts c ks).length ≤ ks.length := by
  have key : ∀ (ks : List (List Key)) (acc : List (List Key × V)), (ks.foldl (fun acc k => putK acc k (V.int c)) acc).length ≤ acc.length + ks.length := by
    intro ks
    induction ks with
    | nil => intro acc; exact Nat.le_refl _
    | cons k r ih =>
      intro acc
      have z := ih (putK acc k (.int c))
      have z2 := length_putK acc k (V.int c)
      rw [List.foldl_cons, List.length_cons]
      omega
  have z := key ks []
  rw [List.length_nil, Nat.zero_add] at z
  exact z
theorem consts_val (c : Int) (ks : List (List Key)) : ∀ k ∈ ks, valV (consts c ks) k = some (.int c) := by
  have key : ∀ (ks : List (List Key)) (acc : List (List Key × V)) (k : List Key), (k ∈ ks ∨ valV acc k = some (V.int c)) → valV (ks.foldl (fun acc k => putK acc k (V.int c)) acc) k = some (V.int c) := by
    intro ks
    induction ks with
    | nil =>
      intro acc k h
      rcases h with h | h
      · cases h
      · exact h
    | cons x r ih =>
      intro acc k h
      rw [List.foldl_cons]
      refine ih _ k ?_
      rw [valV_put]
      by_cases e : k = x
      · exact .inr (if_pos e)
      · rw [if_neg e]
        rcases h with h | h
        · exact .inl ((List.mem_cons.mp h).resolve_left e)
        · exact .inr h
  exact fun k hk => key ks [] k (.inl hk)
theorem keys_all {H : Hp} : ∀ {ls : List (List Key × V)} {ms : List (List Key × Addr × Value)}, KT H ls ms → ∀ z ∈ ms, H z.2.1 = some (.tup (z.1.map kV))
  | _, _, .nil, z, hz => by cases hz
  | _, _, .cons h t, z, hz => by
    rcases List.mem_cons.mp hz with rfl | hz
    · rw [← h.1]
      exact h.2.1
    · exact keys_all t z hz
/-- a dict's entries as they stand at D -/
def Raw (P : Program) (w : World) (h : Heap) (D : Addr) (xs : List (List Key × Addr × Value)) : Prop :=
  ∃ o es ep, h.get? D = some o ∧ o.ExactDict ∧ o.data = .dict es ep ∧ es.toList = xs.map (entryOfKey (tupleKind (mixKind P w))) ∧ (xs.map (·.1)).Nodup
theorem Raw.at {P : Program} {w : World} {h h' : Heap} {D : Addr} {xs : List (List Key × Addr × Value)} (r : Raw P w h D xs) (k : ∀ o, h.get? D = some o → h'.get? D = some o) : Raw P w h' D xs := by
  obtain ⟨o, es, ep, a1, a2⟩ := r
  exact ⟨o, es, ep, k o a1, a2⟩
theorem Raw.dict {P : Program} {w : World} {h h0 : Heap} {H : Hp} {D : Addr} {ls : List (List Key × V)} {xs : List (List Key × Addr × Value)} (r : Raw P w h D xs) (ok : HOk P w H h0) (kp : ∀ b o, h0.get? b = some o → h.get? b = some o) (kt : KT H ls xs) :
    h.DictOfH (tupleKind (mixKind P w)) D xs := by
  obtain ⟨o, es, ep, a1, a2, a3, a4, a5⟩ := r
  refine ⟨o, es, ep, a1, a2, a3, a4, fun z hz => ?_, a5⟩
  obtain ⟨ob, its, n, b1, b2⟩ := key_of ok (keys_all kt z hz)
  exact ⟨ob, its, n, kp _ ob b1, b2⟩
theorem below {b N C : Nat} (hb : b < N) (hC : N + 1 ≤ C) : b ≠ C ∧ b ≠ N := by omega
section
variable {X : Cx}
def tDcK (K : PySem.W.Frag) (c : Int) (te : TE) : TE := fun σ H Q => te σ H fun v H1 => ∃ (l : Addr) (ts : List Addr) (ks : List (List Key)), v = .ref l ∧ SqL K H1 l (ts.map V.ref) ∧ ts.length = ks.length ∧
  (∀ (i : Nat) (t : Addr) (k : List Key), ts[i]? = some t → ks[i]? = some k → H1 t = some (.tup (k.map kV))) ∧ ks.length ≤ 1000 ∧ ∀ D, H1 D = none → Q (.ref D) (upd H1 D (.dT (consts c ks)))
theorem pe_dcK {x : Str} {c : Int} {jc : Nat} {px pk pc pos : Pos} {iter : Expr} {scope : Scope} {te : TE} (hu : X.A.units + 1 < cLine) (hcalm : X.calm = true) (he : PE X iter te)
    (names : scope.names.all (fun y => y.2 == .local) = true) (uniq : ∀ y ∈ scope.names, y.2 = .local → scope.names.lookup y.1 = some .local) (hx : scope.names.lookup x = some .local) (hkind : scope.kind = .function)
    (hdb : (x == ("__debug__" : Str)) = false := by decide) (hs : ∀ x, foldedSetIterable iter X.env x = pure x := by intro _; rfl) :
    PE X (.DictComp (.Name x pk) (.Constant (.int c) jc pc) [⟨.Name x px, iter, [], 0⟩] scope pos) (tDcK X.K c te) := by
  refine ⟨fun pins s σ H Q inv h => ?_⟩
  have loc : ∀ y ∈ scope.names, y.2 = .local := fun y hy => by simpa using List.all_eq_true.mp names y hy
  have calm := inv.ok.hd hcalm
  refine DictComp_goes (closure_ok fun y hy e => by rw [loc y hy] at e; cases e) (fun y hy e => by rw [loc y hy] at e; cases e) hkind uniq
    (thn (he.run pins s σ H _ inv h) fun xv s1 ⟨v, H1, inv1, rel, l, ts, ks, ev, sq, len, keys, small, q⟩ => ?_) hs
  subst ev
  cases rel
  obtain ⟨its, vals, pl, _⟩ := inv1.list sq
  have hlt : (l : Nat) < s1.heap.objs.size := by
    obtain ⟨o, ho, _⟩ := pl.isList
    exact Heap.lt_size ho
  refine wpAny_pyIter_list pl.isList ⟨_, _, _, _, _, _, rfl, Goes.list calm s1.heap.objs.size l (Nat.ne_of_lt hlt) its.toArray, ⟨⟨_, Heap.get?_push_size _ rfl, rfl, rfl⟩, pl.isList.push _⟩, fun D C s3 begins empty => ?_⟩
  obtain ⟨⟨h3, tk3, rfl⟩, old, newD, newC, ne, ns0⟩ := begins
  have gC : (s1.heap.objs.size + 1 : Nat) ≤ C := by
    have z : (s1.heap.push { cls := .type "list_iterator", data := .fields #[.ref l, .int 0 0] }).objs.size ≤ C := newC
    rwa [Heap.size_push] at z
  have gD : (s1.heap.objs.size + 1 : Nat) ≤ D := by
    have z : (s1.heap.push { cls := .type "list_iterator", data := .fields #[.ref l, .int 0 0] }).objs.size ≤ D := newD
    rwa [Heap.size_push] at z
  have gD' : s1.heap.objs.size ≤ D := Nat.le_trans (Nat.le_succ _) gD
  have freeD : H1 D = none := inv1.hok.fresh gD'
  have kx : ∀ cl, (compEnvC scope cl C X.env).kindOf x = some .local := fun cl => lookup_relabel_local hx
  have plain : ∀ cl, ((compEnvC scope cl C X.env).scope.kind == .class || ((compEnvC scope cl C X.env).scope.kind == .module && (compEnvC scope cl C X.env).locals != (compEnvC scope cl C X.env).globals)) = false := fun cl => by
    show (scope.kind == .class || (scope.kind == .module && _)) = false
    rw [hkind]
    rfl
  have lits : its.length = ts.length := by rw [← vals.length, List.length_map]
  have lit : ∀ (i : Nat) (u : Value), its.toArray[i]? = some u → ∃ t k, u = .ref t ∧ ks[i]? = some k ∧ H1 t = some (.tup (k.map kV)) := fun i u e => by
    have e' : its[i]? = some u := by simpa using e
    have hi : i < ts.length := by
      rw [← lits]
      exact (List.getElem?_eq_some_iff.mp e').1
    obtain ⟨u2, g1, g2⟩ := vals.get (i := i) (x := .ref ts[i]) (by simp [hi])
    rw [e'] at g1
    cases g1
    exact ⟨ts[i], ks[i]'(by omega), g2, List.getElem?_eq_getElem (by omega), keys i _ _ (List.getElem?_eq_getElem hi) (List.getElem?_eq_getElem (by omega))⟩
  have isz : its.toArray.size = ks.length := by rw [List.size_toArray, lits, len]
  refine ⟨fun i sv => ∃ (h' : Heap) (tk : Nat) (m : Str → Option Value) (xs : List (List Key × Addr × Value)), sv = { s1 with heap := h', toks := tk } ∧ h'.Ns C m ∧ Raw X.prog X.w h' D xs ∧ KT H1 (consts c (ks.take i)) xs ∧
      ∀ b o, s1.heap.get? b = some o → h'.get? b = some o,
    ⟨h3, tk3, _, [], rfl, ns0, ⟨_, #[], 0, empty, ⟨rfl, rfl, rfl⟩, rfl, rfl, List.nodup_nil⟩, .nil, fun b o e => old b o (Heap.get?_push_of_some _ e)⟩, ?_, ?_, ?_⟩
  · rintro i _ h' tk ⟨h4, tk4, m, xs, rfl, ns, dd, kt, kp⟩ keeps _
    have off : ∀ b : Addr, b ≠ s1.heap.objs.size → b ∉ [s1.heap.objs.size] := fun b hb hm => hb (by simpa using hm)
    have nC : C ≠ s1.heap.objs.size := Nat.ne_of_gt gC
    have nD : D ≠ s1.heap.objs.size := Nat.ne_of_gt gD
    exact ⟨h', tk, m, xs, rfl, ns.at' fun o e => keeps _ o (off _ nC) e, dd.at fun o e => keeps _ o (off _ nD) e, kt, fun b o e => keeps b o (off b (Nat.ne_of_lt (Heap.lt_size e))) (kp b o e)⟩
  · rintro i v _ hi hv st ⟨h4, tk4, m, xs, rfl, ns, dd, kt, kp⟩
    obtain ⟨t, k, rfl, ek, hk⟩ := lit i v hv
    refine wpAny_assign_Name (wpAny_storeName_local (kx _) ns (fun h5 ns5 same5 => ?_) (plain _))
    refine wpAny_tests_nil ?_
    show wpAny _ _ _ _ _ _
    rw [eval_Name _ _ _ hdb]
    refine wpAny_bind (wpAny_standAt (wpAny_loadName_local hkind (kx _) ns5 (v := .ref t) (if_pos rfl) (wpAny_Constant_int ?_)))
    have up5 : ∀ b o, b ≠ C → h4.get? b = some o → h5.get? b = some o := fun b o hb e => same5.extBut b o hb e
    have oldC : ∀ b o, s1.heap.get? b = some o → b ≠ C := fun b o e => (below (Heap.lt_size e) gC).1
    have kp5 : ∀ b o, s1.heap.get? b = some o → h5.get? b = some o := fun b o e => up5 b o (oldC b o e) (kp b o e)
    have dd5 := (dd.at fun o e => up5 D o ne e).dict inv1.hok kp5 kt
    have room : (tupleKind (mixKind X.prog X.w)).room X.A := Nat.lt_trans (Nat.lt_succ_self _) hu
    have isk : (tupleKind (mixKind X.prog X.w)).is h5 k t := by
      obtain ⟨ob, its2, n2, b1, b2⟩ := key_of inv1.hok hk
      exact ⟨ob, its2, n2, kp5 _ ob b1, b2⟩
    have lxs : xs.length ≤ sizeLine := by
      rw [← Paired.length kt]
      have z := consts_len c (ks.take i)
      rw [List.length_take] at z
      exact Nat.le_of_lt (small1000 (by omega))
    refine wpAny_dictSet_heap (hsz := lxs) room isk dd5 fun h6 dd6 same6 => ?_
    have step : consts c (ks.take (i + 1)) = putK (consts c (ks.take i)) k (.int c) := by
      rw [List.take_add_one, ek]
      exact consts_snoc c _ k
    have keep6 : ∀ b o, b ≠ D → h5.get? b = some o → h6.get? b = some o := fun b o hb e => (same6.2 b hb).trans e
    have oldD : ∀ b o, s1.heap.get? b = some o → b ≠ D := fun b o e => (below (Heap.lt_size e) gD).1
    obtain ⟨o6, es6, ep6, c1, c2, c3, c4, _, c6⟩ := dd6
    refine ⟨⟨h6, _, _, _, rfl, ns5.at' fun o e => keep6 _ o ne.symm e, ⟨o6, es6, ep6, c1, c2, c3, c4, c6⟩, ?_, fun b o e => keep6 b o (oldD b o e) (kp5 b o e)⟩, ?_⟩
    · rw [step]
      exact kt.put k hk ⟨_, rfl⟩
    · have nI : s1.heap.objs.size ≠ C := (Nat.ne_of_gt gC).symm
      have nI2 : s1.heap.objs.size ≠ D := (Nat.ne_of_gt gD).symm
      have nl := below hlt gC
      have nl2 := below hlt gD
      exact ⟨st.1.at fun o e => keep6 _ o nI2 (up5 _ o nI e), st.2.at fun o e => keep6 _ o nl2.1 (up5 _ o nl.1 e)⟩
  · rintro _ ⟨h4, tk4, m, xs, rfl, ns, dd, kt, kp⟩
    refine ⟨m, ns, fun h' same => ?_⟩
    have kp' : ∀ b o, s1.heap.get? b = some o → h'.get? b = some o := fun b o e => same.extBut b o (below (Heap.lt_size e) gC).1 (kp b o e)
    rw [isz, List.take_length] at kt
    have fit : (consts c ks).length ≤ sizeLine := Nat.le_of_lt (small1000 (Nat.le_trans (consts_len c ks) small))
    have sys : (D == sysModules) = false := beq_eq_false_iff_ne.mpr (Nat.ne_of_gt (Nat.lt_of_lt_of_le inv1.big gD'))
    obtain ⟨o, es, ep, a1, a2, a3, a4, a5⟩ := dd.at (h' := h') fun o e => same.extBut _ o ne e
    exact ⟨.ref D, _, inv1.laid (t' := tk4) kp' gD' (show ObjOk X.prog X.w _ h' D (.dT (consts c ks)) from ⟨fit, sys, xs, kt.keeps fun b ys e => by rw [upd_ne (ne_of_none e freeD)]; exact e, o, es, ep, a1, a2, a3, a4, a5⟩), rfl, q D freeD⟩
end
/-! ### tuples whose object is known to have no dict: their methods can be called -/
section
def IsFz (u : HO) (xs : List V) : Prop := ∃ o : Obj, u = .frz o (.tup xs) ∧ o.cls = .type "tuple" ∧ o.dict = none
def TpO (H : Hp) (a : Addr) (xs : List V) : Prop := ∃ u, H a = some u ∧ IsFz u xs
theorem TpO.sqt {K : PySem.W.Frag} {H : Hp} {a : Addr} {xs : List V} (h : TpO H a xs) : SqT K H a xs := by
  obtain ⟨u, h1, o, rfl, _⟩ := h
  exact .inl (.inr ⟨o, h1⟩)
theorem TpO.ne {H : Hp} {a b : Addr} {xs : List V} {v : HO} (h : TpO H a xs) (h' : H b = some v) (d : ∀ o : Obj, v ≠ .frz o (.tup xs)) : a ≠ b := by
  obtain ⟨u, h1, o, rfl, _⟩ := h
  exact ne_of h1 h' fun z => d o z.symm
theorem TpO.new {H : Hp} {a : Addr} {xs : List V} {u : HO} (h : IsFz u xs) : TpO (upd H a u) a xs := ⟨u, upd_same, h⟩
theorem TpO.taken {H : Hp} {a b : Addr} {xs : List V} (h : TpO H a xs) (n : H b = none) : a ≠ b := by
  obtain ⟨u, h1, _⟩ := h
  exact ne_of_none h1 n
theorem TpO.move {H H' : Hp} {a : Addr} {xs : List V} (h : TpO H a xs) (e : ∀ u, H a = some u → H' a = some u) : TpO H' a xs := by
  obtain ⟨u, h1, h2⟩ := h
  exact ⟨u, e u h1, h2⟩
variable {X : Cx}
/-- a new tuple is laid where nothing stood: what is known of it -/
theorem laid_fz {pins : List (Addr × Obj)} {σ : L2.St} {H : Hp} {s : Shared} {h' : Heap} {Q : VK} {xs : List V} {us : List Value} (inv : Inv X pins σ H { s with heap := h' }) (vals : Vals xs us) (fit : xs.length ≤ sizeLine)
    (q : ∀ p u, H p = none → IsFz u xs → Q (.ref p) (upd H p u)) : EP X pins σ Q (.ref h'.objs.size) { s with heap := h'.push { cls := .type "tuple", data := .seq us.toArray } } := by
  have at1 : (h'.push { cls := .type "tuple", data := .seq us.toArray }).get? h'.objs.size = some { cls := .type "tuple", data := .seq us.toArray } := Heap.get?_push_size _ rfl
  refine ⟨.ref h'.objs.size, _, inv.laid (t' := s.toks) (fun b u e => Heap.get?_push_of_some _ e) (Nat.le_refl _) ?_, rfl, q _ (.frz { cls := .type "tuple", data := .seq us.toArray } (.tup xs)) (inv.hok.fresh (Nat.le_refl _)) ⟨_, rfl, rfl, rfl⟩⟩
  exact ⟨at1, fit, us, vals, _, at1, rfl, _, rfl⟩
def tTupZ (t : TA) : TE := fun σ H Q => t σ H fun xs H1 => xs.length ≤ sizeLine ∧ ∀ p u, H1 p = none → IsFz u xs → Q (.ref p) (upd H1 p u)
theorem pe_tupZ {x1} {es : List Expr} {t : TA} {pos : Pos} (h : PA X es t) : PE X (.Tuple es x1 pos) (tTupZ t) :=
  ⟨fun pins s σ H Q inv hq => wpAny_Tuple_spliced (thn (h.run pos pins s σ H _ inv hq) fun us s1 ⟨xs, H1, inv1, vals, fit, q⟩ => ⟨vals.length ▸ fit, laid_fz (s := s1) inv1 vals fit q⟩)⟩
def rCatZ (K : PySem.W.Frag) : R2 := fun x y H Q => ∃ a b xs ys, x = .ref a ∧ y = .ref b ∧ SqT K H a xs ∧ SqT K H b ys ∧ xs ≠ [] ∧ xs.length + ys.length ≤ sizeLine ∧
  (ys = [] → Q (.ref a) H) ∧ (ys ≠ [] → ∀ p u, H p = none → IsFz u (xs ++ ys) → Q (.ref p) (upd H p u))
theorem op_catZ : OpR X (binaryOp .Add) (rCatZ X.K) := by
  rintro pins s σ H _ _ v u Q inv relx rely ⟨a, b, xs, ys, rfl, rfl, sa, sb, some1, fit, same, new⟩
  cases relx
  cases rely
  obtain ⟨us, valsA, tupA, _⟩ := inv.tuple sa
  obtain ⟨ws, valsB, tupB, _⟩ := inv.tuple sb
  exact HT.cat_tup tupA tupB (fun e => some1 (valsA.nil_iff.mp e)) (fun e => ⟨.ref a, H, inv, rfl, same (valsB.nil_iff.mp e)⟩)
    (fun e => laid_fz (s := s) inv (valsA.append valsB) (by rw [List.length_append]; exact fit) (new fun w => e (valsB.nil_iff.mpr w))) (by rw [← valsA.length, ← valsB.length]; exact fit)
def rTupZ (K : PySem.W.Frag) : List V → Hp → VK → Prop := fun xs H Q => ∃ p ys, xs = [.ref p] ∧ SqL K H p ys ∧ ∀ l u, H l = none → IsFz u ys → Q (.ref l) (upd H l u)
theorem call_tupleZ : CallR X (.type "tuple") (rTupZ X.K) := by
  rintro pins s σ H _ us Q inv rel ⟨p, ys, rfl, sq, q⟩
  rw [Vals.ref1 rel]
  obtain ⟨its, vals, pl, fit⟩ := inv.list sq
  exact call_tuple_list pl.isList (fun h' kp => laid_fz (s := s) (inv.kept (t' := s.toks) kp) vals fit q) (by rw [List.size_toArray, ← vals.length]; exact fit)
def tTM (r : V → List V → Hp → VK → Prop) (to : TE) (t : TA) : TE := fun σ H Q => to σ H fun x H1 => (∃ a xs, x = .ref a ∧ TpO H1 a xs) ∧ t σ H1 fun xs H2 => r x xs H2 Q
/-- t.m(e, ..), t such a tuple -/
theorem pe_tm {o e : Expr} {es : List Expr} {to : TE} {t : TA} {name : Str} {apos cpos : Pos} {id : String} {r : V → List V → Hp → VK → Prop} (slot : Slot "tuple" name id)
    (hty : typeOf (.builtin id) = pure (.type "method_descriptor")) (hm : MtR X id r) (ho : PE X o to) (ha : PA X (e :: es) t)
    (h1 : attributeBase o name X.env (eval o X.env) = eval o X.env := by rfl)
    (h2 : ((backTo cpos (starEach (e :: es) X.env)).all (fun x => !x.1) && (backToKw cpos (keywordEach [] X.env)).all (fun x => x.1.isSome) && decide ((e :: es).length + ([] : List Keyword).length + (if ([] : List Keyword).isEmpty then 0 else 1) < 30)) = true := by rfl)
    (h3 : (apos.endLine == cpos.line) = true := by rfl) (h4 : starEach (e :: es) X.env = (false, eval e X.env) :: starEach es X.env := by rfl)
    (h5 : (backTo cpos (starEach es X.env)).any (·.1) = false := by rfl) : PE X (.Call (.Attribute o name apos) (e :: es) [] cpos) (tTM r to t) := by
  refine ⟨fun pins s σ H Q inv h => wpAny_Call_method_late h1 h2 h3 rfl (thn (ho.run pins s σ H _ inv h) fun v s1 ⟨x, H1, inv1, rel, ty, q1⟩ => ?_)⟩
  obtain ⟨a, xs, rfl, _, hu, ob, rfl, hc, hd⟩ := ty
  cases rel
  have stands : s1.heap.get? a = some ob := (inv1.hok a _ hu).1
  have args := ha.run cpos pins s1 σ H1 _ inv1 q1
  rw [h4] at args
  refine ⟨"tuple", id, PySem.F.plainAttrs_tuple, slot, hty, ⟨ob, stands, hc⟩, fun b e => by cases e; exact ⟨ob, stands, hd⟩, ?_⟩
  rw [h4]
  have plain : ((false, eval e X.env) :: backTo cpos (starEach es X.env)).any (·.1) = false := by rw [List.any_cons, h5]; rfl
  exact Calls.callWith_builtin plain (Calls.evalArgs_plain (thn args fun us s2 ⟨vs, H2, inv2, rels, q2⟩ => hm pins s2 σ H2 (.ref a) vs _ us Q inv2 rfl rels q2))
end
end Lt

set_option Elab.async false
set_option linter.all false
set_option maxRecDepth 100000
set_option maxHeartbeats 4000000
namespace Lt
open PySem PySem.Spec PyProof.Rows L2
/-! ### heaps -/
theorem same_new {H : Hp} {p : Addr} (h : H p = none) (o : HO) : Same H (upd H p o) := fun b u q => by
  rw [upd_ne (ne_of_none q h)]
  exact q
theorem same_put {H H' : Hp} {p : Addr} {o : HO} (s : Same H H') (h : H p = none) : Same H (upd H' p o) := fun b u q => by
  rw [upd_ne (ne_of_none q h)]
  exact s _ _ q
theorem same_tup {K : PySem.W.Frag} {H H' : Hp} {a : Addr} {xs : List V} (e : Same H H') (h : SqT K H a xs) : SqT K H' a xs := by
  rcases h with (h | ⟨o, h⟩) | h
  · exact .inl (.inl (e _ _ h))
  · exact .inl (.inr ⟨o, e _ _ h⟩)
  · exact .inr h
theorem sqt {K : PySem.W.Frag} {H : Hp} {a : Addr} {xs : List V} (h : H a = some (.tup xs)) : SqT K H a xs := .inl (.inl h)
theorem sql {K : PySem.W.Frag} {H : Hp} {a : Addr} {xs : List V} (h : H a = some (.lst xs)) : SqL K H a xs := .inl (.inl h)
/-- all but what stands at T is as it was -/
def SameT (T : Addr) (H H' : Hp) : Prop := ∀ b o, b ≠ T → H b = some o → H' b = some o
theorem SameT.refl (T : Addr) (H : Hp) : SameT T H H := fun _ _ _ h => h
theorem SameT.trans {T : Addr} {H H1 H2 : Hp} (a : SameT T H H1) (b : SameT T H1 H2) : SameT T H H2 := fun c o n h => b c o n (a c o n h)
theorem SameT.of {T : Addr} {H H' : Hp} (s : Same H H') : SameT T H H' := fun c o _ h => s c o h
theorem SameT.free {T : Addr} {H H' : Hp} (e : SameT T H H') {l : Addr} (hl : l ≠ T) (h : H' l = none) : H l = none := by
  cases q : H l with
  | none => rfl
  | some o =>
    rw [e l o hl q] at h
    cases h
mutual
theorem dp_same {K : PySem.W.Frag} {H H' : Hp} (e : Same H H') : ∀ {v : V} {d : PyData}, Dp K H v d → Dp K H' v d
  | _, _, .non => .non
  | _, _, .bl b => .bl b
  | _, _, .int i => .int i
  | _, _, .str x => .str x
  | _, _, .lst h a => .lst (e.seq h) (dpAll_same e a)
  | _, _, .tup h a => .tup (same_tup e h) (dpAll_same e a)
theorem dpAll_same {K : PySem.W.Frag} {H H' : Hp} (e : Same H H') : ∀ {vs : List V} {ds : List PyData}, DpAll K H vs ds → DpAll K H' vs ds
  | _, _, .nil => .nil
  | _, _, .cons h t => .cons (dp_same e h) (dpAll_same e t)
end
theorem dpAll_strs {K : PySem.W.Frag} {H : Hp} : ∀ ss : List Str, DpAll K H (ss.map V.str) (ss.map PyData.str)
  | [] => .nil
  | x :: r => .cons (.str x) (dpAll_strs r)
theorem dpAll_ints {K : PySem.W.Frag} {H : Hp} : ∀ ns : List Int, DpAll K H (ns.map V.int) (ns.map PyData.int)
  | [] => .nil
  | x :: r => .cons (.int x) (dpAll_ints r)
theorem dpAll_snoc {K : PySem.W.Frag} {H : Hp} : ∀ {vs : List V} {ds : List PyData} {v : V} {d : PyData}, DpAll K H vs ds → Dp K H v d → DpAll K H (vs ++ [v]) (ds ++ [d])
  | _, _, _, _, .nil, h => .cons h .nil
  | _, _, _, _, .cons a t, h => .cons a (dpAll_snoc t h)
theorem dpAll_append {K : PySem.W.Frag} {H : Hp} : ∀ {vs ws : List V} {ds es : List PyData}, DpAll K H vs ds → DpAll K H ws es → DpAll K H (vs ++ ws) (ds ++ es)
  | _, _, _, _, .nil, h => h
  | _, _, _, _, .cons a t, h => .cons a (dpAll_append t h)
theorem dpAll_len {K : PySem.W.Frag} {H : Hp} : ∀ {vs : List V} {ds : List PyData}, DpAll K H vs ds → vs.length = ds.length
  | _, _, .nil => rfl
  | _, _, .cons _ t => congrArg (· + 1) (dpAll_len t)
theorem dpAll_get {K : PySem.W.Frag} {H : Hp} : ∀ {vs : List V} {ds : List PyData}, DpAll K H vs ds → ∀ {i : Nat} {v : V}, vs[i]? = some v → ∃ d, ds[i]? = some d ∧ Dp K H v d
  | _, _, .nil, i, v, h => by simp at h
  | _, _, .cons a t, 0, v, h => by
    simp only [List.getElem?_cons_zero, Option.some.injEq] at h
    exact ⟨_, rfl, h ▸ a⟩
  | _, _, .cons a t, i + 1, v, h => by
    simp only [List.getElem?_cons_succ] at h ⊢
    exact dpAll_get t h
theorem TpO.same {H H' : Hp} {a : Addr} {xs : List V} (h : TpO H a xs) (e : Same H H') : TpO H' a xs := h.move fun u q => e _ _ q
theorem TpO.sameT {T : Addr} {H H' : Hp} {a : Addr} {xs : List V} (h : TpO H a xs) (e : SameT T H H') (n : a ≠ T) : TpO H' a xs := h.move fun u q => e _ _ n q
/-! ### walks -/
theorem in_it {J : It} {n : Nat} {G : Hp → Prop} {Y : Nat → Hp → V → Hp → Prop} (w : Walk J n G Y) {Qd : Hp → Prop} {R : V → Hp → (Hp → Prop) → Prop} {H0 : Hp} (Pv : Nat → Hp → Prop) (h0 : Pv 0 H0)
    (hG : ∀ i H, i ≤ n → Pv i H → G H) (hs : ∀ i x H H', i < n → Pv i H → Y i H x H' → R x H' (Pv (i + 1))) (hd : ∀ H, Pv n H → Qd H) :
    ∃ W : Nat → Nat → Hp → Prop, (∃ m, W 0 m H0) ∧ ∀ i m H, W i m H → (J.stop i H ∧ Qd H) ∨
      (J.go i H ∧ ∃ Nx : Hp → Prop, (∀ H', Nx H' → ∃ m', m' < m ∧ W (i + 1) m' H') ∧ ∀ x H', J.yld i H x H' → R x H' Nx) := by
  refine ⟨fun i m H => m = n - i ∧ i ≤ n ∧ Pv i H, ⟨n, by simp, Nat.zero_le _, h0⟩, ?_⟩
  rintro i m H ⟨rfl, hi, p⟩
  by_cases hlt : i < n
  · exact .inr ⟨w.goes i H hlt (hG i H hi p), Pv (i + 1), fun H' p' => ⟨n - (i + 1), by omega, rfl, hlt, p'⟩, fun x H' y => hs i x H H' hlt p (w.yields i H x H' hlt (hG i H hi p) y)⟩
  · have e : i = n := by omega
    subst e
    exact .inl ⟨w.stops H (hG i H hi p), hd H p⟩
/-! ### the tape -/
structure Tape (H : Hp) (T S : Addr) (ns : List Int) : Prop where
  at_ : ∃ i c : Int, H T = some (.lst [.ref S, .int i, .int c])
  scr : H S = some (.lst (ns.map V.int))
theorem Tape.ne {H : Hp} {T S : Addr} {ns : List Int} (t : Tape H T S ns) : S ≠ T := by
  obtain ⟨i, c, h⟩ := t.at_
  refine ne_of t.scr h fun z => ?_
  injection z with z
  cases ns with
  | nil => cases z
  | cons a r => cases z
theorem Tape.same {H H' : Hp} {T S : Addr} {ns : List Int} (t : Tape H T S ns) (s : Same H H') : Tape H' T S ns := by
  obtain ⟨i, c, h⟩ := t.at_
  exact ⟨⟨i, c, s _ _ h⟩, s _ _ t.scr⟩
theorem Tape.put {H : Hp} {T S : Addr} {ns : List Int} (t : Tape H T S ns) (i c : Int) : Tape (upd H T (.lst [.ref S, .int i, .int c])) T S ns :=
  ⟨⟨i, c, upd_same⟩, by rw [upd_ne t.ne]; exact t.scr⟩
theorem Tape.taken {H : Hp} {T S : Addr} {ns : List Int} (t : Tape H T S ns) : ∃ o, H T = some o := by
  obtain ⟨i, c, h⟩ := t.at_
  exact ⟨_, h⟩
theorem sameT_put {T : Addr} {H : Hp} (o : HO) : SameT T H (upd H T o) := fun b u n q => by rw [upd_ne n]; exact q
theorem new_ne {H' : Hp} {T p : Addr} {o : HO} (h : H' T = some o) (n : H' p = none) : p ≠ T := fun e => by
  rw [e, h] at n
  cases n
/-! ### texts in order -/
abbrev ltS (a b : Str) : Prop := a.cps.toList < b.cps.toList
theorem str_ext {a b : Str} (h : a.cps.toList = b.cps.toList) : a = b := by
  cases a with
  | mk x =>
    cases b with
    | mk y =>
      have e : x = y := Array.toList_inj.mp h
      rw [e]
theorem ltS_tri {a b : Str} (h1 : ¬ ltS a b) (h2 : ¬ ltS b a) : a = b := by
  apply str_ext
  rw [List.not_lt] at h1 h2
  exact List.le_antisymm h2 h1
theorem ltS_asymm {a b : Str} (h : ltS a b) : ¬ ltS b a := List.lt_asymm h
theorem ltS_irrefl (a : Str) : ¬ ltS a a := List.lt_irrefl _
theorem rising_pw : ∀ (p : Str) (l : List Str), risingS p l = true → (p :: l).Pairwise fun a b => ¬ ltS b a
  | p, [], _ => List.pairwise_singleton _ _
  | p, x :: r, h => by
    have h' : (!ltCps x.cps.toList p.cps.toList && risingS x r) = true := h
    rw [Bool.and_eq_true] at h'
    have ih := rising_pw x r h'.2
    have hx : ¬ ltS x p := by
      have q := h'.1
      rw [ltCps_eq] at q
      simpa using q
    refine List.pairwise_cons.mpr ⟨fun y hy => ?_, ih⟩
    rcases List.mem_cons.mp hy with e | hy
    · rw [e]
      exact hx
    · have q := (List.pairwise_cons.mp ih).1 y hy
      intro z
      by_cases e : ltS p x
      · exact q (List.lt_trans z e)
      · rw [ltS_tri e hx] at z
        exact q z
theorem sorted_pw {l : List Str} (h : sortedS l = true) : l.Pairwise fun a b => ¬ ltS b a := by
  cases l with
  | nil => exact List.Pairwise.nil
  | cons x r => exact rising_pw x r h
theorem sorted_one {l m : List Str} (hl : sortedS l = true) (hm : sortedS m = true) (p : l.Perm m) : l = m :=
  List.Perm.eq_of_pairwise (fun a b _ _ h1 h2 => ltS_tri h2 h1) (sorted_pw hl) (sorted_pw hm) p
/-- both of a pair, the lesser first -/
def asPair (q : Str × Str) : Str × Str := if ltS q.1 q.2 then (q.1, q.2) else (q.2, q.1)
theorem sorted_two {a b : Str} {l : List Str} (p : l.Perm [a, b]) (h : sortedS l = true) : l = [(asPair (a, b)).1, (asPair (a, b)).2] := by
  refine sorted_one h ?_ (p.trans ?_)
  · unfold asPair
    by_cases c : ltS a b
    · rw [if_pos c]
      show (!ltCps b.cps.toList a.cps.toList && true) = true
      rw [ltCps_eq, decide_eq_false (ltS_asymm c)]
      rfl
    · rw [if_neg c]
      show (!ltCps a.cps.toList b.cps.toList && true) = true
      rw [ltCps_eq, decide_eq_false c]
      rfl
  · unfold asPair
    by_cases c : ltS a b
    · rw [if_pos c]
    · rw [if_neg c]
      exact List.Perm.swap b a []
/-- the pairs of a row of texts, by the place of the first -/
def prs (ys : List Str) : Nat → List (Str × Str)
  | 0 => []
  | i + 1 => prs ys i ++ match ys[i]? with
    | some a => (ys.drop (i + 1)).map fun b => (a, b)
    | none => []
theorem prs_succ {ys : List Str} {i : Nat} {a : Str} (h : ys[i]? = some a) : prs ys (i + 1) = prs ys i ++ (ys.drop (i + 1)).map fun b => (a, b) := by
  show prs ys i ++ (match ys[i]? with | some a => (ys.drop (i + 1)).map fun b => (a, b) | none => []) = _
  rw [h]
theorem prs_mem {ys : List Str} {i j : Nat} {a b : Str} (hi : ys[i]? = some a) (hj : ys[j]? = some b) (h : i < j) : ∀ n, i < n → (a, b) ∈ prs ys n
  | 0, z => by omega
  | n + 1, z => by
    by_cases e : i = n
    · subst e
      rw [prs_succ hi]
      refine List.mem_append_right _ (List.mem_map.mpr ⟨b, ?_, rfl⟩)
      have q : (ys.drop (i + 1))[j - (i + 1)]? = some b := by
        rw [List.getElem?_drop, show i + 1 + (j - (i + 1)) = j by omega]
        exact hj
      exact List.mem_of_getElem? q
    · exact List.mem_append_left _ (prs_mem hi hj h n (by omega))
theorem prs_len (ys : List Str) : ∀ n, (prs ys n).length ≤ n * ys.length
  | 0 => by simp [prs]
  | n + 1 => by
    have ih := prs_len ys n
    rw [Nat.succ_mul]
    cases h : ys[n]? with
    | none =>
      have e : prs ys (n + 1) = prs ys n ++ (match ys[n]? with | some a => (ys.drop (n + 1)).map fun b => (a, b) | none => []) := rfl
      rw [e, h, List.append_nil]
      omega
    | some a =>
      rw [prs_succ h, List.length_append, List.length_map, List.length_drop]
      omega
theorem pair_in {ys bs : List Str} {a b : Str} (p : ys.Perm bs) (hs : sortedS ys = true) (ha : a ∈ bs) (hb : b ∈ bs) (ne : a ≠ b) : asPair (a, b) ∈ prs ys ys.length := by
  have key : ∀ {c d : Str}, c ∈ bs → d ∈ bs → ltS c d → (c, d) ∈ prs ys ys.length := fun {c d} hc hd lt => by
    obtain ⟨i, hi⟩ := List.getElem?_of_mem (p.mem_iff.mpr hc)
    obtain ⟨j, hj⟩ := List.getElem?_of_mem (p.mem_iff.mpr hd)
    have li := (List.getElem?_eq_some_iff.mp hi).1
    have lj := (List.getElem?_eq_some_iff.mp hj).1
    refine prs_mem hi hj ?_ _ li
    by_cases h : i < j
    · exact h
    · exfalso
      by_cases e : i = j
      · subst e
        rw [hi] at hj
        cases hj
        exact ltS_irrefl _ lt
      · have pw := List.pairwise_iff_getElem.mp (sorted_pw hs) j i lj li (by omega)
        rw [(List.getElem?_eq_some_iff.mp hi).2, (List.getElem?_eq_some_iff.mp hj).2] at pw
        exact pw lt
  unfold asPair
  by_cases c : ltS a b
  · rw [if_pos c]
    exact key ha hb c
  · rw [if_neg c]
    refine key hb ha ?_
    by_cases d : ltS b a
    · exact d
    · exact absurd (ltS_tri c d) ne
/-! ### what readings do -/
/-- the pile behind one reading -/
def lay (bs : List Str) (b : Str) : List Str := b :: bs.eraseIdx (bs.idxOf b)
/-- the books above -/
def over (bs : List Str) (b : Str) : List Str := bs.take (bs.idxOf b)
def behindM : List Str → List Str → List Str
  | bs, [] => bs
  | bs, b :: r => behindM (lay bs b) r
def liftedM : List Str → List Str → List Nat
  | _, [] => []
  | bs, b :: r => bs.idxOf b :: liftedM (lay bs b) r
def rowsM : List Str → List Str → List (Str × Str)
  | _, [] => []
  | bs, b :: r => (over bs b).map (fun o => (b, o)) ++ rowsM (lay bs b) r
theorem behindM_snoc (bs : List Str) : ∀ (rs : List Str) (b : Str), behindM bs (rs ++ [b]) = lay (behindM bs rs) b := by
  intro rs
  induction rs generalizing bs with
  | nil => intro b; rfl
  | cons x r ih => intro b; exact ih (lay bs x) b
theorem liftedM_snoc (bs : List Str) : ∀ (rs : List Str) (b : Str), liftedM bs (rs ++ [b]) = liftedM bs rs ++ [(behindM bs rs).idxOf b] := by
  intro rs
  induction rs generalizing bs with
  | nil => intro b; rfl
  | cons x r ih =>
    intro b
    show bs.idxOf x :: liftedM (lay bs x) (r ++ [b]) = bs.idxOf x :: (liftedM (lay bs x) r ++ [(behindM (lay bs x) r).idxOf b])
    rw [ih]
theorem rowsM_snoc (bs : List Str) : ∀ (rs : List Str) (b : Str), rowsM bs (rs ++ [b]) = rowsM bs rs ++ (over (behindM bs rs) b).map fun o => (b, o) := by
  intro rs
  induction rs generalizing bs with
  | nil => intro b; exact List.append_nil _
  | cons x r ih =>
    intro b
    show (over bs x).map (fun o => (x, o)) ++ rowsM (lay bs x) (r ++ [b]) = ((over bs x).map (fun o => (x, o)) ++ rowsM (lay bs x) r) ++ (over (behindM (lay bs x) r) b).map fun o => (b, o)
    rw [ih, List.append_assoc]
theorem idx_lt {bs : List Str} {b : Str} (h : b ∈ bs) : bs.idxOf b < bs.length := List.idxOf_lt_length_iff.mpr h
theorem idx_get {bs : List Str} {b : Str} (h : b ∈ bs) : bs[bs.idxOf b]? = some b := by
  rw [List.getElem?_eq_getElem (idx_lt h), List.getElem_idxOf (idx_lt h)]
theorem idx_first {bs : List Str} {b : Str} : ∀ m, m < bs.idxOf b → bs[m]? ≠ some b := by
  induction bs with
  | nil => intro m h; simp at h
  | cons x r ih =>
    intro m h
    rw [List.idxOf_cons] at h
    by_cases e : x == b
    · rw [e] at h
      simp at h
    · have e' : (x == b) = false := by simpa using e
      rw [e'] at h
      simp only [cond_false] at h
      cases m with
      | zero =>
        intro z
        simp only [List.getElem?_cons_zero, Option.some.injEq] at z
        rw [z] at e'
        simp at e'
      | succ m =>
        simp only [List.getElem?_cons_succ]
        exact ih m (by omega)
theorem lay_perm {bs : List Str} {b : Str} (h : b ∈ bs) : (lay bs b).Perm bs := by
  have q := (List.perm_cons_erase h).symm
  rw [List.erase_eq_eraseIdx_of_idxOf rfl] at q
  exact q
theorem behindM_perm : ∀ {bs : List Str} (rs : List Str), (∀ b ∈ rs, b ∈ bs) → (behindM bs rs).Perm bs
  | bs, [], _ => List.Perm.refl _
  | bs, b :: r, h => by
    have hb := h b (List.mem_cons_self ..)
    have p := lay_perm hb
    exact (behindM_perm r fun c hc => p.mem_iff.mpr (h c (List.mem_cons_of_mem _ hc))).trans p
/-- a book above another is another -/
theorem over_ne {bs : List Str} {b o : Str} (h : o ∈ over bs b) : o ≠ b := by
  obtain ⟨m, hm⟩ := List.getElem?_of_mem h
  have l := (List.getElem?_eq_some_iff.mp hm).1
  unfold over at hm l
  rw [List.length_take] at l
  rw [List.getElem?_take_of_lt (by omega)] at hm
  intro e
  subst e
  exact idx_first m (by omega) hm
theorem over_mem {bs : List Str} {b o : Str} (h : o ∈ over bs b) : o ∈ bs := List.mem_of_mem_take h
/-- how often both passed one another -/
def cnt (rows : List (Str × Str)) (q : Str × Str) : Nat := (rows.filter fun r => decide (asPair r = q)).length
theorem cnt_nil (q : Str × Str) : cnt [] q = 0 := rfl
theorem cnt_snoc (rows : List (Str × Str)) (r q : Str × Str) : cnt (rows ++ [r]) q = cnt rows q + if asPair r = q then 1 else 0 := by
  unfold cnt
  rw [List.filter_append, List.length_append]
  by_cases h : asPair r = q
  · rw [if_pos h, List.filter_cons_of_pos (by simpa using h)]
    rfl
  · rw [if_neg h, List.filter_cons_of_neg (by simpa using h)]
    rfl
/-! ### slices -/
theorem cut_to {xs : List V} {j : Nat} (h : j ≤ xs.length) : cutV xs none (some (j : Int)) = xs.take j := by
  unfold cutV
  rw [HT.sIx_none, HT.sIx_nat, Nat.min_eq_left h]
  simp
theorem cut_from {xs : List V} {j : Nat} (h : j ≤ xs.length) : cutV xs (some (j : Int)) none = xs.drop j := by
  unfold cutV
  rw [HT.sIx_none, HT.sIx_nat, Nat.min_eq_left h]
  rw [List.take_of_length_le (by rw [List.length_drop]; omega)]
/-! ### shapes -/
theorem shaped_of {d : PyData} (h1 : d.canLay0 = true) (h2 : d.depth ≤ 64) : SeqAt.shaped d = true := by
  unfold SeqAt.shaped
  rw [h1, decide_eq_true h2]
  rfl
theorem canAll : ∀ ds : List PyData, (∀ d ∈ ds, d.canLay0 = true) → PyData.canLayAll0 ds = true
  | [], _ => by rw [PyData.canLayAll0]
  | d :: r, h => by
    rw [PyData.canLayAll0, h d (List.mem_cons_self ..), canAll r fun x hx => h x (List.mem_cons_of_mem _ hx)]
    rfl
theorem depthAll_le {n : Nat} : ∀ ds : List PyData, (∀ d ∈ ds, d.depth ≤ n) → PyData.depthAll ds ≤ n
  | [], _ => by rw [PyData.depthAll]; exact Nat.zero_le _
  | d :: r, h => by
    rw [PyData.depthAll]
    exact Nat.max_le.mpr ⟨h d (List.mem_cons_self ..), depthAll_le r fun x hx => h x (List.mem_cons_of_mem _ hx)⟩
/-! ### rules within a comprehension: the written part is named -/
section
variable {X : Cx} {K : PySem.W.Frag}
theorem ixL (e : X.K = K) : IxR X (rIxL K) := by
  subst e
  exact ix_list
theorem ixT (e : X.K = K) : IxR X (rIxT K) := by
  subst e
  exact ix_tup
theorem cLen (e : X.K = K) : CallR X (.builtin "len") (Evl.rLenS K) := by
  subst e
  exact call_len_seq
theorem cSortT (e : X.K = K) : CallR X (.builtin "sorted") (rSortedT K) := by
  subst e
  exact cr_sortedT
theorem oEqD (hu : X.A.units + 64 < cLine) (e : X.K = K) : OpR X (compareOp .Eq) (rEqD K) := by
  subst e
  exact op_eqD hu
end
end Lt

set_option Elab.async false
set_option linter.all false
set_option maxRecDepth 100000
set_option maxHeartbeats 4000000
namespace Lt
open PySem PySem.Spec PyProof.Rows L2
def top (i : Nat) : Stmt := PySem.Challenge.pw_laidontop_k02_readings_by_hand.main.body.getD i (.Pass ⟨0, 0, 0, 0⟩)
abbrev sDraw : Stmt := top 9
theorem upd_self {H : Hp} {a : Addr} {o : HO} (h : H a = some o) : upd H a o = H := by
  funext b
  unfold upd
  by_cases e : b = a
  · rw [if_pos e, e, h]
  · rw [if_neg e]
section
variable {P : Program} {w : World} {K : PySem.W.Frag} {mg : Str → Option Value} {base : Heap}
def spDraw : Sp := fun vs H Q _ => ∃ (T S : Addr) (ns : List Int) (m : Int), vs = [.ref T, .int m] ∧ Tape H T S ns ∧ 0 < m ∧ m < 1000000 ∧
  ∀ r i c : Int, 0 ≤ r → r < m → Q (.int r) (upd H T (.lst [.ref S, .int i, .int c]))
theorem scDraw : FnScope ["tape", "many", "prime", "cell", "found"] ["tape", "many"] (defScope sDraw) := ⟨rfl, rfl, rfl, by decide +kernel, rfl, by decide +kernel, by decide +kernel⟩
theorem ok_draw {f : Addr} {fd : FuncData} (F : Fun K "_law_draw" "_law_draw" sDraw f fd) (ml : mg "len" = none) : FnOk P w K mg base CX0 1 f fd ["tape", "many"] spDraw := by
  refine F.ok scDraw (fun vs H Q E h => ?_) (fun cdv A outer s H vs Q E hr h => ?_)
  · obtain ⟨T, S, ns, m, rfl, _⟩ := h
    rfl
  obtain ⟨T, S, ns, m, rfl, tp, m0, m1, q⟩ := h
  obtain ⟨i, c, hT⟩ := tp.at_
  have hS := tp.scr
  refine ⟨_, pss_cons (ps_set (i := 2) scDraw.nd rfl (.inl rfl) pe_int)
    (Evl.pss_cut (ps_if (pt_cmpR op_lt (pe_ix ix_list (pv 0) pe_int (fun _ _ => rfl)) (pv 1) (nomark _))
      (pss_cons (ps_set (i := 3) scDraw.nd rfl (.inl rfl) pe_int)
      (Evl.pss_cut (ps_if (pt_cmpR op_gt (pe_callB call_len_seq (by rfl) ml PySem.boot_len (pa_cons (pe_ix ix_list (pv 0) pe_int (fun _ _ => rfl)) pa_nil)) pe_int (nomark _))
        (pss_one (ps_set (i := 3) scDraw.nd rfl (.inl rfl) (pe_ix ix_list (pe_ix ix_list (pv 0) pe_int (fun _ _ => rfl))
          (pe_op op_mod (pe_ix ix_list (pv 0) pe_int (fun _ _ => rfl)) (pe_callB call_len_seq (by rfl) ml PySem.boot_len (pa_cons (pe_ix ix_list (pv 0) pe_int (fun _ _ => rfl)) pa_nil))) (fun _ _ => rfl)))) pss_nil)
      (Evl.pss_cut (ps_if (PW.pt (pw_or (pt_cmpR op_ge (pe_ix ix_list (pv 0) pe_int (fun _ _ => rfl)) (pe_callB call_len_seq (by rfl) ml PySem.boot_len (pa_cons (pe_ix ix_list (pv 0) pe_int (fun _ _ => rfl)) pa_nil)) (nomark _))
          (pw_or1 (pt_cmpR op_lt (pv 3) (pe_op op_pow pe_int pe_int) (nomark _)))))
        (pss_cons (ps_set (i := 3) scDraw.nd rfl (.inl rfl) (pe_op op_mod (pe_op op_add (pv 3) (pe_op op_mul pe_int (pe_ix ix_list (pv 0) pe_int (fun _ _ => rfl)))) (pv 2)))
        (pss_cons (ps_set (i := 3) scDraw.nd rfl (.inl rfl) (pe_op op_mod (pe_op op_add (pe_op op_add (pe_op op_mul (pv 3) (pv 3)) (pe_op op_mul pe_int (pv 3))) pe_int) (pv 2)))
        (pss_one (ps_set (i := 3) scDraw.nd rfl (.inl rfl) (pe_op op_mod (pe_op op_add (pe_op op_mul (pv 3) (pv 3)) pe_int) (pv 2)))))) pss_nil)
      (pss_cons (ps_asg (pe_op op_add (pe_ix ix_list (pv 0) pe_int (fun _ _ => rfl)) pe_int) (pg_sub (pv 0) pe_int set_list))
      (pss_one (ps_asg (pv 3) (pg_sub (pv 0) pe_int set_list))))))) pss_nil)
    (pss_cons (ps_set (i := 4) scDraw.nd rfl (.inl rfl) (pe_op op_mod (pe_ix ix_list (pv 0) pe_int (fun _ _ => rfl)) (pv 1)))
    (pss_cons (ps_asg (pe_op op_fdiv (pe_ix ix_list (pv 0) pe_int (fun _ _ => rfl)) (pv 1)) (pg_sub (pv 0) pe_int set_list))
    (pss_one (ps_ret (pv 4)))))), ?_⟩
  have lenE : ((ns.map V.int).length : Int) = ns.length := by rw [List.length_map]
  refine ⟨fun σ H' => ∃ (y3 : Option V) (i' c' : Int), σ = [some (.ref T), some (.int m), some (.int 2305843009213693951), y3, none] ∧ H' = upd H T (.lst [.ref S, .int i', .int c']), ?_, ?_⟩
  · refine ⟨_, rfl, T, _, 2, _, rfl, rfl, sql hT, rfl, _, rfl, _, _, rfl, rfl, _, rfl, ite2 (fun _ => ?_) (fun _ => ?_)⟩
    · -- the cell
      refine ⟨fun σ H' => ∃ c0 : Int, σ = [some (.ref T), some (.int m), some (.int 2305843009213693951), some (.int c0), none] ∧ H' = H, ?_, ?_⟩
      · refine ⟨_, rfl, T, _, 0, _, rfl, rfl, sql hT, rfl, S, _, rfl, .inl (sql hS), _, _, rfl, rfl, _, rfl, ite2 (fun g => ?_) (fun _ => ?_)⟩
        · have g1 : (0 : Int) < ((ns.map V.int).length : Int) := of_decide_eq_true g
          rw [lenE] at g1
          have e0 : 0 ≤ i % (ns.length : Int) := Int.emod_nonneg _ (by omega)
          have e1 : i % (ns.length : Int) < (ns.length : Int) := Int.emod_lt_of_pos _ g1
          have hk : (i % (ns.length : Int)).toNat < ns.length := by omega
          refine ⟨_, rfl, T, _, 0, _, rfl, rfl, sql hT, rfl, _, rfl, T, _, 1, _, rfl, rfl, sql hT, rfl, _, rfl, T, _, 0, _, rfl, rfl, sql hT, rfl, S, _, rfl, .inl (sql hS), _, _, rfl, rfl, ?_, S, _, _, .int ns[(i % (ns.length : Int)).toNat], rfl, rfl, sql hS, ?_, ?_⟩
          · show (0 : Int) < ((ns.map V.int).length : Int)
            rw [lenE]
            exact g1
          · show atI (ns.map V.int) (i % ((ns.map V.int).length : Int)) = _
            rw [lenE]
            exact at_of (j := (i % (ns.length : Int)).toNat) (by omega) (by rw [List.getElem?_map, List.getElem?_eq_getElem hk]; rfl)
          · exact ⟨_, rfl, rfl⟩
        · exact ⟨_, rfl, rfl⟩
      · rintro σ' H' ⟨c0, rfl, rfl⟩
        refine ⟨fun σ H2 => ∃ c1 : Int, σ = [some (.ref T), some (.int m), some (.int 2305843009213693951), some (.int c1), none] ∧ H2 = H', ?_, ?_⟩
        · refine ⟨_, rfl, T, _, 1, _, rfl, rfl, sql hT, rfl, _, rfl, T, _, 0, _, rfl, rfl, sql hT, rfl, S, _, rfl, .inl (sql hS), _, _, rfl, rfl, _, rfl, ?_⟩
          have near : ∀ x : Int, -(2 ^ 64) < x % 2305843009213693951 ∧ x % 2305843009213693951 < 2 ^ 64 := fun x => by
            have a1 := Int.emod_nonneg x (b := 2305843009213693951) (by decide)
            have a2 := Int.emod_lt_of_pos x (b := 2305843009213693951) (by decide)
            omega
          refine ite2 (fun _ => ?_) (fun _ => ⟨_, rfl, _, _, rfl, rfl, ⟨by decide, by decide, by decide⟩, _, _, rfl, rfl, _, rfl, ite2 (fun _ => ?_) (fun _ => ?_)⟩)
          · refine iteT ⟨_, rfl, _, rfl, T, _, 1, _, rfl, rfl, sql hT, rfl, _, _, rfl, rfl, .inl ⟨by decide, by decide⟩, _, _, rfl, rfl, _, rfl, _, _, rfl, rfl, (by decide : (0 : Int) < 2305843009213693951), ?_⟩
            refine ⟨_, rfl, _, rfl, _, _, rfl, rfl, .inl (near _), _, rfl, _, _, rfl, rfl, .inl ⟨by decide, by decide⟩, _, _, rfl, rfl, _, _, rfl, rfl, _, rfl, _, _, rfl, rfl, (by decide : (0 : Int) < 2305843009213693951), ?_⟩
            refine ⟨_, rfl, _, rfl, _, _, rfl, rfl, .inl (near _), _, _, rfl, rfl, _, rfl, _, _, rfl, rfl, (by decide : (0 : Int) < 2305843009213693951), ?_⟩
            exact ⟨_, rfl, rfl⟩
          · refine ⟨_, rfl, _, rfl, T, _, 1, _, rfl, rfl, sql hT, rfl, _, _, rfl, rfl, .inl ⟨by decide, by decide⟩, _, _, rfl, rfl, _, rfl, _, _, rfl, rfl, (by decide : (0 : Int) < 2305843009213693951), ?_⟩
            refine ⟨_, rfl, _, rfl, _, _, rfl, rfl, .inl (near _), _, rfl, _, _, rfl, rfl, .inl ⟨by decide, by decide⟩, _, _, rfl, rfl, _, _, rfl, rfl, _, rfl, _, _, rfl, rfl, (by decide : (0 : Int) < 2305843009213693951), ?_⟩
            refine ⟨_, rfl, _, rfl, _, _, rfl, rfl, .inl (near _), _, _, rfl, rfl, _, rfl, _, _, rfl, rfl, (by decide : (0 : Int) < 2305843009213693951), ?_⟩
            exact ⟨_, rfl, rfl⟩
          · exact ⟨_, rfl, rfl⟩
        · rintro σ' H2 ⟨c1, rfl, rfl⟩
          refine ⟨_, rfl, T, _, 1, _, rfl, rfl, sql hT, rfl, _, _, rfl, rfl, _, rfl, T, _, 1, 1, rfl, rfl, hT, rfl, ?_⟩
          refine ⟨_, rfl, _, rfl, T, _, 2, 2, rfl, rfl, upd_same, rfl, ?_⟩
          exact ⟨_, _, _, rfl, by rw [upd_upd]; rfl⟩
    · exact ⟨none, i, c, rfl, (upd_self hT).symm⟩
  · rintro σ' H' ⟨y3, i', c', rfl, rfl⟩
    refine ⟨_, rfl, T, _, 2, _, rfl, rfl, sql upd_same, rfl, _, rfl, _, _, rfl, rfl, m0, ?_⟩
    refine ⟨_, rfl, T, _, 2, _, rfl, rfl, sql upd_same, rfl, _, rfl, _, _, rfl, rfl, ⟨by omega, by omega⟩, _, rfl, T, _, 2, 2, rfl, rfl, upd_same, rfl, ?_⟩
    refine ⟨_, rfl, ?_⟩
    rw [upd_upd]
    exact q _ _ _ (Int.emod_nonneg _ (by omega)) (Int.emod_lt_of_pos _ m0)
end
end Lt

set_option Elab.async false
set_option linter.all false
set_option maxRecDepth 100000
set_option maxHeartbeats 4000000
namespace Lt
open PySem PySem.Spec PyProof.Rows L2
/-- a def of the text that keeps a promise, as it is called by its name -/
def Has (P : Program) (w : World) (K : PySem.W.Frag) (mg : Str → Option Value) (base : Heap) (k : Nat) (x : Str) (ps : List Str) (sp : Sp) : Prop :=
  ∃ (f : Addr) (fd : FuncData), FnOk P w K mg base CX0 k f fd ps sp ∧ mg x = some (.ref f) ∧ PySem.W.keepIn K (.ref f) = true ∧ Binds K fd ps []
section
variable {X : Cx}
theorem pe_go {k j : Nat} {x : Str} {ps : List Str} {sp : Sp} {e : Expr} {es : List Expr} {p pos : Pos} {t : TA} (c : Has X.prog X.w X.K X.mg X.base k x ps sp) (hr : Room j X.A) (hk : k ≤ j) (hg : Gl X x) (h : PA X (e :: es) t)
    (h1 : (x == ("__debug__" : Str)) = false := by decide) (h2 : starEach (e :: es) X.env = (false, eval e X.env) :: starEach es X.env := by rfl)
    (h3 : (backTo pos (starEach es X.env)).any (·.1) = false := by rfl) : PE X (.Call (.Name x p) (e :: es) [] pos) (tCall sp [] E0 t) := by
  obtain ⟨f, fd, F, m, kp, b⟩ := c
  exact pe_call F (hr.mono hk) hg m kp b .nil pass0 h h1 h2 h3
theorem pe_go0 {k j : Nat} {x : Str} {ps : List Str} {sp : Sp} {p pos : Pos} (c : Has X.prog X.w X.K X.mg X.base k x ps sp) (hr : Room j X.A) (hk : k ≤ j) (hg : Gl X x)
    (h1 : (x == ("__debug__" : Str)) = false := by decide) : PE X (.Call (.Name x p) [] [] pos) (tCall sp [] E0 tNil) := by
  obtain ⟨f, fd, F, m, kp, b⟩ := c
  exact pe_call0 F (hr.mono hk) hg m kp b .nil pass0 h1
end
/-- the built-in names that the text reads -/
structure Bi (mg : Str → Option Value) : Prop where
  len : mg "len" = none
  range : mg "range" = none
  tuple : mg "tuple" = none
  list : mg "list" = none
  sorted : mg "sorted" = none
  enumerate : mg "enumerate" = none
  isinstance : mg "isinstance" = none
  bool : mg "bool" = none
  set : mg "set" = none
  sum : mg "sum" = none
abbrev sOrder : Stmt := top 11
abbrev sBooks : Stmt := top 12
abbrev sPile : Stmt := top 13
abbrev sReadings : Stmt := top 14
def books : List Str := ["atlas", "bible", "comics", "diary", "essays", "fables", "guide"]
theorem books_nd : books.Nodup := by decide +kernel
theorem books_ok : ∀ b ∈ books, PyData.strOk b = true := by decide +kernel
structure IsPile (bs : List Str) : Prop where
  nd : bs.Nodup
  pos : 0 < bs.length
  most : bs.length ≤ 7
  ok : ∀ b ∈ bs, b ∈ books
abbrev natV (k : Nat) : V := .int (k : Int)
section
variable {P : Program} {w : World} {K : PySem.W.Frag} {mg : Str → Option Value} {base : Heap}
def spOrder : Sp := fun vs H Q _ => ∃ (T S : Addr) (ns : List Int) (n : Nat), vs = [.ref T, .int n] ∧ Tape H T S ns ∧ n ≤ 1000 ∧
  ∀ (p : Addr) (H' : Hp) (qs : List Nat), SameT T H H' → Tape H' T S ns → H p = none → H' p = some (.tup (qs.map natV)) → qs.Perm (List.range n) → Q (.ref p) H'
theorem scOrder : FnScope ["tape", "many", "found", "k"] ["tape", "many"] (defScope sOrder) := ⟨rfl, rfl, rfl, by decide +kernel, rfl, by decide +kernel, by decide +kernel⟩
theorem ok_order {f : Addr} {fd : FuncData} (F : Fun K "_law_any_order" "_law_any_order" sOrder f fd) (B : Bi mg) (cD : Has P w K mg base 1 "_law_draw" ["tape", "many"] spDraw) :
    FnOk P w K mg base CX0 2 f fd ["tape", "many"] spOrder := by
  refine F.ok scOrder (fun vs H Q E h => ?_) (fun cdv A outer s H vs Q E hr h => ?_)
  · obtain ⟨T, S, ns, m, rfl, _⟩ := h
    rfl
  obtain ⟨T, S, ns, n, rfl, tp, n1, q⟩ := h
  refine ⟨_, pss_cons (ps_set (i := 2) scOrder.nd rfl (.inl rfl) (pe_lst pa_nil))
    (pss_cons (ps_for PassesOwn.never rfl (pi_range1 (by rfl) B.range (pa_cons (pv 1) pa_nil)) (pg_name (i := 3) scOrder.nd rfl (.inl rfl))
      (pss_one (ps_expr (pe_bm PySem.F.plainAttrs_list PySem.F.slot_list_insert PySem.F.type_list_insert mt_insert (pv 2)
        (pa_cons (pe_go cD hr (Nat.le_refl _) rfl (pa_cons (pv 0) (pa_cons (pe_op op_add (pv 3) pe_int) pa_nil))) (pa_cons (pv 3) pa_nil))))))
    (pss_one (ps_ret (pe_callTy call_tuple_of (by rfl) B.tuple (by decide +kernel) (pa_cons (pv 2) pa_nil))))), ?_⟩
  refine ⟨Nat.zero_le _, fun L hL => ?_⟩
  obtain ⟨oT, hT⟩ := tp.taken
  have nLT : L ≠ T := new_ne hT hL
  refine ⟨_, rfl, (n : Int), rfl, by omega, by omega, for_range (lo := 0) (n := (n : Int).toNat) (fun i σ H' => ∃ (y3 : Option V) (qs : List Nat), σ = [some (.ref T), some (.int n), some (.ref L), y3] ∧ SameT T H H' ∧ Tape H' T S ns ∧ H' L = some (.lst (qs.map natV)) ∧ qs.Perm (List.range i))
    ⟨none, [], rfl, SameT.of (same_new hL _), tp.same (same_new hL _), upd_same, List.Perm.refl _⟩ ?_ ?_⟩
  · rintro i σ H' hi ⟨y3, qs, rfl, sm, tp', hL', pm⟩
    have lq : qs.length = i := by rw [pm.length_eq, List.length_range]
    have hi' : i < n := by omega
    refine ⟨_, rfl, .inl ⟨rfl, _, sql hL'⟩, _, rfl, _, rfl, _, _, rfl, rfl, T, S, ns, _, rfl, tp', by omega, by omega, fun r a c r0 r1 => ?_⟩
    have hL2 : upd H' T (.lst [.ref S, .int a, .int c]) L = some (.lst (qs.map natV)) := by
      rw [upd_ne nLT]
      exact hL'
    refine ⟨_, rfl, L, _, r, _, rfl, rfl, hL2, ?_, r0, by omega, ?_⟩
    · rw [List.length_map, lq]
      exact small1000 (by omega)
    · refine ⟨_, qs.take r.toNat ++ [i] ++ qs.drop r.toNat, rfl, fun b o nb hb => ?_, ?_, ?_, ?_⟩
      · rw [upd_ne (ne_of_none hb hL)]
        exact sameT_put _ b o nb (sm b o nb hb)
      · have t2 := tp'.put a c
        obtain ⟨x1, x2, t3⟩ := t2.at_
        refine ⟨⟨x1, x2, by rw [upd_ne nLT.symm]; exact t3⟩, ?_⟩
        rw [upd_ne (ne_of_none tp.scr hL)]
        exact t2.scr
      · rw [upd_same, List.map_append, List.map_append, List.map_take, List.map_drop, List.map_singleton]
        rw [show natV i = V.int (0 + (i : Int)) by rw [Int.zero_add]]
      · rw [List.range_succ]
        have e : (qs.take r.toNat ++ [i] ++ qs.drop r.toNat).Perm (qs.take r.toNat ++ qs.drop r.toNat ++ [i]) := by
          rw [List.append_assoc, List.append_assoc]
          exact List.Perm.append_left _ List.perm_append_comm
        rw [List.take_append_drop] at e
        exact e.trans (pm.append_right _)
  · rintro σ H' ⟨y3, qs, rfl, sm, tp', hL', pm⟩
    refine ⟨_, rfl, L, _, rfl, .inl ⟨sql hL', fun p hp => ?_⟩⟩
    have np : H p = none := by
      refine sm.free ?_ hp
      obtain ⟨o2, h2⟩ := tp'.taken
      exact new_ne h2 hp
    rw [Int.toNat_natCast] at pm
    exact q p _ qs (sm.trans (SameT.of (same_new hp _))) (tp'.same (same_new hp _)) np upd_same pm
def spBooks : Sp := fun vs H Q _ => vs = [] ∧ ∀ p, H p = none → Q (.ref p) (upd H p (.lst (books.map V.str)))
theorem scBooks : FnScope [] [] (defScope sBooks) := ⟨rfl, rfl, rfl, by decide +kernel, rfl, by decide +kernel, by decide +kernel⟩
theorem ok_books {f : Addr} {fd : FuncData} (F : Fun K "_law_books" "_law_books" sBooks f fd) : FnOk P w K mg base CX0 1 f fd [] spBooks := by
  refine F.ok scBooks (fun vs H Q E h => ?_) (fun cdv A outer s H vs Q E hr h => ?_)
  · obtain ⟨rfl, _⟩ := h
    rfl
  obtain ⟨rfl, q⟩ := h
  refine ⟨_, pss_one (ps_ret (pe_lst (pa_cons pe_str (pa_cons pe_str (pa_cons pe_str (pa_cons pe_str (pa_cons pe_str (pa_cons pe_str (pa_cons pe_str pa_nil))))))))), ?_⟩
  exact ⟨(by show 7 ≤ sizeLine; decide), fun p hp => q p hp⟩
end
end Lt

set_option Elab.async false
set_option linter.all false
set_option maxRecDepth 100000
set_option maxHeartbeats 4000000
namespace Lt
open PySem PySem.Spec PyProof.Rows L2
/-! ### picking by places -/
def pick (bs : List Str) (qs : List Nat) : List Str := qs.map fun k => (bs[k]?).getD Str.empty
theorem pick_range (bs : List Str) : pick bs (List.range bs.length) = bs := by
  apply List.ext_getElem?
  intro i
  unfold pick
  rw [List.getElem?_map]
  by_cases h : i < bs.length
  · rw [List.getElem?_range h, List.getElem?_eq_getElem h]
    show some ((bs[i]?).getD Str.empty) = some bs[i]
    rw [List.getElem?_eq_getElem h]
    rfl
  · rw [List.getElem?_eq_none (by rw [List.length_range]; omega), List.getElem?_eq_none (by omega)]
    rfl
theorem pick_perm {bs : List Str} {qs : List Nat} (h : qs.Perm (List.range bs.length)) : (pick bs qs).Perm bs := by
  have q := h.map fun k => (bs[k]?).getD Str.empty
  have e : (List.range bs.length).map (fun k => (bs[k]?).getD Str.empty) = bs := pick_range bs
  rw [e] at q
  exact q
theorem pile_of {n : Nat} {qs : List Nat} (h0 : 0 < n) (h7 : n ≤ 7) (h : qs.Perm (List.range n)) : IsPile (pick (books.take n) qs) := by
  have hl : (books.take n).length = n := by
    rw [List.length_take]
    show min n 7 = n
    omega
  have p : (pick (books.take n) qs).Perm (books.take n) := pick_perm (by rw [hl]; exact h)
  refine ⟨p.nodup_iff.mpr (books_nd.sublist (List.take_sublist _ _)), ?_, ?_, fun b hb => List.mem_of_mem_take (p.mem_iff.mp hb)⟩
  · rw [p.length_eq, hl]
    exact h0
  · rw [p.length_eq, hl]
    exact h7
section
variable {P : Program} {w : World} {K : PySem.W.Frag} {mg : Str → Option Value} {base : Heap}
def spPile : Sp := fun vs H Q _ => ∃ (T S : Addr) (ns : List Int) (m : Int), vs = [.ref T, .int m] ∧ Tape H T S ns ∧ 0 < m ∧ m ≤ 7 ∧
  ∀ (p : Addr) (H' : Hp) (bs : List Str), SameT T H H' → Tape H' T S ns → H p = none → TpO H' p (bs.map V.str) → IsPile bs → Q (.ref p) H'
theorem scPile : FnScope ["tape", "size", "some", "at"] ["tape", "size"] (defScope sPile) := ⟨rfl, rfl, rfl, by decide +kernel, rfl, by decide +kernel, by decide +kernel⟩
theorem ok_pile {f : Addr} {fd : FuncData} (F : Fun K "_law_pile" "_law_pile" sPile f fd) (B : Bi mg) (cD : Has P w K mg base 1 "_law_draw" ["tape", "many"] spDraw)
    (cO : Has P w K mg base 2 "_law_any_order" ["tape", "many"] spOrder) (cB : Has P w K mg base 1 "_law_books" [] spBooks) :
    FnOk P w K mg base CX0 3 f fd ["tape", "size"] spPile := by
  refine F.ok scPile (fun vs H Q E h => ?_) (fun cdv A outer s H vs Q E hr h => ?_)
  · obtain ⟨T, S, ns, m, rfl, _⟩ := h
    rfl
  obtain ⟨T, S, ns, m, rfl, tp, m0, m7, q⟩ := h
  refine ⟨_, pss_cons (ps_set (i := 2) scPile.nd rfl (.inr rfl) (pe_slice sl_list (pe_go0 cB hr (by decide) rfl) po_none (po_some (pe_op op_add pe_int (pe_go cD hr (by decide) rfl (pa_cons (pv 0) (pa_cons (pv 1) pa_nil)))))))
    (pss_one (ps_ret (pe_callTy call_tupleZ (by rfl) B.tuple (by decide +kernel) (pa_cons
      (pe_lc (own := [("at", 3)]) (g := gName 3) (tt := tYes) (by rfl) scPile.nd (pi_tup (pe_go cO hr (by decide) rfl (pa_cons (pv 0) (pa_cons (pe_callB call_len_seq (by rfl) B.len PySem.boot_len (pa_cons (pv 2) pa_nil)) pa_nil))))
        (blkOk_by (own := [("at", 3)]) (N := ["tape", "size", "some", "at"]) (sc := defScope sPile) (by decide +kernel))
        (fun _ _ _ _ _ => pg_name (i := 3) scPile.nd rfl (Or.inl rfl)) (fun _ _ _ _ _ => pts_nil) (fun _ _ _ _ _ => pe_ix (ixL (K := K) rfl) (pv 2) (pv 3) (fun _ _ => rfl))) pa_nil)))), ?_⟩
  refine ⟨rfl, fun b hb => ?_⟩
  have tp1 := tp.same (same_new hb (.lst (books.map V.str)))
  refine ⟨_, rfl, _, rfl, T, S, ns, m, rfl, tp1, m0, by omega, fun r a c r0 r1 => ?_⟩
  have nbT : b ≠ T := by
    obtain ⟨o, ho⟩ := tp.taken
    exact new_ne ho hb
  refine ⟨_, _, rfl, rfl, _, rfl, b, _, rfl, sql (by rw [upd_ne nbT]; exact upd_same), fun y hy => ?_⟩
  have tp2 := tp1.put a c
  have tp3 := tp2.same (same_new hy (.lst (cutV (books.map V.str) none (some (1 + r)))))
  have er : (1 + r : Int) = (((r.toNat + 1 : Nat)) : Int) := by omega
  have hn7 : r.toNat + 1 ≤ 7 := by omega
  have ecut : cutV (books.map V.str) none (some (1 + r)) = (books.take (r.toNat + 1)).map V.str := by
    rw [er, cut_to (by show _ ≤ 7; omega), List.map_take]
  have elen : (books.take (r.toNat + 1)).length = r.toNat + 1 := by
    rw [List.length_take]
    show min (r.toNat + 1) 7 = _
    omega
  rw [ecut] at tp3 ⊢
  generalize hbs : books.take (r.toNat + 1) = bs0 at tp3 elen ⊢
  generalize hH3 : upd (upd (upd H b (.lst (books.map V.str))) T (.lst [.ref S, .int a, .int c])) y (.lst (bs0.map V.str)) = H3 at tp3 ⊢
  have sm3 : SameT T H H3 := by
    rw [← hH3]
    exact (SameT.of (same_new hb _)).trans ((sameT_put _).trans (SameT.of (same_new hy _)))
  have hy3 : H3 y = some (.lst (bs0.map V.str)) := by
    rw [← hH3]
    exact upd_same
  have nyT : y ≠ T := new_ne upd_same hy
  refine ⟨_, rfl, _, rfl, y, _, rfl, .inl (sql hy3), T, S, ns, (bs0.map V.str).length, rfl, tp3, by rw [List.length_map, elen]; omega, fun t H4 qs sm4 tp4 nt ht pm => ?_⟩
  rw [List.length_map, elen] at pm
  have lq : qs.length = r.toNat + 1 := by rw [pm.length_eq, List.length_range]
  have hy4 : H4 y = some (.lst (bs0.map V.str)) := sm4 _ _ nyT hy3
  refine ⟨t, rfl, ⟨_, sqt ht⟩, fun D hD => lc_tup (K := K) (a := t) (xs := qs.map natV) (fun i H' => SameT D H4 H' ∧ H' D = some (.lst (((pick bs0 qs).take i).map V.str)))
    ⟨SameT.of (same_new hD _), upd_same⟩ (fun i H' _ h' => sqt (h'.1 _ _ (ne_of_none ht hD) ht)) ?_ ?_⟩
  · rintro i x H' hx ⟨smD, hD'⟩
    rw [List.getElem?_map] at hx
    cases e : qs[i]? with
    | none =>
      rw [e] at hx
      cases hx
    | some k =>
      rw [e] at hx
      cases hx
      have hk : k < bs0.length := by
        rw [elen]
        exact List.mem_range.mp (pm.mem_iff.mp (List.mem_of_getElem? e))
      refine ⟨rfl, _, rfl, _, rfl, y, _, _, .str bs0[k], rfl, rfl, sql (smD _ _ (ne_of_none hy4 hD) hy4), at_of rfl (by rw [List.getElem?_map, List.getElem?_eq_getElem hk]; rfl), _, hD', ?_, ?_⟩
      · have lp : (pick bs0 qs).length = qs.length := by
          unfold pick
          rw [List.length_map]
        rw [List.length_map, List.length_take]
        exact small1000 (by omega)
      · refine ⟨fun b' o nb h => by rw [upd_ne nb]; exact smD b' o nb h, ?_⟩
        have ep : (pick bs0 qs)[i]? = some bs0[k] := by
          unfold pick
          rw [List.getElem?_map, e]
          show some ((bs0[k]?).getD Str.empty) = _
          rw [List.getElem?_eq_getElem hk]
          rfl
        rw [upd_same, List.take_add_one, ep, List.map_append]
        rfl
  · rintro H' ⟨smD, hD'⟩
    rw [List.length_map, List.take_of_length_le (by unfold pick; rw [List.length_map]; omega)] at hD'
    refine ⟨D, _, rfl, sql hD', fun p u hp hu => ?_⟩
    have s5 : Same H4 H' := fun b' o h => smD b' o (ne_of_none h hD) h
    have tp5 := tp4.same (s5.trans (same_new hp u))
    have sm5 : SameT T H (upd H' p u) := sm3.trans (sm4.trans (SameT.of (s5.trans (same_new hp _))))
    have np : H p = none := by
      refine (sm3.trans (sm4.trans (SameT.of s5))).free ?_ hp
      obtain ⟨o2, h2⟩ := (tp4.same s5).taken
      exact new_ne h2 hp
    refine q p _ (pick bs0 qs) sm5 tp5 np (TpO.new hu) ?_
    rw [← hbs]
    exact pile_of (by omega) hn7 pm
def spReadings : Sp := fun vs H Q _ => ∃ (T S p : Addr) (ns : List Int) (bs : List Str) (m : Int), vs = [.ref T, .ref p, .int m] ∧ Tape H T S ns ∧ TpO H p (bs.map V.str) ∧ 0 < bs.length ∧ bs.length ≤ 7 ∧ 0 ≤ m ∧ m ≤ 60 ∧
  ∀ (l : Addr) (H' : Hp) (rs : List Str), SameT T H H' → Tape H' T S ns → H l = none → H' l = some (.lst (rs.map V.str)) → (rs.length : Int) ≤ m → (∀ b ∈ rs, b ∈ bs) → Q (.ref l) H'
theorem scReadings : FnScope ["tape", "books", "size", "some", "k"] ["tape", "books", "size"] (defScope sReadings) := ⟨rfl, rfl, rfl, by decide +kernel, rfl, by decide +kernel, by decide +kernel⟩
theorem ok_readings {f : Addr} {fd : FuncData} (F : Fun K "_law_readings" "_law_readings" sReadings f fd) (B : Bi mg) (cD : Has P w K mg base 1 "_law_draw" ["tape", "many"] spDraw) :
    FnOk P w K mg base CX0 2 f fd ["tape", "books", "size"] spReadings := by
  refine F.ok scReadings (fun vs H Q E h => ?_) (fun cdv A outer s H vs Q E hr h => ?_)
  · obtain ⟨T, S, p, ns, bs, m, rfl, _⟩ := h
    rfl
  obtain ⟨T, S, p, ns, bs, m, rfl, tp, hp, b0, b7, m0, m60, q⟩ := h
  refine ⟨_, pss_cons (ps_set (i := 3) scReadings.nd rfl (.inr rfl) (pe_slice sl_list (pe_callTy call_list_of (by rfl) B.list (by decide +kernel) (pa_cons (pv 1) pa_nil)) po_none
      (po_some (pe_op op_add pe_int (pe_go cD hr (by decide) rfl (pa_cons (pv 0) (pa_cons (pe_callB call_len_seq (by rfl) B.len PySem.boot_len (pa_cons (pv 1) pa_nil)) pa_nil)))))))
    (pss_one (ps_ret (pe_lc (own := [("k", 4)]) (g := gName 4) (tt := tYes) (by rfl) scReadings.nd (pi_range1 (by rfl) B.range (pa_cons (pe_go cD hr (by decide) rfl (pa_cons (pv 0) (pa_cons (pe_op op_add (pv 2) pe_int) pa_nil))) pa_nil))
        (blkOk_by (own := [("k", 4)]) (N := ["tape", "books", "size", "some", "k"]) (sc := defScope sReadings) (by decide +kernel))
        (fun _ _ _ _ _ => pg_name (i := 4) scReadings.nd rfl (Or.inl rfl)) (fun _ _ _ _ _ => pts_nil)
        (fun _ _ _ _ _ => pe_ix (ixL (K := K) rfl) (pv 3) (pe_go cD hr (by decide) rfl (pa_cons (pv 0) (pa_cons (pe_callB (cLen (K := K) rfl) (by rfl) B.len PySem.boot_len (pa_cons (pv 3) pa_nil)) pa_nil))) (fun _ _ => rfl))))), ?_⟩
  have npT : p ≠ T := by
    obtain ⟨i, c, hT⟩ := tp.at_
    exact hp.ne hT (fun o z => nomatch z)
  refine ⟨_, rfl, p, _, rfl, .inr hp.sqt, fun L hL => ?_⟩
  have s1 : Same H (upd H L (.lst (bs.map V.str))) := same_new hL _
  have tp1 := tp.same s1
  have nLT : L ≠ T := by
    obtain ⟨o, ho⟩ := tp.taken
    exact new_ne ho hL
  refine ⟨_, rfl, _, rfl, p, _, rfl, .inr (hp.same s1).sqt, T, S, ns, _, rfl, tp1, by rw [List.length_map]; omega, by rw [List.length_map]; omega, fun r a c r0 r1 => ?_⟩
  rw [List.length_map] at r1
  refine ⟨_, _, rfl, rfl, _, rfl, L, _, rfl, sql (by rw [upd_ne nLT]; exact upd_same), fun y hy => ?_⟩
  have er : (1 + r : Int) = (((r.toNat + 1 : Nat)) : Int) := by omega
  have ecut : cutV (bs.map V.str) none (some (1 + r)) = (bs.take (r.toNat + 1)).map V.str := by
    rw [er, cut_to (by rw [List.length_map]; omega), List.map_take]
  have elen : (bs.take (r.toNat + 1)).length = r.toNat + 1 := by
    rw [List.length_take]
    omega
  have tp3 := (tp1.put a c).same (same_new hy (.lst (cutV (bs.map V.str) none (some (1 + r)))))
  rw [ecut] at tp3 ⊢
  have sub : ∀ b ∈ bs.take (r.toNat + 1), b ∈ bs := fun b hb => List.mem_of_mem_take hb
  generalize bs.take (r.toNat + 1) = bs0 at tp3 elen sub ⊢
  generalize hH3 : upd (upd (upd H L (.lst (bs.map V.str))) T (.lst [.ref S, .int a, .int c])) y (.lst (bs0.map V.str)) = H3 at tp3 ⊢
  have sm3 : SameT T H H3 := by
    rw [← hH3]
    exact (SameT.of s1).trans ((sameT_put _).trans (SameT.of (same_new hy _)))
  have hy3 : H3 y = some (.lst (bs0.map V.str)) := by
    rw [← hH3]
    exact upd_same
  have nyT : y ≠ T := new_ne upd_same hy
  refine ⟨_, rfl, _, rfl, _, _, rfl, rfl, T, S, ns, _, rfl, tp3, by omega, by omega, fun r2 a2 c2 u0 u1 => ?_⟩
  have tp4 := tp3.put a2 c2
  have sm4 : SameT T H3 (upd H3 T (.lst [.ref S, .int a2, .int c2])) := sameT_put _
  generalize upd H3 T (.lst [.ref S, .int a2, .int c2]) = H4 at tp4 sm4 ⊢
  have hy4 : H4 y = some (.lst (bs0.map V.str)) := sm4 _ _ nyT hy3
  refine ⟨r2, rfl, by omega, by omega, fun D hD => ?_⟩
  have nDT : D ≠ T := by
    obtain ⟨o, ho⟩ := tp4.taken
    exact new_ne ho hD
  refine lc_range (lo := 0) (n := r2.toNat) (fun i H' => ∃ rs : List Str, SameT T H4 H' ∧ Tape H' T S ns ∧ H' D = some (.lst (rs.map V.str)) ∧ rs.length = i ∧ ∀ b ∈ rs, b ∈ bs)
    ⟨[], SameT.of (same_new hD _), tp4.same (same_new hD _), upd_same, rfl, fun b hb => nomatch hb⟩ ?_ ?_
  · rintro i H' hi ⟨rs, sm, tp', hD', lr, hm⟩
    have hy' := sm _ _ nyT hy4
    refine ⟨rfl, _, rfl, _, rfl, _, rfl, y, _, rfl, .inl (sql hy'), T, S, ns, _, rfl, tp', by rw [List.length_map, elen]; omega, by rw [List.length_map, elen]; omega, fun r3 a3 c3 v0 v1 => ?_⟩
    rw [List.length_map] at v1
    have hk : r3.toNat < bs0.length := by omega
    refine ⟨y, _, _, .str bs0[r3.toNat], rfl, rfl, sql (by rw [upd_ne nyT]; exact hy'), at_of (j := r3.toNat) (by omega) (by rw [List.getElem?_map, List.getElem?_eq_getElem hk]; rfl), _, (by rw [upd_ne nDT]; exact hD'), ?_, ?_⟩
    · rw [List.length_map]
      exact small1000 (by omega)
    · have tp6 := tp'.put a3 c3
      refine ⟨rs ++ [bs0[r3.toNat]], fun b o nb hb => ?_, ?_, ?_, ?_, ?_⟩
      · rw [upd_ne (ne_of_none hb hD)]
        exact sameT_put _ b o nb (sm b o nb hb)
      · obtain ⟨x1, x2, t3⟩ := tp6.at_
        refine ⟨⟨x1, x2, by rw [upd_ne nDT.symm]; exact t3⟩, ?_⟩
        rw [upd_ne (ne_of_none tp4.scr hD)]
        exact tp6.scr
      · rw [upd_same, List.map_append]
        rfl
      · rw [List.length_append, lr]
        rfl
      · intro b hb
        rcases List.mem_append.mp hb with hb | hb
        · exact hm b hb
        · rw [List.mem_singleton.mp hb]
          exact sub _ (List.getElem_mem hk)
  · rintro H' ⟨rs, sm, tp', hD', lr, hm⟩
    have np : H D = none := (sm3.trans sm4).free nDT hD
    exact q D H' rs (sm3.trans (sm4.trans sm)) tp' np hD' (by omega) hm
end
end Lt

set_option Elab.async false
set_option linter.all false
set_option maxRecDepth 100000
set_option maxHeartbeats 4000000
namespace Lt
open PySem PySem.Spec PyProof.Rows L2
abbrev sBehind : Stmt := top 1
abbrev sLifted : Stmt := top 2
abbrev sPassings : Stmt := top 3
abbrev sLaid : Stmt := top 4
abbrev sAbove : Stmt := top 5
abbrev sPairs : Stmt := top 6
abbrev sAsPair : Stmt := top 7
theorem lay_map (bs : List Str) (b : Str) : (lay bs b).map V.str = [V.str b] ++ ((bs.take (bs.idxOf b)).map V.str ++ (bs.drop (bs.idxOf b + 1)).map V.str) := by
  unfold lay
  rw [List.map_cons, List.eraseIdx_eq_take_drop_succ, List.map_append]
  rfl
section
variable {P : Program} {w : World} {K : PySem.W.Frag} {mg : Str → Option Value} {base : Heap}
/-! ### laid_on_top, books_above, as_pair -/
def spLaid : Sp := fun vs H Q _ => ∃ (p : Addr) (bs : List Str) (b : Str), vs = [.ref p, .str b] ∧ TpO H p (bs.map V.str) ∧ b ∈ bs ∧ bs.length ≤ 1000 ∧
  ∀ (q : Addr) (H' : Hp), Same H H' → TpO H' q ((lay bs b).map V.str) → Q (.ref q) H'
theorem scLaid : FnScope ["pile", "book", "at"] ["pile", "book"] (defScope sLaid) := ⟨rfl, rfl, rfl, by decide +kernel, rfl, by decide +kernel, by decide +kernel⟩
theorem ok_laid {f : Addr} {fd : FuncData} (F : Fun K "laid_on_top" "laid_on_top" sLaid f fd) : FnOk P w K mg base CX0 1 f fd ["pile", "book"] spLaid := by
  refine F.ok scLaid (fun vs H Q E h => ?_) (fun cdv A outer s H vs Q E hr h => ?_)
  · obtain ⟨p, bs, b, rfl, _⟩ := h
    rfl
  obtain ⟨p, bs, b, rfl, hp, hb, hl, q⟩ := h
  refine ⟨_, pss_cons (ps_set (i := 2) scLaid.nd rfl (.inl rfl) (pe_tm PySem.F.slot_tuple_index PySem.F.type_tuple_index mt_tup_index (pv 0) (pa_cons (pv 1) pa_nil)))
    (pss_one (ps_ret (pe_op op_catZ (pe_op op_catZ (pe_tupZ (pa_cons (pv 1) pa_nil)) (pe_slice sl_tupA (pv 0) po_none (po_some (pv 2))))
      (pe_slice sl_tupA (pv 0) (po_some (pe_op op_add (pv 2) pe_int)) po_none)))), ?_⟩
  have ib := idx_lt hb
  have lm : (bs.map V.str).length = bs.length := List.length_map _
  refine ⟨_, rfl, ⟨p, _, rfl, hp⟩, _, rfl, p, bs, b, bs.idxOf b, rfl, rfl, hp.sqt, idx_get hb, idx_first, ?_⟩
  refine ⟨_, rfl, (by show 1 ≤ sizeLine; decide), fun t u ht hu => ?_⟩
  have s1 : Same H (upd H t u) := same_new ht _
  have g1 : ¬ (HT.sIx (bs.map V.str).length 0 none = 0 ∧ HT.sIx (bs.map V.str).length (bs.map V.str).length (some ((bs.idxOf b : Nat) : Int)) = (bs.map V.str).length) := by
    rw [HT.sIx_nat, lm]
    omega
  refine ⟨_, rfl, _, rfl, _, rfl, p, _, rfl, (hp.same s1).sqt, fun z => absurd z g1, fun _ a ha => ?_⟩
  rw [cut_to (by rw [lm]; omega), ← List.map_take]
  have s2 := same_new ha (.tup ((bs.take (bs.idxOf b)).map V.str))
  have t2 : TpO (upd (upd H t u) a (.tup ((bs.take (bs.idxOf b)).map V.str))) t [V.str b] := (TpO.new hu).same s2
  have ha2 : upd (upd H t u) a (.tup ((bs.take (bs.idxOf b)).map V.str)) a = some (.tup ((bs.take (bs.idxOf b)).map V.str)) := upd_same
  have s12 := s1.trans s2
  generalize upd (upd H t u) a (.tup ((bs.take (bs.idxOf b)).map V.str)) = H2 at s12 t2 ha2 ⊢
  have fin : ∀ (c : Addr) (H3 : Hp), Same H H3 → TpO H3 c ([V.str b] ++ (bs.take (bs.idxOf b)).map V.str) → ∀ σ : L2.St, σ = [some (.ref p), some (.str b), some (.int ((bs.idxOf b : Nat) : Int))] →
      tSl (rSlA K) (tVar 0) (tPart (tOp (rI0 fun i j => .int (i + j)) (tVar 2) (tC (.int 1)))) tNoPart σ H3 fun y H4 => rCatZ K (.ref c) y H4 Q := by
    rintro c H3 s3 hc σ rfl
    have g2 : ¬ (HT.sIx (bs.map V.str).length 0 (some (((bs.idxOf b : Nat) : Int) + 1)) = 0 ∧ HT.sIx (bs.map V.str).length (bs.map V.str).length none = (bs.map V.str).length) := by
      have e : (((bs.idxOf b : Nat) : Int) + 1) = ((bs.idxOf b + 1 : Nat) : Int) := by omega
      rw [e, HT.sIx_nat, lm]
      omega
    refine ⟨_, rfl, _, rfl, _, _, rfl, rfl, _, rfl, p, _, rfl, (hp.same s3).sqt, fun z => absurd z g2, fun _ d hd => ?_⟩
    have ecut : cutV (bs.map V.str) (some (((bs.idxOf b : Nat) : Int) + 1)) none = (bs.drop (bs.idxOf b + 1)).map V.str := by
      have e : (((bs.idxOf b : Nat) : Int) + 1) = ((bs.idxOf b + 1 : Nat) : Int) := by omega
      rw [e, cut_from (by rw [lm]; omega), List.map_drop]
    rw [ecut]
    have s4 := same_new hd (.tup ((bs.drop (bs.idxOf b + 1)).map V.str))
    refine ⟨c, d, _, _, rfl, rfl, (hc.same s4).sqt, sqt upd_same, by simp, ?_, fun z => ?_, fun _ r v hr' hv => ?_⟩
    · rw [List.length_append, List.length_map, List.length_map, List.length_take, List.length_drop, List.length_singleton]
      exact Nat.le_of_lt (small1000 (by omega))
    · refine q c _ (s3.trans s4) ?_
      have e : (lay bs b).map V.str = [V.str b] ++ (bs.take (bs.idxOf b)).map V.str := by rw [lay_map, z, List.append_nil]
      rw [e]
      exact hc.same s4
    · refine q r _ (s3.trans (s4.trans (same_new hr' _))) ?_
      rw [lay_map, ← List.append_assoc]
      exact TpO.new hv
  refine ⟨t, a, _, _, rfl, rfl, t2.sqt, sqt ha2, by simp, ?_, fun z => ?_, fun _ c v hc hv => ?_⟩
  · rw [List.length_map, List.length_take, List.length_singleton]
    exact Nat.le_of_lt (small1000 (by omega))
  · refine fin t H2 s12 ?_ _ rfl
    rw [z, List.append_nil]
    exact t2
  · exact fin c _ (s12.trans (same_new hc _)) (TpO.new hv) _ rfl
def spAbove : Sp := fun vs H Q _ => ∃ (p : Addr) (bs : List Str) (b : Str), vs = [.ref p, .str b] ∧ TpO H p (bs.map V.str) ∧ b ∈ bs ∧
  ∀ (q : Addr) (H' : Hp), Same H H' → H' q = some (.tup ((over bs b).map V.str)) → Q (.ref q) H'
theorem scAbove : FnScope ["pile", "book"] ["pile", "book"] (defScope sAbove) := ⟨rfl, rfl, rfl, by decide +kernel, rfl, by decide +kernel, by decide +kernel⟩
theorem ok_above {f : Addr} {fd : FuncData} (F : Fun K "books_above" "books_above" sAbove f fd) : FnOk P w K mg base CX0 1 f fd ["pile", "book"] spAbove := by
  refine F.ok scAbove (fun vs H Q E h => ?_) (fun cdv A outer s H vs Q E hr h => ?_)
  · obtain ⟨p, bs, b, rfl, _⟩ := h
    rfl
  obtain ⟨p, bs, b, rfl, hp, hb, q⟩ := h
  refine ⟨_, pss_one (ps_ret (pe_slice sl_tupA (pv 0) po_none (po_some (pe_tm PySem.F.slot_tuple_index PySem.F.type_tuple_index mt_tup_index (pv 0) (pa_cons (pv 1) pa_nil))))), ?_⟩
  have ib := idx_lt hb
  have lm : (bs.map V.str).length = bs.length := List.length_map _
  refine ⟨_, rfl, _, rfl, ⟨p, _, rfl, hp⟩, _, rfl, p, bs, b, bs.idxOf b, rfl, rfl, hp.sqt, idx_get hb, idx_first, _, rfl, p, _, rfl, hp.sqt, fun z => ?_, fun _ a ha => ?_⟩
  · exfalso
    rw [HT.sIx_nat, lm] at z
    omega
  · refine q a _ (same_new ha _) ?_
    rw [upd_same, cut_to (by rw [lm]; omega), ← List.map_take]
    rfl
def spAsPair : Sp := fun vs H Q _ => ∃ a b : Str, vs = [.str a, .str b] ∧ ∀ q : Addr, H q = none → Q (.ref q) (upd H q (.tup [.str (asPair (a, b)).1, .str (asPair (a, b)).2]))
theorem scAsPair : FnScope ["book", "passed"] ["book", "passed"] (defScope sAsPair) := ⟨rfl, rfl, rfl, by decide +kernel, rfl, by decide +kernel, by decide +kernel⟩
theorem ok_asPair {f : Addr} {fd : FuncData} (F : Fun K "as_pair" "as_pair" sAsPair f fd) : FnOk P w K mg base CX0 1 f fd ["book", "passed"] spAsPair := by
  refine F.ok scAsPair (fun vs H Q E h => ?_) (fun cdv A outer s H vs Q E hr h => ?_)
  · obtain ⟨a, b, rfl, _⟩ := h
    rfl
  obtain ⟨a, b, rfl, q⟩ := h
  refine ⟨_, pss_one (ps_ret (pe_ifExp (pt_cmpR op_lt_str (pv 0) (pv 1) (nomark _)) (pe_tup (pa_cons (pv 0) (pa_cons (pv 1) pa_nil))) (pe_tup (pa_cons (pv 1) (pa_cons (pv 0) pa_nil))))), ?_⟩
  refine ⟨_, rfl, _, rfl, _, _, rfl, rfl, _, rfl, ite2 (fun c => ?_) (fun c => ?_)⟩
  · have c' : ltS a b := of_decide_eq_true c
    refine ⟨_, rfl, _, rfl, (by show 2 ≤ sizeLine; decide), fun t ht => ?_⟩
    have z := q t ht
    unfold asPair at z
    rw [if_pos c'] at z
    exact z
  · have c' : ¬ ltS a b := of_decide_eq_false (Bool.eq_false_iff.mpr c)
    refine ⟨_, rfl, _, rfl, (by show 2 ≤ sizeLine; decide), fun t ht => ?_⟩
    have z := q t ht
    unfold asPair at z
    rw [if_neg c'] at z
    exact z
/-! ### behind, lifted -/
def spBehind : Sp := fun vs H Q _ => ∃ (p r : Addr) (bs rs : List Str), vs = [.ref p, .ref r] ∧ TpO H p (bs.map V.str) ∧ H r = some (.lst (rs.map V.str)) ∧ bs.length ≤ 1000 ∧ (∀ b ∈ rs, b ∈ bs) ∧
  ∀ (q : Addr) (H' : Hp), Same H H' → TpO H' q ((behindM bs rs).map V.str) → Q (.ref q) H'
theorem take_step {rs : List Str} {i : Nat} {b : Str} (h : rs[i]? = some b) : rs.take (i + 1) = rs.take i ++ [b] := by
  rw [List.take_add_one, h]
  rfl
theorem take_sub {bs rs : List Str} (h : ∀ b ∈ rs, b ∈ bs) (i : Nat) : ∀ b ∈ rs.take i, b ∈ bs := fun b hb => h b (List.mem_of_mem_take hb)
theorem strs_get {rs : List Str} {i : Nat} {x : V} (h : (rs.map V.str)[i]? = some x) : ∃ b, rs[i]? = some b ∧ x = .str b := by
  rw [List.getElem?_map] at h
  cases e : rs[i]? with
  | none =>
    rw [e] at h
    cases h
  | some b =>
    rw [e] at h
    cases h
    exact ⟨b, rfl, rfl⟩
theorem scBehind : FnScope ["pile", "readings", "order", "book"] ["pile", "readings"] (defScope sBehind) := ⟨rfl, rfl, rfl, by decide +kernel, rfl, by decide +kernel, by decide +kernel⟩
theorem ok_behind {f : Addr} {fd : FuncData} (F : Fun K "behind" "behind" sBehind f fd) (cL : Has P w K mg base 1 "laid_on_top" ["pile", "book"] spLaid) : FnOk P w K mg base CX0 2 f fd ["pile", "readings"] spBehind := by
  refine F.ok scBehind (fun vs H Q E h => ?_) (fun cdv A outer s H vs Q E hr h => ?_)
  · obtain ⟨p, r, bs, rs, rfl, _⟩ := h
    rfl
  obtain ⟨p, r, bs, rs, rfl, hp, hrr, hl, hm, q⟩ := h
  refine ⟨_, pss_cons (ps_set (i := 2) scBehind.nd rfl (.inl rfl) (pv 0))
    (pss_cons (ps_for PassesOwn.never rfl (pi_list (pv 1)) (pg_name (i := 3) scBehind.nd rfl (.inl rfl))
      (pss_one (ps_set (i := 2) scBehind.nd rfl (.inl rfl) (pe_go cL hr (by decide) rfl (pa_cons (pv 2) (pa_cons (pv 3) pa_nil))))))
    (pss_one (ps_ret (pv 2)))), ?_⟩
  refine ⟨_, rfl, _, rfl, r, rfl, ⟨_, sql hrr⟩, for_list (K := K) (a := r) (xs := rs.map V.str) (fun i σ H' => ∃ (o : Addr) (y3 : Option V), σ = [some (.ref p), some (.ref r), some (.ref o), y3] ∧ Same H H' ∧ TpO H' o ((behindM bs (rs.take i)).map V.str))
    ⟨p, none, rfl, Same.refl _, hp⟩ (fun i σ H' _ ⟨_, _, _, sm, _⟩ => sm.seq (sql hrr)) ?_ ?_⟩
  · rintro i x σ H' hx ⟨o, y3, rfl, sm, ho⟩
    obtain ⟨b, hb, rfl⟩ := strs_get hx
    have pm := behindM_perm (rs.take i) (take_sub hm i)
    refine ⟨_, rfl, _, rfl, o, _, b, rfl, ho, pm.mem_iff.mpr (hm b (List.mem_of_getElem? hb)), by rw [pm.length_eq]; exact hl, fun o2 H2 s2 h2 => ?_⟩
    refine ⟨o2, _, rfl, sm.trans s2, ?_⟩
    rw [take_step hb, behindM_snoc]
    exact h2
  · rintro σ H' ⟨o, y3, rfl, sm, ho⟩
    rw [List.length_map, List.take_length] at ho
    exact ⟨_, rfl, q o H' sm ho⟩
def spLifted : Sp := fun vs H Q _ => ∃ (p r : Addr) (bs rs : List Str), vs = [.ref p, .ref r] ∧ TpO H p (bs.map V.str) ∧ H r = some (.lst (rs.map V.str)) ∧ bs.length ≤ 1000 ∧ rs.length ≤ 1000 ∧ (∀ b ∈ rs, b ∈ bs) ∧
  ∀ (l : Addr) (H' : Hp), Same H H' → H l = none → H' l = some (.lst ((liftedM bs rs).map natV)) → Q (.ref l) H'
theorem liftedM_len (bs : List Str) : ∀ rs : List Str, (liftedM bs rs).length = rs.length := by
  intro rs
  induction rs generalizing bs with
  | nil => rfl
  | cons x r ih => exact congrArg (· + 1) (ih (lay bs x))
theorem scLifted : FnScope ["pile", "readings", "numbers", "order", "book"] ["pile", "readings"] (defScope sLifted) := ⟨rfl, rfl, rfl, by decide +kernel, rfl, by decide +kernel, by decide +kernel⟩
theorem ok_lifted {f : Addr} {fd : FuncData} (F : Fun K "lifted" "lifted" sLifted f fd) (cL : Has P w K mg base 1 "laid_on_top" ["pile", "book"] spLaid) : FnOk P w K mg base CX0 2 f fd ["pile", "readings"] spLifted := by
  refine F.ok scLifted (fun vs H Q E h => ?_) (fun cdv A outer s H vs Q E hr h => ?_)
  · obtain ⟨p, r, bs, rs, rfl, _⟩ := h
    rfl
  obtain ⟨p, r, bs, rs, rfl, hp, hrr, hl, hl2, hm, q⟩ := h
  refine ⟨_, pss_cons (ps_set (i := 2) scLifted.nd rfl (.inl rfl) (pe_lst pa_nil))
    (pss_cons (ps_set (i := 3) scLifted.nd rfl (.inl rfl) (pv 0))
    (pss_cons (ps_for PassesOwn.never rfl (pi_list (pv 1)) (pg_name (i := 4) scLifted.nd rfl (.inl rfl))
      (pss_cons (ps_expr (pe_bm PySem.F.plainAttrs_list PySem.F.slot_list_append PySem.F.type_list_append mt_append (pv 2) (pa_cons (pe_tm PySem.F.slot_tuple_index PySem.F.type_tuple_index mt_tup_index (pv 3) (pa_cons (pv 4) pa_nil)) pa_nil)))
      (pss_one (ps_set (i := 3) scLifted.nd rfl (.inl rfl) (pe_go cL hr (by decide) rfl (pa_cons (pv 3) (pa_cons (pv 4) pa_nil)))))))
    (pss_one (ps_ret (pv 2))))), ?_⟩
  refine ⟨Nat.zero_le _, fun L hL => ?_⟩
  have s1 : Same H (upd H L (.lst [])) := same_new hL _
  refine ⟨_, rfl, _, rfl, r, rfl, ⟨_, sql (s1 _ _ hrr)⟩, for_list (K := K) (a := r) (xs := rs.map V.str) (fun i σ H' => ∃ (o : Addr) (y4 : Option V), σ = [some (.ref p), some (.ref r), some (.ref L), some (.ref o), y4] ∧ Same H H' ∧ TpO H' o ((behindM bs (rs.take i)).map V.str) ∧ H' L = some (.lst ((liftedM bs (rs.take i)).map natV)))
    ⟨p, none, rfl, s1, hp.same s1, upd_same⟩ (fun i σ H' _ ⟨_, _, _, sm, _⟩ => sm.seq (sql hrr)) ?_ ?_⟩
  · rintro i x σ H' hx ⟨o, y4, rfl, sm, ho, hL'⟩
    obtain ⟨b, hb, rfl⟩ := strs_get hx
    have pm := behindM_perm (rs.take i) (take_sub hm i)
    have hbm := pm.mem_iff.mpr (hm b (List.mem_of_getElem? hb))
    have nLo : L ≠ o := fun e => by
      subst e
      obtain ⟨u, h1, o1, rfl, _⟩ := ho
      rw [hL'] at h1
      cases h1
    refine ⟨_, rfl, .inl ⟨rfl, _, sql hL'⟩, _, rfl, ⟨o, _, rfl, ho⟩, _, rfl, o, _, b, _, rfl, rfl, ho.sqt, idx_get hbm, idx_first, L, _, _, rfl, rfl, hL', ?_, ?_⟩
    · rw [List.length_map, liftedM_len, List.length_take]
      exact small1000 (by omega)
    · have ho2 : TpO (upd H' L (.lst ((liftedM bs (rs.take i)).map natV ++ [natV ((behindM bs (rs.take i)).idxOf b)]))) o ((behindM bs (rs.take i)).map V.str) := ho.move fun u h => by
        rw [upd_ne nLo.symm]
        exact h
      refine ⟨_, rfl, _, rfl, o, _, b, rfl, ho2, hbm, by rw [pm.length_eq]; exact hl, fun o2 H2 s2 h2 => ?_⟩
      refine ⟨o2, _, rfl, (same_put sm hL).trans s2, ?_, ?_⟩
      · rw [take_step hb, behindM_snoc]
        exact h2
      · rw [take_step hb, liftedM_snoc, List.map_append]
        exact s2 _ _ upd_same
  · rintro σ H' ⟨o, y4, rfl, sm, ho, hL'⟩
    rw [List.length_map, List.take_length] at hL'
    exact ⟨_, rfl, q L H' sm hL hL'⟩
end
end Lt

set_option Elab.async false
set_option linter.all false
set_option maxRecDepth 100000
set_option maxHeartbeats 4000000
namespace Lt
open PySem PySem.Spec PyProof.Rows L2
/-! ### lists of pairs -/
def KeepT (H H' : Hp) : Prop := ∀ b xs, H b = some (.tup xs) → H' b = some (.tup xs)
theorem KeepT.of {H H' : Hp} (s : Same H H') : KeepT H H' := fun b xs h => s _ _ h
theorem KeepT.put {H : Hp} {D : Addr} {o : HO} {u : HO} (h : H D = some u) (n : ∀ xs, u ≠ .tup xs) : KeepT H (upd H D o) := fun b xs q => by
  rw [upd_ne (ne_of q h fun z => n xs z.symm)]
  exact q
theorem KeepT.trans {H H1 H2 : Hp} (a : KeepT H H1) (b : KeepT H1 H2) : KeepT H H2 := fun c xs h => b c xs (a c xs h)
def PairsL (H : Hp) (ts : List Addr) (ps : List (Str × Str)) : Prop := ts.length = ps.length ∧ ∀ (i : Nat) (t : Addr) (q : Str × Str), ts[i]? = some t → ps[i]? = some q → H t = some (.tup [.str q.1, .str q.2])
theorem PairsL.nil (H : Hp) : PairsL H [] [] := ⟨rfl, fun i t q h => by simp at h⟩
theorem PairsL.move {H H' : Hp} {ts : List Addr} {ps : List (Str × Str)} (h : PairsL H ts ps) (k : KeepT H H') : PairsL H' ts ps := ⟨h.1, fun i t q a b => k _ _ (h.2 i t q a b)⟩
theorem PairsL.snoc {H : Hp} {ts : List Addr} {ps : List (Str × Str)} {t : Addr} {q : Str × Str} (h : PairsL H ts ps) (ht : H t = some (.tup [.str q.1, .str q.2])) : PairsL H (ts ++ [t]) (ps ++ [q]) := by
  refine ⟨by rw [List.length_append, List.length_append, h.1]; rfl, fun i t' q' a b => ?_⟩
  by_cases hi : i < ts.length
  · rw [List.getElem?_append_left hi] at a
    rw [List.getElem?_append_left (by rw [← h.1]; exact hi)] at b
    exact h.2 i t' q' a b
  · rw [List.getElem?_append_right (by omega)] at a
    rw [List.getElem?_append_right (by rw [← h.1]; omega), ← h.1] at b
    by_cases hz : i - ts.length = 0
    · rw [hz] at a b
      cases a
      cases b
      exact ht
    · rw [List.getElem?_eq_none (by rw [List.length_singleton]; omega)] at a
      cases a
abbrev sPairsData (ps : List (Str × Str)) : List PyData := ps.map fun q => .tuple [.str q.1, .str q.2]
theorem PairsL.dp {K : PySem.W.Frag} {H : Hp} : ∀ {ts : List Addr} {ps : List (Str × Str)}, PairsL H ts ps → DpAll K H (ts.map V.ref) (sPairsData ps)
  | [], [], _ => .nil
  | [], q :: r, h => by cases h.1
  | t :: ts, [], h => by cases h.1
  | t :: ts, q :: r, h => by
    refine .cons (.tup (sqt (h.2 0 t q rfl rfl)) (.cons (.str _) (.cons (.str _) .nil))) (PairsL.dp ⟨by simpa using h.1, fun i t' q' a b => h.2 (i + 1) t' q' a b⟩)
section
variable {P : Program} {w : World} {K : PySem.W.Frag} {mg : Str → Option Value} {base : Heap}
def spPairs (K : PySem.W.Frag) : Sp := fun vs H Q _ => ∃ (p : Addr) (bs : List Str), vs = [.ref p] ∧ SqT K H p (bs.map V.str) ∧ bs.length ≤ 20 ∧
  ∀ (l : Addr) (H' : Hp) (ys : List Str) (ts : List Addr), Same H H' → ys.Perm bs → sortedS ys = true → H l = none → H' l = some (.lst (ts.map V.ref)) → PairsL H' ts (prs ys ys.length) → Q (.ref l) H'
theorem scPairs : FnScope ["books", "ordered", "at", "one", "other"] ["books"] (defScope sPairs) := ⟨rfl, rfl, rfl, by decide +kernel, rfl, by decide +kernel, by decide +kernel⟩
theorem ok_pairs {f : Addr} {fd : FuncData} (F : Fun K "pairs_of" "pairs_of" sPairs f fd) (B : Bi mg) : FnOk P w K mg base CX0 1 f fd ["books"] (spPairs K) := by
  refine F.ok scPairs (fun vs H Q E h => ?_) (fun cdv A outer s H vs Q E hr h => ?_)
  · obtain ⟨p, bs, rfl, _⟩ := h
    rfl
  obtain ⟨p, bs, rfl, hp, hl, q⟩ := h
  refine ⟨_, pss_cons (ps_set (i := 1) scPairs.nd rfl (.inr rfl) (pe_callB cr_sortedT (by rfl) B.sorted (by decide +kernel) (pa_cons (pv 0) pa_nil)))
    (pss_one (ps_ret (pe_lc2 (own := [("at", 2), ("one", 3), ("other", 4)]) (vs1 := [4]) (g := gTup K 2 (gCons (gName 2) (gCons (gName 3) gNil))) (tt := tYes) (g1 := gName 4) (tt1 := tYes)
      (wi1 := iList K (tSl (rSlL K) (tVar 1) (tPart (tOp (rI0 fun i j => .int (i + j)) (tVar 2) (tC (.int 1)))) tNoPart))
      (by rfl) scPairs.nd (pi_enum (by rfl) B.enumerate (pa_cons (pv 1) pa_nil))
      (blkOk_by (own := [("at", 2), ("one", 3), ("other", 4)]) (N := ["books", "ordered", "at", "one", "other"]) (sc := defScope sPairs) (by decide +kernel)) (by decide)
      (fun _ _ _ _ _ => pg_tup rfl (pgs_cons (pg_name (i := 2) scPairs.nd rfl (.inl rfl)) (pgs_cons (pg_name (i := 3) scPairs.nd rfl (.inl rfl)) pgs_nil)))
      (fun _ _ _ _ _ => pts_nil) (fun _ _ _ _ _ => pi_list (pe_slice sl_list (pv 1) (po_some (pe_op op_add (pv 2) pe_int)) po_none))
      (fun _ _ _ _ _ => pg_name (i := 4) scPairs.nd rfl (.inl rfl)) (fun _ _ _ _ _ => pts_nil)
      (fun _ _ _ _ _ => pe_tup (pa_cons (pv 3) (pa_cons (pv 4) pa_nil)))))), ?_⟩
  refine ⟨_, rfl, p, bs, rfl, hp, by omega, fun ys o pm so ho => ?_⟩
  have ly : ys.length = bs.length := pm.length_eq
  have s1 := same_new ho (.lst (ys.map V.str))
  have ho1 : upd H o (.lst (ys.map V.str)) o = some (.lst (ys.map V.str)) := upd_same
  generalize upd H o (.lst (ys.map V.str)) = H1 at s1 ho1 ⊢
  refine ⟨_, rfl, o, _, rfl, sql ho1, fun D hD => ?_⟩
  have plen : ∀ n, n ≤ ys.length → (prs ys n).length ≤ 400 := fun n hn => by
    have z := prs_len ys n
    have z2 : n * ys.length ≤ 20 * 20 := Nat.mul_le_mul (by omega) (by omega)
    omega
  refine in_it (walk_enum (K := K) (a := o) (xs := ys.map V.str)) (fun i H' => ∃ ts : List Addr, Same H1 H' ∧ H' D = some (.lst (ts.map V.ref)) ∧ PairsL H' ts (prs ys i))
    ⟨[], same_new hD _, upd_same, PairsL.nil _⟩ (fun i H' _ ⟨_, sm, _⟩ => sm.seq (sql ho1)) ?_ ?_
  · rintro i x H2 H3 hi ⟨ts, sm, hD2, pl⟩ ⟨T, x1, x2, rfl, nT, rfl, e1, e2⟩
    rw [List.length_map] at hi
    cases e1
    obtain ⟨a, ha, rfl⟩ := strs_get e2
    have s3 := same_new nT (.tup [natV i, .str a])
    have hD3 : upd H2 T (.tup [natV i, .str a]) D = some (.lst (ts.map V.ref)) := s3 _ _ hD2
    refine ⟨T, _, rfl, sqt upd_same, rfl, _, _, rfl, _, _, rfl, rfl, rfl, ?_⟩
    refine ⟨_, rfl, _, rfl, _, _, rfl, rfl, _, rfl, o, _, rfl, s3.seq (sm.seq (sql ho1)), fun c hc => ?_⟩
    have ecut : cutV (ys.map V.str) (some ((i : Int) + 1)) none = (ys.drop (i + 1)).map V.str := by
      rw [show ((i : Int) + 1) = ((i + 1 : Nat) : Int) by omega, cut_from (by rw [List.length_map]; omega), List.map_drop]
    rw [ecut]
    have s4 := same_new hc (.lst ((ys.drop (i + 1)).map V.str))
    have hc4 : upd (upd H2 T (.tup [natV i, .str a])) c (.lst ((ys.drop (i + 1)).map V.str)) c = some (.lst ((ys.drop (i + 1)).map V.str)) := upd_same
    have hD4 := s4 _ _ hD3
    have sm4 : Same H1 (upd (upd H2 T (.tup [natV i, .str a])) c (.lst ((ys.drop (i + 1)).map V.str))) := sm.trans (s3.trans s4)
    have pl4 := (pl.move (KeepT.of s3)).move (KeepT.of s4)
    have ncD : c ≠ D := (ne_of_none hD3 hc).symm
    generalize upd (upd H2 T (.tup [natV i, .str a])) c (.lst ((ys.drop (i + 1)).map V.str)) = H4 at hc4 hD4 sm4 pl4 ⊢
    refine ⟨c, rfl, ⟨_, sql hc4⟩, in_it (walk_list (K := K) (a := c) (xs := (ys.drop (i + 1)).map V.str)) (fun j H' => ∃ ts : List Addr, Same H1 H' ∧ H' D = some (.lst (ts.map V.ref)) ∧ H' c = some (.lst ((ys.drop (i + 1)).map V.str)) ∧ PairsL H' ts (prs ys i ++ ((ys.drop (i + 1)).take j).map fun b => (a, b)))
      ⟨ts, sm4, hD4, hc4, by rw [List.take_zero, List.map_nil, List.append_nil]; exact pl4⟩ (fun j H' _ ⟨_, _, _, h', _⟩ => sql h') ?_ ?_⟩
    · rintro j x H5 H6 hj ⟨ts5, sm5, hD5, hc5, pl5⟩ ⟨rfl, ex⟩
      rw [List.length_map] at hj
      obtain ⟨b, hb, rfl⟩ := strs_get ex
      refine ⟨rfl, _, rfl, _, rfl, (by show 2 ≤ sizeLine; decide), fun t ht => ?_⟩
      have s6 := same_new ht (.tup [.str a, .str b])
      have hD6 := s6 _ _ hD5
      have lts : ts5.length ≤ 500 := by
        rw [pl5.1, List.length_append, List.length_map, List.length_take]
        have z := plen i (by omega)
        have z2 : (ys.drop (i + 1)).length ≤ ys.length := by rw [List.length_drop]; omega
        omega
      refine ⟨_, hD6, ?_, ts5 ++ [t], ?_, ?_, ?_, ?_⟩
      · rw [List.length_map]
        exact small1000 (by omega)
      · exact same_put (sm5.trans s6) hD
      · rw [upd_same, List.map_append]
        rfl
      · rw [upd_ne ncD]
        exact s6 _ _ hc5
      · have z := ((pl5.move (KeepT.of s6)).snoc (t := t) (q := (a, b)) upd_same).move (KeepT.put (D := D) (o := .lst (ts5.map V.ref ++ [.ref t])) hD6 (fun xs z => nomatch z))
        rw [List.take_add_one, hb, List.map_append, ← List.append_assoc]
        exact z
    · rintro H5 ⟨ts5, sm5, hD5, hc5, pl5⟩
      rw [List.length_map, List.take_length] at pl5
      refine ⟨ts5, sm5, hD5, ?_⟩
      rw [prs_succ ha]
      exact pl5
  · rintro H5 ⟨ts, sm, hD5, pl⟩
    rw [List.length_map] at pl
    exact q D H5 ys ts (s1.trans sm) pm so (s1.free hD) hD5 pl
end
end Lt

set_option Elab.async false
set_option linter.all false
set_option maxRecDepth 100000
set_option maxHeartbeats 4000000
namespace Lt
open PySem PySem.Spec PyProof.Rows L2
def key (q : Str × Str) : List Key := [Sum.inr q.1, Sum.inr q.2]
theorem key_inj {q r : Str × Str} (h : key q = key r) : q = r := by
  unfold key at h
  injection h with h1 h2
  injection h2 with h2 _
  injection h1 with h1
  injection h2 with h2
  exact Prod.ext h1 h2
theorem key_map (q : Str × Str) : (key q).map kV = [V.str q.1, V.str q.2] := rfl
/-- what a dict of pairs holds -/
def Counts (kvs : List (List Key × V)) (ps : List (Str × Str)) (rows : List (Str × Str)) : Prop := ∀ q ∈ ps, valV kvs (key q) = some (natV (cnt rows q))
theorem Counts.more {kvs : List (List Key × V)} {ps rows : List (Str × Str)} (h : Counts kvs ps rows) {r : Str × Str} (hr : asPair r ∈ ps) :
    Counts (putK kvs (key (asPair r)) (.int ((cnt rows (asPair r) : Int) + 1))) ps (rows ++ [r]) := fun q hq => by
  rw [valV_put, cnt_snoc]
  by_cases e : asPair r = q
  · subst e
    rw [if_pos rfl, if_pos rfl]
    rfl
  · rw [if_neg (fun z => e (key_inj z).symm), if_neg e, Nat.add_zero]
    exact h q hq
abbrev tri (rows : List (Str × Str)) (q : Str × Str) : PyData := .tuple [.str q.1, .str q.2, .int (cnt rows q : Nat)]
def TriL (rows : List (Str × Str)) (H : Hp) (ts : List Addr) (ps : List (Str × Str)) : Prop := ts.length = ps.length ∧
  ∀ (i : Nat) (t : Addr) (q : Str × Str), ts[i]? = some t → ps[i]? = some q → H t = some (.tup [.str q.1, .str q.2, natV (cnt rows q)])
theorem TriL.move {rows : List (Str × Str)} {H H' : Hp} {ts : List Addr} {ps : List (Str × Str)} (h : TriL rows H ts ps) (k : KeepT H H') : TriL rows H' ts ps := ⟨h.1, fun i t q a b => k _ _ (h.2 i t q a b)⟩
theorem TriL.snoc {rows : List (Str × Str)} {H : Hp} {ts : List Addr} {ps : List (Str × Str)} {t : Addr} {q : Str × Str} (h : TriL rows H ts ps) (ht : H t = some (.tup [.str q.1, .str q.2, natV (cnt rows q)])) : TriL rows H (ts ++ [t]) (ps ++ [q]) := by
  refine ⟨by rw [List.length_append, List.length_append, h.1]; rfl, fun i t' q' a b => ?_⟩
  by_cases hi : i < ts.length
  · rw [List.getElem?_append_left hi] at a
    rw [List.getElem?_append_left (by rw [← h.1]; exact hi)] at b
    exact h.2 i t' q' a b
  · rw [List.getElem?_append_right (by omega)] at a
    rw [List.getElem?_append_right (by rw [← h.1]; omega), ← h.1] at b
    by_cases hz : i - ts.length = 0
    · rw [hz] at a b
      cases a
      cases b
      exact ht
    · rw [List.getElem?_eq_none (by rw [List.length_singleton]; omega)] at a
      cases a
theorem TriL.dp {rows : List (Str × Str)} {K : PySem.W.Frag} {H : Hp} : ∀ {ts : List Addr} {ps : List (Str × Str)}, TriL rows H ts ps → DpAll K H (ts.map V.ref) (ps.map (tri rows))
  | [], [], _ => .nil
  | [], q :: r, h => by cases h.1
  | t :: ts, [], h => by cases h.1
  | t :: ts, q :: r, h =>
    .cons (.tup (sqt (h.2 0 t q rfl rfl)) (.cons (.str _) (.cons (.str _) (.cons (.int _) .nil)))) (TriL.dp ⟨by simpa using h.1, fun i t' q' a b => h.2 (i + 1) t' q' a b⟩)
theorem rowsM_len : ∀ {bs : List Str} (rs : List Str), (∀ b ∈ rs, b ∈ bs) → (rowsM bs rs).length ≤ rs.length * bs.length
  | bs, [], _ => Nat.zero_le _
  | bs, b :: r, h => by
    have p := lay_perm (h b (List.mem_cons_self ..))
    have ih := rowsM_len (bs := lay bs b) r fun c hc => p.mem_iff.mpr (h c (List.mem_cons_of_mem _ hc))
    rw [p.length_eq] at ih
    show ((over bs b).map (fun o => (b, o)) ++ rowsM (lay bs b) r).length ≤ (r.length + 1) * bs.length
    rw [List.length_append, List.length_map, Nat.succ_mul]
    have z : (over bs b).length ≤ bs.length := by
      unfold over
      rw [List.length_take]
      omega
    omega
section
variable {P : Program} {w : World} {K : PySem.W.Frag} {mg : Str → Option Value} {base : Heap}
def spPassings (K : PySem.W.Frag) : Sp := fun vs H Q _ => ∃ (p r : Addr) (bs rs : List Str), vs = [.ref p, .ref r] ∧ TpO H p (bs.map V.str) ∧ H r = some (.lst (rs.map V.str)) ∧ bs.length ≤ 7 ∧ rs.length ≤ 60 ∧ (∀ b ∈ rs, b ∈ bs) ∧
  ∀ (l : Addr) (H' : Hp) (ys : List Str) (xs : List V), Same H H' → H l = none → ys.Perm bs → sortedS ys = true → H' l = some (.lst xs) → DpAll K H' xs ((prs ys ys.length).map (tri (rowsM bs rs))) → Q (.ref l) H'
abbrev nPassings : List Str := ["pile", "readings", "pairs", "numbers", "order", "book", "passed", "pair", "one", "other"]
theorem scPassings : FnScope nPassings ["pile", "readings"] (defScope sPassings) := ⟨rfl, rfl, rfl, by decide +kernel, rfl, by decide +kernel, by decide +kernel⟩
theorem ok_passings {f : Addr} {fd : FuncData} (F : Fun K "passings" "passings" sPassings f fd) (cL : Has P w K mg base 1 "laid_on_top" ["pile", "book"] spLaid) (cA : Has P w K mg base 1 "books_above" ["pile", "book"] spAbove)
    (cP : Has P w K mg base 1 "pairs_of" ["books"] (spPairs K)) (cS : Has P w K mg base 1 "as_pair" ["book", "passed"] spAsPair) : FnOk P w K mg base CX0 2 f fd ["pile", "readings"] (spPassings K) := by
  refine F.ok scPassings (fun vs H Q E h => ?_) (fun cdv A outer s H vs Q E hr h => ?_)
  · obtain ⟨p, r, bs, rs, rfl, _⟩ := h
    rfl
  obtain ⟨p, r, bs, rs, rfl, hp, hrr, hl, hl2, hm, q⟩ := h
  refine ⟨_, pss_cons (ps_set (i := 2) scPassings.nd rfl (.inl rfl) (pe_go cP hr (by decide) rfl (pa_cons (pv 0) pa_nil)))
    (pss_cons (ps_set (i := 3) scPassings.nd rfl (.inr rfl) (pe_dcK (hu_of hr) (by rfl) (pv 2) (by decide +kernel) (by decide +kernel) (by decide +kernel) rfl))
    (pss_cons (ps_set (i := 4) scPassings.nd rfl (.inl rfl) (pv 0))
    (pss_cons (ps_for PassesOwn.never rfl (pi_list (pv 1)) (pg_name (i := 5) scPassings.nd rfl (.inl rfl))
      (pss_cons (ps_for PassesOwn.never rfl (pi_tup (pe_go cA hr (by decide) rfl (pa_cons (pv 4) (pa_cons (pv 5) pa_nil)))) (pg_name (i := 6) scPassings.nd rfl (.inl rfl))
        (pss_one (ps_daug (hu_of hr) (pv 3) (pe_go cS hr (by decide) rfl (pa_cons (pv 5) (pa_cons (pv 6) pa_nil))) pe_int in_add (fun _ _ _ => rfl))))
      (pss_one (ps_set (i := 4) scPassings.nd rfl (.inl rfl) (pe_go cL hr (by decide) rfl (pa_cons (pv 4) (pa_cons (pv 5) pa_nil)))))))
    (pss_one (ps_ret (pe_lc (own := [("one", 8), ("other", 9)]) (g := gTup K 2 (gCons (gName 8) (gCons (gName 9) gNil))) (tt := tYes) (by rfl) scPassings.nd (pi_list (pv 2))
        (blkOk_by (own := [("one", 8), ("other", 9)]) (N := nPassings) (sc := defScope sPassings) (by decide +kernel))
        (fun _ _ _ _ _ => pg_tup rfl (pgs_cons (pg_name (i := 8) scPassings.nd rfl (.inl rfl)) (pgs_cons (pg_name (i := 9) scPassings.nd rfl (.inl rfl)) pgs_nil)))
        (fun _ _ _ _ _ => pts_nil)
        (fun _ _ _ _ _ => pe_tup (pa_cons (pv 8) (pa_cons (pv 9) (pa_cons (pe_dget (hu_of hr) (pv 3) (pe_tup (pa_cons (pv 8) (pa_cons (pv 9) pa_nil))) (fun _ _ => rfl)) pa_nil)))))))))), ?_⟩
  refine ⟨_, rfl, p, bs, rfl, hp.sqt, by omega, fun l H1 ys ts s1 pm so nl hl1 pl1 => ?_⟩
  have ly : ys.length = bs.length := pm.length_eq
  have lps : (prs ys ys.length).length ≤ 49 := by
    have z := prs_len ys ys.length
    have z2 : ys.length * ys.length ≤ 7 * 7 := Nat.mul_le_mul (by omega) (by omega)
    omega
  have inPs : ∀ {a b : Str}, a ∈ bs → b ∈ bs → a ≠ b → asPair (a, b) ∈ prs ys ys.length := fun {a b} ha hb ne => pair_in pm so ha hb ne
  generalize hps : prs ys ys.length = ps at pl1 lps inPs
  -- the dict
  refine ⟨_, rfl, l, ts, ps.map key, rfl, sql hl1, by rw [List.length_map]; exact pl1.1, fun i t k e1 e2 => ?_, by rw [List.length_map]; omega, fun D hD => ?_⟩
  · rw [List.getElem?_map] at e2
    cases e3 : ps[i]? with
    | none =>
      rw [e3] at e2
      cases e2
    | some q' =>
      rw [e3] at e2
      cases e2
      exact pl1.2 i t q' e1 e3
  have sm2 := same_new hD (.dT (consts 0 (ps.map key)))
  have hD2 : upd H1 D (.dT (consts 0 (ps.map key))) D = some (.dT (consts 0 (ps.map key))) := upd_same
  have lk2 : (consts 0 (ps.map key)).length ≤ ts.length := by
    have z := consts_len 0 (ps.map key)
    rw [List.length_map, ← pl1.1] at z
    exact z
  have hv2 : ∀ q ∈ ps, valV (consts 0 (ps.map key)) (key q) = some (natV 0) := fun q hq => consts_val 0 _ _ (List.mem_map.mpr ⟨q, hq, rfl⟩)
  generalize consts 0 (ps.map key) = kvs0 at sm2 hD2 lk2 hv2 ⊢
  generalize upd H1 D (.dT kvs0) = H2 at sm2 hD2 ⊢
  have c0 : Counts kvs0 ps (rowsM bs (rs.take 0)) := fun q hq => hv2 q hq
  -- the readings
  refine ⟨_, rfl, _, rfl, r, rfl, ⟨_, sql (sm2 _ _ (s1 _ _ hrr))⟩, for_list (K := K) (a := r) (xs := rs.map V.str)
    (fun i σ H' => ∃ (o : Addr) (y5 y6 : Option V) (kvs : List (List Key × V)), σ = [some (.ref p), some (.ref r), some (.ref l), some (.ref D), some (.ref o), y5, y6, none, none, none] ∧ Same H1 H' ∧
      TpO H' o ((behindM bs (rs.take i)).map V.str) ∧ H' D = some (.dT kvs) ∧ kvs.length ≤ 49 + (rowsM bs (rs.take i)).length ∧ Counts kvs ps (rowsM bs (rs.take i)))
    ⟨p, none, none, kvs0, rfl, sm2, (hp.same s1).same sm2, hD2, by rw [pl1.1] at lk2; omega, c0⟩ (fun i σ H' _ ⟨_, _, _, _, _, sm, _⟩ => sm.seq (s1.seq (sql hrr))) ?_ ?_⟩
  · rintro i x σ H' hx ⟨o, y5, y6, kvs, rfl, sm, ho, hD', lk, ct⟩
    obtain ⟨b, hb, rfl⟩ := strs_get hx
    have hi : i < rs.length := (List.getElem?_eq_some_iff.mp hb).1
    have pmi := behindM_perm (rs.take i) (take_sub hm i)
    have hbs : b ∈ bs := hm b (List.mem_of_getElem? hb)
    have hbm := pmi.mem_iff.mpr hbs
    have rl : (rowsM bs (rs.take i)).length ≤ 420 := by
      have z := rowsM_len (rs.take i) (take_sub hm i)
      have z2 : (rs.take i).length * bs.length ≤ 60 * 7 := Nat.mul_le_mul (by rw [List.length_take]; omega) hl
      omega
    generalize hcur : behindM bs (rs.take i) = cur at ho pmi hbm
    have ol : (over cur b).length ≤ 7 := by
      unfold over
      rw [List.length_take, pmi.length_eq]
      omega
    refine ⟨_, rfl, _, rfl, o, cur, b, rfl, ho, hbm, fun a H3 s3 ha => ?_⟩
    refine ⟨a, rfl, ⟨_, sqt ha⟩, for_tup (K := K) (a := a) (xs := (over cur b).map V.str)
      (fun j σ H' => ∃ (y6 : Option V) (kvs : List (List Key × V)), σ = [some (.ref p), some (.ref r), some (.ref l), some (.ref D), some (.ref o), some (.str b), y6, none, none, none] ∧ Same H1 H' ∧ H' a = some (.tup ((over cur b).map V.str)) ∧
        TpO H' o (cur.map V.str) ∧ H' D = some (.dT kvs) ∧ kvs.length ≤ 49 + (rowsM bs (rs.take i)).length + j ∧ Counts kvs ps (rowsM bs (rs.take i) ++ ((over cur b).take j).map fun z => (b, z)))
      ⟨y6, kvs, rfl, sm.trans s3, ha, ho.same s3, s3 _ _ hD', lk, by rw [List.take_zero, List.map_nil, List.append_nil]; exact ct⟩ (fun j σ H' _ ⟨_, _, _, _, h', _⟩ => sqt h') ?_ ?_⟩
    · rintro j x σ H4 hx4 ⟨y6', kvs4, rfl, sm4, ha4, ho4, hD4, lk4, ct4⟩
      obtain ⟨z, hz, rfl⟩ := strs_get hx4
      have hj : j < (over cur b).length := (List.getElem?_eq_some_iff.mp hz).1
      have zo := List.mem_of_getElem? hz
      have zin : z ∈ bs := pmi.mem_iff.mp (over_mem zo)
      have hin := inPs hbs zin (over_ne zo).symm
      refine ⟨_, rfl, _, rfl, _, rfl, b, z, rfl, fun t ht => ?_⟩
      have s5 := same_new ht (.tup [.str (asPair (b, z)).1, .str (asPair (b, z)).2])
      have hk5 : upd H4 t (.tup [.str (asPair (b, z)).1, .str (asPair (b, z)).2]) t = some (.tup ((key (asPair (b, z))).map kV)) := upd_same
      have hD5 := s5 _ _ hD4
      refine ⟨D, natV (cnt (rowsM bs (rs.take i) ++ ((over cur b).take j).map fun z => (b, z)) (asPair (b, z))), rfl, ?_, _, _, rfl, rfl, _, DPut.t hD5 hk5 (small1000 (by omega)), ?_⟩
      · have g := DGet.t hD5 hk5
        rw [ct4 _ hin] at g
        exact g
      · refine ⟨_, _, rfl, same_put (sm4.trans s5) hD, ?_, ?_, upd_same, ?_, ?_⟩
        · exact (KeepT.put (D := D) hD5 (fun xs z => nomatch z)) _ _ (s5 _ _ ha4)
        · refine (ho4.same s5).move fun u h => ?_
          have ne : o ≠ D := fun e => by
            subst e
            obtain ⟨u2, h2, o2, rfl, _⟩ := ho4
            rw [hD4] at h2
            cases h2
          rw [upd_ne ne]
          exact h
        · have zz := length_putK kvs4 (key (asPair (b, z))) (V.int ((cnt (rowsM bs (rs.take i) ++ ((over cur b).take j).map fun z => (b, z)) (asPair (b, z)) : Int) + 1))
          exact Nat.le_trans zz (by omega)
        · have zz := ct4.more (r := (b, z)) hin
          rw [List.take_add_one, hz, List.map_append, ← List.append_assoc]
          exact zz
    · rintro σ H4 ⟨y6', kvs4, rfl, sm4, ha4, ho4, hD4, lk4, ct4⟩
      rw [List.length_map] at lk4 ct4
      rw [List.take_length] at ct4
      refine ⟨_, rfl, _, rfl, o, cur, b, rfl, ho4, hbm, by rw [pmi.length_eq]; omega, fun o2 H5 s5 ho5 => ?_⟩
      refine ⟨o2, _, _, kvs4, rfl, sm4.trans s5, ?_, s5 _ _ hD4, ?_, ?_⟩
      · rw [take_step hb, behindM_snoc, hcur]
        exact ho5
      · rw [take_step hb, rowsM_snoc, hcur, List.length_append, List.length_map]
        omega
      · rw [take_step hb, rowsM_snoc, hcur]
        exact ct4
  · rintro σ H3 ⟨o, y5, y6, kvs, rfl, sm3, ho3, hD3, lk3, ct3⟩
    rw [List.length_map, List.take_length] at ct3
    -- the answer
    refine ⟨_, rfl, l, rfl, ⟨_, sm3.seq (sql hl1)⟩, fun D2 hD2' => lc_list (K := K) (a := l) (xs := ts.map V.ref)
      (fun i H' => ∃ xs : List Addr, Same H3 H' ∧ H' D2 = some (.lst (xs.map V.ref)) ∧ TriL (rowsM bs rs) H' xs (ps.take i))
      ⟨[], same_new hD2' _, upd_same, rfl, fun i t q h => by simp at h⟩ (fun i H' _ ⟨_, sm, _⟩ => sm.seq (sm3.seq (sql hl1))) ?_ ?_⟩
    · rintro i x H4 hx ⟨xs, sm4, hx4, dp4⟩
      have hi : i < ts.length := by
        have z := (List.getElem?_eq_some_iff.mp hx).1
        rw [List.length_map] at z
        exact z
      rw [List.getElem?_map, List.getElem?_eq_getElem hi] at hx
      cases hx
      have hi2 : i < ps.length := by rw [← pl1.1]; exact hi
      have ht : H4 ts[i] = some (.tup [.str ps[i].1, .str ps[i].2]) := sm4 _ _ (sm3 _ _ (pl1.2 i _ _ (List.getElem?_eq_getElem hi) (List.getElem?_eq_getElem hi2)))
      refine ⟨ts[i], _, rfl, sqt ht, rfl, _, _, rfl, _, _, rfl, rfl, rfl, _, rfl, _, rfl, _, rfl, _, rfl, _, rfl, (by show 2 ≤ sizeLine; decide), fun k hk => ?_⟩
      have s5 := same_new hk (.tup [.str ps[i].1, .str ps[i].2])
      have hk5 : upd H4 k (.tup [.str ps[i].1, .str ps[i].2]) k = some (.tup ((key ps[i]).map kV)) := upd_same
      have g := DGet.t (s5 _ _ (sm4 _ _ hD3)) hk5
      rw [ct3 _ (List.getElem_mem hi2)] at g
      refine ⟨D, _, rfl, g, (by show 3 ≤ sizeLine; decide), fun t ht5 => ?_⟩
      have s6 := same_new ht5 (.tup [.str ps[i].1, .str ps[i].2, natV (cnt (rowsM bs rs) ps[i])])
      have hx6 := s6 _ _ (s5 _ _ hx4)
      have lx : xs.length ≤ 49 := by
        have z := dp4.1
        rw [List.length_take] at z
        omega
      refine ⟨_, hx6, by rw [List.length_map]; exact small1000 (by omega), xs ++ [t], same_put (sm4.trans (s5.trans s6)) hD2', by rw [upd_same, List.map_append]; rfl, ?_⟩
      rw [List.take_add_one, List.getElem?_eq_getElem hi2]
      exact ((dp4.move (KeepT.of (s5.trans s6))).snoc (t := t) (q := ps[i]) upd_same).move (KeepT.put hx6 (fun xs z => nomatch z))
    · rintro H4 ⟨xs, sm4, hx4, dp4⟩
      rw [List.length_map, pl1.1, List.take_length] at dp4
      exact q D2 H4 ys _ (s1.trans (sm3.trans sm4)) (s1.free (sm3.free hD2')) pm so hx4 (by rw [hps]; exact dp4.dp)
end
end Lt

set_option Elab.async false
set_option linter.all false
set_option maxRecDepth 100000
set_option maxHeartbeats 4000000
namespace Lt
open PySem PySem.Spec PyProof.Rows L2
abbrev sLike : Stmt := top 10
abbrev sRead : Stmt := top 15
abbrev sTwo : Stmt := top 16
section
variable {P : Program} {w : World} {K : PySem.W.Frag} {mg : Str → Option Value} {base : Heap}
/-! ### the readings gone through by hand -/
def spRead : Sp := fun vs H Q _ => ∃ (p r : Addr) (bs rs : List Str), vs = [.ref p, .ref r] ∧ TpO H p (bs.map V.str) ∧ H r = some (.lst (rs.map V.str)) ∧ bs.length ≤ 7 ∧ rs.length ≤ 60 ∧ (∀ b ∈ rs, b ∈ bs) ∧
  ∀ (t a n o : Addr) (H' : Hp) (ts : List Addr), Same H H' → H' t = some (.tup [.ref a, .ref n, .ref o]) → H' a = some (.tup ((behindM bs rs).map V.str)) → H' n = some (.lst ((liftedM bs rs).map natV)) →
    H' o = some (.lst (ts.map V.ref)) → PairsL H' ts (rowsM bs rs) → Q (.ref t) H'
abbrev nRead : List Str := ["pile", "readings", "left", "numbers", "rows", "book", "above", "other"]
theorem scRead : FnScope nRead ["pile", "readings"] (defScope sRead) := ⟨rfl, rfl, rfl, by decide +kernel, rfl, by decide +kernel, by decide +kernel⟩
theorem flat_map (ss : List Str) : (ss.map V.str).all flatV = true := flat_strs ss
theorem ok_read {f : Addr} {fd : FuncData} (F : Fun K "_law_read" "_law_read" sRead f fd) (B : Bi mg) : FnOk P w K mg base CX0 1 f fd ["pile", "readings"] spRead := by
  refine F.ok scRead (fun vs H Q E h => ?_) (fun cdv A outer s H vs Q E hr h => ?_)
  · obtain ⟨p, r, bs, rs, rfl, _⟩ := h
    rfl
  obtain ⟨p, r, bs, rs, rfl, hp, hrr, hl, hl2, hm, q⟩ := h
  refine ⟨_, pss_cons (ps_par3 (i := 2) (j := 3) (l := 4) (by rfl) scRead.nd rfl rfl rfl (by decide) (by decide) (by decide) rfl rfl rfl
      (pa_cons (pe_callTy call_list_of (by rfl) B.list (by decide +kernel) (pa_cons (pv 0) pa_nil)) (pa_cons (pe_lst pa_nil) (pa_cons (pe_lst pa_nil) pa_nil))) (by rfl))
    (pss_cons (ps_for PassesOwn.never rfl (pi_list (pv 1)) (pg_name (i := 5) scRead.nd rfl (.inr rfl))
      (pss_cons (ps_set (i := 6) scRead.nd rfl (.inl rfl) (pe_slice sl_list (pv 2) po_none (po_some (pe_bm PySem.F.plainAttrs_list PySem.F.slot_list_index PySem.F.type_list_index mt_index (pv 2) (pa_cons (pv 5) pa_nil)))))
      (pss_cons (ps_expr (pe_bm PySem.F.plainAttrs_list PySem.F.slot_list_append PySem.F.type_list_append mt_append (pv 3) (pa_cons (pe_callB call_len_seq (by rfl) B.len PySem.boot_len (pa_cons (pv 6) pa_nil)) pa_nil)))
      (pss_cons (ps_set (i := 4) scRead.nd rfl (.inl rfl) (pe_op op_cat (pv 4) (pe_lc (own := [("other", 7)]) (g := gName 7) (tt := tYes) (by rfl) scRead.nd (pi_list (pv 6))
          (blkOk_by (own := [("other", 7)]) (N := nRead) (sc := defScope sRead) (by decide +kernel)) (fun _ _ _ _ _ => pg_name (i := 7) scRead.nd rfl (.inl rfl)) (fun _ _ _ _ _ => pts_nil)
          (fun _ _ _ _ _ => pe_tup (pa_cons (pv 5) (pa_cons (pv 7) pa_nil))))))
      (pss_cons (ps_expr (pe_bm PySem.F.plainAttrs_list PySem.F.slot_list_remove PySem.F.type_list_remove (mt_removeS (hu_of hr)) (pv 2) (pa_cons (pv 5) pa_nil)))
      (pss_one (ps_expr (pe_bm PySem.F.plainAttrs_list PySem.F.slot_list_insert PySem.F.type_list_insert mt_insert (pv 2) (pa_cons pe_int (pa_cons (pv 5) pa_nil))))))))))
    (pss_one (ps_ret (pe_tup (pa_cons (pe_callTy call_tuple_of (by rfl) B.tuple (by decide +kernel) (pa_cons (pv 2) pa_nil)) (pa_cons (pv 3) (pa_cons (pv 4) pa_nil))))))), ?_⟩
  refine ⟨_, rfl, p, _, rfl, .inr hp.sqt, fun L hL => ⟨Nat.zero_le _, fun N hN => ⟨Nat.zero_le _, fun R hR => ⟨_, _, _, rfl, ?_⟩⟩⟩⟩
  have s1 := same_new hL (.lst (bs.map V.str))
  have s2 := same_new hN (.lst [])
  have s3 := same_new hR (.lst [])
  have sm0 : Same H (upd (upd (upd H L (.lst (bs.map V.str))) N (.lst [])) R (.lst [])) := s1.trans (s2.trans s3)
  have nLN : L ≠ N := ne_of_none upd_same hN
  have nLR : L ≠ R := ne_of_none (s2 _ _ upd_same) hR
  have nNR : N ≠ R := ne_of_none upd_same hR
  have nN0 : H N = none := s1.free hN
  have hL3 : upd (upd (upd H L (.lst (bs.map V.str))) N (.lst [])) R (.lst []) L = some (.lst (bs.map V.str)) := s3 _ _ (s2 _ _ upd_same)
  have hN3 : upd (upd (upd H L (.lst (bs.map V.str))) N (.lst [])) R (.lst []) N = some (.lst []) := s3 _ _ upd_same
  have hR3 : upd (upd (upd H L (.lst (bs.map V.str))) N (.lst [])) R (.lst []) R = some (.lst []) := upd_same
  generalize upd (upd (upd H L (.lst (bs.map V.str))) N (.lst [])) R (.lst []) = H3 at sm0 hL3 hN3 hR3 ⊢
  refine ⟨_, rfl, r, rfl, ⟨_, sm0.seq (sql hrr)⟩, for_list (K := K) (a := r) (xs := rs.map V.str)
    (fun i σ H' => ∃ (R : Addr) (y5 y6 : Option V) (ts : List Addr), σ = [some (.ref p), some (.ref r), some (.ref L), some (.ref N), some (.ref R), y5, y6, none] ∧ Same H H' ∧ L ≠ R ∧ N ≠ R ∧
      H' L = some (.lst ((behindM bs (rs.take i)).map V.str)) ∧ H' N = some (.lst ((liftedM bs (rs.take i)).map natV)) ∧ H' R = some (.lst (ts.map V.ref)) ∧ PairsL H' ts (rowsM bs (rs.take i)))
    ⟨R, none, none, [], rfl, sm0, nLR, nNR, hL3, hN3, hR3, PairsL.nil _⟩ (fun i σ H' _ ⟨_, _, _, _, _, sm, _⟩ => sm.seq (sql hrr)) ?_ ?_⟩
  · rintro i x σ H' hx ⟨R, y5, y6, ts, rfl, sm, nLR, nNR, hL', hN', hR', pl⟩
    obtain ⟨b, hb, rfl⟩ := strs_get hx
    have hi : i < rs.length := (List.getElem?_eq_some_iff.mp hb).1
    have pmi := behindM_perm (rs.take i) (take_sub hm i)
    have hbm := pmi.mem_iff.mpr (hm b (List.mem_of_getElem? hb))
    have rl : (rowsM bs (rs.take i)).length ≤ 420 := by
      have z := rowsM_len (rs.take i) (take_sub hm i)
      have z2 : (rs.take i).length * bs.length ≤ 60 * 7 := Nat.mul_le_mul (by rw [List.length_take]; omega) hl
      omega
    have e1 : lay (behindM bs (rs.take i)) b = behindM bs (rs.take (i + 1)) := by rw [take_step hb, behindM_snoc]
    have e2 : liftedM bs (rs.take i) ++ [(behindM bs (rs.take i)).idxOf b] = liftedM bs (rs.take (i + 1)) := by rw [take_step hb, liftedM_snoc]
    have e3 : rowsM bs (rs.take i) ++ (over (behindM bs (rs.take i)) b).map (fun o => (b, o)) = rowsM bs (rs.take (i + 1)) := by rw [take_step hb, rowsM_snoc]
    rw [← e1, ← e2, ← e3]
    have lnum : (liftedM bs (rs.take i)).length ≤ 60 := by rw [liftedM_len, List.length_take]; omega
    generalize behindM bs (rs.take i) = cur at hL' pmi hbm ⊢
    generalize rowsM bs (rs.take i) = rows at pl rl ⊢
    generalize liftedM bs (rs.take i) = nums at hN' lnum ⊢
    have lc : cur.length ≤ 7 := by rw [pmi.length_eq]; exact hl
    have ib := idx_lt hbm
    have lm : (cur.map V.str).length = cur.length := List.length_map _
    -- above
    refine ⟨_, rfl, _, rfl, .inl ⟨rfl, _, sql hL'⟩, _, rfl, L, _, _, cur.idxOf b, .str b, rfl, rfl, sql hL', rfl, flat_map _, by rw [List.getElem?_map, idx_get hbm]; rfl, by show (b == b) = true; exact beq_self_eq_true b, fun m z hm' hz => ?_, _, rfl, L, _, rfl, sql hL', fun A' hA => ?_⟩
    · obtain ⟨c, hc, rfl⟩ := strs_get hz
      show (c == b) = false
      exact beq_eq_false_iff_ne.mpr fun e => idx_first m hm' (by rw [hc, e])
    rw [cut_to (by rw [lm]; omega), ← List.map_take]
    have sA := same_new hA (.lst ((cur.take (cur.idxOf b)).map V.str))
    have hA' : upd H' A' (.lst ((cur.take (cur.idxOf b)).map V.str)) A' = some (.lst ((over cur b).map V.str)) := upd_same
    have hLA := sA _ _ hL'
    have hNA := sA _ _ hN'
    have hRA := sA _ _ hR'
    have plA := pl.move (KeepT.of sA)
    have smA := sm.trans sA
    have nAN : A' ≠ N := (ne_of_none hN' hA).symm
    have nAL : A' ≠ L := (ne_of_none hL' hA).symm
    have nAR : A' ≠ R := (ne_of_none hR' hA).symm
    generalize upd H' A' (.lst ((cur.take (cur.idxOf b)).map V.str)) = HA at hA' hLA hNA hRA plA smA ⊢
    have ol : (over cur b).length = cur.idxOf b := by
      unfold over
      rw [List.length_take]
      omega
    -- numbers
    refine ⟨_, rfl, .inl ⟨rfl, _, sql hNA⟩, _, rfl, A', _, rfl, .inl (sql hA'), N, _, _, rfl, rfl, hNA, by rw [List.length_map]; exact small1000 (by omega), ?_⟩
    have en : nums.map natV ++ [V.int (((over cur b).map V.str).length : Int)] = (nums ++ [cur.idxOf b]).map natV := by rw [List.map_append, List.length_map, ol]; rfl
    rw [en]
    have smN : Same H (upd HA N (.lst ((nums ++ [cur.idxOf b]).map natV))) := same_put smA nN0
    have plN := plA.move (KeepT.put (D := N) (o := .lst ((nums ++ [cur.idxOf b]).map natV)) hNA (fun xs z => nomatch z))
    have hAN : upd HA N (.lst ((nums ++ [cur.idxOf b]).map natV)) A' = some (.lst ((over cur b).map V.str)) := by rw [upd_ne nAN]; exact hA'
    have hLN : upd HA N (.lst ((nums ++ [cur.idxOf b]).map natV)) L = some (.lst (cur.map V.str)) := by rw [upd_ne nLN]; exact hLA
    have hRN : upd HA N (.lst ((nums ++ [cur.idxOf b]).map natV)) R = some (.lst (ts.map V.ref)) := by rw [upd_ne nNR.symm]; exact hRA
    have hNN : upd HA N (.lst ((nums ++ [cur.idxOf b]).map natV)) N = some (.lst ((nums ++ [cur.idxOf b]).map natV)) := upd_same
    generalize upd HA N (.lst ((nums ++ [cur.idxOf b]).map natV)) = HN at smN plN hAN hLN hRN hNN ⊢
    -- rows
    refine ⟨_, rfl, _, rfl, A', rfl, ⟨_, sql hAN⟩, fun D hD => lc_list (K := K) (a := A') (xs := (over cur b).map V.str)
      (fun j H2 => ∃ us : List Addr, Same HN H2 ∧ H2 D = some (.lst (us.map V.ref)) ∧ PairsL H2 us (((over cur b).take j).map fun o => (b, o)))
      ⟨[], same_new hD _, upd_same, PairsL.nil _⟩ (fun j H2 _ ⟨_, s2, _⟩ => s2.seq (sql hAN)) ?_ ?_⟩
    · rintro j x H2 hx2 ⟨us, s2, hD2, pl2⟩
      obtain ⟨o, ho, rfl⟩ := strs_get hx2
      refine ⟨rfl, _, rfl, _, rfl, (by show 2 ≤ sizeLine; decide), fun t ht => ?_⟩
      have s5 := same_new ht (.tup [.str b, .str o])
      refine ⟨_, s5 _ _ hD2, ?_, us ++ [t], same_put (s2.trans s5) hD, by rw [upd_same, List.map_append]; rfl, ?_⟩
      · have z := pl2.1
        rw [List.length_map, List.length_take] at z
        rw [List.length_map]
        exact small1000 (by omega)
      · rw [List.take_add_one, ho, List.map_append]
        exact ((pl2.move (KeepT.of s5)).snoc (t := t) (q := (b, o)) upd_same).move (KeepT.put (s5 _ _ hD2) (fun xs z => nomatch z))
    · rintro H2 ⟨us, s2, hD2, pl2⟩
      rw [List.length_map, List.take_length] at pl2
      have lus : us.length ≤ 7 := by rw [pl2.1, List.length_map]; omega
      have lts : ts.length ≤ 420 := by rw [plN.1]; exact rl
      refine ⟨R, D, _, _, rfl, rfl, s2 _ _ hRN, hD2, by rw [List.length_map, List.length_map]; exact Nat.le_of_lt (small1000 (by omega)), fun R2 hR2 => ?_⟩
      have s6 := same_new hR2 (.lst (ts.map V.ref ++ us.map V.ref))
      have hR6 : upd H2 R2 (.lst (ts.map V.ref ++ us.map V.ref)) R2 = some (.lst ((ts ++ us).map V.ref)) := by rw [upd_same, List.map_append]
      have sm6 : Same H (upd H2 R2 (.lst (ts.map V.ref ++ us.map V.ref))) := smN.trans (s2.trans s6)
      have hL6 := s6 _ _ (s2 _ _ hLN)
      have hN6 := s6 _ _ (s2 _ _ hNN)
      have nLR2 : L ≠ R2 := ne_of_none (s2 _ _ hLN) hR2
      have nNR2 : N ≠ R2 := ne_of_none (s2 _ _ hNN) hR2
      have pl6 : PairsL (upd H2 R2 (.lst (ts.map V.ref ++ us.map V.ref))) (ts ++ us) (rows ++ (over cur b).map fun o => (b, o)) := by
        have a1 := (plN.move (KeepT.of s2)).move (KeepT.of s6)
        have a2 := pl2.move (KeepT.of s6)
        refine ⟨by rw [List.length_append, List.length_append, a1.1, a2.1], fun k t z h1 h2 => ?_⟩
        by_cases hk : k < ts.length
        · rw [List.getElem?_append_left hk] at h1
          rw [List.getElem?_append_left (by rw [← a1.1]; exact hk)] at h2
          exact a1.2 k t z h1 h2
        · rw [List.getElem?_append_right (by omega)] at h1
          rw [List.getElem?_append_right (by rw [← a1.1]; omega), ← a1.1] at h2
          exact a2.2 _ t z h1 h2
      generalize upd H2 R2 (.lst (ts.map V.ref ++ us.map V.ref)) = H6 at hR6 sm6 hL6 hN6 pl6 ⊢
      -- remove, insert
      refine ⟨_, rfl, .inl ⟨rfl, _, sql hL6⟩, _, rfl, L, cur, b, cur.idxOf b, rfl, rfl, hL6, idx_get hbm, idx_first, ?_⟩
      refine ⟨_, rfl, .inl ⟨rfl, _, sql upd_same⟩, _, rfl, L, _, 0, _, rfl, rfl, upd_same, ?_, by decide, by decide, ?_⟩
      · rw [List.length_map]
        have z := List.length_eraseIdx_le cur (cur.idxOf b)
        exact small1000 (by omega)
      · rw [upd_upd]
        have el : ((cur.eraseIdx (cur.idxOf b)).map V.str).take (0 : Int).toNat ++ [V.str b] ++ ((cur.eraseIdx (cur.idxOf b)).map V.str).drop (0 : Int).toNat = (lay cur b).map V.str := rfl
        rw [el]
        refine ⟨R2, _, _, ts ++ us, rfl, same_put sm6 hL, nLR2, nNR2, upd_same, ?_, ?_, ?_⟩
        · rw [upd_ne nLN.symm]
          exact hN6
        · rw [upd_ne nLR2.symm]
          exact hR6
        · exact pl6.move (KeepT.put hL6 (fun xs z => nomatch z))
  · rintro σ H' ⟨R, y5, y6, ts, rfl, sm, nLR, nNR, hL', hN', hR', pl⟩
    rw [List.length_map, List.take_length] at hL' hN' pl
    refine ⟨_, rfl, L, _, rfl, .inl ⟨sql hL', fun a ha => ?_⟩⟩
    have s4 := same_new ha (.tup ((behindM bs rs).map V.str))
    refine ⟨_, rfl, _, rfl, (by show 3 ≤ sizeLine; decide), fun t ht => ?_⟩
    have s5 := same_new ht (.tup [.ref a, .ref N, .ref R])
    exact q t a N R _ ts (sm.trans (s4.trans s5)) upd_same (s5 _ _ upd_same) (s5 _ _ (s4 _ _ hN')) (s5 _ _ (s4 _ _ hR')) ((pl.move (KeepT.of s4)).move (KeepT.of s5))
end
end Lt

set_option Elab.async false
set_option linter.all false
set_option maxRecDepth 100000
set_option maxHeartbeats 4000000
namespace Lt
open PySem PySem.Spec PyProof.Rows L2
theorem eqv_two (a b c d : Str) : PyData.eqv (.list [.str a, .str b]) (.list [.str c, .str d]) = decide ((a, b) = (c, d)) := by
  simp only [PyData.eqv, PyData.eqvAll, Bool.and_true]
  by_cases h1 : a = c
  · by_cases h2 : b = d
    · subst h1 h2
      simp
    · have z : (b == d) = false := beq_eq_false_iff_ne.mpr h2
      rw [z, Bool.and_false]
      exact (decide_eq_false fun e => h2 (Prod.mk.inj e).2).symm
  · have z : (a == c) = false := beq_eq_false_iff_ne.mpr h1
    rw [z, Bool.false_and]
    exact (decide_eq_false fun e => h1 (Prod.mk.inj e).1).symm
theorem shaped_two {a b : Str} (ha : PyData.strOk a = true) (hb : PyData.strOk b = true) : SeqAt.shaped (.list [.str a, .str b]) = true :=
  shaped_of (by simp [PyData.canLay0, PyData.canLayAll0, ha, hb]) (by simp [PyData.depth, PyData.depthAll])
section
variable {P : Program} {w : World} {K : PySem.W.Frag} {mg : Str → Option Value} {base : Heap}
def spTwo (K : PySem.W.Frag) : Sp := fun vs H Q _ => ∃ (p r : Addr) (bs : List Str) (ts : List Addr) (rows : List (Str × Str)), vs = [.ref p, .ref r] ∧ SqT K H p (bs.map V.str) ∧ bs.length ≤ 7 ∧ (∀ b ∈ bs, PyData.strOk b = true) ∧
  H r = some (.lst (ts.map V.ref)) ∧ PairsL H ts rows ∧ rows.length ≤ 900 ∧ (∀ z ∈ rows, PyData.strOk z.1 = true ∧ PyData.strOk z.2 = true) ∧
  ∀ (l : Addr) (H' : Hp) (ys : List Str) (xs : List V), Same H H' → H l = none → ys.Perm bs → sortedS ys = true → H' l = some (.lst xs) → DpAll K H' xs ((prs ys ys.length).map (tri rows)) → Q (.ref l) H'
abbrev nTwo : List Str := ["books", "rows", "found", "some", "at", "one", "other", "row"]
theorem scTwo : FnScope nTwo ["books", "rows"] (defScope sTwo) := ⟨rfl, rfl, rfl, by decide +kernel, rfl, by decide +kernel, by decide +kernel⟩
theorem ok_two {f : Addr} {fd : FuncData} (F : Fun K "_law_two" "_law_two" sTwo f fd) (B : Bi mg) : FnOk P w K mg base CX0 1 f fd ["books", "rows"] (spTwo K) := by
  refine F.ok scTwo (fun vs H Q E h => ?_) (fun cdv A outer s H vs Q E hr h => ?_)
  · obtain ⟨p, r, bs, ts, rows, rfl, _⟩ := h
    rfl
  obtain ⟨p, r, bs, ts, rows, rfl, hp, hl, okB, hrr, pl, hl2, okR, q⟩ := h
  refine ⟨_, pss_cons (ps_par (i := 2) (j := 3) (by rfl) scTwo.nd rfl rfl (by decide) rfl rfl (pa_cons (pe_lst pa_nil) (pa_cons (pe_callB cr_sortedT (by rfl) B.sorted (by decide +kernel) (pa_cons (pv 0) pa_nil)) pa_nil)) (by rfl))
    (pss_cons (ps_for PassesOwn.never rfl (pi_enum (by rfl) B.enumerate (pa_cons (pv 3) pa_nil)) (pg_tup rfl (pgs_cons (pg_name (i := 4) scTwo.nd rfl (.inl rfl)) (pgs_cons (pg_name (i := 5) scTwo.nd rfl (.inr rfl)) pgs_nil)))
      (pss_one (ps_for PassesOwn.never rfl (pi_list (pe_slice sl_list (pv 3) (po_some (pe_op op_add (pv 4) pe_int)) po_none)) (pg_name (i := 6) scTwo.nd rfl (.inr rfl))
        (pss_one (ps_expr (pe_bm PySem.F.plainAttrs_list PySem.F.slot_list_append PySem.F.type_list_append mt_append (pv 2) (pa_cons (pe_tup (pa_cons (pv 5) (pa_cons (pv 6) (pa_cons
          (pe_callB call_len_seq (by rfl) B.len PySem.boot_len (pa_cons (pe_lc (own := [("row", 7)]) (g := gName 7) (tt := tTest (tOp (rEqD K) (tCB (rSortedT K) (tCons (tVar 7) tNil)) (tLst (tCons (tVar 5) (tCons (tVar 6) tNil)))))
            (by rfl) scTwo.nd (pi_list (pv 1)) (blkOk_by (own := [("row", 7)]) (N := nTwo) (sc := defScope sTwo) (by decide +kernel)) (fun _ _ _ _ _ => pg_name (i := 7) scTwo.nd rfl (.inl rfl))
            (fun _ _ _ _ _ => pts_one (pt_cmpR (oEqD (K := K) hr.units rfl) (pe_callB (cSortT (K := K) rfl) (by rfl) B.sorted (by decide +kernel) (pa_cons (pv 7) pa_nil)) (pe_lst (pa_cons (pv 5) (pa_cons (pv 6) pa_nil))) (nomark _)))
            (fun _ _ _ _ _ => pe_int)) pa_nil)) pa_nil)))) pa_nil)))))))
    (pss_one (ps_ret (pv 2)))), ?_⟩
  refine ⟨Nat.zero_le _, fun Fd hF => ⟨_, rfl, p, bs, rfl, same_tup (same_new hF _) hp, by omega, fun ys So pm so hSo => ⟨_, _, rfl, ?_⟩⟩⟩
  have ly : ys.length = bs.length := pm.length_eq
  have s1 := same_new hF (.lst [])
  have s2 := same_new hSo (.lst (ys.map V.str))
  have sm0 : Same H (upd (upd H Fd (.lst [])) So (.lst (ys.map V.str))) := s1.trans s2
  have nFS : Fd ≠ So := ne_of_none upd_same hSo
  have hF2 : upd (upd H Fd (.lst [])) So (.lst (ys.map V.str)) Fd = some (.lst []) := s2 _ _ upd_same
  have hS2 : upd (upd H Fd (.lst [])) So (.lst (ys.map V.str)) So = some (.lst (ys.map V.str)) := upd_same
  generalize upd (upd H Fd (.lst [])) So (.lst (ys.map V.str)) = H2 at sm0 hF2 hS2 ⊢
  have okY : ∀ b ∈ ys, PyData.strOk b = true := fun b hb => okB b (pm.mem_iff.mp hb)
  have plen : ∀ n, n ≤ ys.length → (prs ys n).length ≤ 49 := fun n hn => by
    have z := prs_len ys n
    have z2 : n * ys.length ≤ 7 * 7 := Nat.mul_le_mul (by omega) (by omega)
    omega
  refine ⟨_, rfl, So, _, rfl, sql hS2, for_it (walk_enum (K := K) (a := So) (xs := ys.map V.str))
    (fun i σ H' => ∃ (y4 y5 y6 : Option V) (us : List Addr), σ = [some (.ref p), some (.ref r), some (.ref Fd), some (.ref So), y4, y5, y6, none] ∧ Same H H' ∧ H' Fd = some (.lst (us.map V.ref)) ∧ H' So = some (.lst (ys.map V.str)) ∧ TriL rows H' us (prs ys i))
    ⟨none, none, none, [], rfl, sm0, hF2, hS2, rfl, fun i t q h => by simp at h⟩ (fun i σ H' _ ⟨_, _, _, _, _, _, _, h, _⟩ => sql h) ?_ ?_⟩
  · rintro i x σ H3 H4 hi ⟨y4, y5, y6, us, rfl, sm, hF3, hS3, tl⟩ ⟨T, x1, x2, rfl, nT, rfl, e1, e2⟩
    rw [List.length_map] at hi
    cases e1
    obtain ⟨a, ha, rfl⟩ := strs_get e2
    have s4 := same_new nT (.tup [natV i, .str a])
    have sm4 := sm.trans s4
    have hF4 := s4 _ _ hF3
    have hS4 := s4 _ _ hS3
    have tl4 := tl.move (KeepT.of s4)
    have hT4 : upd H3 T (.tup [natV i, .str a]) T = some (.tup [natV i, .str a]) := upd_same
    generalize upd H3 T (.tup [natV i, .str a]) = H4 at sm4 hF4 hS4 tl4 hT4 ⊢
    refine ⟨T, _, rfl, sqt hT4, rfl, _, _, rfl, _, _, rfl, rfl, ?_⟩
    refine ⟨_, rfl, _, rfl, _, _, rfl, rfl, _, rfl, So, _, rfl, sql hS4, fun c hc => ?_⟩
    have ecut : cutV (ys.map V.str) (some ((i : Int) + 1)) none = (ys.drop (i + 1)).map V.str := by
      rw [show ((i : Int) + 1) = ((i + 1 : Nat) : Int) by omega, cut_from (by rw [List.length_map]; omega), List.map_drop]
    rw [ecut]
    have s5 := same_new hc (.lst ((ys.drop (i + 1)).map V.str))
    have sm5 := sm4.trans s5
    have hF5 := s5 _ _ hF4
    have hS5 := s5 _ _ hS4
    have tl5 := tl4.move (KeepT.of s5)
    have hc5 : upd H4 c (.lst ((ys.drop (i + 1)).map V.str)) c = some (.lst ((ys.drop (i + 1)).map V.str)) := upd_same
    have ncF : c ≠ Fd := (ne_of_none hF4 hc).symm
    generalize upd H4 c (.lst ((ys.drop (i + 1)).map V.str)) = H5 at sm5 hF5 hS5 tl5 hc5 ⊢
    refine ⟨c, rfl, ⟨_, sql hc5⟩, for_list (K := K) (a := c) (xs := (ys.drop (i + 1)).map V.str)
      (fun j σ H' => ∃ (y6 : Option V) (us : List Addr), σ = [some (.ref p), some (.ref r), some (.ref Fd), some (.ref So), some (natV i), some (.str a), y6, none] ∧ Same H H' ∧ H' Fd = some (.lst (us.map V.ref)) ∧ H' So = some (.lst (ys.map V.str)) ∧
        H' c = some (.lst ((ys.drop (i + 1)).map V.str)) ∧ TriL rows H' us (prs ys i ++ ((ys.drop (i + 1)).take j).map fun b => (a, b)))
      ⟨y6, us, rfl, sm5, hF5, hS5, hc5, by rw [List.take_zero, List.map_nil, List.append_nil]; exact tl5⟩ (fun j σ H' _ ⟨_, _, _, _, _, _, h, _⟩ => sql h) ?_ ?_⟩
    · rintro j x σ H6 hx ⟨y6, us6, rfl, sm6, hF6, hS6, hc6, tl6⟩
      obtain ⟨b, hb, rfl⟩ := strs_get hx
      have okab : SeqAt.shaped (.list [.str a, .str b]) = true := shaped_two (okY a (List.mem_of_getElem? ha)) (okY b (List.mem_of_mem_drop (List.mem_of_getElem? hb)))
      refine ⟨_, rfl, .inl ⟨rfl, _, sql hF6⟩, _, rfl, _, rfl, _, rfl, r, rfl, ⟨_, sm6.seq (sql hrr)⟩, fun D hD => lc_list (K := K) (a := r) (xs := ts.map V.ref)
        (fun k H' => Same H6 H' ∧ H' D = some (.lst (List.replicate (cnt (rows.take k) (a, b)) (V.int 1))))
        ⟨same_new hD _, upd_same⟩ (fun k H' _ ⟨s', _⟩ => s'.seq (sm6.seq (sql hrr))) ?_ ?_⟩
      · rintro k x H7 hx7 ⟨s7, hD7⟩
        have hk : k < ts.length := by
          have z := (List.getElem?_eq_some_iff.mp hx7).1
          rw [List.length_map] at z
          exact z
        rw [List.getElem?_map, List.getElem?_eq_getElem hk] at hx7
        cases hx7
        have hk2 : k < rows.length := by rw [← pl.1]; exact hk
        have ht : H7 ts[k] = some (.tup [.str rows[k].1, .str rows[k].2]) := s7 _ _ (sm6 _ _ (pl.2 k _ _ (List.getElem?_eq_getElem hk) (List.getElem?_eq_getElem hk2)))
        have okr := okR rows[k] (List.getElem_mem hk2)
        refine ⟨rfl, _, rfl, ts[k], [rows[k].1, rows[k].2], rfl, sqt ht, by show 2 < 64; decide, fun zs l pz sz hl' => ?_⟩
        have ez : zs = [(asPair rows[k]).1, (asPair rows[k]).2] := sorted_two pz sz
        subst ez
        have okp : PyData.strOk (asPair rows[k]).1 = true ∧ PyData.strOk (asPair rows[k]).2 = true := by
          unfold asPair
          by_cases c : ltS rows[k].1 rows[k].2
          · rw [if_pos c]
            exact okr
          · rw [if_neg c]
            exact ⟨okr.2, okr.1⟩
        have s8 := same_new hl' (.lst ([(asPair rows[k]).1, (asPair rows[k]).2].map V.str))
        refine ⟨_, rfl, _, rfl, (by show 2 ≤ sizeLine; decide), fun m hm' => ?_⟩
        have s9 := same_new hm' (.lst [V.str a, V.str b])
        refine ⟨.list [.str (asPair rows[k]).1, .str (asPair rows[k]).2], .list [.str a, .str b], .lst (sql (s9 _ _ upd_same)) (.cons (.str _) (.cons (.str _) .nil)), .lst (sql upd_same) (.cons (.str _) (.cons (.str _) .nil)), shaped_two okp.1 okp.2, okab, _, rfl, ?_⟩
        rw [eqv_two]
        have es : cnt (rows.take (k + 1)) (a, b) = cnt (rows.take k) (a, b) + if asPair rows[k] = (a, b) then 1 else 0 := by
          rw [List.take_add_one, List.getElem?_eq_getElem hk2]
          exact cnt_snoc _ _ _
        have lcnt : cnt (rows.take k) (a, b) ≤ 900 := by
          unfold cnt
          have z := List.length_filter_le (fun r => decide (asPair r = (a, b))) (rows.take k)
          rw [List.length_take] at z
          omega
        refine ite2 (fun c => ?_) (fun c => ?_)
        · have c' : asPair rows[k] = (a, b) := of_decide_eq_true c
          refine ⟨_, s9 _ _ (s8 _ _ hD7), by rw [List.length_replicate]; exact small1000 (by omega), same_put (s7.trans (s8.trans s9)) hD, ?_⟩
          rw [upd_same, es, if_pos c', List.replicate_succ']
        · have c' : ¬ asPair rows[k] = (a, b) := of_decide_eq_false (Bool.eq_false_iff.mpr c)
          refine ⟨s7.trans (s8.trans s9), ?_⟩
          rw [es, if_neg c', Nat.add_zero]
          exact s9 _ _ (s8 _ _ hD7)
      · rintro H7 ⟨s7, hD7⟩
        rw [List.length_map, pl.1, List.take_length] at hD7
        refine ⟨D, _, rfl, .inl (sql hD7), (by show 3 ≤ sizeLine; decide), fun t ht => ?_⟩
        rw [List.length_replicate]
        have s8 := same_new ht (.tup [.str a, .str b, natV (cnt rows (a, b))])
        have hF8 := s8 _ _ (s7 _ _ hF6)
        have lus : us6.length ≤ 60 := by
          rw [tl6.1, List.length_append, List.length_map, List.length_take, List.length_drop]
          have z := plen i (by omega)
          omega
        refine ⟨Fd, _, _, rfl, rfl, hF8, by rw [List.length_map]; exact small1000 (by omega), ?_⟩
        refine ⟨_, us6 ++ [t], rfl, same_put (sm6.trans (s7.trans s8)) hF, by rw [upd_same, List.map_append]; rfl, ?_, ?_, ?_⟩
        · rw [upd_ne nFS.symm]
          exact s8 _ _ (s7 _ _ hS6)
        · rw [upd_ne ncF]
          exact s8 _ _ (s7 _ _ hc6)
        · rw [List.take_add_one, hb, List.map_append, ← List.append_assoc]
          exact ((tl6.move (KeepT.of (s7.trans s8))).snoc (t := t) (q := (a, b)) upd_same).move (KeepT.put hF8 (fun xs z => nomatch z))
    · rintro σ H6 ⟨y6, us6, rfl, sm6, hF6, hS6, hc6, tl6⟩
      rw [List.length_map, List.take_length] at tl6
      refine ⟨_, _, y6, us6, rfl, sm6, hF6, hS6, ?_⟩
      rw [prs_succ ha]
      exact tl6
  · rintro σ H3 ⟨y4, y5, y6, us, rfl, sm, hF3, hS3, tl⟩
    rw [List.length_map] at tl
    exact ⟨_, rfl, q Fd H3 ys _ sm hF pm so hF3 tl.dp⟩
/-! ### alike -/
def kindName : PyData → String
  | .none => "NoneType"
  | .bool _ => "bool"
  | .int _ => "int"
  | .str _ => "str"
  | .list _ => "list"
  | .tuple _ => "tuple"
  | .dict _ => "dict"
theorem ty_dp {H : Hp} {v : V} {d : PyData} (h : Dp K H v d) : TyX K H v (.type (kindName d)) := by
  cases h with
  | non => exact .base .non
  | bl b => exact .base (.bl b)
  | int i => exact .base (.int i)
  | str x => exact .base (.str x)
  | lst h a =>
    rcases h with (h | ⟨o, h⟩) | ⟨o, its, n, h, hc, _⟩
    · exact .base (.lst h)
    · exact .base (.frz h)
    · exact .kList h hc
  | tup h a =>
    rcases h with (h | ⟨o, h⟩) | ⟨o, its, n, h, hc, _⟩
    · exact .base (.tup h)
    · exact .fTuple h
    · exact .kTuple h hc
end
end Lt

set_option Elab.async false
set_option linter.all false
set_option maxRecDepth 100000
set_option maxHeartbeats 4000000
namespace Lt
open PySem PySem.Spec PyProof.Rows L2
/-- data of bounded depth, its rows not too long -/
def Fine : Nat → PyData → Prop
  | _, .none => True
  | _, .bool _ => True
  | _, .int _ => True
  | _, .str x => PyData.strOk x = true
  | 0, .list _ => False
  | 0, .tuple _ => False
  | n + 1, .list ds => ds.length ≤ 1000 ∧ ∀ d ∈ ds, Fine n d
  | n + 1, .tuple ds => ds.length ≤ 1000 ∧ ∀ d ∈ ds, Fine n d
  | _, .dict _ => False
theorem kit_yes {K : PySem.W.Frag} {a : String} {cs : List Value} {b : String} (h : kitB a b = some true) : PySem.W.kitAny K (.type a) (.type b :: cs) = some true :=
  kitAny_cons (kit_ty h) (fun z => nomatch z) fun _ => rfl
theorem kit_no {K : PySem.W.Frag} {a : String} {cs : List Value} {b : String} {r : Bool} (h : kitB a b = some false) (t : PySem.W.kitAny K (.type a) cs = some r) : PySem.W.kitAny K (.type a) (.type b :: cs) = some r :=
  kitAny_cons (kit_ty h) (fun _ => t) fun z => nomatch z
section
variable {X : Cx} {K : PySem.W.Frag}
theorem ixS (e : X.K = K) : IxR X (rIx K) := by
  subst e
  exact ix_seq
end
section
variable {P : Program} {w : World} {K : PySem.W.Frag} {mg : Str → Option Value} {base : Heap}
def spLike (K : PySem.W.Frag) (n : Nat) : Sp := fun vs H Q _ => ∃ (v1 v2 : V) (d : PyData) (m : Nat), n = m + 1 ∧ vs = [v1, v2] ∧ Dp K H v1 d ∧ Dp K H v2 d ∧ Fine m d ∧ ∀ H', Same H H' → Q (.bl true) H'
theorem scLike : FnScope ["one", "two", "k"] ["one", "two"] (defScope sLike) := ⟨rfl, rfl, rfl, by decide +kernel, rfl, by decide +kernel, by decide +kernel⟩
theorem like_step {f : Addr} {fd : FuncData} {n : Nat} (F : Fun K "_law_like" "_law_like" sLike f fd) (B : Bi mg) (cI : Has P w K mg base n "_law_like" ["one", "two"] (spLike K n)) :
    FnOk P w K mg base CX0 (n + 1) f fd ["one", "two"] (spLike K (n + 1)) := by
  refine F.ok scLike (fun vs H Q E h => ?_) (fun cdv A outer s H vs Q E hr h => ?_)
  · obtain ⟨v1, v2, d, m, _, rfl, _⟩ := h
    rfl
  obtain ⟨v1, v2, d, m, hn, rfl, h1, h2, fine, q⟩ := h
  cases hn
  refine ⟨_, pss_cons (ps_if (pt_val (pe_callB call_isiT (by rfl) B.isinstance (by decide +kernel) (pa_cons (pv 0) (pa_cons (pe_tup (pa_cons (pe_bltn (v := .ty "list") (by rfl) B.list (by decide +kernel) rfl) (pa_cons (pe_bltn (v := .ty "tuple") (by rfl) B.tuple (by decide +kernel) rfl) pa_nil))) pa_nil))))
      (pss_cons (ps_if (PW.pt (pw_or (pt_cmpR op_ne (pe_callB call_isi (by rfl) B.isinstance (by decide +kernel) (pa_cons (pv 0) (pa_cons (pe_bltn (v := .ty "list") (by rfl) B.list (by decide +kernel) rfl) pa_nil)))
            (pe_callB call_isi (by rfl) B.isinstance (by decide +kernel) (pa_cons (pv 1) (pa_cons (pe_bltn (v := .ty "list") (by rfl) B.list (by decide +kernel) rfl) pa_nil))) (nomark _))
          (pw_or1 (pt_cmpR op_ne (pe_callB call_isi (by rfl) B.isinstance (by decide +kernel) (pa_cons (pv 0) (pa_cons (pe_bltn (v := .ty "tuple") (by rfl) B.tuple (by decide +kernel) rfl) pa_nil)))
            (pe_callB call_isi (by rfl) B.isinstance (by decide +kernel) (pa_cons (pv 1) (pa_cons (pe_bltn (v := .ty "tuple") (by rfl) B.tuple (by decide +kernel) rfl) pa_nil))) (nomark _))))) (pss_one (ps_ret pe_bl)) pss_nil)
      (pss_cons (ps_if (pt_cmpR op_ne (pe_callB call_len_seq (by rfl) B.len PySem.boot_len (pa_cons (pv 0) pa_nil)) (pe_callB call_len_seq (by rfl) B.len PySem.boot_len (pa_cons (pv 1) pa_nil)) (nomark _)) (pss_one (ps_ret pe_bl)) pss_nil)
      (pss_one (ps_ret (pe_cmpR (op_eqD hr.units) (pe_lc (own := [("k", 2)]) (g := gName 2) (tt := tNot (tB (tCall (spLike K n) [] E0 (tCons (tOp (rIx K) (tVar 0) (tVar 2)) (tCons (tOp (rIx K) (tVar 1) (tVar 2)) tNil)))))
          (by rfl) scLike.nd (pi_range1 (by rfl) B.range (pa_cons (pe_callB call_len_seq (by rfl) B.len PySem.boot_len (pa_cons (pv 0) pa_nil)) pa_nil)) (blkOk_by (own := [("k", 2)]) (N := ["one", "two", "k"]) (sc := defScope sLike) (by decide +kernel))
          (fun _ _ _ _ _ => pg_name (i := 2) scLike.nd rfl (.inl rfl))
          (fun _ _ _ _ _ => pts_one (pt_not (pt_val (pe_go cI hr (Nat.le_refl _) rfl (pa_cons (pe_ix (ixS (K := K) rfl) (pv 0) (pv 2) (fun _ _ => rfl)) (pa_cons (pe_ix (ixS (K := K) rfl) (pv 1) (pv 2) (fun _ _ => rfl)) pa_nil))))))
          (fun _ _ _ _ _ => pv 2)) (pe_lst pa_nil) (nomark _)))))) pss_nil)
    (pss_cons (ps_if (pt_val (pe_callB call_isiT (by rfl) B.isinstance (by decide +kernel) (pa_cons (pv 1) (pa_cons (pe_tup (pa_cons (pe_bltn (v := .ty "list") (by rfl) B.list (by decide +kernel) rfl) (pa_cons (pe_bltn (v := .ty "tuple") (by rfl) B.tuple (by decide +kernel) rfl) pa_nil))) pa_nil)))) (pss_one (ps_ret pe_bl)) pss_nil)
    (pss_one (ps_ret (pe_and (pe_cmpR op_eq (pe_callB call_isi (by rfl) B.isinstance (by decide +kernel) (pa_cons (pv 0) (pa_cons (pe_bltn (v := .ty "bool") (by rfl) B.bool (by decide +kernel) rfl) pa_nil)))
        (pe_callB call_isi (by rfl) B.isinstance (by decide +kernel) (pa_cons (pv 1) (pa_cons (pe_bltn (v := .ty "bool") (by rfl) B.bool (by decide +kernel) rfl) pa_nil))) (nomark _)) (pe_one (pe_cmpR (op_eqD hr.units) (pv 0) (pv 1) (nomark _))))))), ?_⟩
  have cls2 : Paired ClsV [V.ty "list", V.ty "tuple"] [Value.type "list", Value.type "tuple"] := .cons (.ty _) (.cons (.ty _) .nil)
  have kinds : (∃ (T : String) (bl : Bool), (∀ H', Same H H' → TyX K H' v1 (.type T) ∧ TyX K H' v2 (.type T)) ∧ kitB T "list" = some false ∧ kitB T "tuple" = some false ∧ kitB T "bool" = some bl ∧ SeqAt.shaped d = true ∧ PyData.eqv d d = true) ∨
      ∃ (T : String) (l : Bool) (a b : Addr) (xs ys : List V) (ds : List PyData) (m : Nat), (∀ H', Same H H' → TyX K H' v1 (.type T) ∧ TyX K H' v2 (.type T)) ∧ kitB T "list" = some l ∧ kitB T "tuple" = some (!l) ∧ v1 = .ref a ∧ v2 = .ref b ∧
        (∀ H', Same H H' → SqL K H' a xs ∨ SqT K H' a xs) ∧ (∀ H', Same H H' → SqL K H' b ys ∨ SqT K H' b ys) ∧ DpAll K H xs ds ∧ DpAll K H ys ds ∧ ds.length ≤ 1000 ∧ n = m + 1 ∧ ∀ d ∈ ds, Fine m d := by
    have both : ∀ H', Same H H' → TyX K H' v1 (.type (kindName d)) ∧ TyX K H' v2 (.type (kindName d)) := fun H' s' => ⟨ty_dp (dp_same s' h1), ty_dp (dp_same s' h2)⟩
    cases d with
    | none => exact .inl ⟨"NoneType", false, both, by decide +kernel, by decide +kernel, by decide +kernel, by decide +kernel, by simp [PyData.eqv]⟩
    | bool b => exact .inl ⟨"bool", true, both, by decide +kernel, by decide +kernel, by decide +kernel, shaped_of (by simp [PyData.canLay0]) (by simp [PyData.depth]), by simp [PyData.eqv]⟩
    | int i => exact .inl ⟨"int", false, both, by decide +kernel, by decide +kernel, by decide +kernel, shaped_of (by simp [PyData.canLay0]) (by simp [PyData.depth]), by simp [PyData.eqv]⟩
    | str x =>
      have fx : PyData.strOk x = true := by
        cases n <;> exact fine
      exact .inl ⟨"str", false, both, by decide +kernel, by decide +kernel, by decide +kernel, shaped_of (by simp [PyData.canLay0, fx]) (by simp [PyData.depth]), by simp [PyData.eqv]⟩
    | dict kvs => cases h1
    | list ds =>
      cases n with
      | zero => exact fine.elim
      | succ m =>
        cases h1 with
        | lst g1 a1 =>
          cases h2 with
          | lst g2 a2 => exact .inr ⟨"list", true, _, _, _, _, ds, m, both, by decide +kernel, by decide +kernel, rfl, rfl, fun H' s' => .inl (s'.seq g1), fun H' s' => .inl (s'.seq g2), a1, a2, fine.1, rfl, fine.2⟩
    | tuple ds =>
      cases n with
      | zero => exact fine.elim
      | succ m =>
        cases h1 with
        | tup g1 a1 =>
          cases h2 with
          | tup g2 a2 => exact .inr ⟨"tuple", false, _, _, _, _, ds, m, both, by decide +kernel, by decide +kernel, rfl, rfl, fun H' s' => .inr (same_tup s' g1), fun H' s' => .inr (same_tup s' g2), a1, a2, fine.1, rfl, fine.2⟩
  rcases kinds with ⟨T, bl, ty, k1, k2, kb, sh, ev⟩ | ⟨T, l, a, b, xs, ys, ds, m, ty, k1, k2, rfl, rfl, sa, sb, da, db, hl, rfl, fd'⟩
  · refine ⟨_, rfl, (by show 2 ≤ sizeLine; decide), fun tp htp => ?_⟩
    have s1 := same_new htp (.tup [V.ty "list", V.ty "tuple"])
    refine ⟨v1, tp, _, _, _, false, rfl, upd_same, cls2, (ty _ s1).1, kit_no k1 (kit_no k2 rfl), _, rfl, ?_⟩
    refine ⟨_, rfl, (by show 2 ≤ sizeLine; decide), fun tp2 htp2 => ?_⟩
    have s2 := s1.trans (same_new htp2 (.tup [V.ty "list", V.ty "tuple"]))
    refine ⟨v2, tp2, _, _, _, false, rfl, upd_same, cls2, (ty _ s2).2, kit_no k1 (kit_no k2 rfl), _, rfl, ?_⟩
    refine ⟨_, rfl, v1, _, _, _, bl, rfl, .ty _, (ty _ s2).1, kit_ty kb, _, rfl, v2, _, _, _, bl, rfl, .ty _, (ty _ s2).2, kit_ty kb, rfl, true, ?_, ?_⟩
    · rw [decide_eq_true rfl]
    · refine ⟨_, rfl, _, rfl, d, d, dp_same s2 h1, dp_same s2 h2, sh, sh, ?_⟩
      rw [ev]
      exact q _ s2
  · have lx := dpAll_len da
    have ly := dpAll_len db
    refine ⟨_, rfl, (by show 2 ≤ sizeLine; decide), fun tp htp => ?_⟩
    have s1 := same_new htp (.tup [V.ty "list", V.ty "tuple"])
    have anyT : PySem.W.kitAny K (.type T) [Value.type "list", Value.type "tuple"] = some true := by
      cases l with
      | true => exact kit_yes k1
      | false => exact kit_no k1 (kit_yes k2)
    refine ⟨.ref a, tp, _, _, _, true, rfl, upd_same, cls2, (ty _ s1).1, anyT, _, rfl, ?_⟩
    refine ⟨_, rfl, .ref a, _, _, _, l, rfl, .ty _, (ty _ s1).1, kit_ty k1, _, rfl, .ref b, _, _, _, l, rfl, .ty _, (ty _ s1).2, kit_ty k1, rfl, false, ?_, ?_⟩
    · rw [decide_eq_true rfl]
      rfl
    refine ⟨_, rfl, .ref a, _, _, _, !l, rfl, .ty _, (ty _ s1).1, kit_ty k2, _, rfl, .ref b, _, _, _, !l, rfl, .ty _, (ty _ s1).2, kit_ty k2, rfl, false, ?_, ?_⟩
    · rw [decide_eq_true rfl]
      rfl
    refine ⟨_, rfl, a, xs, rfl, sa _ s1, _, rfl, b, ys, rfl, sb _ s1, rfl, false, ?_, ?_⟩
    · rw [lx, ly, decide_eq_true rfl]
      rfl
    refine ⟨_, rfl, a, xs, rfl, sa _ s1, _, rfl, by omega, by omega, fun D hD => lc_range (lo := 0) (n := (xs.length : Int).toNat) (fun i H' => Same H H' ∧ H' D = some (.lst [])) ⟨s1.trans (same_new hD _), upd_same⟩ ?_ ?_⟩
    · rintro i H' hi ⟨s', hD'⟩
      have hi' : i < xs.length := by omega
      have gx : xs[i]? = some xs[i] := List.getElem?_eq_getElem hi'
      have gy : ys[i]? = some (ys[i]'(by omega)) := List.getElem?_eq_getElem (by omega)
      obtain ⟨d1, e1, p1⟩ := dpAll_get da gx
      obtain ⟨d2, e2, p2⟩ := dpAll_get db gy
      rw [e1] at e2
      cases e2
      have ea : atI xs (0 + (i : Int)) = some xs[i] := at_of (j := i) (by omega) gx
      have eb : atI ys (0 + (i : Int)) = some (ys[i]'(by omega)) := at_of (j := i) (by omega) gy
      rcases sa _ s' with za | za <;> rcases sb _ s' with zb | zb
      · refine ⟨rfl, _, rfl, _, rfl, .inl ⟨a, xs, _, _, rfl, rfl, za, ea, _, rfl, _, rfl, .inl ⟨b, ys, _, _, rfl, rfl, zb, eb, ?_⟩⟩⟩
        exact ⟨_, _, d1, m, rfl, rfl, dp_same s' p1, dp_same s' p2, fd' d1 (List.mem_of_getElem? e1), fun H2 s2 => ⟨true, rfl, s'.trans s2, s2 _ _ hD'⟩⟩
      · refine ⟨rfl, _, rfl, _, rfl, .inl ⟨a, xs, _, _, rfl, rfl, za, ea, _, rfl, _, rfl, .inr (.inl ⟨b, ys, _, _, rfl, rfl, zb, eb, ?_⟩)⟩⟩
        exact ⟨_, _, d1, m, rfl, rfl, dp_same s' p1, dp_same s' p2, fd' d1 (List.mem_of_getElem? e1), fun H2 s2 => ⟨true, rfl, s'.trans s2, s2 _ _ hD'⟩⟩
      · refine ⟨rfl, _, rfl, _, rfl, .inr (.inl ⟨a, xs, _, _, rfl, rfl, za, ea, _, rfl, _, rfl, .inl ⟨b, ys, _, _, rfl, rfl, zb, eb, ?_⟩⟩)⟩
        exact ⟨_, _, d1, m, rfl, rfl, dp_same s' p1, dp_same s' p2, fd' d1 (List.mem_of_getElem? e1), fun H2 s2 => ⟨true, rfl, s'.trans s2, s2 _ _ hD'⟩⟩
      · refine ⟨rfl, _, rfl, _, rfl, .inr (.inl ⟨a, xs, _, _, rfl, rfl, za, ea, _, rfl, _, rfl, .inr (.inl ⟨b, ys, _, _, rfl, rfl, zb, eb, ?_⟩)⟩)⟩
        exact ⟨_, _, d1, m, rfl, rfl, dp_same s' p1, dp_same s' p2, fd' d1 (List.mem_of_getElem? e1), fun H2 s2 => ⟨true, rfl, s'.trans s2, s2 _ _ hD'⟩⟩
    · rintro H' ⟨s', hD'⟩
      refine ⟨Nat.zero_le _, fun e he => ?_⟩
      have s5 := same_new he (.lst [])
      refine ⟨.list [], .list [], .lst (sql (s5 _ _ hD')) .nil, .lst (sql upd_same) .nil, by decide +kernel, by decide +kernel, ?_⟩
      have ev : PyData.eqv (.list []) (.list []) = true := by simp [PyData.eqv, PyData.eqvAll]
      rw [ev]
      exact q _ (s'.trans s5)
end
end Lt

set_option Elab.async false
set_option linter.all false
set_option maxRecDepth 100000
set_option maxHeartbeats 4000000
namespace Lt
open PySem PySem.Spec PyProof.Rows L2
abbrev sLaw : Stmt := top 17
section
variable {P : Program} {w : World} {K : PySem.W.Frag} {mg : Str → Option Value} {base : Heap}
theorem like_all {f : Addr} {fd : FuncData} (F : Fun K "_law_like" "_law_like" sLike f fd) (B : Bi mg) (m : mg "_law_like" = some (.ref f)) (b : Binds K fd ["one", "two"] []) :
    ∀ n : Nat, FnOk P w K mg base CX0 n f fd ["one", "two"] (spLike K n)
  | 0 => by
    have no : ∀ vs H Q E, ¬ spLike K 0 vs H Q E := fun vs H Q E h => by
      obtain ⟨_, _, _, m, h, _⟩ := h
      cases h
    exact ⟨fun vs H Q E h => absurd h (no vs H Q E), fun A outer s H args us vs Q E _ _ _ _ h => absurd h (no vs H Q E)⟩
  | n + 1 => like_step F B ⟨f, fd, like_all F B m b n, m, F.kp, b⟩
/-! ### shapes of what is compared -/
theorem fine_strs {ss : List Str} (hl : ss.length ≤ 1000) (ok : ∀ b ∈ ss, PyData.strOk b = true) (n : Nat) : Fine (n + 1) (.tuple (ss.map PyData.str)) := by
  refine ⟨by rw [List.length_map]; exact hl, fun d hd => ?_⟩
  obtain ⟨b, hb, rfl⟩ := List.mem_map.mp hd
  cases n <;> exact ok b hb
theorem fine_nats {ns : List Nat} (hl : ns.length ≤ 1000) (n : Nat) : Fine (n + 1) (.list ((ns.map fun k : Nat => (k : Int)).map PyData.int)) := by
  refine ⟨by rw [List.length_map, List.length_map]; exact hl, fun d hd => ?_⟩
  obtain ⟨b, hb, rfl⟩ := List.mem_map.mp hd
  cases n <;> exact True.intro
theorem natV_map (ns : List Nat) : ns.map natV = (ns.map fun k : Nat => (k : Int)).map V.int := by
  rw [List.map_map]
  rfl
theorem prs_sub {ys : List Str} : ∀ {n : Nat} {q : Str × Str}, q ∈ prs ys n → q.1 ∈ ys ∧ q.2 ∈ ys
  | 0, q, h => by cases h
  | n + 1, q, h => by
    cases e : ys[n]? with
    | none =>
      have e2 : prs ys (n + 1) = prs ys n ++ (match ys[n]? with | some a => (ys.drop (n + 1)).map fun b => (a, b) | none => []) := rfl
      rw [e2, e, List.append_nil] at h
      exact prs_sub h
    | some a =>
      rw [prs_succ e] at h
      rcases List.mem_append.mp h with h | h
      · exact prs_sub h
      · obtain ⟨b, hb, rfl⟩ := List.mem_map.mp h
        exact ⟨List.mem_of_getElem? e, List.mem_of_mem_drop hb⟩
theorem fine_tri {ys : List Str} {rows : List (Str × Str)} (hl : ys.length ≤ 7) (ok : ∀ b ∈ ys, PyData.strOk b = true) (n : Nat) : Fine (n + 2) (.list ((prs ys ys.length).map (tri rows))) := by
  have lp : (prs ys ys.length).length ≤ 49 := by
    have z := prs_len ys ys.length
    have z2 : ys.length * ys.length ≤ 7 * 7 := Nat.mul_le_mul hl hl
    omega
  refine ⟨by rw [List.length_map]; omega, fun d hd => ?_⟩
  obtain ⟨q, hq, rfl⟩ := List.mem_map.mp hd
  have z := prs_sub hq
  refine ⟨by show 3 ≤ 1000; decide, fun d hd => ?_⟩
  simp only [List.mem_cons, List.not_mem_nil, or_false] at hd
  rcases hd with rfl | rfl | rfl
  · cases n <;> exact ok _ z.1
  · cases n <;> exact ok _ z.2
  · cases n <;> exact True.intro
/-- data that is fine is shaped, and is itself -/
theorem fine_can : ∀ (n : Nat) (d : PyData), Fine n d → d.canLay0 = true ∧ d.depth ≤ n
  | n, .none, _ => ⟨by simp [PyData.canLay0], by simp [PyData.depth]⟩
  | n, .bool _, _ => ⟨by simp [PyData.canLay0], by simp [PyData.depth]⟩
  | n, .int _, _ => ⟨by simp [PyData.canLay0], by simp [PyData.depth]⟩
  | n, .str x, h => by
    have h' : PyData.strOk x = true := by cases n <;> exact h
    exact ⟨by simp [PyData.canLay0, h'], by simp [PyData.depth]⟩
  | 0, .list _, h => h.elim
  | 0, .tuple _, h => h.elim
  | n + 1, .list ds, h => by
    have a := fun d hd => fine_can n d (h.2 d hd)
    refine ⟨by rw [PyData.canLay0]; exact canAll ds fun d hd => (a d hd).1, ?_⟩
    rw [PyData.depth]
    exact Nat.succ_le_succ (depthAll_le ds fun d hd => (a d hd).2)
  | n + 1, .tuple ds, h => by
    have a := fun d hd => fine_can n d (h.2 d hd)
    refine ⟨by rw [PyData.canLay0]; exact canAll ds fun d hd => (a d hd).1, ?_⟩
    rw [PyData.depth]
    exact Nat.succ_le_succ (depthAll_le ds fun d hd => (a d hd).2)
  | n, .dict _, h => by cases n <;> exact h.elim
theorem fine_shaped {n : Nat} {d : PyData} (h : Fine n d) (hn : n ≤ 64) : SeqAt.shaped d = true := shaped_of (fine_can n d h).1 (Nat.le_trans (fine_can n d h).2 hn)
theorem fine_eqv {n : Nat} {d : PyData} (h : Fine n d) : PyData.eqv d d = true := PySem.SeqAt.eqv_refl d (fine_can n d h).1
theorem rowsM_sub : ∀ {bs : List Str} (rs : List Str), (∀ b ∈ rs, b ∈ bs) → ∀ z ∈ rowsM bs rs, z.1 ∈ bs ∧ z.2 ∈ bs
  | bs, [], _, z, hz => by cases hz
  | bs, b :: r, h, z, hz => by
    have hb := h b (List.mem_cons_self ..)
    have p := lay_perm hb
    rcases List.mem_append.mp (show z ∈ (over bs b).map (fun o => (b, o)) ++ rowsM (lay bs b) r from hz) with hz | hz
    · obtain ⟨o, ho, rfl⟩ := List.mem_map.mp hz
      exact ⟨hb, over_mem ho⟩
    · have q := rowsM_sub (bs := lay bs b) r (fun c hc => p.mem_iff.mpr (h c (List.mem_cons_of_mem _ hc))) z hz
      exact ⟨p.mem_iff.mp q.1, p.mem_iff.mp q.2⟩
def spLaw (K : PySem.W.Frag) : Sp := fun vs H Q _ => ∃ (a : Addr) (ns : List Int), vs = [.ref a] ∧ SqL K H a (ns.map V.int) ∧ ns.length ≤ 63 ∧ ∀ H', Q (.bl true) H'
abbrev nLaw : List Str := ["script", "tape", "turn", "pile", "readings", "there", "numbers", "rows", "told"]
theorem scLaw : FnScope nLaw ["script"] (defScope sLaw) := ⟨rfl, rfl, rfl, by decide +kernel, rfl, by decide +kernel, by decide +kernel⟩
theorem ok_law {f : Addr} {fd : FuncData} (F : Fun K "law" "law" sLaw f fd) (B : Bi mg) (cD : Has P w K mg base 1 "_law_draw" ["tape", "many"] spDraw) (cPi : Has P w K mg base 3 "_law_pile" ["tape", "size"] spPile)
    (cRe : Has P w K mg base 2 "_law_readings" ["tape", "books", "size"] spReadings) (cRd : Has P w K mg base 1 "_law_read" ["pile", "readings"] spRead) (cTw : Has P w K mg base 1 "_law_two" ["books", "rows"] (spTwo K))
    (cLk : Has P w K mg base 4 "_law_like" ["one", "two"] (spLike K 4)) (cBe : Has P w K mg base 2 "behind" ["pile", "readings"] spBehind) (cLi : Has P w K mg base 2 "lifted" ["pile", "readings"] spLifted)
    (cPa : Has P w K mg base 2 "passings" ["pile", "readings"] (spPassings K)) : FnOk P w K mg base CX0 5 f fd ["script"] (spLaw K) := by
  refine F.ok scLaw (fun vs H Q E h => ?_) (fun cdv A outer s H vs Q E hr h => ?_)
  · obtain ⟨a, ns, rfl, _⟩ := h
    rfl
  obtain ⟨a, ns, rfl, hS, h63, q⟩ := h
  refine ⟨_, pss_cons (ps_set (i := 1) scLaw.nd rfl (.inl rfl) (pe_lst (pa_cons (pe_callTy call_list_of (by rfl) B.list (by decide +kernel) (pa_cons (pv 0) pa_nil)) (pa_cons pe_int (pa_cons pe_int pa_nil)))))
    (pss_cons (ps_for PassesOwn.never rfl (pi_range1 (by rfl) B.range (pa_cons pe_int pa_nil)) (pg_name (i := 2) scLaw.nd rfl (.inl rfl))
      (pss_cons (ps_set (i := 3) scLaw.nd rfl (.inl rfl) (pe_go cPi hr (by decide) rfl (pa_cons (pv 1) (pa_cons pe_int pa_nil))))
      (pss_cons (ps_set (i := 4) scLaw.nd rfl (.inl rfl) (pe_go cRe hr (by decide) rfl (pa_cons (pv 1) (pa_cons (pv 3) (pa_cons (pe_ix ix_list (pe_lst (pa_cons pe_int (pa_cons pe_int pa_nil))) (pe_go cD hr (by decide) rfl (pa_cons (pv 1) (pa_cons pe_int pa_nil))) (fun _ _ => rfl)) pa_nil)))))
      (pss_cons (ps_asg (pe_go cRd hr (by decide) rfl (pa_cons (pv 3) (pa_cons (pv 4) pa_nil))) (pg_tup rfl (pgs_cons (pg_name (i := 5) scLaw.nd rfl (.inl rfl)) (pgs_cons (pg_name (i := 6) scLaw.nd rfl (.inl rfl)) (pgs_cons (pg_name (i := 7) scLaw.nd rfl (.inl rfl)) pgs_nil)))))
      (pss_cons (ps_if (PW.pt (pw_or (pt_not (pt_val (pe_go cLk hr (by decide) rfl (pa_cons (pe_go cBe hr (by decide) rfl (pa_cons (pv 3) (pa_cons (pv 4) pa_nil))) (pa_cons (pv 5) pa_nil)))))
          (pw_or1 (pt_not (pt_val (pe_go cLk hr (by decide) rfl (pa_cons (pe_go cLi hr (by decide) rfl (pa_cons (pv 3) (pa_cons (pv 4) pa_nil))) (pa_cons (pv 6) pa_nil)))))))) (pss_one (ps_ret pe_bl)) pss_nil)
      (pss_cons (ps_set (i := 8) scLaw.nd rfl (.inl rfl) (pe_go cPa hr (by decide) rfl (pa_cons (pv 3) (pa_cons (pv 4) pa_nil))))
      (pss_cons (ps_if (pt_not (pt_val (pe_go cLk hr (by decide) rfl (pa_cons (pv 8) (pa_cons (pe_go cTw hr (by decide) rfl (pa_cons (pv 3) (pa_cons (pv 7) pa_nil))) pa_nil))))) (pss_one (ps_ret pe_bl)) pss_nil)
      (pss_cons (ps_expr (pe_bm PySem.F.plainAttrs_list PySem.F.slot_list_append PySem.F.type_list_append mt_append (pv 8) (pa_cons pe_non pa_nil)))
      (pss_cons (ps_expr (pe_bm PySem.F.plainAttrs_list PySem.F.slot_list_append PySem.F.type_list_append mt_append (pe_go cLi hr (by decide) rfl (pa_cons (pv 3) (pa_cons (pv 4) pa_nil))) (pa_cons pe_int pa_nil)))
      (pss_one (ps_if (PW.pt (pw_or (pt_cmpR (op_neD hr.units) (pe_go cPa hr (by decide) rfl (pa_cons (pv 3) (pa_cons (pv 4) pa_nil))) (pe_go cTw hr (by decide) rfl (pa_cons (pv 3) (pa_cons (pv 7) pa_nil))) (nomark _))
          (pw_or1 (pt_cmpR (op_neD hr.units) (pe_go cLi hr (by decide) rfl (pa_cons (pv 3) (pa_cons (pv 4) pa_nil))) (pv 6) (nomark _))))) (pss_one (ps_ret pe_bl)) pss_nil)))))))))))
    (pss_one (ps_ret pe_bl))), ?_⟩
  refine ⟨_, rfl, a, _, rfl, .inl hS, fun S hS0 => ⟨(by show 3 ≤ sizeLine; decide), fun T hT0 => ?_⟩⟩
  have tp0 : Tape (upd (upd H S (.lst (ns.map V.int))) T (.lst [.ref S, .int 0, .int 0])) T S ns := ⟨⟨0, 0, upd_same⟩, by rw [upd_ne (ne_of_none upd_same hT0)]; exact upd_same⟩
  refine ⟨5, rfl, by decide, by decide, for_range (lo := 0) (n := 5) (fun i σ H' => ∃ y2 y3 y4 y5 y6 y7 y8 : Option V, σ = [some (.ref a), some (.ref T), y2, y3, y4, y5, y6, y7, y8] ∧ Tape H' T S ns)
    ⟨none, none, none, none, none, none, none, rfl, tp0⟩ ?_ ?_⟩
  · rintro i σ H1 hi ⟨y2, y3, y4, y5, y6, y7, y8, rfl, tp⟩
    -- the pile
    refine ⟨_, rfl, T, S, ns, 7, rfl, tp, by decide, by decide, fun p H2 bs sm2 tp2 np hp bsOk => ?_⟩
    have okB : ∀ b ∈ bs, PyData.strOk b = true := fun b hb => books_ok b (bsOk.ok b hb)
    have npT : p ≠ T := by
      obtain ⟨i', c, hT⟩ := tp2.at_
      exact hp.ne hT (fun o z => nomatch z)
    -- the readings
    refine ⟨_, rfl, _, rfl, (by show 2 ≤ sizeLine; decide), fun c hc => ?_⟩
    have s3 := same_new hc (.lst [V.int 5, V.int 60])
    have hc3 : upd H2 c (.lst [V.int 5, V.int 60]) c = some (.lst [V.int 5, V.int 60]) := upd_same
    have ncT : c ≠ T := by
      obtain ⟨o, ho⟩ := tp2.taken
      exact new_ne ho hc
    refine ⟨_, rfl, T, S, ns, 2, rfl, tp2.same s3, by decide, by decide, fun r i2 c2 r0 r1 => ?_⟩
    have hm : ∃ m : Int, atI [V.int 5, V.int 60] r = some (.int m) ∧ 0 ≤ m ∧ m ≤ 60 := by
      have hr2 : r = 0 ∨ r = 1 := by omega
      rcases hr2 with rfl | rfl
      · exact ⟨5, rfl, by decide, by decide⟩
      · exact ⟨60, rfl, by decide, by decide⟩
    obtain ⟨m, hm, m0, m60⟩ := hm
    have tp4 := (tp2.same s3).put i2 c2
    have hp4 : TpO (upd (upd H2 c (.lst [V.int 5, V.int 60])) T (.lst [.ref S, .int i2, .int c2])) p (bs.map V.str) := (hp.same s3).sameT (sameT_put _) npT
    refine ⟨c, _, _, _, rfl, rfl, sql (by rw [upd_ne ncT]; exact hc3), hm, T, S, p, ns, bs, m, rfl, tp4, hp4, bsOk.pos, bsOk.most, m0, m60, fun rd H5 rs sm5 tp5 nrd hrd lrs0 mrs => ?_⟩
    have lrs : rs.length ≤ 60 := by omega
    have hp5 := hp4.sameT sm5 npT
    have mb := bsOk.most
    -- gone through by hand
    refine ⟨_, rfl, _, rfl, p, rd, bs, rs, rfl, hp5, hrd, bsOk.most, lrs, mrs, fun t an nn ro H6 ts s6 ht han hnn hro pl => ?_⟩
    refine ⟨t, _, rfl, sqt ht, rfl, _, _, rfl, _, _, rfl, _, _, rfl, rfl, ?_⟩
    have hp6 := hp5.same s6
    have hrd6 := s6 _ _ hrd
    have pmb := behindM_perm rs mrs
    -- behind
    refine ⟨_, rfl, _, rfl, p, rd, bs, rs, rfl, hp6, hrd6, by omega, mrs, fun be H7 s7 hbe => ?_⟩
    have okBe : ∀ b ∈ behindM bs rs, PyData.strOk b = true := fun b hb => okB b (pmb.mem_iff.mp hb)
    have fBe := fine_strs (ss := behindM bs rs) (by rw [pmb.length_eq]; omega) okBe 2
    refine ⟨_, rfl, _, _, _, 3, rfl, rfl, .tup hbe.sqt (dpAll_strs _), .tup (sqt (s7 _ _ han)) (dpAll_strs _), fBe, fun H8 s8 => ⟨true, rfl, ?_⟩⟩
    -- lifted
    have s78 := s7.trans s8
    refine ⟨_, rfl, _, rfl, p, rd, bs, rs, rfl, hp6.same s78, s78 _ _ hrd6, by omega, by omega, mrs, fun li H9 s9 nli hli => ?_⟩
    have fLi := fine_nats (ns := liftedM bs rs) (by rw [liftedM_len]; omega) 2
    have hnn9 := s9 _ _ (s78 _ _ hnn)
    rw [natV_map] at hli hnn9
    refine ⟨_, rfl, _, _, _, 3, rfl, rfl, .lst (sql hli) (dpAll_ints _), .lst (sql hnn9) (dpAll_ints _), fLi, fun H10 s10 => ⟨true, rfl, ?_⟩⟩
    have s610 : Same H6 H10 := s78.trans (s9.trans s10)
    have tp10 := (tp5.same s6).same s610
    have hp10 := hp6.same s610
    have hrd10 := s610 _ _ hrd6
    have hro10 := s610 _ _ hro
    have hnn10 := s610 _ _ hnn
    have pl10 := pl.move (KeepT.of s610)
    have rlen : (rowsM bs rs).length ≤ 420 := by
      have z := rowsM_len rs mrs
      have z2 : rs.length * bs.length ≤ 60 * 7 := Nat.mul_le_mul lrs bsOk.most
      omega
    have okRows : ∀ z ∈ rowsM bs rs, PyData.strOk z.1 = true ∧ PyData.strOk z.2 = true := fun z hz => ⟨okB _ (rowsM_sub rs mrs z hz).1, okB _ (rowsM_sub rs mrs z hz).2⟩
    -- passings
    refine ⟨_, rfl, _, rfl, p, rd, bs, rs, rfl, hp10, hrd10, bsOk.most, lrs, mrs, fun told H11 ys xs s11 ntold pm so htold dtold => ?_⟩
    refine ⟨_, rfl, _, rfl, _, rfl, p, ro, bs, ts, rowsM bs rs, rfl, (hp10.same s11).sqt, bsOk.most, okB, s11 _ _ hro10, pl10.move (KeepT.of s11), by omega, okRows, fun two H12 ys2 xs2 s12 ntwo pm2 so2 htwo dtwo => ?_⟩
    have eys : ys2 = ys := sorted_one so2 so (pm2.trans pm.symm)
    subst eys
    have okY : ∀ b ∈ ys2, PyData.strOk b = true := fun b hb => okB b (pm.mem_iff.mp hb)
    have fTri := fine_tri (ys := ys2) (rows := rowsM bs rs) (by rw [pm.length_eq]; exact bsOk.most) okY 1
    refine ⟨_, _, _, 3, rfl, rfl, .lst (sql (s12 _ _ htold)) (dpAll_same s12 dtold), .lst (sql htwo) dtwo, fTri, fun H13 s13 => ⟨true, rfl, ?_⟩⟩
    have s1113 : Same H11 H13 := s12.trans s13
    have htold13 := s1113 _ _ htold
    have lxs : xs.length ≤ 49 := by
      have z := dpAll_len dtold
      rw [List.length_map] at z
      have z3 := prs_len ys2 ys2.length
      have z4 := pm.length_eq
      have z2 : ys2.length * ys2.length ≤ 7 * 7 := Nat.mul_le_mul (by omega) (by omega)
      omega
    -- told.append(None)
    refine ⟨_, rfl, .inl ⟨rfl, _, sql htold13⟩, told, _, _, rfl, rfl, htold13, small1000 (by omega), ?_⟩
    have s1014 : Same H10 (upd H13 told (.lst (xs ++ [V.non]))) := same_put (s11.trans s1113) ntold
    generalize upd H13 told (.lst (xs ++ [V.non])) = H14 at s1014 ⊢
    -- lifted(..).append(9)
    refine ⟨_, rfl, _, rfl, p, rd, bs, rs, rfl, hp10.same s1014, s1014 _ _ hrd10, by omega, by omega, mrs, fun li2 H15 s15 nli2 hli2 => ?_⟩
    refine ⟨.inl ⟨rfl, _, sql hli2⟩, li2, _, _, rfl, rfl, hli2, by rw [List.length_map, liftedM_len]; exact small1000 (by omega), ?_⟩
    have s1016 : Same H10 (upd H15 li2 (.lst ((liftedM bs rs).map natV ++ [V.int 9]))) := s1014.trans (same_put s15 nli2)
    generalize upd H15 li2 (.lst ((liftedM bs rs).map natV ++ [V.int 9])) = H16 at s1016 ⊢
    -- once more
    refine ⟨_, rfl, _, rfl, p, rd, bs, rs, rfl, hp10.same s1016, s1016 _ _ hrd10, bsOk.most, lrs, mrs, fun told3 H17 ys3 xs3 s17 ntold3 pm3 so3 htold3 dtold3 => ?_⟩
    have eys3 : ys3 = ys2 := sorted_one so3 so (pm3.trans pm.symm)
    subst eys3
    have s1017 := s1016.trans s17
    refine ⟨_, rfl, _, rfl, p, ro, bs, ts, rowsM bs rs, rfl, (hp10.same s1017).sqt, bsOk.most, okB, s1017 _ _ hro10, pl10.move (KeepT.of s1017), by omega, okRows, fun two4 H18 ys4 xs4 s18 ntwo4 pm4 so4 htwo4 dtwo4 => ?_⟩
    have eys4 : ys4 = ys3 := sorted_one so4 so (pm4.trans pm.symm)
    subst eys4
    refine ⟨_, _, .lst (sql (s18 _ _ htold3)) (dpAll_same s18 dtold3), .lst (sql htwo4) dtwo4, fine_shaped fTri (by decide), fine_shaped fTri (by decide), false, by rw [fine_eqv fTri]; rfl, ?_⟩
    have s1018 := s1017.trans s18
    refine ⟨_, rfl, _, rfl, p, rd, bs, rs, rfl, hp10.same s1018, s1018 _ _ hrd10, by omega, by omega, mrs, fun li3 H19 s19 nli3 hli3 => ?_⟩
    have hnn19 := s19 _ _ (s1018 _ _ hnn10)
    rw [natV_map] at hli3 hnn19
    refine ⟨_, rfl, _, _, .lst (sql hli3) (dpAll_ints _), .lst (sql hnn19) (dpAll_ints _), fine_shaped fLi (by decide), fine_shaped fLi (by decide), false, by rw [fine_eqv fLi]; rfl, ?_⟩
    exact ⟨_, _, _, _, _, _, _, rfl, tp10.same (s1018.trans s19)⟩
  · rintro σ H1 ⟨y2, y3, y4, y5, y6, y7, y8, rfl, tp⟩
    exact q _
end
end Lt

set_option Elab.async false
set_option linter.all false
set_option maxRecDepth 100000
set_option maxHeartbeats 4000000
namespace Lt
open PySem PySem.Spec PyProof.Rows L2
theorem all_mk {l : PySem.W.OpenLaw} {w : World} {K : PySem.W.Frag} {h : Heap} {mg : Str → Option Value} {fa f0 f1 f2 f3 f4 f5 f6 f7 f8 f9 f10 f11 f12 f13 f14 f15 : Addr} (X : K.In h) (G : h.Ns mainGlobals mg) (hfa : mg "law" = some (.ref fa))
    {od0 an0 od1 an1 od2 an2 od3 an3 od4 an4 od5 an5 od6 an6 od7 an7 od8 an8 od9 an9 od10 an10 od11 an11 od12 an12 od13 an13 od14 an14 od15 an15 : Option Addr} {sl0 sl1 sl2 sl3 sl4 sl5 sl6 sl7 sl8 sl9 sl10 sl11 sl12 sl13 sl14 sl15 : Array (Option Value)}
    {oc0 kv0 dc0 pm0 cd0 ct0 oc1 kv1 dc1 pm1 cd1 ct1 oc2 kv2 dc2 pm2 cd2 ct2 oc3 kv3 dc3 pm3 cd3 ct3 oc4 kv4 dc4 pm4 cd4 ct4 oc5 kv5 dc5 pm5 cd5 ct5 oc6 kv6 dc6 pm6 cd6 ct6 oc7 kv7 dc7 pm7 cd7 ct7 oc8 kv8 dc8 pm8 cd8 ct8 oc9 kv9 dc9 pm9 cd9 ct9 oc10 kv10 dc10 pm10 cd10 ct10 oc11 kv11 dc11 pm11 cd11 ct11 oc12 kv12 dc12 pm12 cd12 ct12 oc13 kv13 dc13 pm13 cd13 ct13 oc14 kv14 dc14 pm14 cd14 ct14 oc15 kv15 dc15 pm15 cd15 ct15 : Value}
    (a0 : PySem.W.nsIn K mainGlobals "behind" = some (some (.ref f0)))
    (l0 : K.lookup f0 = some ⟨oc0, od0, .func (PySem.W.fnOf "behind" "behind" (defArgs sBehind) (defBody sBehind) (defScope sBehind) .none kv0 dc0 pm0 an0 cd0 ct0), sl0⟩)
    (c0 : PySem.W.codeIn K cd0 "behind" = true) (k0 : PySem.W.keepIn K (.ref f0) = true)
    (a1 : PySem.W.nsIn K mainGlobals "lifted" = some (some (.ref f1)))
    (l1 : K.lookup f1 = some ⟨oc1, od1, .func (PySem.W.fnOf "lifted" "lifted" (defArgs sLifted) (defBody sLifted) (defScope sLifted) .none kv1 dc1 pm1 an1 cd1 ct1), sl1⟩)
    (c1 : PySem.W.codeIn K cd1 "lifted" = true) (k1 : PySem.W.keepIn K (.ref f1) = true)
    (a2 : PySem.W.nsIn K mainGlobals "passings" = some (some (.ref f2)))
    (l2 : K.lookup f2 = some ⟨oc2, od2, .func (PySem.W.fnOf "passings" "passings" (defArgs sPassings) (defBody sPassings) (defScope sPassings) .none kv2 dc2 pm2 an2 cd2 ct2), sl2⟩)
    (c2 : PySem.W.codeIn K cd2 "passings" = true) (k2 : PySem.W.keepIn K (.ref f2) = true)
    (a3 : PySem.W.nsIn K mainGlobals "laid_on_top" = some (some (.ref f3)))
    (l3 : K.lookup f3 = some ⟨oc3, od3, .func (PySem.W.fnOf "laid_on_top" "laid_on_top" (defArgs sLaid) (defBody sLaid) (defScope sLaid) .none kv3 dc3 pm3 an3 cd3 ct3), sl3⟩)
    (c3 : PySem.W.codeIn K cd3 "laid_on_top" = true) (k3 : PySem.W.keepIn K (.ref f3) = true)
    (a4 : PySem.W.nsIn K mainGlobals "books_above" = some (some (.ref f4)))
    (l4 : K.lookup f4 = some ⟨oc4, od4, .func (PySem.W.fnOf "books_above" "books_above" (defArgs sAbove) (defBody sAbove) (defScope sAbove) .none kv4 dc4 pm4 an4 cd4 ct4), sl4⟩)
    (c4 : PySem.W.codeIn K cd4 "books_above" = true) (k4 : PySem.W.keepIn K (.ref f4) = true)
    (a5 : PySem.W.nsIn K mainGlobals "pairs_of" = some (some (.ref f5)))
    (l5 : K.lookup f5 = some ⟨oc5, od5, .func (PySem.W.fnOf "pairs_of" "pairs_of" (defArgs sPairs) (defBody sPairs) (defScope sPairs) .none kv5 dc5 pm5 an5 cd5 ct5), sl5⟩)
    (c5 : PySem.W.codeIn K cd5 "pairs_of" = true) (k5 : PySem.W.keepIn K (.ref f5) = true)
    (a6 : PySem.W.nsIn K mainGlobals "as_pair" = some (some (.ref f6)))
    (l6 : K.lookup f6 = some ⟨oc6, od6, .func (PySem.W.fnOf "as_pair" "as_pair" (defArgs sAsPair) (defBody sAsPair) (defScope sAsPair) .none kv6 dc6 pm6 an6 cd6 ct6), sl6⟩)
    (c6 : PySem.W.codeIn K cd6 "as_pair" = true) (k6 : PySem.W.keepIn K (.ref f6) = true)
    (a7 : PySem.W.nsIn K mainGlobals "_law_draw" = some (some (.ref f7)))
    (l7 : K.lookup f7 = some ⟨oc7, od7, .func (PySem.W.fnOf "_law_draw" "_law_draw" (defArgs sDraw) (defBody sDraw) (defScope sDraw) .none kv7 dc7 pm7 an7 cd7 ct7), sl7⟩)
    (c7 : PySem.W.codeIn K cd7 "_law_draw" = true) (k7 : PySem.W.keepIn K (.ref f7) = true)
    (a8 : PySem.W.nsIn K mainGlobals "_law_like" = some (some (.ref f8)))
    (l8 : K.lookup f8 = some ⟨oc8, od8, .func (PySem.W.fnOf "_law_like" "_law_like" (defArgs sLike) (defBody sLike) (defScope sLike) .none kv8 dc8 pm8 an8 cd8 ct8), sl8⟩)
    (c8 : PySem.W.codeIn K cd8 "_law_like" = true) (k8 : PySem.W.keepIn K (.ref f8) = true)
    (a9 : PySem.W.nsIn K mainGlobals "_law_any_order" = some (some (.ref f9)))
    (l9 : K.lookup f9 = some ⟨oc9, od9, .func (PySem.W.fnOf "_law_any_order" "_law_any_order" (defArgs sOrder) (defBody sOrder) (defScope sOrder) .none kv9 dc9 pm9 an9 cd9 ct9), sl9⟩)
    (c9 : PySem.W.codeIn K cd9 "_law_any_order" = true) (k9 : PySem.W.keepIn K (.ref f9) = true)
    (a10 : PySem.W.nsIn K mainGlobals "_law_books" = some (some (.ref f10)))
    (l10 : K.lookup f10 = some ⟨oc10, od10, .func (PySem.W.fnOf "_law_books" "_law_books" (defArgs sBooks) (defBody sBooks) (defScope sBooks) .none kv10 dc10 pm10 an10 cd10 ct10), sl10⟩)
    (c10 : PySem.W.codeIn K cd10 "_law_books" = true) (k10 : PySem.W.keepIn K (.ref f10) = true)
    (a11 : PySem.W.nsIn K mainGlobals "_law_pile" = some (some (.ref f11)))
    (l11 : K.lookup f11 = some ⟨oc11, od11, .func (PySem.W.fnOf "_law_pile" "_law_pile" (defArgs sPile) (defBody sPile) (defScope sPile) .none kv11 dc11 pm11 an11 cd11 ct11), sl11⟩)
    (c11 : PySem.W.codeIn K cd11 "_law_pile" = true) (k11 : PySem.W.keepIn K (.ref f11) = true)
    (a12 : PySem.W.nsIn K mainGlobals "_law_readings" = some (some (.ref f12)))
    (l12 : K.lookup f12 = some ⟨oc12, od12, .func (PySem.W.fnOf "_law_readings" "_law_readings" (defArgs sReadings) (defBody sReadings) (defScope sReadings) .none kv12 dc12 pm12 an12 cd12 ct12), sl12⟩)
    (c12 : PySem.W.codeIn K cd12 "_law_readings" = true) (k12 : PySem.W.keepIn K (.ref f12) = true)
    (a13 : PySem.W.nsIn K mainGlobals "_law_read" = some (some (.ref f13)))
    (l13 : K.lookup f13 = some ⟨oc13, od13, .func (PySem.W.fnOf "_law_read" "_law_read" (defArgs sRead) (defBody sRead) (defScope sRead) .none kv13 dc13 pm13 an13 cd13 ct13), sl13⟩)
    (c13 : PySem.W.codeIn K cd13 "_law_read" = true) (k13 : PySem.W.keepIn K (.ref f13) = true)
    (a14 : PySem.W.nsIn K mainGlobals "_law_two" = some (some (.ref f14)))
    (l14 : K.lookup f14 = some ⟨oc14, od14, .func (PySem.W.fnOf "_law_two" "_law_two" (defArgs sTwo) (defBody sTwo) (defScope sTwo) .none kv14 dc14 pm14 an14 cd14 ct14), sl14⟩)
    (c14 : PySem.W.codeIn K cd14 "_law_two" = true) (k14 : PySem.W.keepIn K (.ref f14) = true)
    (a15 : PySem.W.nsIn K mainGlobals "law" = some (some (.ref f15)))
    (l15 : K.lookup f15 = some ⟨oc15, od15, .func (PySem.W.fnOf "law" "law" (defArgs sLaw) (defBody sLaw) (defScope sLaw) .none kv15 dc15 pm15 an15 cd15 ct15), sl15⟩)
    (c15 : PySem.W.codeIn K cd15 "law" = true) (k15 : PySem.W.keepIn K (.ref f15) = true)
    (z0 : PySem.W.nsIn K mainGlobals "len" = some none)
    (z1 : PySem.W.nsIn K mainGlobals "range" = some none)
    (z2 : PySem.W.nsIn K mainGlobals "tuple" = some none)
    (z3 : PySem.W.nsIn K mainGlobals "list" = some none)
    (z4 : PySem.W.nsIn K mainGlobals "sorted" = some none)
    (z5 : PySem.W.nsIn K mainGlobals "enumerate" = some none)
    (z6 : PySem.W.nsIn K mainGlobals "isinstance" = some none)
    (z7 : PySem.W.nsIn K mainGlobals "bool" = some none)
    (z8 : PySem.W.nsIn K mainGlobals "set" = some none)
    (z9 : PySem.W.nsIn K mainGlobals "sum" = some none)
    : ∃ fd : FuncData, (∀ (s : Shared) (v : Value), BindsTo s fd ⟨[v], []⟩ [("script", v)]) ∧ ∀ base : Heap, K.In base → base.Ns mainGlobals mg → FnOk l.prog w K mg base CX0 5 fa fd ["script"] (spLaw K) := by
  have e := hfa.symm.trans (PySem.W.mg_of X G a15)
  cases e
  have B : Bi mg := ⟨PySem.W.mg_none_of X G z0, PySem.W.mg_none_of X G z1, PySem.W.mg_none_of X G z2, PySem.W.mg_none_of X G z3, PySem.W.mg_none_of X G z4, PySem.W.mg_none_of X G z5, PySem.W.mg_none_of X G z6, PySem.W.mg_none_of X G z7, PySem.W.mg_none_of X G z8, PySem.W.mg_none_of X G z9⟩
  have F0 := fun_mk (st := sBehind) l0 c0 k0
  have b0 := F0.binds (ps := ["pile", "readings"]) fun _ _ _ _ _ _ us hl => match us, hl with | [_, _], _ => rfl
  have g0 := PySem.W.mg_of X G a0
  have F1 := fun_mk (st := sLifted) l1 c1 k1
  have b1 := F1.binds (ps := ["pile", "readings"]) fun _ _ _ _ _ _ us hl => match us, hl with | [_, _], _ => rfl
  have g1 := PySem.W.mg_of X G a1
  have F2 := fun_mk (st := sPassings) l2 c2 k2
  have b2 := F2.binds (ps := ["pile", "readings"]) fun _ _ _ _ _ _ us hl => match us, hl with | [_, _], _ => rfl
  have g2 := PySem.W.mg_of X G a2
  have F3 := fun_mk (st := sLaid) l3 c3 k3
  have b3 := F3.binds (ps := ["pile", "book"]) fun _ _ _ _ _ _ us hl => match us, hl with | [_, _], _ => rfl
  have g3 := PySem.W.mg_of X G a3
  have F4 := fun_mk (st := sAbove) l4 c4 k4
  have b4 := F4.binds (ps := ["pile", "book"]) fun _ _ _ _ _ _ us hl => match us, hl with | [_, _], _ => rfl
  have g4 := PySem.W.mg_of X G a4
  have F5 := fun_mk (st := sPairs) l5 c5 k5
  have b5 := F5.binds (ps := ["books"]) fun _ _ _ _ _ _ us hl => match us, hl with | [_], _ => rfl
  have g5 := PySem.W.mg_of X G a5
  have F6 := fun_mk (st := sAsPair) l6 c6 k6
  have b6 := F6.binds (ps := ["book", "passed"]) fun _ _ _ _ _ _ us hl => match us, hl with | [_, _], _ => rfl
  have g6 := PySem.W.mg_of X G a6
  have F7 := fun_mk (st := sDraw) l7 c7 k7
  have b7 := F7.binds (ps := ["tape", "many"]) fun _ _ _ _ _ _ us hl => match us, hl with | [_, _], _ => rfl
  have g7 := PySem.W.mg_of X G a7
  have F8 := fun_mk (st := sLike) l8 c8 k8
  have b8 := F8.binds (ps := ["one", "two"]) fun _ _ _ _ _ _ us hl => match us, hl with | [_, _], _ => rfl
  have g8 := PySem.W.mg_of X G a8
  have F9 := fun_mk (st := sOrder) l9 c9 k9
  have b9 := F9.binds (ps := ["tape", "many"]) fun _ _ _ _ _ _ us hl => match us, hl with | [_, _], _ => rfl
  have g9 := PySem.W.mg_of X G a9
  have F10 := fun_mk (st := sBooks) l10 c10 k10
  have b10 := F10.binds (ps := []) fun _ _ _ _ _ _ us hl => match us, hl with | [], _ => rfl
  have g10 := PySem.W.mg_of X G a10
  have F11 := fun_mk (st := sPile) l11 c11 k11
  have b11 := F11.binds (ps := ["tape", "size"]) fun _ _ _ _ _ _ us hl => match us, hl with | [_, _], _ => rfl
  have g11 := PySem.W.mg_of X G a11
  have F12 := fun_mk (st := sReadings) l12 c12 k12
  have b12 := F12.binds (ps := ["tape", "books", "size"]) fun _ _ _ _ _ _ us hl => match us, hl with | [_, _, _], _ => rfl
  have g12 := PySem.W.mg_of X G a12
  have F13 := fun_mk (st := sRead) l13 c13 k13
  have b13 := F13.binds (ps := ["pile", "readings"]) fun _ _ _ _ _ _ us hl => match us, hl with | [_, _], _ => rfl
  have g13 := PySem.W.mg_of X G a13
  have F14 := fun_mk (st := sTwo) l14 c14 k14
  have b14 := F14.binds (ps := ["books", "rows"]) fun _ _ _ _ _ _ us hl => match us, hl with | [_, _], _ => rfl
  have g14 := PySem.W.mg_of X G a14
  have F15 := fun_mk (st := sLaw) l15 c15 k15
  refine ⟨PySem.W.fnOf "law" "law" (defArgs sLaw) (defBody sLaw) (defScope sLaw) .none kv15 dc15 pm15 an15 cd15 ct15, fun s v => .of_eq rfl, fun base _ _ => ?_⟩
  have cD : Has l.prog w K mg base 1 "_law_draw" ["tape", "many"] spDraw := ⟨f7, _, ok_draw F7 B.len, g7, k7, b7⟩
  have cO : Has l.prog w K mg base 2 "_law_any_order" ["tape", "many"] spOrder := ⟨f9, _, ok_order F9 B cD, g9, k9, b9⟩
  have cB : Has l.prog w K mg base 1 "_law_books" [] spBooks := ⟨f10, _, ok_books F10, g10, k10, b10⟩
  have cPi : Has l.prog w K mg base 3 "_law_pile" ["tape", "size"] spPile := ⟨f11, _, ok_pile F11 B cD cO cB, g11, k11, b11⟩
  have cRe : Has l.prog w K mg base 2 "_law_readings" ["tape", "books", "size"] spReadings := ⟨f12, _, ok_readings F12 B cD, g12, k12, b12⟩
  have cRd : Has l.prog w K mg base 1 "_law_read" ["pile", "readings"] spRead := ⟨f13, _, ok_read F13 B, g13, k13, b13⟩
  have cTw : Has l.prog w K mg base 1 "_law_two" ["books", "rows"] (spTwo K) := ⟨f14, _, ok_two F14 B, g14, k14, b14⟩
  have cLk : Has l.prog w K mg base 4 "_law_like" ["one", "two"] (spLike K 4) := ⟨f8, _, like_all F8 B g8 b8 4, g8, k8, b8⟩
  have cLd : Has l.prog w K mg base 1 "laid_on_top" ["pile", "book"] spLaid := ⟨f3, _, ok_laid F3, g3, k3, b3⟩
  have cAb : Has l.prog w K mg base 1 "books_above" ["pile", "book"] spAbove := ⟨f4, _, ok_above F4, g4, k4, b4⟩
  have cPr : Has l.prog w K mg base 1 "pairs_of" ["books"] (spPairs K) := ⟨f5, _, ok_pairs F5 B, g5, k5, b5⟩
  have cAs : Has l.prog w K mg base 1 "as_pair" ["book", "passed"] spAsPair := ⟨f6, _, ok_asPair F6, g6, k6, b6⟩
  have cBe : Has l.prog w K mg base 2 "behind" ["pile", "readings"] spBehind := ⟨f0, _, ok_behind F0 cLd, g0, k0, b0⟩
  have cLi : Has l.prog w K mg base 2 "lifted" ["pile", "readings"] spLifted := ⟨f1, _, ok_lifted F1 cLd, g1, k1, b1⟩
  have cPa : Has l.prog w K mg base 2 "passings" ["pile", "readings"] (spPassings K) := ⟨f2, _, ok_passings F2 cLd cAb cPr cAs, g2, k2, b2⟩
  exact ok_law F15 B cD cPi cRe cRd cTw cLk cBe cLi cPa
theorem walk {l : PySem.W.OpenLaw} {q : Program} {loose : List Str} {XP : (Str → Option Value) → Heap → Prop} {YP : World → Heap → Prop} {d : DefRec} {K : Params → PySem.W.Frag} (hn : l.most = some 63) (hdf : d.params.defaults = [])
    (hY : ∀ (w : World) (h : Heap), YP w h → (K w.params).In h)
    (F : ∀ (w : World) (mg : Str → Option Value) (fa : Addr) (h : Heap), (K w.params).In h → h.Ns mainGlobals mg → mg d.name = some (.ref fa) →
      ∃ fd : FuncData, (∀ (s : Shared) (u : Value), BindsTo s fd ⟨[u], []⟩ [("script", u)]) ∧ ∀ base : Heap, (K w.params).In base → base.Ns mainGlobals mg → FnOk l.prog w (K w.params) mg base CX0 5 fa fd ["script"] (spLaw (K w.params))) :
    PySem.W.WalkO q loose XP YP l.row.toRowW d [] (fun f vs => PySem.call f vs) :=
  L2.walk_of (n := 63) (k := 5) (x := "script") (CX := fun _ => CX0) (sp := fun w => spLaw (K w.params)) hn (by decide) hdf ⟨rfl, by decide, by decide⟩ hY F (fun _ _ a ns hl _ hS => ⟨a, ns, rfl, hS, hl, fun _ => rfl⟩) fun _ _ _ _ _ z => z
end Lt
open PySem PySem.W PyProof.Rows in
set_option maxRecDepth 100000 in
set_option maxHeartbeats 0 in
theorem PySem.Challenge.cw_laidontop_k02_readings_by_hand_holds : PySem.Challenge.rw_laidontop_k02_readings_by_hand.Holds := by
  w_on; o_law; k_head; (case hw => w_witness2)
  k_fill
  refine Lt.walk (l := PySem.Challenge.rw_laidontop_k02_readings_by_hand) rfl rfl (fun w h Y => PySem.W.kIn_of Y) ?F
  case F =>
    intro w mg fa h KX G hmg
    refine' Lt.all_mk KX G hmg ?a0 ?l0 ?c0 ?k0 ?a1 ?l1 ?c1 ?k1 ?a2 ?l2 ?c2 ?k2 ?a3 ?l3 ?c3 ?k3 ?a4 ?l4 ?c4 ?k4 ?a5 ?l5 ?c5 ?k5 ?a6 ?l6 ?c6 ?k6 ?a7 ?l7 ?c7 ?k7 ?a8 ?l8 ?c8 ?k8 ?a9 ?l9 ?c9 ?k9 ?a10 ?l10 ?c10 ?k10 ?a11 ?l11 ?c11 ?k11 ?a12 ?l12 ?c12 ?k12 ?a13 ?l13 ?c13 ?k13 ?a14 ?l14 ?c14 ?k14 ?a15 ?l15 ?c15 ?k15 ?z0 ?z1 ?z2 ?z3 ?z4 ?z5 ?z6 ?z7 ?z8 ?z9
    (case a0 => k_is)
    (case l0 => k_is)
    (case c0 => k_is)
    (case k0 => k_is)
    (case a1 => k_is)
    (case l1 => k_is)
    (case c1 => k_is)
    (case k1 => k_is)
    (case a2 => k_is)
    (case l2 => k_is)
    (case c2 => k_is)
    (case k2 => k_is)
    (case a3 => k_is)
    (case l3 => k_is)
    (case c3 => k_is)
    (case k3 => k_is)
    (case a4 => k_is)
    (case l4 => k_is)
    (case c4 => k_is)
    (case k4 => k_is)
    (case a5 => k_is)
    (case l5 => k_is)
    (case c5 => k_is)
    (case k5 => k_is)
    (case a6 => k_is)
    (case l6 => k_is)
    (case c6 => k_is)
    (case k6 => k_is)
    (case a7 => k_is)
    (case l7 => k_is)
    (case c7 => k_is)
    (case k7 => k_is)
    (case a8 => k_is)
    (case l8 => k_is)
    (case c8 => k_is)
    (case k8 => k_is)
    (case a9 => k_is)
    (case l9 => k_is)
    (case c9 => k_is)
    (case k9 => k_is)
    (case a10 => k_is)
    (case l10 => k_is)
    (case c10 => k_is)
    (case k10 => k_is)
    (case a11 => k_is)
    (case l11 => k_is)
    (case c11 => k_is)
    (case k11 => k_is)
    (case a12 => k_is)
    (case l12 => k_is)
    (case c12 => k_is)
    (case k12 => k_is)
    (case a13 => k_is)
    (case l13 => k_is)
    (case c13 => k_is)
    (case k13 => k_is)
    (case a14 => k_is)
    (case l14 => k_is)
    (case c14 => k_is)
    (case k14 => k_is)
    (case a15 => k_is)
    (case l15 => k_is)
    (case c15 => k_is)
    (case k15 => k_is)
    (case z0 => k_is)
    (case z1 => k_is)
    (case z2 => k_is)
    (case z3 => k_is)
    (case z4 => k_is)
    (case z5 => k_is)
    (case z6 => k_is)
    (case z7 => k_is)
    (case z8 => k_is)
    (case z9 => k_is)
