import PyProof.Rows.All
import Wide.All
import OpenK.AllK
import Wide.FinOn
import HandS.List
import HandS.Flow
import HandS.DictComp
import HandS.Iter
import HandS.Dict
import KE.KDictZip
import HandS.Style
import KE.KRevSl
import PyProof.DictUpdate
import PyProof.DictDisplay
import HandS.ForMost
import HandS.Exc
import HandS.TryOnly
import HandS.ExcOwn
import HandS.WordsExc
import HandS.IsInst
import HandS.Conv
import HandS.More
import KE.SortData
import HandS.ExcIs
import PyProof.AutoSeq1
import HandS.WordsDict
import HandS.TryMany
import HandS.HotCalls
import KE.KTryMore
import PySem.Challenge.RW_closuremill_k08_what_is_looked_at_first
set_option Elab.async false
set_option maxRecDepth 100000
set_option linter.all false
/-! xs[-m:] = ys, a list's last m items replaced by another list's -/
namespace My
open PySem L2
open PyProof.Rows
theorem tail_bounds {m n : Nat} (h : m ≤ n) (h1 : 1 ≤ m) : sliceBounds (some (-(m : Int))) none none n = (((n - m : Nat) : Int), (n : Int), 1) := by
  unfold sliceBounds
  dsimp only [Option.getD_none]
  rw [if_pos (show (1 : Int) > 0 by decide), if_pos (show (1 : Int) > 0 by decide)]
  refine Prod.ext ?_ rfl
  show max 0 (min (if -(m : Int) < 0 then -(m : Int) + n else -(m : Int)) n) = _
  rw [if_pos (show -(m : Int) < 0 by omega)]
  omega
theorem tail_splice (its its2 : List Value) (a : Nat) : its.toArray.extract 0 a ++ its2.toArray ++ its.toArray.extract its.length its.toArray.size = (its.take a ++ its2).toArray := by
  apply Array.toList_inj.mp
  simp
section
variable {prog : Program} {w : World} {A : Around} {E : Value → Shared → Prop} {s : Shared}
theorem setItem_tail {l b sl : Addr} {items new : Array Value} {n n2 m : Nat} {t : Tok} {Q : Unit → Shared → Prop}
    (e : s.heap.get? l = some { cls := .type "list", data := .seq items n }) (e2 : s.heap.get? b = some { cls := .type "list", data := .seq new n2 }) (hne : l ≠ b)
    (hs : s.heap.IsSliceOf sl (.int (-(m : Int)) t) .none .none) (h1 : 1 ≤ m) (hm : m ≤ items.size) (hsz : items.size + new.size ≤ sizeLine)
    (h : Q () { s with heap := s.heap.update l (Obj.mapSeq fun xs => xs.extract 0 (items.size - m) ++ new ++ xs.extract items.size xs.size) }) : wpAny (model prog w) A (setItem (.ref l) (.ref sl) (.ref b)) Q E s := by
  have hl : s.heap.IsList l items := PySem.IsL.isList e
  have hb : s.heap.IsList b new := PySem.IsL.isList e2
  obtain ⟨os, hos, hcs, hds⟩ := id hs
  have hTs : s.TypeIs (.ref sl) "slice" := ⟨os, hos, hcs⟩
  have hsame : Builtin.List.listSameRef (.ref l) (.ref b) = false := by unfold Builtin.List.listSameRef; exact beq_eq_false_iff_ne.mpr hne
  have hmx : (max ((items.size - m : Nat) : Int) (items.size : Int)).toNat = items.size := by omega
  have hz' : ((fun xs : Array Value => xs.extract 0 (items.size - m) ++ new ++ xs.extract items.size xs.size) items).size ≤ sizeLine + 1 := by simp only [Array.size_append, Array.size_extract]; omega
  unfold setItem; refine wpAny_holding ?_
  refine wpAny_bind (wpAny_sequenceKey hl.typeIs (by decide) (wpAny_bind (wpAny_callSpecial?_slot (name := Str.ofString "__setitem__") hl.typeIs slot_list_setitem (wpAny_call_entry slot_list_setitem hl.typeIs entry_list_setitem ?_ (args_list_setitem _ _ _)))))
  show wpAny _ _ (Builtin.List.listSubscript? (.ref sl) >>= _) _ _ s
  unfold Builtin.List.listSubscript?
  refine wpAny_bind (wpAny_bind (wpAny_specialOf hTs slice_no_index ?_)); simp only [Option.isNone_none, if_true]
  refine wpAny_pure ?_
  show wpAny _ _ (typeOf (.ref sl) >>= _) _ _ s
  refine wpAny_bind (wpAny_typeOf hTs ?_); rw [if_neg (by decide)]
  rw [listSliceParts_eq]; refine wpAny_bind (wpAny_bind (wpAny_field hos hds (x := .none) rfl (wpAny_bind (wpAny_listPart .none ?_))))
  rw [if_neg (show ¬ ((rawPart none == rawInt 0) = true) from Bool.false_ne_true)]
  refine wpAny_bind (wpAny_field hos hds (x := .int (-(m : Int)) t) rfl (wpAny_bind (wpAny_listPart (.int _ _) (wpAny_bind (wpAny_field hos hds (x := .none) rfl (wpAny_bind (wpAny_listPart .none (wpAny_pure ?_))))))))
  simp only [hsame, Bool.false_eq_true, if_false]
  refine wpAny_bind (m := Builtin.List.listAllItems (.ref b) "must assign iterable to extended slice") ?_; unfold Builtin.List.listAllItems
  refine wpAny_bind (wpAny_typeOf hb.typeIs ?_); simp only [beq_self_eq_true, Bool.true_or, if_true]
  unfold Builtin.List.listItems
  refine wpAny_bind (wpAny_seqItems e2 rfl (wpAny_pure (wpAny_bind (wpAny_bind (wpAny_seqItems e rfl (wpAny_pure ?_))))))
  refine wpAny_bind (wpAny_of_eq ((sliceIndices_raw (some (-(m : Int))) none none items.size (by simp)).trans (congrArg (pure : Int × Int × Int → Sem (Int × Int × Int)) (tail_bounds hm h1))) ?_)
  show wpAny _ _ (if ((1 : Int) == 1) = true then _ else _) _ _ s
  rw [if_pos (by decide)]
  refine wpAny_bind (wpAny_rule ?_)
  simp only [notLongL hsz, Bool.false_eq_true, if_false]
  try refine wpAny_bind (wpAny_pure ?_)
  show wpAny _ _ (updateSeq l (fun xs => xs.extract 0 (((items.size - m : Nat) : Int)).toNat ++ new ++ xs.extract (max ((items.size - m : Nat) : Int) (items.size : Int)).toNat xs.size) >>= _) _ _ s
  rw [hmx, Int.toNat_natCast]
  refine wpAny_bind (wpAny_updateSeq (hz := Nat.le_trans (Nat.le_add_right _ _) hsz) (_hz' := hz') e rfl (wpAny_bind (wpAny_letGo ?_)))
  first
    | exact wpAny_bind (wpAny_pure (wpAny_pure ⟨.none, rfl, wpAny_pure h⟩))
    | exact wpAny_pure ⟨.none, rfl, wpAny_pure h⟩
end
/-- o[-m:] = value -/
def sTail (to tl tv : TE) : TS := fun D σ H => tv σ H fun y H1 => to σ H1 fun x H2 => tl σ H2 fun z H3 => ∃ (l b : Addr) (xs ys : List V) (m : Nat), x = .ref l ∧ y = .ref b ∧ z = .int (-(m : Int)) ∧ 1 ≤ m ∧ m ≤ xs.length ∧ l ≠ b ∧
  H3 l = some (.lst xs) ∧ H3 b = some (.lst ys) ∧ xs.length + ys.length ≤ sizeLine ∧ D.nx σ (upd H3 l (.lst (xs.take (xs.length - m) ++ ys)))
theorem ps_tail {X : Cx} {o lo value : Expr} {to tl tv : TE} {p2 pos' pos : Pos} (ho : PE X o to) (hl : PE X lo tl) (hv : PE X value tv) (hs : swapsWith value (some (.Subscript o (.Slice (some lo) none none p2) pos')) pos.line X.env = pure false) :
    PS X (.Assign [.Subscript o (.Slice (some lo) none none p2) pos'] value pos) (sTail to tl tv) := by
  refine ⟨fun pins s σ H D I h => ?_⟩
  refine wpAny_Assign_Subscript (thn (hv.run pins s σ H _ I h) fun r s1 ⟨y, H1, I1, rv, q1⟩ => thn (ho.run pins s1 σ H1 _ I1 q1) fun u s2 ⟨x, H2, I2, rx, q2⟩ => ?_) hs
  refine wpAny_Slice ?_
  rw [evalPart_some]
  refine thn (hl.run pins s2 σ H2 _ I2 q2) fun vl s3 ⟨z, H3, I3, rz, l, b, xs, ys, m, ex, ey, ez, h1, hm, hne, hl3, hb3, hz, q3⟩ => ?_
  subst ex ey ez
  obtain rfl : u = Value.ref l := rx
  obtain rfl : r = Value.ref b := rv
  obtain ⟨t, rfl⟩ := rz
  refine thn (po_none.run pins s3 σ H3 (fun o H4 => o = none ∧ H4 = H3) I3 ⟨rfl, rfl⟩) fun vu s4 ⟨o, H4, I4, pu, eo, e4⟩ => ?_
  subst eo e4
  cases pu
  rw [evalPart_none]
  refine wpAny_pure ?_
  have I5 : Inv X pins σ H4 { s4 with heap := s4.heap.push { cls := .type "slice", data := .fields #[.int (-(m : Int)) t, .none, .none] } } := I4.kept (t' := s4.toks) fun b ob q => Heap.get?_push_of_some _ q
  obtain ⟨z1, its, n1, r1, l1, e1⟩ := I5.lstM hl3
  obtain ⟨z2, its2, n2, r2, l2, e2⟩ := I5.lstM hb3
  refine setItem_tail e1 e2 hne (Heap.IsSliceOf.new ..) h1 (by rw [List.size_toArray, ← l1]; exact hm) (by rw [List.size_toArray, List.size_toArray, ← l1, ← l2]; exact hz) ?_
  refine ⟨σ, _, I5.lset (its' := its.take (xs.length - m) ++ its2) (t' := _) hl3 e1 ?_ (Vals.append (r1.take _) r2) ?_, q3⟩
  · rw [List.size_toArray, ← l1]
    have := tail_splice its its2 (xs.length - m)
    rw [List.size_toArray, ← l1] at this
    exact this
  · rw [List.length_append, List.length_take]; omega
end My

/-! y = {k: v for target in iter if ..} -/
namespace My
open PySem L2
open PyProof.Rows
section
variable {X : Cx}
theorem swD_true {kx vx : Expr} {gs : List Comprehension} {scope : Scope} {pos py : Pos} {y : Str} {l : Nat} {env : Env} (hk : env.scope.kind = .function) (hy : env.scope.names.lookup y = some .local) (hl : (py.line == pos.line) = true)
    (ha : (scope.names.any fun (n, k) => n == y && (k == .local || k == .cell)) = false) : swapsWith (.DictComp kx vx gs scope pos) (some (.Name y py)) l env = pure true := by
  have ky : env.kindOf y = some .local := hy
  have hb : env.blockKind = .function := by unfold Env.blockKind; rw [hk]; rfl
  unfold swapsWith; simp only [hb, ky, ha, Expr.pos, hl]; rfl
theorem ps_setDc {i : Nat} {y : Str} {py : Pos} {kx vx tg iter : Expr} {ifs : List Expr} {scope : Scope} {own : List (Str × Nat)} {pos spos : Pos} {wi : TI} {g : TG} {tt : TT} {tk tv : TE}
    (hc : X.calm = true) (hN : X.N.Nodup) (hy : X.N[i]? = some y) (hyl : X.env.scope.names.lookup y = some .local) (hsw : swapsWith (.DictComp kx vx [⟨tg, iter, ifs, 0⟩] scope pos) (some (.Name y py)) spos.line X.env = pure true)
    (hi : PI X tg iter wi) (ok : BlkOk X.N X.env.scope scope own) (hg : ∀ s H C cl fp, PG (X.blk s H scope (compEnvC scope cl C X.env) fp) tg g) (ht : ∀ s H C cl fp, PTs (X.blk s H scope (compEnvC scope cl C X.env) fp) ifs tt)
    (hk : ∀ s H C cl fp, PE (X.blk s H scope (compEnvC scope cl C X.env) fp) kx tk) (he : ∀ s H C cl fp, PE (X.blk s H scope (compEnvC scope cl C X.env) fp) vx tv) (hs : ∀ x, foldedSetIterable iter X.env x = pure x := by intro _; rfl) :
    PS X (.Assign [.Name y py] (.DictComp kx vx [⟨tg, iter, ifs, 0⟩] scope pos) spos) (tAsg (tDc wi g tt tk tv (own.map (·.2))) (gName i)) := by
  refine ⟨fun pins s σ H D I h => ?_⟩
  rw [exec_Assign_Name_used _ _ _ _ hsw]
  refine wpAny_bind (wpAny_standAt (wpAny_bind ?_))
  show wpAny _ X.A (do let _ ← comprehension (.DictComp kx vx [⟨tg, iter, ifs, 0⟩] scope pos) scope X.env (firstIterPos [⟨tg, iter, ifs, 0⟩] pos) newDict false (eval iter X.env) (some (assign (.Name y py) X.env))) _ _ s
  have h : tDc wi g tt tk tv (own.map (·.2)) σ H (fun x H1 => gName i x σ H1 D.nx) := h
  refine wpAny_bind (thn (dc_core (Qf := fun _ s' => SP X pins D .next s') hc hN I hi ok hg ht hk he hs h fun L C s' m H' I' q hn f => ?_) fun _ s' hq => wpAny_pure (wpAny_pure hq))
  show wpAny _ _ (assign (.Name y py) X.env (.ref L)) _ _ _
  refine wpAny_assign_Name (store_ok2 (v := V.ref L) I' hN hy (.inl hyl) rfl (fun s2 I2 ⟨a, sb, ha⟩ => ?_) (.inr hyl))
  obtain ⟨f0, f1, f2, f3, f4, f5⟩ := f
  have haC : C ≠ a := by
    rcases ha with z | z
    · exact z ▸ f1
    · intro e; exact f4 y a z e.symm
  refine ⟨m, hn.sameBut sb haC, fun h3 sb3 => ⟨_, H', I2.turned (t' := s2.toks) (fun b o hb e => (sb3.2 b hb).trans e) f0 f1 f3 f4 f5, q⟩⟩
end
theorem lock_set {te : TE} {i : Nat} {D : Ends} {σ : L2.St} {H : Hp} (h : tLockE te σ H fun x H' => D.nx (σ.set i (some x)) H') : tLock (tAsg te (gName i)) D σ H := h
end My

/-! dict(zip(xs, ys)) of two lists -/
namespace My
open PySem L2
open PyProof.Rows
def rDZ (K : PySem.W.Frag) (vs : List V) (H1 : Hp) (Q : VK) : Prop := ∃ (a b : Addr) (ks : List Key) (ys : List V), vs = [.ref a, .ref b] ∧ SqL K H1 a (ks.map kV) ∧ SqL K H1 b ys ∧ ks.length = ys.length ∧
  ∀ p, H1 p = none → Q (.ref p) (upd H1 p (.dK (mergeK [] (ks.zip ys))))
def tDZ (K : PySem.W.Frag) (ta : TA) : TE := fun σ H Q => ta σ H fun vs H1 => rDZ K vs H1 Q
theorem keys_rel {P : Program} {w : World} : ∀ {ks : List Key} {us : List Value} {i : Nat} {u : Value}, Vals (ks.map kV) us → us[i]? = some u → ∃ k, ks[i]? = some k ∧ (mixKind P w).is k u = true
  | [], _, i, u, r, e => by rw [List.map_nil] at r; cases r; simp at e
  | k :: ks, _, i, u, r, e => by
    rw [List.map_cons] at r
    cases r with
    | cons h t =>
      cases i with
      | zero => simp at e; subst e; exact ⟨k, rfl, kV_is h⟩
      | succ i => exact keys_rel (i := i) t (by simpa using e)
theorem kv_zip : ∀ {ks : List Key} {ys : List V} {us : List Value}, Vals ys us → L2.KV (ks.zip ys) (ks.zip us)
  | [], _, _, _ => by simp only [List.zip_nil_left]; exact .nil
  | k :: ks, _, _, .nil => by simp only [List.zip_nil_right]; exact .nil
  | k :: ks, _, _, .cons r t => .cons ⟨rfl, r⟩ (kv_zip t)
section
variable {X : Cx} {e e2 : Expr} {ta : TA} {p p0 pos pos0 : Pos}
theorem pe_dictZip (hg0 : Gl X "dict") (hm0 : X.mg "dict" = none) (hg : Gl X "zip") (hm : X.mg "zip" = none) (ha : PA X [e, e2] ta) (hc : X.calm = true)
    (hs : starEach [e, e2] X.env = (false, eval e X.env) :: starEach [e2] X.env := by rfl) (hpl : (backTo pos (starEach [e2] X.env)).any (·.1) = false := by rfl)
    (hs0 : starEach [.Call (.Name "zip" p) [e, e2] [] pos] X.env = (false, eval (.Call (.Name "zip" p) [e, e2] [] pos) X.env) :: starEach [] X.env := by rfl) :
    PE X (.Call (.Name "dict" p0) [.Call (.Name "zip" p) [e, e2] [] pos] [] pos0) (tDZ X.K ta) := by
  refine ⟨fun pins s σ H Q I h => ?_⟩
  refine wpAny_Call_Name_kw (ld_blt I hg0 hm0 boot_dict ?_)
  refine callWith_type1 ?_ hs0
  rw [hs0]
  show wpAny _ _ (spliced ((false, eval (.Call (.Name "zip" p) [e, e2] [] pos) X.env) :: backTo pos0 (starEach [] X.env))) _ _ s
  refine Calls.spliced_cons (wpAny_Call_Name_kw (ld_blt I hg hm boot_zip (callWith_type1 (thn (ha.run pos pins s σ H _ I h) fun us s1 ⟨vs, H1, I1, r1, q1⟩ => ?_) hs hpl)))
  obtain ⟨a, b, ks, ys, ex, hqx, hqy, hlen, q⟩ := q1
  subst ex
  obtain ⟨u1, u2, eu, ru1, ru2⟩ : ∃ u1 u2, us = [u1, u2] ∧ RelV (.ref a) u1 ∧ RelV (.ref b) u2 := by
    cases r1 with
    | cons r rr =>
      cases rr with
      | cons r' rr => cases rr; exact ⟨_, _, rfl, r, r'⟩
  subst eu
  obtain rfl : u1 = Value.ref a := ru1
  obtain rfl : u2 = Value.ref b := ru2
  obtain ⟨its, rv, p1, hz1⟩ := I1.list hqx
  obtain ⟨its2, rv2, p2, hz2⟩ := I1.list hqy
  have la : a < s1.heap.objs.size := p1.lt
  have lb : b < s1.heap.objs.size := p2.lt
  have li1 : its.length = ks.length := by rw [← rv.length, List.length_map]
  have li2 : its2.length = ys.length := rv2.length.symm
  refine call_zip_2 p1.isList p2.isList fun h' hz hTI hTO h1 h2 hsz hk => ?_
  refine Calls.spliced_nil ?_
  have kl : ∀ {l : Addr} {xs : Array Value}, s1.heap.IsList l xs → h'.IsList l xs := fun ⟨o, ho, r⟩ => ⟨o, hk _ _ ho, r⟩
  refine PySem.call_dict_pairs (knd := mixKind X.prog X.w) (kvs := ks.zip its2) (PairArg.zip _ _ _ _ _ a b (PySem.W.ktu_apart s1.heap.objs.size a b la lb) its.toArray its2.toArray) (I.ok.hd hc)
    ⟨hz, hTI, ⟨_, _, hTO⟩, h1, h2, kl p1.isList, kl p2.isList⟩ ⟨by simp [li1], fun i key v ⟨e1, e2⟩ => ?_⟩ ?_ fun h'' tk hd hk2 => ?_
  · obtain ⟨k, hk1, hk2⟩ := keys_rel (P := X.prog) (w := X.w) (i := i) rv (by simpa using e1)
    exact ⟨k, by rw [List.getElem?_zip_eq_some]; exact ⟨hk1, by simpa using e2⟩, hk2⟩
  · simp only [List.size_toArray]; omega
  · have hfr : ∀ c, s1.heap.objs.size ≤ c → H1 c = none := fun c hc => I1.hok.fresh hc
    have hm : (h'.objs.size == sysModules) = false := beq_eq_false_iff_ne.mpr (Nat.ne_of_gt (Nat.lt_of_lt_of_le I1.big (by rw [hsz]; exact Nat.le_add_right _ _)))
    have hl : (mergeK [] (ks.zip ys)).length ≤ sizeLine := by
      have := length_mergeK (ks.zip ys) ([] : List (Key × V))
      rw [List.length_nil, List.length_zip] at this
      omega
    refine ⟨.ref h'.objs.size, upd H1 h'.objs.size (.dK (mergeK [] (ks.zip ys))), I1.laid (t' := tk) (fun c o e => hk2 c o (fun hc => ?_) (hk c o e)) (by omega) ⟨hl, hm, merged [] (ks.zip its2), KV.merge (kv_zip rv2) .nil, hd⟩, rfl, q _ (hfr _ (by omega))⟩
    have hlt := Heap.lt_size e
    simp only [List.mem_cons, List.not_mem_nil, or_false] at hc
    rcases hc with h | h | h | h
    all_goals (rw [h] at hlt; exact absurd hlt (Nat.not_lt.mpr (by first | exact Nat.le_add_right _ _ | exact Nat.le_refl _)))
end
end My

/-! t[::-1] of a tuple -/
namespace My
open PySem L2
open PyProof.Rows
theorem all_pick (l : List Value) : (List.range l.length).filterMap (fun k => l[k]?) = l := by
  induction l with
  | nil => rfl
  | cons x r ih =>
    rw [List.length_cons, List.range_succ_eq_map, List.filterMap_cons]
    simp only [List.getElem?_cons_zero]
    rw [List.filterMap_map]
    congr 1
theorem fm_congr {α β : Type} {f g : α → Option β} : ∀ {l : List α}, (∀ x ∈ l, f x = g x) → l.filterMap f = l.filterMap g
  | [], _ => rfl
  | x :: r, h => by rw [List.filterMap_cons, List.filterMap_cons, h x List.mem_cons_self, fm_congr fun y hy => h y (List.mem_cons_of_mem _ hy)]
theorem rev_pick (xs : Array Value) : ((List.range xs.size).filterMap fun (k : Nat) => xs[(((xs.size : Int) - 1) + (k : Int) * (-1)).toNat]?) = xs.toList.reverse := by
  have h := all_pick xs.toList.reverse
  rw [List.length_reverse, Array.length_toList] at h
  rw [← h]
  refine fm_congr fun k hk => ?_
  have hk := List.mem_range.mp hk
  rw [List.getElem?_reverse (by simpa using hk), Array.length_toList, Array.getElem?_toList]
  congr 1
  omega
section
variable {prog : Program} {w : World} {A : Around} {E : Value → Shared → Prop} {s : Shared}
theorem getItem_tuple_rev {t sl : Addr} {items : Array Value} {u : Tok} {Q : Value → Shared → Prop} (ht : IsTup s.heap t items) (hs : s.heap.IsSliceOf sl .none .none (.int (-1) u))
    (h : Q (.ref s.heap.objs.size) { s with heap := s.heap.push { cls := .type "tuple", data := .seq items.toList.reverse.toArray } }) (hsz : items.size ≤ sizeLine) : wpAny (model prog w) A (getItem (.ref t) (.ref sl)) Q E s := by
  have hz : sizeOk (.seq items.toList.reverse.toArray) := by show items.toList.reverse.toArray.size ≤ sizeLine; rw [List.size_toArray, List.length_reverse, Array.length_toList]; exact hsz
  obtain ⟨os, hos, hcs, hds⟩ := id hs
  have hTs : s.TypeIs (.ref sl) "slice" := ⟨os, hos, hcs⟩
  unfold getItem; refine wpAny_holding ?_
  refine wpAny_bind (wpAny_sequenceKey ht.typeIs (by decide) (wpAny_bind (wpAny_callSpecial?_slot (name := Str.ofString "__getitem__") ht.typeIs PyProof.Rows.slot_tuple_getitem (wpAny_call_entry PyProof.Rows.slot_tuple_getitem ht.typeIs entry_tuple_getitem ?_ (args_tuple_getitem _ _)))))
  show wpAny _ _ (Builtin.Tuple.tupleItemsOf (.ref t) >>= _) _ _ s
  refine wpAny_bind (tupleItemsOf_ ht (wpAny_bind (wpAny_typeOf hTs ?_))); rw [if_pos (by decide)]
  have happ : ∀ (A : Around) (Q : Int × Int × Nat → Shared → Prop) (E : Value → Shared → Prop), Q ((items.size : Int) - 1, -1, items.size) s → wpAny (model prog w) A (Builtin.Slice.sliceApplied (.ref sl) (pure (items.size : Int))) Q E s := by
    intro A Q E hq
    unfold Builtin.Slice.sliceApplied Builtin.Slice.sliceFields
    refine wpAny_bind (wpAny_bind (wpAny_field hos hds (x := .none) rfl (wpAny_bind (wpAny_field hos hds (x := .none) rfl (wpAny_bind (wpAny_field hos hds (x := .int (-1) u) rfl (wpAny_pure ?_)))))))
    refine wpAny_bind (slicePart_int ?_)
    show wpAny _ _ (if ((-1 : Int) == 0) = true then _ else _) _ _ s
    rw [if_neg (by decide)]; refine wpAny_bind (slicePart_none (wpAny_bind (slicePart_none (wpAny_bind (wpAny_pure ?_)))))
    have hp : Builtin.Slice.slicePlaces ((items.size : Int) - 1) (-1) (-1) = items.size := by
      unfold Builtin.Slice.slicePlaces
      rw [if_neg (by decide)]
      split
      · simp only [Int.neg_neg, Int.ediv_one]; omega
      · omega
    show wpAny _ _ (pure ((items.size : Int) - 1, (-1 : Int), Builtin.Slice.slicePlaces ((items.size : Int) - 1) (-1) (-1))) _ _ s
    rw [hp]
    exact wpAny_pure hq
  refine wpAny_bind (happ _ _ _ ?_)
  show wpAny _ _ (if (((items.size : Int) - 1) == 0 && (-1 : Int) == 1 && items.size == items.size) = true then _ else _) _ _ s
  rw [if_neg (by simp), rev_pick]
  first
    | exact wpAny_bind (m := Builtin.Tuple.tupleExact _) (wpAny_newObj_type (wpAny_pure ⟨_, rfl, wpAny_pure h⟩) hz)
    | exact wpAny_bind (m := Builtin.Tuple.tupleExact _) (wpAny_newObj_type (wpAny_bind (wpAny_pure (wpAny_pure ⟨_, rfl, wpAny_pure h⟩))) hz)
    | exact wpAny_bind (wpAny_bind (m := Builtin.Tuple.tupleExact _) (wpAny_newObj_type (wpAny_pure (wpAny_pure ⟨_, rfl, wpAny_pure h⟩)) hz))
    | exact wpAny_bind (wpAny_bind (m := Builtin.Tuple.tupleExact _) (wpAny_newObj_type (wpAny_pure ⟨_, rfl, wpAny_pure h⟩) hz))
end
def tRevT (K : PySem.W.Frag) (te : TE) : TE := fun σ H Q => te σ H fun x H1 => ∃ a xs, x = .ref a ∧ SqT K H1 a xs ∧ ∀ p, H1 p = none → Q (.ref p) (upd H1 p (.tup xs.reverse))
theorem pe_revT {X : Cx} {e : Expr} {te : TE} {k : Nat} {p1 p2 p3 pos : Pos} (he : PE X e te) : PE X (.Subscript e (.Slice none none (some (.UnaryOp .USub (.Constant (.int 1) k p1) p2)) p3) pos) (tRevT X.K te) := by
  refine ⟨fun pins s σ H Q I h => Subscript_ (thn (he.run pins s σ H _ I h) fun v s1 ⟨x, H1, I1, r1, a, xs, ex, hx, q⟩ => ?_)⟩
  subst ex
  cases r1
  have hst : PO X (some (.UnaryOp .USub (.Constant (.int 1) k p1) p2)) (tPart (tUn (rU fun i => .int (-i)) (tC (.int 1)))) := po_some (pe_un un_neg pe_int)
  refine wpAny_Slice (thn (po_none.run pins s1 σ H1 (fun o H2 => o = none ∧ H2 = H1) I1 ⟨rfl, rfl⟩) fun vl s2 ⟨l, H2, I2, pl, el, e2⟩ => ?_)
  subst el e2
  refine thn (po_none.run pins s2 σ H2 (fun o H3 => o = none ∧ H3 = H2) I2 ⟨rfl, rfl⟩) fun vu s3 ⟨u, H3, I3, pu, eu, e3⟩ => ?_
  subst eu e3
  refine thn (hst.run pins s3 σ H3 (fun o H4 => o = some (-1) ∧ H4 = H3) I3 ⟨1, rfl, -1, rfl, rfl, rfl⟩) fun vs s4 ⟨o, H4, I4, ps, eo, e4⟩ => ?_
  subst eo e4
  cases pl
  cases pu
  cases ps with
  | int i uk =>
  have I5 : Inv X pins σ H4 { s4 with heap := s4.heap.push { cls := .type "slice", data := .fields #[.none, .none, .int (-1) uk] } } := I4.kept (t' := s4.toks) fun b ob q => Heap.get?_push_of_some _ q
  obtain ⟨its, r, ht, hz⟩ := I5.tuple hx
  have hlen := r.length
  refine tail_any (ops := [.ref a, .ref s4.heap.objs.size]) ht.typeIs PyProof.Rows.slot_tuple_getitem.lookup ?_ (by with_unfolding_all rfl)
  refine getItem_tuple_rev ht (Heap.IsSliceOf.new ..) ⟨.ref _, _, I5.laid (t' := s4.toks) (o := .tup xs.reverse) (fun b ob q => Heap.get?_push_of_some _ q) (Nat.le_refl _) ?_, rfl, q _ (I5.hok.fresh (Nat.le_refl _))⟩ (by rw [List.size_toArray]; omega)
  exact ⟨by rw [List.length_reverse]; exact hz, _, r.reverse, IsTup.new _ _⟩
end My

/-! {**d, k: v} -/
namespace My
open PySem L2
section
variable {prog : Program} {w : World} {K : Type} [DecidableEq K] {knd : KeyKind prog w K} {A : Around} {E : Value → Shared → Prop} {s : Shared}
theorem any_idx {kvs : List (K × Value)} {k : K} {i : Nat} (h : (kvs.findIdx? fun kv => decide (kv.1 = k)) = some i) : (kvs.any fun kv => decide (kv.1 = k)) = true := by
  obtain ⟨hi, h1, _⟩ := List.findIdx?_eq_some_iff_getElem.mp h
  exact List.any_eq_true.mpr ⟨_, List.getElem_mem hi, h1⟩
theorem no_idx {kvs : List (K × Value)} {k : K} (h : (kvs.findIdx? fun kv => decide (kv.1 = k)) = none) : k ∉ kvs.map (·.1) := by
  intro hm
  obtain ⟨kv, hkv, he⟩ := List.mem_map.mp hm
  have := List.findIdx?_eq_none_iff.mp h kv hkv
  simp [he] at this
theorem dictPut_pairs {d : Addr} {kvs : List (K × Value)} {k : K} {key v : Value} {Q : Unit → Shared → Prop} (hkey : knd.is k key = true) (hm : s.heap.DictOf knd d kvs)
    (hQ : ∀ h', h'.DictOf knd d (stored kvs k v) → Heap.SameBut d s.heap h' → Q () { s with heap := h' }) (hsz : kvs.length ≤ sizeLine) : wpAny (model prog w) A (dictPut d (knd.hash k) key v) Q E s := by
  obtain ⟨o, es, ep, ho, hc, hd, hk, hp, hn⟩ := hm
  have hes : es.size ≤ sizeLine := by have e1 := hp.length; rw [Array.length_toList] at e1; omega
  have hidx : (es.findIdx? fun e => knd.is k e.key) = kvs.findIdx? fun kv => decide (kv.1 = k) := by rw [← hp.findIdx k]; obtain ⟨l⟩ := es; simp
  unfold dictPut
  refine wpAny_bind (wpAny_dictFind_of hkey ho hd hk ?_)
  cases hi : es.findIdx? fun e => knd.is k e.key with
  | some i =>
    refine wpAny_updateDict ho hd (hQ _ ⟨_, _, ep, Heap.get?_update_self _ ho (Obj.isFreed_of_dict (Obj.data_mapDict hd _)), hc.mapDict _, Obj.data_mapDict hd _, hk.modify _ _, ?_, ?_⟩ (Heap.SameBut.update ..))
    · rw [stored, if_pos (any_idx (hidx ▸ hi))]
      have hl : (es.toList.findIdx? fun e => knd.is k e.key) = some i := by rw [← hi]; obtain ⟨l⟩ := es; simp
      have := hp.modify hn hl v
      obtain ⟨l⟩ := es; simpa using this
    · rw [stored, if_pos (any_idx (hidx ▸ hi)), keys_map_store]; exact hn
  | none =>
    have hnot : k ∉ kvs.map (·.1) := no_idx (hidx ▸ hi)
    have hany : ¬ (kvs.any fun kv => decide (kv.1 = k)) = true := by
      rw [List.any_eq_true]; rintro ⟨kv, hkv, he⟩; exact hnot (List.mem_map.mpr ⟨kv, hkv, of_decide_eq_true he⟩)
    refine wpAny_updateDictKeys (hz := hes) ho hd (hQ _ ⟨_, _, ep + 1, Heap.get?_update_self _ ho (Obj.isFreed_of_dict (Obj.data_mapDictKeys hd _)), hc.mapDictKeys _, Obj.data_mapDictKeys hd _, hk.push hkey _, ?_, ?_⟩ (Heap.SameBut.update ..))
    · rw [stored, if_neg hany]
      have := hp.append hkey (knd.hash k) v
      obtain ⟨l⟩ := es; simpa using this
    · rw [stored, if_neg hany, List.map_append, List.nodup_append]
      refine ⟨hn, by simp, fun a ha b hb => ?_⟩
      simp only [List.map_cons, List.map_nil, List.mem_singleton] at hb
      subst hb; intro e; exact hnot (e ▸ ha)
/-- all entries of another dict, laid one by one -/
theorem merge_of {d o : Addr} {kvs more : List (K × Value)} {Q : Unit → Shared → Prop} (hdo : d ≠ o) (hoS : (o == sysModules) = false) (hd : s.heap.DictOf knd d kvs) (ho : s.heap.DictOf knd o more)
    (hQ : ∀ h', h'.DictOf knd d (merged kvs more) → h'.DictOf knd o more → Heap.SameBut d s.heap h' → Q () { s with heap := h' }) (hsz : kvs.length + more.length ≤ sizeLine) : wpAny (model prog w) A (mergeMapping d (.ref o) false) Q E s := by
  obtain ⟨od, esd, epd, hod, hcd, hdd, hkd, hpd, hnd⟩ := id hd
  obtain ⟨oo, eso, epo, hoo, hco, hdo', hko, hpo, hno⟩ := id ho
  have hlen : more.length = eso.size := by rw [← hpo.length]; simp
  unfold mergeMapping
  refine wpAny_bind (wpAny_bind (wpAny_typeOf ho.typeIs (wpAny_of_eq F.sub_dict_dict ?_)))
  rw [if_pos rfl]
  refine wpAny_bind (wpAny_specialOf ho.typeIs F.slot_dict_iter.lookup (wpAny_bind (wpAny_pure ?_)))
  show wpAny _ _ (if (o == sysModules) = true then _ else _) _ _ s
  rw [if_neg (by rw [hoS]; exact Bool.false_ne_true)]
  have loop : wpAny (model prog w) A (do
      let l ← dictEntries o
      let epoch ← dictEpoch o
      forIn (List.range l.size) PUnit.unit fun i (_ : PUnit) => (do
          let l' ← dictEntries o
          match l'[i]? with
            | some e => do
              holding [e.key, e.val] (dictPut d e.hash e.key e.val)
              let ep' ← dictEpoch o
              if (ep' != epoch) = true then do
                  (unsupported "dict.changed-during-merge" : Sem PUnit)
                  pure (ForInStep.yield PUnit.unit)
                else pure (ForInStep.yield PUnit.unit)
            | _ => do
              (unsupported "dict.changed-during-merge" : Sem PUnit)
              pure (ForInStep.yield PUnit.unit) : Sem (ForInStep PUnit))
      pure ()) Q E s := by
    refine wpAny_bind (wpAny_dictEntries hoo hdo' (wpAny_bind (wpAny_dictEpoch hoo hdo' (wpAny_bind ?_))))
    rw [List.range_eq_range']
    refine wpAny_forIn_list _ (fun rest _ s' => ∃ h' i, s' = { s with heap := h' } ∧ rest = List.range' i (eso.size - i) ∧ i ≤ eso.size ∧ h'.DictOf knd d (merged kvs (more.take i)) ∧ h'.get? o = some oo ∧ Heap.SameBut d s.heap h') _ ?_ ?_ _ _
      ⟨s.heap, 0, rfl, by simp, Nat.zero_le _, by simpa [merged] using hd, hoo, Heap.SameBut.refl _ _⟩
    · rintro x rest b s' ⟨h', i, rfl, hr, hi, hd', hoo', hs'⟩
      have hlt : i < eso.size := by
        apply Classical.byContradiction; intro h
        rw [Nat.sub_eq_zero_of_le (Nat.not_lt.mp h)] at hr; simp at hr
      obtain ⟨rfl, hrest⟩ : x = i ∧ rest = List.range' (i + 1) (eso.size - (i + 1)) := by
        rw [show eso.size - i = (eso.size - (i + 1)) + 1 by omega, List.range'_succ] at hr
        injection hr with h1 h2; exact ⟨h1, h2⟩
      refine wpAny_bind (wpAny_dictEntries hoo' hdo' ?_)
      rw [Array.getElem?_eq_getElem hlt]
      obtain ⟨⟨k, v⟩, hkv⟩ : ∃ kv, more[x]? = some kv := ⟨more[x]'(by rw [hlen]; exact hlt), List.getElem?_eq_getElem _⟩
      obtain ⟨hkey, hval⟩ := hpo.get? (e := eso[x]) (by simp [hlt]) hkv
      obtain ⟨k', hkey', hhash⟩ := hko eso[x] (Array.getElem_mem hlt)
      obtain rfl : k' = k := knd.inj _ _ _ hkey' hkey
      show wpAny _ _ (holding [eso[x].key, eso[x].val] (dictPut d eso[x].hash eso[x].key eso[x].val) >>= _) _ _ _
      rw [hhash, hval]
      have hmx : (merged kvs (more.take x)).length ≤ sizeLine := by
        have e1 := merged_length_le kvs (more.take x)
        rw [List.length_take] at e1; omega
      refine wpAny_bind (wpAny_holding (dictPut_pairs hkey hd' (fun h'' hd'' hs'' => ?_) hmx))
      have hoo'' : h''.get? o = some oo := (hs''.2 o (Ne.symm hdo)).trans hoo'
      refine wpAny_bind (wpAny_dictEpoch hoo'' hdo' ?_)
      rw [if_neg (by simp)]
      exact wpAny_pure ⟨h'', x + 1, rfl, hrest, hlt, by rw [merged_take_succ kvs more x (k', v) hkv]; exact hd'', hoo'', hs'.trans hs''⟩
    · rintro b s' ⟨h', i, rfl, hr, hi, hd', hoo', hs'⟩
      have hin : i = eso.size := by
        apply Classical.byContradiction; intro h
        rw [show eso.size - i = (eso.size - (i + 1)) + 1 by omega, List.range'_succ] at hr; exact nomatch hr
      refine wpAny_pure (hQ h' ?_ ⟨oo, eso, epo, hoo', hco, hdo', hko, hpo, hno⟩ hs')
      rw [hin, ← hlen, List.take_length] at hd'; exact hd'
  refine wpAny_bind (wpAny_dictEntries hod hdd ?_)
  dsimp only
  by_cases hemp : esd.isEmpty = true
  · rw [if_pos hemp]
    refine wpAny_bind (wpAny_dictEntries hoo hdo' ?_)
    have quiet : ∀ (f : DictEntry → PUnit → Sem (ForInStep PUnit)), (∀ e ∈ eso, ∀ u, f e u = pure (.yield u)) → forIn eso PUnit.unit f = pure PUnit.unit := by
      intro f hf
      rw [← Array.forIn_toList]
      exact forIn_yield_id _ fun e he c => hf e (Array.mem_toList_iff.mp he) c
    refine wpAny_bind (wpAny_of_eq (quiet _ fun e he u => ?_) loop)
    obtain ⟨k, hkey, _⟩ := hko e he
    have hb := knd.byValue k _ hkey
    revert hb
    cases e.key <;> intro hb <;> first | rfl | exact absurd hb Bool.false_ne_true
  · rw [if_neg hemp]
    exact loop
end
end My
namespace My
open PySem L2
/-- {**d, k: v}: D the new dict, D2 the one of the pair alone -/
def tMrg (td tk tv : TE) : TE := fun σ H Q => ∀ D, H D = none → td σ (upd H D (.dK [])) fun x H1 => H1 D = some (.dK []) ∧ ∃ (a : Addr) (kvs : List (Key × V)), x = .ref a ∧ H1 a = some (.dK kvs) ∧ a ≠ D ∧ kvs.length < sizeLine ∧
  ∀ D2, upd H1 D (.dK kvs) D2 = none → tk σ (upd (upd H1 D (.dK kvs)) D2 (.dK [])) fun y H2 => tv σ H2 fun z H3 => ∃ k, y = kV k ∧ H3 D = some (.dK kvs) ∧ H3 D2 = some (.dK []) ∧
    Q (.ref D) (upd (upd H3 D2 (.dK [(k, z)])) D (.dK (putK kvs k z)))
theorem pe_mrg {X : Cx} {d k v : Expr} {td tk tv : TE} {pos : Pos} (hd : PE X d td) (hk : PE X k tk) (hv : PE X v tv) : PE X (.Dict [none, some k] [d, v] pos) (tMrg td tk tv) := by
  refine ⟨fun pins s σ H Q I q => ?_⟩
  rw [arm_eval_Dict]
  refine wpAny_bind (wpAny_standAt ?_)
  have hsh : ((evalEachOpt [none, some k] X.env).zip ((evalEach [d, v] X.env).map fun v => do let x ← v; standAt pos; pure x)) =
      [(none, do let x ← eval d X.env; standAt pos; pure x), (some (eval k X.env), do let x ← eval v X.env; standAt pos; pure x)] := by
    rfl
  rw [hsh]
  unfold dictDisplay
  have hn := I.hok.fresh (Nat.le_refl s.heap.objs.size)
  have I1 := I.laid (a := s.heap.objs.size) (o := .dK []) (h' := s.heap.push { cls := .type "dict", data := .dict #[] }) (t' := s.toks) (fun _ _ q => Heap.get?_push_of_some _ q) (Nat.le_refl _) (dk_empty s.heap I.big)
  dsimp only
  rw [List.forIn_cons]
  refine wpAny_bind (wpAny_bind ?_)
  dsimp only
  refine wpAny_bind ?_
  rw [if_pos (by rfl)]
  refine wpAny_pure ?_
  dsimp only
  refine wpAny_bind (wpAny_alloc (wpAny_bind (wpAny_holding (wpAny_bind (thn (hd.run pins _ σ _ _ I1 (q _ hn)) fun u s1 ⟨x, H1, I2, rx, e1, a, kvs, ex, ea, hne, hz, q1⟩ => wpAny_bind (wpAny_standAt (wpAny_pure ?_)))))))
  subst ex
  obtain rfl : u = Value.ref a := rx
  generalize hD : s.heap.objs.size = D at *
  obtain ⟨z0, m0, vs0, r0, d0⟩ := dk_of I2.hok e1
  cases r0
  obtain ⟨za, ma, vsa, ra, da⟩ := dk_of I2.hok ea
  refine wpAny_bind (wpAny_onRaise (wpAny_tryCatch (wpAny_onRaise (wpAny_holding (merge_of (Ne.symm hne) ma d0 da (fun h1 hd1 ha1 sb1 => ?_) (by rw [List.length_nil, ← ra.length]; omega))))))
  have hno : (vsa.map (·.1)).Nodup := let ⟨_, _, _, _, _, _, _, _, n⟩ := da; n
  rw [merged_nil_of_nodup vsa hno] at hd1
  have I3 : Inv X pins σ (upd H1 D (.dK kvs)) { s1 with heap := h1, toks := s1.toks } := d_write I2 (by rw [e1]; exact True.intro) sb1 (let ⟨q, _, _, hq, _⟩ := hd1; ⟨q, hq⟩) (dk_new za m0 ra hd1)
  refine wpAny_pure ?_
  dsimp only
  rw [List.forIn_cons]
  refine wpAny_bind ?_
  dsimp only
  rw [if_neg (by simp)]
  refine wpAny_pure ?_
  dsimp only
  rw [List.forIn_nil]
  refine wpAny_pure ?_
  dsimp only
  rw [if_neg (by simp)]
  refine wpAny_bind (wpAny_bind (wpAny_holding ?_))
  have hn2 : upd H1 D (.dK kvs) ({ s1 with heap := h1, toks := s1.toks } : Shared).heap.objs.size = none := I3.hok.fresh (Nat.le_refl _)
  have I4 := I3.laid (a := h1.objs.size) (o := .dK []) (h' := h1.push { cls := .type "dict", data := .dict #[] }) (t' := s1.toks) (fun _ _ q => Heap.get?_push_of_some _ q) (Nat.le_refl _) (dk_empty h1 I3.big)
  refine wpAny_subDict (knd := mixKind X.prog X.w) (by simp) (evalPairs_cons (thn (hk.run pins _ σ _ _ I4 (q1 _ hn2)) fun uk s2 ⟨y, H2, I5, rk, q2⟩ => wpAny_bind (thn (hv.run pins _ σ _ _ I5 q2) fun uv s3 ⟨z, H3, I6, rv, k', ey, eD, eD2, q3⟩ => wpAny_bind (wpAny_standAt (wpAny_pure (evalPairs_nil ?_))))))
  subst ey
  dsimp only at eD2 q3 ⊢
  generalize h1.objs.size = D2 at *
  obtain ⟨z2, m2, vs2, r2, d2⟩ := dk_of I6.hok eD2
  cases r2
  refine ⟨[(k', uv)], ⟨kV_is rk, rfl, trivial⟩, d2, fun h4 hd4 sb4 => ?_⟩
  have hd4' : h4.DictOf (mixKind X.prog X.w) D2 [(k', uv)] := hd4
  have hl1 : ([(k', z)] : List (Key × V)).length ≤ sizeLine := by rw [sizeLine_eq]; simp
  have I7 : Inv X pins σ (upd H3 D2 (.dK [(k', z)])) { s3 with heap := h4, toks := s3.toks + 1 } := d_write I6 (by rw [eD2]; exact True.intro) sb4 (let ⟨q, _, _, hq, _⟩ := hd4; ⟨q, hq⟩) (dk_new hl1 m2 (.cons ⟨rfl, rv⟩ .nil) hd4')
  have hDD : D ≠ D2 := ne_of_none (upd_same (H := H1) (a := D) (o := .dK kvs)) hn2
  have eD' : upd H3 D2 (.dK [(k', z)]) D = some (.dK kvs) := by rw [upd_ne hDD]; exact eD
  obtain ⟨z5, m5, vs5, r5, d5⟩ := dk_of I7.hok eD'
  have hl5 : vs5.length = kvs.length := r5.length.symm
  refine wpAny_bind (wpAny_onRaise (wpAny_holding (merge_of hDD m2 d5 hd4' (fun h6 hd6 ha6 sb6 => wpAny_pure (wpAny_pure ?_)) (by rw [hl5]; simp; omega))))
  have hput : KV (putK kvs k' z) (stored vs5 k' uv) := KV.put r5 k' rv
  have hl6 : (putK kvs k' z).length ≤ sizeLine := by have := length_putK kvs k' z; omega
  exact ⟨.ref D, _, d_write I7 (by rw [eD']; exact True.intro) sb6 (let ⟨q, _, _, hq, _⟩ := hd6; ⟨q, hq⟩) (dk_new hl6 m5 hput hd6), rfl, q3⟩
end My

namespace My
open PySem L2
open PyProof.Rows (envOfC)

/-! ### a def of the text, called by its name -/
structure Df (P : Program) (w : World) (K : PySem.W.Frag) (mg : Str → Option Value) (base : Heap) (k : Nat) (x : Str) (ps : List Str) (sp : Sp) : Prop where
  ex : ∃ (f : Addr) (fd : FuncData), FnOk P w K mg base CX0 k f fd ps sp ∧ mg x = some (.ref f) ∧ PySem.W.keepIn K (.ref f) = true ∧ Binds K fd ps []
/-- a def stands at the module's name -/
def FunAt (K : PySem.W.Frag) (mg : Str → Option Value) (x : Str) (st : Stmt) : Prop := ∃ (f : Addr) (fd : FuncData), Fun K x x st f fd ∧ mg x = some (.ref f)
/-- how a def's parameters bind -/
def BindAll (x : Str) (st : Stmt) (ps : List Str) : Prop := ∀ (kV doc pm : Value) (an : Option Addr) (cdv ct : Value) (us : List Value), us.length = ps.length → bindArgs (PySem.W.fnOf x x (defArgs st) (defBody st) (defScope st) .none kV doc pm an cdv ct) ⟨us, []⟩ = pure (ps.zip us)
section
variable {P : Program} {w : World} {K : PySem.W.Frag} {mg : Str → Option Value} {base : Heap}
theorem FunAt.df {x : Str} {st : Stmt} {N ps : List Str} {k : Nat} {sp : Sp} (F : FunAt K mg x st) (S : FnScope N ps (defScope st)) (hb : BindAll x st ps) (len : ∀ vs H Q E, sp vs H Q E → vs.length = ps.length)
    (hbody : ∀ (f : Addr) (cdv : Value) (A : Around) (outer : List Env) (s : Shared) (H : Hp) (vs : List V) (Q : VK) (E : XK), Room k (A.deeper (envOfC x (defScope st) s.heap.objs.size f cdv)) → sp vs H Q E →
      ∃ t, PSs (cxOf CX0 P w K mg base N x (defScope st) f cdv A outer s H E).nox (defBody st) t ∧ t { nx := fun _ H' => Q .non H', rt := Q } (start N vs) H) : Df P w K mg base (k + 1) x ps sp := by
  obtain ⟨f, fd, h, m⟩ := F
  exact ⟨f, fd, h.ok S len (hbody f), m, h.kp, h.binds hb⟩
theorem FunAt.mk {l : Heap} {x : Str} {st : Stmt} {f : Addr} {oc : Value} {od an : Option Addr} {osl : Array (Option Value)} {kV doc pm cdv ct : Value} (X : K.In l) (G : l.Ns mainGlobals mg) (a : PySem.W.nsIn K mainGlobals x = some (some (.ref f)))
    (lk : K.lookup f = some ⟨oc, od, .func (PySem.W.fnOf x x (defArgs st) (defBody st) (defScope st) .none kV doc pm an cdv ct), osl⟩) (c : PySem.W.codeIn K cdv x = true) (k : PySem.W.keepIn K (.ref f) = true) : FunAt K mg x st :=
  ⟨f, _, fun_mk (st := st) lk c k, PySem.W.mg_of X G a⟩
theorem Df.imp {k : Nat} {x : Str} {ps : List Str} {sp sp' : Sp} (D : Df P w K mg base k x ps sp) (h : ∀ vs H Q E, sp' vs H Q E → sp vs H Q E) : Df P w K mg base k x ps sp' := by
  obtain ⟨f, fd, F, m, kp, b⟩ := D.ex
  exact ⟨f, fd, F.imp h, m, kp, b⟩
end
def tCallD (sp : Sp) (t : TA) : TE := fun σ H Q => t σ H fun vs H1 => sp vs H1 Q E0
section
variable {X : Cx} {j k : Nat} {x : Str} {ps : List Str} {sp : Sp} {p pos : Pos} {e : Expr} {es : List Expr} {t : TA}
theorem pe_callD (D : Df X.prog X.w X.K X.mg X.base j x ps sp) (hr : Room k X.A) (hj : j ≤ k) (hg : Gl X x) (ha : PA X (e :: es) t) (hdb : (x == ("__debug__" : Str)) = false := by decide)
    (he : starEach (e :: es) X.env = (false, eval e X.env) :: starEach es X.env := by rfl) (hpl : (backTo pos (starEach es X.env)).any (·.1) = false := by rfl) :
    PE X (.Call (.Name x p) (e :: es) [] pos) (tCallD sp t) := by
  obtain ⟨f, fd, F, m, kp, b⟩ := D.ex
  have h : PE X (.Call (.Name x p) (e :: es) [] pos) (tCall sp [] E0 t) := pe_call F (hr.mono hj) hg m kp b .nil pass0 ha hdb he hpl
  refine ⟨fun pins s σ H Q I q => h.run pins s σ H Q I ?_⟩
  unfold tCall
  unfold tCallD at q
  simpa only [List.append_nil] using q
theorem pe_callD0 (D : Df X.prog X.w X.K X.mg X.base j x ps sp) (hr : Room k X.A) (hj : j ≤ k) (hg : Gl X x) (hdb : (x == ("__debug__" : Str)) = false := by decide) :
    PE X (.Call (.Name x p) [] [] pos) (tCallD sp tNil) := by
  obtain ⟨f, fd, F, m, kp, b⟩ := D.ex
  have h : PE X (.Call (.Name x p) [] [] pos) (tCall sp [] E0 tNil) := pe_call0 F (hr.mono hj) hg m kp b .nil pass0 hdb
  refine ⟨fun pins s σ H Q I q => h.run pins s σ H Q I ?_⟩
  unfold tCall
  unfold tCallD at q
  simpa only [List.append_nil] using q
end

/-! ### statements, one at a time -/
theorem seq_ {t u : TS} {D : Ends} {σ : St} {H : Hp} (h : ∀ R : St → Hp → Prop, R = u D → t { D with nx := R } σ H) : tSeq t u D σ H := h _ rfl
theorem while_ {c : TT} {tb : TS} {D : Ends} {σ : St} {H : Hp} (W : Nat → St → Hp → Prop) (m : Nat) (w0 : W m σ H)
    (h : ∀ m σ H, W m σ H → c σ H fun b H1 => if b = true then (∀ N : St → Hp → Prop, (∀ m' σ' H', m' < m → W m' σ' H' → N σ' H') → tb { D with nx := N, ct := N, bk := D.nx } σ H1) else D.nx σ H1)
    (mono : ∀ σ H (Q Q' : Bool → Hp → Prop), (∀ b H1, Q b H1 → Q' b H1) → c σ H Q → c σ H Q') : tWhile c tb D σ H := by
  refine ⟨W, ⟨m, w0⟩, fun m σ H w => mono σ H _ _ (fun b H1 q => ?_) (h m σ H w)⟩
  cases b with
  | true => exact ⟨fun σ' H' => ∃ m', m' < m ∧ W m' σ' H', fun _ _ n => n, q _ fun m' _ _ l w' => ⟨m', l, w'⟩⟩
  | false => exact q
theorem ife {c : Prop} [Decidable c] {A B : Prop} : (if (decide c) = true then A else B) ↔ (if c then A else B) := by by_cases h : c <;> simp [h]

/-! ### heaps -/
/-- tuples are kept -/
def KT (H H' : Hp) : Prop := ∀ a xs, H a = some (.tup xs) → H' a = some (.tup xs)
theorem KT.refl (H : Hp) : KT H H := fun _ _ h => h
theorem KT.trans {H H1 H2 : Hp} (a : KT H H1) (b : KT H1 H2) : KT H H2 := fun c o h => b c o (a c o h)
theorem same_kt {H H' : Hp} (e : Same H H') : KT H H' := fun a _ h => e a _ h
theorem same_new {H : Hp} {p : Addr} {o : HO} (h : H p = none) : Same H (upd H p o) := fun b u q => by rw [upd_ne (ne_of_none q h)]; exact q
theorem kt_new {H : Hp} {p : Addr} {o : HO} (h : H p = none) : KT H (upd H p o) := same_kt (same_new h)
theorem kt_lst {H : Hp} {l : Addr} {xs : List V} {o : HO} (h : H l = some (.lst xs)) : KT H (upd H l o) := fun b u q => by
  rw [upd_ne (ne_of q h (by intro z; cases z))]; exact q
/-- what H did not know may change -/
theorem same_mut {H H' : Hp} {p : Addr} {o : HO} (e : Same H H') (h : H p = none) : Same H (upd H' p o) := fun a u ha => by
  rw [upd_ne (ne_of_none ha h)]
  exact e a u ha
end My
namespace My
open PySem L2
open PyProof.Rows (envOfC)
/-! ### more for the readings -/
def GInt (mg : Str → Option Value) (x : Str) (n : Int) : Prop := ∃ t, mg x = some (.int n t)
theorem pe_gint {X : Cx} {x : Str} {n : Int} {pos : Pos} (hg : Gl X x) (h : GInt X.mg x n) (hd : (x == ("__debug__" : Str)) = false := by decide) : PE X (.Name x pos) (tC (.int n)) := by
  obtain ⟨t, h⟩ := h
  exact pe_glob hg h ⟨t, rfl⟩ hd
def GStr (mg : Str → Option Value) (x : Str) (z : Str) : Prop := ∃ t, mg x = some (.str z t)
theorem pe_gstr {X : Cx} {x z : Str} {pos : Pos} (hg : Gl X x) (h : GStr X.mg x z) (hd : (x == ("__debug__" : Str)) = false := by decide) : PE X (.Name x pos) (tC (.str z)) := by
  obtain ⟨t, h⟩ := h
  exact pe_glob hg h ⟨t, rfl⟩ hd
/-- d[z] of a written dict -/
def RdK (K : PySem.W.Frag) (w : World) (p : Addr) (z : Str) (r : V) : Prop := ∃ (es : Array DictEntry) (n : Nat) (u0 : Value), K.lookup p = some ⟨.type "dict", none, .dict es n, #[]⟩ ∧ PySem.W.KeysLit w.params es.toList ∧ PySem.W.nsIn K p z = some (some u0) ∧ RelV r u0
def rRdK (K : PySem.W.Frag) (w : World) : R2 := fun x y H Q => ∃ (p : Addr) (z : Str) (r : V), x = .ref p ∧ y = .str z ∧ RdK K w p z r ∧ Q r H
theorem ix_kd {X : Cx} : IxR X (rRdK X.K X.w) := ix_kdict
section
variable {CX : CXT} {P : Program} {w : World} {K : PySem.W.Frag} {mg : Str → Option Value} {base : Heap} {N : List Str} {qual : Str} {scope : Scope} {f : Addr} {cd : Value} {A : Around} {outer : List Env} {s : Shared} {H : Hp} {E : XK}
theorem cx_K : (cxOf CX P w K mg base N qual scope f cd A outer s H E).K = K := rfl
theorem cx_w : (cxOf CX P w K mg base N qual scope f cd A outer s H E).w = w := rfl
end

/-! ### trees -/
inductive Tr where
  | num (n : Int) | name (x : Str) | fn (x : Str) (b : Tr) | call (f a : Tr) | plus (a b : Tr) | less (a b : Tr) | ite (c a b : Tr) | lt (x : Str) (e b : Tr)
  deriving DecidableEq
def Tr.kids : Tr → List Tr
  | .num _ => [] | .name _ => [] | .fn _ b => [b] | .call f a => [f, a] | .plus a b => [a, b] | .less a b => [a, b] | .ite c a b => [c, a, b] | .lt _ e b => [e, b]
def Tr.word : Tr → Str
  | .num _ => "num" | .name _ => "name" | .fn _ _ => "fun" | .call _ _ => "call" | .plus _ _ => "plus" | .less _ _ => "less" | .ite _ _ _ => "if" | .lt _ _ _ => "let"
/-- what stands behind the word, ahead of the parts -/
def Tr.own : Tr → List V
  | .num n => [.int n] | .name x => [.str x] | .fn x _ => [.str x] | .lt x _ _ => [.str x] | _ => []
def Tr.size : Tr → Nat
  | .num _ => 1 | .name _ => 1 | .fn _ b => 1 + b.size | .call f a => 1 + f.size + a.size | .plus a b => 1 + a.size + b.size | .less a b => 1 + a.size + b.size
  | .ite c a b => 1 + c.size + a.size + b.size | .lt _ e b => 1 + e.size + b.size
theorem Tr.size_pos : ∀ t : Tr, 0 < t.size := fun t => by cases t <;> simp only [Tr.size] <;> omega
def sizes (ts : List Tr) : Nat := (ts.map Tr.size).sum
theorem sizes_nil : sizes [] = 0 := rfl
theorem sizes_cons (t : Tr) (ts : List Tr) : sizes (t :: ts) = t.size + sizes ts := by simp [sizes]
theorem sizes_append (ts us : List Tr) : sizes (ts ++ us) = sizes ts + sizes us := by simp [sizes]
theorem Tr.size_kids (t : Tr) : t.size = 1 + sizes t.kids := by
  cases t <;> simp only [Tr.size, Tr.kids, sizes_cons, sizes_nil] <;> omega
theorem le_sizes : ∀ ts : List Tr, ts.length ≤ sizes ts
  | [] => Nat.le_refl _
  | t :: ts => by
    have := le_sizes ts
    have := t.size_pos
    rw [sizes_cons, List.length_cons]
    omega
theorem kids_le (t : Tr) : t.kids.length ≤ 3 := by cases t <;> simp [Tr.kids]
/-- the tree stands in the heap at v -/
def At (H : Hp) : Tr → V → Prop
  | .num n, v => ∃ a, v = .ref a ∧ H a = some (.tup [.str "num", .int n])
  | .name x, v => ∃ a, v = .ref a ∧ H a = some (.tup [.str "name", .str x])
  | .fn x b, v => ∃ a u, v = .ref a ∧ H a = some (.tup [.str "fun", .str x, u]) ∧ At H b u
  | .call f g, v => ∃ a u u', v = .ref a ∧ H a = some (.tup [.str "call", u, u']) ∧ At H f u ∧ At H g u'
  | .plus f g, v => ∃ a u u', v = .ref a ∧ H a = some (.tup [.str "plus", u, u']) ∧ At H f u ∧ At H g u'
  | .less f g, v => ∃ a u u', v = .ref a ∧ H a = some (.tup [.str "less", u, u']) ∧ At H f u ∧ At H g u'
  | .ite c f g, v => ∃ a u u' u'', v = .ref a ∧ H a = some (.tup [.str "if", u, u', u'']) ∧ At H c u ∧ At H f u' ∧ At H g u''
  | .lt x f g, v => ∃ a u u', v = .ref a ∧ H a = some (.tup [.str "let", .str x, u, u']) ∧ At H f u ∧ At H g u'
theorem At.mono {H H' : Hp} (k : KT H H') : ∀ {t : Tr} {v : V}, At H t v → At H' t v
  | .num _, _, ⟨a, e, h⟩ => ⟨a, e, k _ _ h⟩
  | .name _, _, ⟨a, e, h⟩ => ⟨a, e, k _ _ h⟩
  | .fn _ _, _, ⟨a, u, e, h, h1⟩ => ⟨a, u, e, k _ _ h, At.mono k h1⟩
  | .call _ _, _, ⟨a, u, u', e, h, h1, h2⟩ => ⟨a, u, u', e, k _ _ h, At.mono k h1, At.mono k h2⟩
  | .plus _ _, _, ⟨a, u, u', e, h, h1, h2⟩ => ⟨a, u, u', e, k _ _ h, At.mono k h1, At.mono k h2⟩
  | .less _ _, _, ⟨a, u, u', e, h, h1, h2⟩ => ⟨a, u, u', e, k _ _ h, At.mono k h1, At.mono k h2⟩
  | .ite _ _ _, _, ⟨a, u, u', u'', e, h, h1, h2, h3⟩ => ⟨a, u, u', u'', e, k _ _ h, At.mono k h1, At.mono k h2, At.mono k h3⟩
  | .lt _ _ _, _, ⟨a, u, u', e, h, h1, h2⟩ => ⟨a, u, u', e, k _ _ h, At.mono k h1, At.mono k h2⟩
abbrev Ats (H : Hp) (ts : List Tr) (vs : List V) : Prop := Paired (At H) ts vs
theorem Ats.mono {H H' : Hp} (k : KT H H') {ts : List Tr} {vs : List V} (h : Ats H ts vs) : Ats H' ts vs := Paired.mapP h fun _ _ => At.mono k
theorem At.view {H : Hp} {t : Tr} {v : V} (h : At H t v) : ∃ a ws, v = .ref a ∧ H a = some (.tup (.str t.word :: t.own ++ ws)) ∧ Ats H t.kids ws := by
  cases t with
  | num n => obtain ⟨a, e, h⟩ := h; exact ⟨a, [], e, h, .nil⟩
  | name x => obtain ⟨a, e, h⟩ := h; exact ⟨a, [], e, h, .nil⟩
  | fn x b => obtain ⟨a, u, e, h, h1⟩ := h; exact ⟨a, [u], e, h, .cons h1 .nil⟩
  | call f g => obtain ⟨a, u, u', e, h, h1, h2⟩ := h; exact ⟨a, [u, u'], e, h, .cons h1 (.cons h2 .nil)⟩
  | plus f g => obtain ⟨a, u, u', e, h, h1, h2⟩ := h; exact ⟨a, [u, u'], e, h, .cons h1 (.cons h2 .nil)⟩
  | less f g => obtain ⟨a, u, u', e, h, h1, h2⟩ := h; exact ⟨a, [u, u'], e, h, .cons h1 (.cons h2 .nil)⟩
  | ite c f g => obtain ⟨a, u, u', u'', e, h, h1, h2, h3⟩ := h; exact ⟨a, [u, u', u''], e, h, .cons h1 (.cons h2 (.cons h3 .nil))⟩
  | lt x f g => obtain ⟨a, u, u', e, h, h1, h2⟩ := h; exact ⟨a, [u, u'], e, h, .cons h1 (.cons h2 .nil)⟩
theorem Ats.append {H : Hp} : ∀ {ts us : List Tr} {vs ws : List V}, Ats H ts vs → Ats H us ws → Ats H (ts ++ us) (vs ++ ws)
  | _, _, _, _, .nil, h => h
  | _, _, _, _, .cons r t, h => .cons r (Ats.append t h)
theorem Ats.snoc_inv {H : Hp} : ∀ {ts : List Tr} {vs : List V} {v : V}, Ats H ts (vs ++ [v]) → ∃ us t, ts = us ++ [t] ∧ Ats H us vs ∧ At H t v
  | _, [], v, .cons r .nil => ⟨[], _, rfl, .nil, r⟩
  | _, u :: vs, v, .cons r t => by
    obtain ⟨us, x, e, h1, h2⟩ := Ats.snoc_inv t
    exact ⟨_ :: us, x, by rw [e]; rfl, .cons r h1, h2⟩
end My
namespace My
open PySem L2
open PyProof.Rows (envOfC)
section
variable {X : Cx}
def rPopL : V → List V → Hp → VK → Prop := fun x vs H Q => ∃ (l : Addr) (ys : List V) (y : V), x = .ref l ∧ vs = [] ∧ H l = some (.lst (ys ++ [y])) ∧ Q y (upd H l (.lst ys))
theorem mt_popL : MtM X "list.pop" rPopL := by
  intro pins s σ H x vs v us Q I rx rv h
  obtain ⟨l, ys, y, e1, e2, hH, q⟩ := h
  refine mt_pop pins s σ H x vs v us Q I rx rv ⟨l, ys ++ [y], y, e1, e2, hH, by simp, ?_⟩
  rw [List.dropLast_concat]
  exact q
end
/-- a loop while a list at a name is not empty -/
theorem whileL_ {K : PySem.W.Frag} {i : Nat} {tb : TS} {D : Ends} {σ : L2.St} {H : Hp} (W : Nat → L2.St → Hp → Prop) (m : Nat) (w0 : W m σ H)
    (h : ∀ m σ H, W m σ H → ∃ (l : Addr) (xs : List V), σ[i]? = some (some (.ref l)) ∧ H l = some (.lst xs) ∧ (xs = [] → D.nx σ H) ∧
      (∀ ys v, xs = ys ++ [v] → ∀ N : L2.St → Hp → Prop, (∀ m' σ' H', m' < m → W m' σ' H' → N σ' H') → tb { D with nx := N, ct := N, bk := D.nx } σ H)) :
    tWhile (fun σ H Q => tVar i σ H fun x H' => ∃ k, TruV K x H' k ∧ Q k H') tb D σ H := by
  refine ⟨W, ⟨m, w0⟩, fun m σ H w => ?_⟩
  obtain ⟨l, xs, e, hl, h0, h1⟩ := h m σ H w
  refine ⟨_, e, !xs.isEmpty, .inl ⟨xs, SqL.of hl, rfl⟩, ?_⟩
  rcases List.eq_nil_or_concat xs with r | ⟨ys, v, r⟩
  · subst r
    exact h0 rfl
  · rw [List.concat_eq_append] at r
    have hne : (!xs.isEmpty) = true := by rw [r]; simp
    rw [hne]
    exact ⟨fun σ' H' => ∃ m', m' < m ∧ W m' σ' H', fun _ _ n => n, h1 ys v r _ fun m' _ _ l w' => ⟨m', l, w'⟩⟩
end My
namespace My
open PySem L2
theorem pe_gref {X : Cx} {x : Str} {a : Addr} {pos : Pos} (hg : Gl X x) (h : X.mg x = some (.ref a)) (hd : (x == ("__debug__" : Str)) = false := by decide) : PE X (.Name x pos) (tC (.ref a)) := pe_glob hg h rfl hd
end My
namespace My
open PySem L2
theorem szL {n : Nat} (h : n ≤ 100000) : n ≤ sizeLine := Nat.le_trans h (by decide)
theorem szLt {n : Nat} (h : n ≤ 100000) : n < sizeLine := Nat.lt_of_le_of_lt h (by decide)
theorem none_ne {H : Hp} {a b : Addr} {o : HO} (h : H a = none) (h' : H b = some o) : a ≠ b := fun e => by rw [e, h'] at h; cases h
end My
namespace My
open PySem L2
/-! ### comprehensions -/
def LcGo (J : It) (g : TG) (tt : TT) (te : TE) (vs : List Nat) (σ : L2.St) (H1 : Hp) (Q : VK) : Prop := ∀ D, H1 D = none → ∃ W : Nat → Nat → Hp → Prop, (∃ m, W 0 m (upd H1 D (.lst []))) ∧ ∀ i m H, W i m H →
  (J.stop i H ∧ Q (.ref D) H) ∨ (J.go i H ∧ ∃ Nx : Hp → Prop, (∀ H', Nx H' → ∃ m', m' < m ∧ W (i + 1) m' H') ∧ ∀ x H', J.yld i H x H' → g x (wipe σ vs) H' fun σ2 H2 => wipe σ2 vs = wipe σ vs ∧ tt σ2 H2 fun b H3 =>
    if b = true then te σ2 H3 fun y H4 => ∃ acc, H4 D = some (.lst acc) ∧ acc.length < sizeLine ∧ Nx (upd H4 D (.lst (acc ++ [y]))) else Nx H3)
theorem tLc_eq {wi : TI} {g : TG} {tt : TT} {te : TE} {vs : List Nat} {σ : L2.St} {H : Hp} {Q : VK} : tLc wi g tt te vs σ H Q = wi σ H fun J H1 => LcGo J g tt te vs σ H1 Q := rfl
section
variable {K : PySem.W.Frag} {a : Addr} {xs : List V} {j : Nat} {tt : TT} {te : TE} {vs : List Nat} {σ : L2.St} {H1 : Hp} {Q : VK}
/-- what a turn has to show -/
def LcTurn (tt : TT) (te : TE) (σ2 : L2.St) (P : Nat → List V → Hp → Prop) (i : Nat) (acc : List V) (H : Hp) : Prop :=
  ∀ Qy : VK, (∀ y H4, Same H H4 → P (i + 1) (acc ++ [y]) H4 → Qy y H4) → ∀ Qn : Hp → Prop, (∀ H3, Same H H3 → P (i + 1) acc H3 → Qn H3) → tt σ2 H fun b H3 => if b = true then te σ2 H3 Qy else Qn H3
/-- the invariant behind i items -/
def LcInv (H1 : Hp) (D : Addr) (P : Nat → List V → Hp → Prop) (i : Nat) (H : Hp) : Prop := ∃ acc, H D = some (.lst acc) ∧ acc.length ≤ i ∧ Same H1 H ∧ P i acc H
theorem lc_turn {D : Addr} {P : Nat → List V → Hp → Prop} (mono : ∀ i acc H H', KT H H' → P i acc H → P i acc H') {i : Nat} {H : Hp} {σ2 : L2.St} (hD : H1 D = none) (hi : i ≤ 100000)
    (hp : LcInv H1 D P i H) (hs : ∀ acc, acc.length ≤ i → Same H1 H → P i acc H → LcTurn tt te σ2 P i acc H) :
    tt σ2 H fun b H3 => if b = true then te σ2 H3 fun y H4 => ∃ acc, H4 D = some (.lst acc) ∧ acc.length < sizeLine ∧ LcInv H1 D P (i + 1) (upd H4 D (.lst (acc ++ [y]))) else LcInv H1 D P (i + 1) H3 := by
  obtain ⟨acc, h1, h2, h3, h4⟩ := hp
  refine hs acc h2 h3 h4 _ (fun y H4 e p => ⟨acc, e _ _ h1, szLt (by omega), acc ++ [y], upd_same, by simp; omega, same_mut (h3.trans e) hD, mono _ _ _ _ (kt_lst (e _ _ h1)) p⟩) _
    (fun H3 e p => ⟨acc, e _ _ h1, by omega, h3.trans e, p⟩)
theorem lcL (P : Nat → List V → Hp → Prop) (mono : ∀ i acc H H', KT H H' → P i acc H → P i acc H') (hx : SqL K H1 a xs) (hl : xs.length ≤ 100000) (hw : ∀ x, wipe ((wipe σ vs).set j (some x)) vs = wipe σ vs) (h0 : P 0 [] H1)
    (hs : ∀ i x acc H, xs[i]? = some x → acc.length ≤ i → Same H1 H → P i acc H → LcTurn tt te ((wipe σ vs).set j (some x)) P i acc H)
    (hq : ∀ D ys H', H1 D = none → Same H1 H' → H' D = some (.lst ys) → P xs.length ys H' → Q (.ref D) H') : LcGo (Itl K a) (gName j) tt te vs σ H1 Q := fun D hD =>
  lc_list (xs := xs) (LcInv H1 D P) ⟨[], upd_same, Nat.zero_le _, same_new hD, mono _ _ _ _ (kt_new hD) h0⟩ (fun i H _ ⟨_, _, _, e, _⟩ => e.seq hx)
    (fun i x H hi p => ⟨hw x, lc_turn mono hD (by have := (List.getElem?_eq_some_iff.mp hi).1; omega) p fun acc h2 h3 h4 => hs i x acc H hi h2 h3 h4⟩)
    (fun H ⟨acc, h1, h2, h3, h4⟩ => hq D acc H hD h3 h1 h4)
theorem Same_seqT {H H' : Hp} (e : Same H H') (h : SqT K H a xs) : SqT K H' a xs := by
  rcases h with (h | ⟨o, h⟩) | h
  · exact .inl (.inl (e _ _ h))
  · exact .inl (.inr ⟨o, e _ _ h⟩)
  · exact .inr h
theorem lcT (P : Nat → List V → Hp → Prop) (mono : ∀ i acc H H', KT H H' → P i acc H → P i acc H') (hx : SqT K H1 a xs) (hl : xs.length ≤ 100000) (hw : ∀ x, wipe ((wipe σ vs).set j (some x)) vs = wipe σ vs) (h0 : P 0 [] H1)
    (hs : ∀ i x acc H, xs[i]? = some x → acc.length ≤ i → Same H1 H → P i acc H → LcTurn tt te ((wipe σ vs).set j (some x)) P i acc H)
    (hq : ∀ D ys H', H1 D = none → Same H1 H' → H' D = some (.lst ys) → P xs.length ys H' → Q (.ref D) H') : LcGo (Itt K a) (gName j) tt te vs σ H1 Q := fun D hD =>
  lc_tup (xs := xs) (LcInv H1 D P) ⟨[], upd_same, Nat.zero_le _, same_new hD, mono _ _ _ _ (kt_new hD) h0⟩ (fun i H _ ⟨_, _, _, e, _⟩ => Same_seqT e hx)
    (fun i x H hi p => ⟨hw x, lc_turn mono hD (by have := (List.getElem?_eq_some_iff.mp hi).1; omega) p fun acc h2 h3 h4 => hs i x acc H hi h2 h3 h4⟩)
    (fun H ⟨acc, h1, h2, h3, h4⟩ => hq D acc H hD h3 h1 h4)
theorem lcR {lo : Int} {n : Nat} (P : Nat → List V → Hp → Prop) (mono : ∀ i acc H H', KT H H' → P i acc H → P i acc H') (hl : n ≤ 100000) (hw : ∀ x, wipe ((wipe σ vs).set j (some x)) vs = wipe σ vs) (h0 : P 0 [] H1)
    (hs : ∀ i acc H, i < n → acc.length ≤ i → Same H1 H → P i acc H → LcTurn tt te ((wipe σ vs).set j (some (.int (lo + i)))) P i acc H)
    (hq : ∀ D ys H', H1 D = none → Same H1 H' → H' D = some (.lst ys) → P n ys H' → Q (.ref D) H') : LcGo (Itr lo n) (gName j) tt te vs σ H1 Q := fun D hD =>
  lc_range (LcInv H1 D P) ⟨[], upd_same, Nat.zero_le _, same_new hD, mono _ _ _ _ (kt_new hD) h0⟩
    (fun i H hi p => ⟨hw _, lc_turn mono hD (by omega) p fun acc h2 h3 h4 => hs i acc H hi h2 h3 h4⟩)
    (fun H ⟨acc, h1, h2, h3, h4⟩ => hq D acc H hD h3 h1 h4)
/-- a copy -/
theorem lcT_copy (hx : SqT K H1 a xs) (hl : xs.length ≤ 100000) (hw : ∀ x, wipe ((wipe σ vs).set j (some x)) vs = wipe σ vs) (hj : ∀ x, ((wipe σ vs).set j (some x))[j]? = some (some x))
    (hq : ∀ D H', H1 D = none → Same H1 H' → H' D = some (.lst xs) → Q (.ref D) H') : LcGo (Itt K a) (gName j) tYes (tVar j) vs σ H1 Q := by
  refine lcT (fun i acc _ => acc = xs.take i) (fun _ _ _ _ _ h => h) hx hl hw rfl (fun i x acc H hi _ _ hp Qy hy Qn hn => ?_) (fun D ys H' hD e h p => hq D H' hD e (by rw [h, p, List.take_length]))
  show tVar j _ H Qy
  refine ⟨x, hj x, hy x H (Same.refl H) ?_⟩
  rw [hp]
  obtain ⟨h1, h2⟩ := List.getElem?_eq_some_iff.mp hi
  rw [List.take_succ, hi]
  rfl
end
end My
namespace My
open PySem L2
def Tr.leaf : Tr → Bool | .num _ => true | .name _ => true | _ => false
def Tr.binds : Tr → Bool | .fn _ _ => true | .lt _ _ _ => true | _ => false
theorem in_leaf (t : Tr) : inV (V.str t.word) [V.str "num", V.str "name"] = t.leaf := by cases t <;> simp only [Tr.word, Tr.leaf] <;> decide +kernel
theorem in_binds (t : Tr) : inV (V.str t.word) [V.str "fun", V.str "let"] = t.binds := by cases t <;> simp only [Tr.word, Tr.binds] <;> decide +kernel
end My
namespace My
open PySem L2
theorem ifs_ {c : TT} {t u : TS} {D : Ends} {σ : L2.St} {H : Hp} (h : ∀ A B : Hp → Prop, A = (fun H1 => t D σ H1) → B = (fun H1 => u D σ H1) → c σ H fun b H1 => if b = true then A H1 else B H1) : tIfS c t u D σ H := h _ _ rfl rfl
theorem ifq_ {c : TT} {t u r : TS} {D : Ends} {σ : L2.St} {H : Hp} (h : ∀ (R : L2.St → Hp → Prop) (A B : Hp → Prop), R = r D → A = (fun H1 => t { D with nx := R } σ H1) → B = (fun H1 => u { D with nx := R } σ H1) → c σ H fun b H1 => if b = true then A H1 else B H1) : tSeq (tIfS c t u) r D σ H := h _ _ _ rfl rfl rfl
/-- xs[m % n], n the length -/
theorem at_mod {α : Type} {xs : List α} (f : α → V) (h : 0 < xs.length) (m : Int) : ∃ x ∈ xs, atI (xs.map f) (m % (xs.length : Int)) = some (f x) := by
  have h0 : 0 ≤ m % (xs.length : Int) := Int.emod_nonneg _ (by omega)
  have h1 : m % (xs.length : Int) < xs.length := Int.emod_lt_of_pos _ (by omega)
  obtain ⟨k, hk⟩ : ∃ k : Nat, m % (xs.length : Int) = (k : Int) := ⟨(m % (xs.length : Int)).toNat, by omega⟩
  rw [hk] at h1 ⊢
  have hk' : k < xs.length := by omega
  refine ⟨xs[k], List.getElem_mem _, atI_nat ?_⟩
  rw [List.getElem?_map, List.getElem?_eq_getElem hk']
  rfl
theorem ixN_last {α : Type} (xs : List α) (v : α) : ixN (xs ++ [v]).length (-1) = some xs.length := by
  have hl : (xs ++ [v]).length = xs.length + 1 := by simp
  unfold ixN
  rw [hl, if_neg (by decide), if_pos (by omega)]
  congr 1
  omega
theorem set_last {α : Type} (xs : List α) (v w : α) : (xs ++ [v]).set xs.length w = xs ++ [w] := by simp
/-! ### what stands in a tree -/
def Tr.all (S : Str → Prop) (N : Int → Prop) : Tr → Prop
  | .num n => N n | .name x => S x | .fn x b => S x ∧ b.all S N | .call f a => f.all S N ∧ a.all S N | .plus a b => a.all S N ∧ b.all S N | .less a b => a.all S N ∧ b.all S N
  | .ite c a b => c.all S N ∧ a.all S N ∧ b.all S N | .lt x e b => S x ∧ e.all S N ∧ b.all S N
/-- a list of trees at l, over a heap H0 that did not know l -/
structure Stk (H0 : Hp) (l : Addr) (S : Str → Prop) (N : Int → Prop) (H : Hp) (vs : List V) (ts : List Tr) : Prop where
  same : Same H0 H
  at_ : H l = some (.lst vs)
  ats : Ats H ts vs
  all : ∀ t ∈ ts, t.all S N
section
variable {H0 H H' : Hp} {l : Addr} {S : Str → Prop} {N : Int → Prop} {vs : List V} {ts : List Tr} {t u : Tr} {r v : V}
theorem Stk.ext (s : Stk H0 l S N H vs ts) (e : Same H H') : Stk H0 l S N H' vs ts := ⟨s.same.trans e, e _ _ s.at_, s.ats.mono (same_kt e), s.all⟩
theorem Stk.len (s : Stk H0 l S N H vs ts) : ts.length = vs.length := Paired.length s.ats
theorem Stk.push (s : Stk H0 l S N H vs ts) (hl : H0 l = none) (h : At H t r) (ha : t.all S N) : Stk H0 l S N (upd H l (.lst (vs ++ [r]))) (vs ++ [r]) (ts ++ [t]) :=
  ⟨same_mut s.same hl, upd_same, (Ats.append s.ats (.cons h .nil)).mono (kt_lst s.at_), fun x hx => by
    rcases List.mem_append.mp hx with hx | hx
    · exact s.all x hx
    · rw [List.mem_singleton.mp hx]; exact ha⟩
theorem Stk.top (s : Stk H0 l S N H (vs ++ [v]) ts) : ∃ us t, ts = us ++ [t] ∧ At H t v ∧ t.all S N ∧ Ats H us vs ∧ ∀ x ∈ us, x.all S N := by
  obtain ⟨us, t, e, h1, h2⟩ := Ats.snoc_inv s.ats
  exact ⟨us, t, e, h2, s.all t (by rw [e]; simp), h1, fun x hx => s.all x (by rw [e]; simp [hx])⟩
theorem Stk.pop (s : Stk H0 l S N H (vs ++ [v]) (ts ++ [t])) (hl : H0 l = none) : Stk H0 l S N (upd H l (.lst vs)) vs ts ∧ At H t v ∧ t.all S N := by
  obtain ⟨us, u, e, h2, h3, h1, h4⟩ := s.top
  obtain ⟨rfl, e2⟩ := List.append_inj' e rfl
  obtain rfl : t = u := by simpa using e2
  exact ⟨⟨same_mut s.same hl, upd_same, h1.mono (kt_lst s.at_), h4⟩, h2, h3⟩
theorem Stk.put (s : Stk H0 l S N H (vs ++ [v]) (ts ++ [t])) (hl : H0 l = none) (h : At H u r) (ha : u.all S N) : Stk H0 l S N (upd H l (.lst (vs ++ [r]))) (vs ++ [r]) (ts ++ [u]) := by
  obtain ⟨us, u', e, h2, h3, h1, h4⟩ := s.top
  obtain ⟨rfl, e2⟩ := List.append_inj' e rfl
  refine ⟨same_mut s.same hl, upd_same, (Ats.append h1 (.cons h .nil)).mono (kt_lst s.at_), fun x hx => ?_⟩
  rcases List.mem_append.mp hx with hx | hx
  · exact h4 x hx
  · rw [List.mem_singleton.mp hx]; exact ha
end
end My
namespace My
open PySem L2
/-! ### a new object -/
def New (H : Hp) (o : HO) (G : Addr → Hp → Prop) : Prop := ∀ p, H p = none → G p (upd H p o)
theorem new_ {H : Hp} {o : HO} {G : Addr → Hp → Prop} (h : ∀ p H', H p = none → Same H H' → H' p = some o → G p H') : New H o G := fun p hp => h p _ hp (same_new hp) upd_same
theorem tTup_eq {t : TA} {σ : L2.St} {H : Hp} {Q : VK} : tTup t σ H Q = t σ H fun xs H1 => xs.length ≤ sizeLine ∧ New H1 (.tup xs) fun p H2 => Q (.ref p) H2 := rfl
theorem tLst_eq {t : TA} {σ : L2.St} {H : Hp} {Q : VK} : tLst t σ H Q = t σ H fun xs H1 => xs.length ≤ sizeLine ∧ New H1 (.lst xs) fun p H2 => Q (.ref p) H2 := rfl
theorem rSlT_eq {K : PySem.W.Frag} {x : V} {lo hi : Option Int} {H : Hp} {Q : VK} : rSlT K x lo hi H Q = ∃ a xs, x = .ref a ∧ SqT K H a xs ∧
  ¬ (HT.sIx xs.length 0 lo = 0 ∧ HT.sIx xs.length xs.length hi = xs.length) ∧ New H (.tup (cutV xs lo hi)) fun p H2 => Q (.ref p) H2 := rfl
theorem rSlL_eq {K : PySem.W.Frag} {x : V} {lo hi : Option Int} {H : Hp} {Q : VK} : rSlL K x lo hi H Q = ∃ a xs, x = .ref a ∧ SqL K H a xs ∧ New H (.lst (cutV xs lo hi)) fun p H2 => Q (.ref p) H2 := rfl
theorem tDNewK_eq {σ : L2.St} {H : Hp} {Q : VK} : tDNewK σ H Q = New H (.dK []) fun p H2 => Q (.ref p) H2 := rfl
theorem tRevL_eq {K : PySem.W.Frag} {te : TE} {σ : L2.St} {H : Hp} {Q : VK} : tRevL K te σ H Q = te σ H fun x H1 => ∃ a xs, x = .ref a ∧ SqL K H1 a xs ∧ New H1 (.lst xs.reverse) fun p H2 => Q (.ref p) H2 := rfl
/-- 1 ≤ the line, for written displays -/
theorem sz0 : ([] : List V).length ≤ sizeLine := szL (by simp)
theorem sz1 {a : V} : [a].length ≤ sizeLine := szL (by simp)
theorem sz2 {a b : V} : [a, b].length ≤ sizeLine := szL (by simp)
theorem sz3 {a b c : V} : [a, b, c].length ≤ sizeLine := szL (by simp)
theorem sz4 {a b c d : V} : [a, b, c, d].length ≤ sizeLine := szL (by simp)
theorem sz5 {a b c d e : V} : [a, b, c, d, e].length ≤ sizeLine := szL (by simp)
theorem sz8 {a b c d e f g h : V} : [a, b, c, d, e, f, g, h].length ≤ sizeLine := szL (by simp)
end My
namespace My
open PySem L2
theorem whileB_ {c : TT} {tb : TS} {D : Ends} {σ : L2.St} {H : Hp} (W : Nat → L2.St → Hp → Prop) (m : Nat) (w0 : W m σ H)
    (h : ∀ m σ H, W m σ H → ∀ A B : Hp → Prop, (∀ H1, (∀ N : L2.St → Hp → Prop, (∀ m' σ' H', m' < m → W m' σ' H' → N σ' H') → tb { D with nx := N, ct := N, bk := D.nx } σ H1) → A H1) → (∀ H1, D.nx σ H1 → B H1) →
      c σ H fun b H1 => if b = true then A H1 else B H1) : tWhile c tb D σ H :=
  ⟨W, ⟨m, w0⟩, fun m σ H w => h m σ H w (fun H1 => ∃ N : L2.St → Hp → Prop, (∀ σ' H', N σ' H' → ∃ m', m' < m ∧ W m' σ' H') ∧ tb { D with nx := N, ct := N, bk := D.nx } σ H1) (fun H1 => D.nx σ H1)
    (fun H1 a => ⟨fun σ' H' => ∃ m', m' < m ∧ W m' σ' H', fun _ _ n => n, a _ fun m' _ _ l w' => ⟨m', l, w'⟩⟩) fun _ b => b⟩
end My
namespace My
open PySem L2
theorem pr_append {α β : Type} {R : α → β → Prop} : ∀ {ts us : List α} {vs ws : List β}, Paired R ts vs → Paired R us ws → Paired R (ts ++ us) (vs ++ ws)
  | _, _, _, _, .nil, h => h
  | _, _, _, _, .cons r t, h => .cons r (pr_append t h)
theorem pr_snoc {α β : Type} {R : α → β → Prop} : ∀ {ts : List α} {vs : List β} {v : β}, Paired R ts (vs ++ [v]) → ∃ us t, ts = us ++ [t] ∧ Paired R us vs ∧ R t v
  | _, [], v, .cons r .nil => ⟨[], _, rfl, .nil, r⟩
  | _, u :: vs, v, .cons r t => by
    obtain ⟨us, x, e, h1, h2⟩ := pr_snoc t
    exact ⟨_ :: us, x, by rw [e]; rfl, .cons r h1, h2⟩
theorem pr_len {α β : Type} {R : α → β → Prop} {ts : List α} {vs : List β} (h : Paired R ts vs) : ts.length = vs.length := Paired.length h
theorem pr_mono {α β : Type} {R S : α → β → Prop} {ts : List α} {vs : List β} (h : Paired R ts vs) (f : ∀ a b, R a b → S a b) : Paired S ts vs := Paired.mapP h f
/-- a list, changed at its end alone; what H0 did not know -/
theorem same_put {H0 H : Hp} {l : Addr} {o : HO} (e : Same H0 H) (hl : H0 l = none) : Same H0 (upd H l o) := same_mut e hl
end My
namespace My
open PySem L2
theorem scal_ii {i j : Int} : scal (.int i) (.int j) = true := rfl
theorem scal_ss {i j : Str} : scal (.str i) (.str j) = true := rfl
theorem scal_bb {i j : Bool} : scal (.bl i) (.bl j) = true := rfl
theorem scal_is {i : Int} {j : Str} : scal (.int i) (.str j) = true := rfl
theorem scal_si {i : Str} {j : Int} : scal (.str i) (.int j) = true := rfl
theorem word_name {t : Tr} (h : t.word = "name") : ∃ y, t = .name y := by
  cases t <;> first
    | exact ⟨_, rfl⟩
    | exact absurd h (by simp only [Tr.word]; decide +kernel)
theorem word_fun {t : Tr} (h : t.word = "fun") : ∃ y b, t = .fn y b := by
  cases t <;> first
    | exact ⟨_, _, rfl⟩
    | exact absurd h (by simp only [Tr.word]; decide +kernel)
theorem word_let {t : Tr} (h : t.word = "let") : ∃ y e b, t = .lt y e b := by
  cases t <;> first
    | exact ⟨_, _, _, rfl⟩
    | exact absurd h (by simp only [Tr.word]; decide +kernel)
theorem at0 (x : V) (xs : List V) : atI (x :: xs) 0 = some x := atI_nat (j := 0) rfl
theorem at1 (x y : V) (xs : List V) : atI (x :: y :: xs) 1 = some y := atI_nat (j := 1) rfl
theorem at2 (x y z : V) (xs : List V) : atI (x :: y :: z :: xs) 2 = some z := atI_nat (j := 2) rfl
theorem at3 (x y z u : V) (xs : List V) : atI (x :: y :: z :: u :: xs) 3 = some u := atI_nat (j := 3) rfl
end My
namespace My
open PySem L2
/-! ### a tuple compared with itself -/
def rNeSelf (K : PySem.W.Frag) : R2 := fun x y H Q => ∃ (a : Addr) (xs : List V), x = .ref a ∧ y = .ref a ∧ SqT K H a xs ∧ Q (.bl false) H
theorem op_ne_self {X : Cx} (hu : X.A.units < cLine) : OpR X (compareOp .NotEq) (rNeSelf X.K) := by
  intro pins s σ H x y v u Q I rx ry h
  obtain ⟨a, xs, rfl, rfl, ha, q⟩ := h
  cases rx
  cases ry
  obtain ⟨its, r1, p1, _⟩ := I.tuple ha
  refine SeqAt.RcNeAt.tuples (e := fun _ => true) (show s.heap.IsTuple a its.toArray from p1) (show s.heap.IsTuple a its.toArray from p1) hu (fun j h1 h2 => SeqAt.EqAt.same _) X.prog X.w X.xe _ ?_
  refine ⟨.bl false, H, I, ?_, q⟩
  show Value.bool _ = Value.bool false
  congr 1
  simp
end My
namespace My
open PySem L2
section
variable {K : PySem.W.Frag} {H : Hp} {a : Addr} {xs : List V}
theorem isi_ll (h : H a = some (.lst xs)) : TyX K H (.ref a) (.type "list") ∧ PySem.W.kitOne K (.type "list") (.type "list") = some true := ⟨.base (.lst h), kit_ty (by decide +kernel)⟩
theorem isi_tt (h : H a = some (.tup xs)) : TyX K H (.ref a) (.type "tuple") ∧ PySem.W.kitOne K (.type "tuple") (.type "tuple") = some true := ⟨.base (.tup h), kit_ty (by decide +kernel)⟩
theorem isi_ss (x : Str) : TyX K H (.str x) (.type "str") ∧ PySem.W.kitOne K (.type "str") (.type "str") = some true := ⟨.base (.str x), kit_ty (by decide +kernel)⟩
theorem isi_ii (i : Int) : TyX K H (.int i) (.type "int") ∧ PySem.W.kitOne K (.type "int") (.type "int") = some true := ⟨.base (.int i), kit_ty (by decide +kernel)⟩
theorem isi_ib (i : Int) : TyX K H (.int i) (.type "int") ∧ PySem.W.kitOne K (.type "int") (.type "bool") = some false := ⟨.base (.int i), kit_ty (by decide +kernel)⟩
/-- what isinstance asks, answered -/
theorem isi_ {x : V} {T n : String} {b : Bool} {G : Bool → Prop} (h : TyX K H x (.type T) ∧ PySem.W.kitOne K (.type T) (.type n) = some b) (g : G b) :
    ∃ t u, ClsV (.ty n) u ∧ TyX K H x t ∧ ∃ b, PySem.W.kitOne K t u = some b ∧ G b := ⟨_, _, .ty _, h.1, b, h.2, g⟩
end
/-- a list of ints, of texts, by its places -/
theorem map_at {α : Type} {xs : List α} {f : α → V} {i : Nat} {y : V} (h : (xs.map f)[i]? = some y) : ∃ (hi : i < xs.length), y = f xs[i] := by
  obtain ⟨h1, h2⟩ := List.getElem?_eq_some_iff.mp h
  have h3 : i < xs.length := by rwa [List.length_map] at h1
  exact ⟨h3, by rw [← h2, List.getElem_map]⟩
end My
namespace My
open PySem L2
def ForGo (J : It) (g : TG) (tb : TS) (D : Ends) (σ : L2.St) (H1 : Hp) : Prop := ∃ W : Nat → Nat → L2.St → Hp → Prop, (∃ m, W 0 m σ H1) ∧ ∀ i m σ H, W i m σ H →
  (J.stop i H ∧ D.nx σ H) ∨ (J.go i H ∧ ∃ N : L2.St → Hp → Prop, (∀ σ' H', N σ' H' → ∃ m', m' < m ∧ W (i + 1) m' σ' H') ∧ ∀ x H', J.yld i H x H' → g x σ H' fun σ2 H2 => tb { D with nx := N, ct := N, bk := D.nx } σ2 H2)
theorem tFor_eq {wi : TI} {g : TG} {tb : TS} {D : Ends} {σ : L2.St} {H : Hp} : tFor wi g tb D σ H = wi σ H fun J H1 => ForGo J g tb D σ H1 := rfl
theorem forR {lo : Int} {n : Nat} {g : TG} {tb : TS} {D : Ends} {σ : L2.St} {H : Hp} (Pv : Nat → L2.St → Hp → Prop) (h0 : Pv 0 σ H)
    (hs : ∀ i σ H, i < n → Pv i σ H → ∀ N : L2.St → Hp → Prop, (∀ σ' H', Pv (i + 1) σ' H' → N σ' H') → g (.int (lo + i)) σ H fun σ2 H2 => tb { D with nx := N, ct := N, bk := D.nx } σ2 H2) (hd : ∀ σ H, Pv n σ H → D.nx σ H) : ForGo (Itr lo n) g tb D σ H :=
  for_range Pv h0 (fun i σ H hi p => hs i σ H hi p _ fun _ _ z => z) hd
theorem forL {K : PySem.W.Frag} {a : Addr} {xs : List V} {g : TG} {tb : TS} {D : Ends} {σ : L2.St} {H : Hp} (Pv : Nat → L2.St → Hp → Prop) (h0 : Pv 0 σ H) (hl : ∀ i σ H, i ≤ xs.length → Pv i σ H → SqL K H a xs)
    (hs : ∀ i x σ H, xs[i]? = some x → Pv i σ H → ∀ N : L2.St → Hp → Prop, (∀ σ' H', Pv (i + 1) σ' H' → N σ' H') → g x σ H fun σ2 H2 => tb { D with nx := N, ct := N, bk := D.nx } σ2 H2) (hd : ∀ σ H, Pv xs.length σ H → D.nx σ H) : ForGo (Itl K a) g tb D σ H :=
  for_list Pv h0 hl (fun i x σ H hi p => hs i x σ H hi p _ fun _ _ z => z) hd
theorem forT {K : PySem.W.Frag} {a : Addr} {xs : List V} {g : TG} {tb : TS} {D : Ends} {σ : L2.St} {H : Hp} (Pv : Nat → L2.St → Hp → Prop) (h0 : Pv 0 σ H) (hl : ∀ i σ H, i ≤ xs.length → Pv i σ H → SqT K H a xs)
    (hs : ∀ i x σ H, xs[i]? = some x → Pv i σ H → ∀ N : L2.St → Hp → Prop, (∀ σ' H', Pv (i + 1) σ' H' → N σ' H') → g x σ H fun σ2 H2 => tb { D with nx := N, ct := N, bk := D.nx } σ2 H2) (hd : ∀ σ H, Pv xs.length σ H → D.nx σ H) : ForGo (Itt K a) g tb D σ H :=
  for_tup Pv h0 hl (fun i x σ H hi p => hs i x σ H hi p _ fun _ _ z => z) hd
end My
namespace My
open PySem L2
theorem pr_right {α β : Type} {R : α → β → Prop} : ∀ {xs : List α} {ys : List β} {i : Nat} {y : β}, Paired R xs ys → ys[i]? = some y → ∃ x, xs[i]? = some x ∧ R x y
  | _, _, _, _, .nil, e => by simp at e
  | _, _, 0, _, .cons r _, e => by simp at e; subst e; exact ⟨_, rfl, r⟩
  | _, _, i + 1, y, .cons _ t, e => by
    obtain ⟨u, h1, h2⟩ := pr_right (i := i) (y := y) t (by simpa using e)
    exact ⟨u, by simpa using h1, h2⟩
theorem pr_left {α β : Type} {R : α → β → Prop} : ∀ {xs : List α} {ys : List β} {i : Nat} {x : α}, Paired R xs ys → xs[i]? = some x → ∃ y, ys[i]? = some y ∧ R x y
  | _, _, _, _, .nil, e => by simp at e
  | _, _, 0, _, .cons r _, e => by simp at e; subst e; exact ⟨_, rfl, r⟩
  | _, _, i + 1, y, .cons _ t, e => by
    obtain ⟨u, h1, h2⟩ := pr_left (i := i) (x := y) t (by simpa using e)
    exact ⟨u, by simpa using h1, h2⟩
end My
namespace My
open PySem L2
/-- xs[:-1] -/
theorem cut_butlast (xs : List V) (v : V) : cutV (xs ++ [v]) none (some (-1)) = xs := by
  unfold cutV
  have hl : (xs ++ [v]).length = xs.length + 1 := by simp
  have e : HT.sIx (xs ++ [v]).length (xs ++ [v]).length (some (-1)) = xs.length := by
    show (if (-1 : Int) < 0 then ((-1 : Int) + ((xs ++ [v]).length : Int)).toNat else min (-1 : Int).toNat (xs ++ [v]).length) = xs.length
    rw [if_pos (by decide), hl]
    omega
  rw [HT.sIx_none, e]
  simp
theorem new2 {H : Hp} {G : Addr → Hp → Prop} {o : Addr → HO} (h : ∀ p H', H p = none → Same H H' → H' p = some (o p) → G p H') : ∀ p, H p = none → G p (upd H p (o p)) := fun p hp => h p _ hp (same_new hp) upd_same
end My
namespace My
open PySem L2
/-! ### texts by their signs -/
def mkS (l : List Nat) : Str := ⟨l.toArray⟩
theorem mkS_of (z : Str) : z = mkS z.cps.toList := by cases z; rfl
theorem mkS_cps (l : List Nat) : (mkS l).cps.toList = l := rfl
theorem mkS_len (l : List Nat) : (mkS l).length = l.length := by show l.toArray.size = _; simp
theorem mkS_inj {a b : List Nat} (h : mkS a = mkS b) : a = b := by
  have := congrArg (fun z : Str => z.cps.toList) h
  exact this
theorem mkS_app (a b : List Nat) : mkS a ++ mkS b = mkS (a ++ b) := by
  show (⟨a.toArray ++ b.toArray⟩ : Str) = _
  simp [mkS]
theorem mkS_nil : mkS [] = Str.ofString "" := by decide +kernel
theorem mkS_hi (l : List Nat) (k : Nat) (h : k ≤ l.length) : cutS (mkS l) none (some (k : Int)) = mkS (l.take k) := by
  unfold cutS
  rw [mkS_len, HT.sIx_none, HT.sIx_nat, Nat.min_eq_left h, mkS_cps]
  simp [mkS]
theorem mkS_lo (l : List Nat) (k : Nat) (h : k ≤ l.length) : cutS (mkS l) (some (k : Int)) none = mkS (l.drop k) := by
  unfold cutS
  rw [mkS_len, HT.sIx_none, HT.sIx_nat, Nat.min_eq_left h, mkS_cps]
  have : (l.drop k).take (l.length - k) = l.drop k := List.take_of_length_le (by rw [List.length_drop]; exact Nat.le_refl _)
  rw [this]
  rfl
/-- the letters -/
def abc : List Nat := List.range' 97 26
theorem abc_eq : Str.ofString "abcdefghijklmnopqrstuvwxyz" = mkS abc := by decide +kernel
/-- the letter at a place -/
def lett (m : Int) : Nat := 97 + (m % 26).toNat
theorem lett_at (m : Int) : atI (mkS abc).cps.toList (m % 26) = some (lett m) := by
  have h0 : 0 ≤ m % 26 := Int.emod_nonneg _ (by decide)
  have h1 : m % 26 < 26 := Int.emod_lt_of_pos _ (by decide)
  obtain ⟨k, hk⟩ : ∃ k : Nat, m % 26 = (k : Int) := ⟨(m % 26).toNat, by omega⟩
  unfold lett
  rw [hk, Int.toNat_natCast, mkS_cps]
  refine atI_nat ?_
  rw [abc, List.getElem?_range' (by omega)]
  simp
theorem lett_lt (m : Int) : 97 ≤ lett m ∧ lett m < 123 := by
  have h0 : 0 ≤ m % 26 := Int.emod_nonneg _ (by decide)
  have h1 : m % 26 < 26 := Int.emod_lt_of_pos _ (by decide)
  unfold lett
  omega
theorem one_sign (c : Nat) : (⟨#[c]⟩ : Str) = mkS [c] := rfl
def reserved : List (List Nat) := [[110, 117, 109], [110, 97, 109, 101], [102, 117, 110], [99, 97, 108, 108], [112, 108, 117, 115], [108, 101, 115, 115], [105, 102], [108, 101, 116]]
theorem reserved_eq : [V.str "num", V.str "name", V.str "fun", V.str "call", V.str "plus", V.str "less", V.str "if", V.str "let"] = reserved.map fun l => V.str (mkS l) := by decide +kernel
theorem in_reserved (l : List Nat) : inV (V.str (mkS l)) [V.str "num", V.str "name", V.str "fun", V.str "call", V.str "plus", V.str "less", V.str "if", V.str "let"] = decide (l ∈ reserved) := by
  rw [reserved_eq]
  unfold inV
  rw [List.any_map, Bool.eq_iff_iff]
  simp only [List.any_eq_true, decide_eq_true_eq, Function.comp]
  constructor
  · rintro ⟨x, hx, h⟩
    have h : (mkS x == mkS l) = true := h
    rw [← mkS_inj (eq_of_beq h)]
    exact hx
  · intro h
    exact ⟨l, h, (show (mkS l == mkS l) = true from beq_self_eq_true _)⟩
/-- a word of a letter within others -/
def wordOf (o : List Nat) (k c : Nat) : List Nat := if o.take k ++ [c] ++ o.drop k ∈ reserved then [c] else o.take k ++ [c] ++ o.drop k
theorem wordOf_len (o : List Nat) (k c : Nat) : (wordOf o k c).length ≤ o.length + 1 ∧ 1 ≤ (wordOf o k c).length := by
  unfold wordOf
  split
  · simp
  · simp only [List.length_append, List.length_singleton, List.length_take, List.length_drop]
    omega
theorem wordOf_inj {o : List Nat} {k c c' : Nat} (h : wordOf o k c = wordOf o k c') : c = c' := by
  have key : ∀ {a b : Nat}, [a] = o.take k ++ [b] ++ o.drop k → a = b := by
    intro a b e
    have hl := congrArg List.length e
    simp only [List.length_append, List.length_singleton, List.length_take, List.length_drop] at hl
    have h0 : o = [] := List.length_eq_zero_iff.mp (by omega)
    subst h0
    simpa using e
  unfold wordOf at h
  split at h
  · split at h
    · simpa using h
    · exact key h
  · split at h
    · exact (key h.symm).symm
    · rw [List.append_assoc, List.append_assoc] at h
      have := List.append_cancel_left h
      simpa using this
/-- the names that the laws make of a cell; m is the law's own step -/
def othersOf (m : Int) (c : Int) : List Nat := (List.range (c / 26 % 8).toNat).map fun (t : Nat) => lett (c / 208 + m * (t : Int))
def nameBy (m : Int) (c : Int) : List Nat := wordOf (othersOf m c) (c / 208 % ((othersOf m c).length + 1 : Int)).toNat (lett c)
theorem othersOf_len (m c : Int) : (othersOf m c).length ≤ 7 := by
  have h0 : 0 ≤ c / 26 % 8 := Int.emod_nonneg _ (by decide)
  have h1 : c / 26 % 8 < 8 := Int.emod_lt_of_pos _ (by decide)
  simp only [othersOf, List.length_map, List.length_range]
  omega
end My
namespace My
open PySem L2
open PyProof.Rows
/-! ### s[::-1] -/
def tRevS (te : TE) : TE := fun σ H Q => te σ H fun x H1 => ∃ z : Str, x = .str z ∧ z.length ≤ sizeLine ∧ Q (.str (mkS z.cps.toList.reverse)) H1
theorem pe_revS {X : Cx} {e : Expr} {te : TE} {k : Nat} {p1 p2 p3 pos : Pos} (he : PE X e te) : PE X (.Subscript e (.Slice none none (some (.UnaryOp .USub (.Constant (.int 1) k p1) p2)) p3) pos) (tRevS te) := by
  refine ⟨fun pins s σ H Q I h => ?_⟩
  refine Subscript_ (thn (he.run pins s σ H _ I h) fun v s1 ⟨x, H1, I1, r1, q1⟩ => ?_)
  obtain ⟨z, ex, hx, q⟩ := q1
  subst ex
  obtain ⟨t, rfl⟩ := r1
  have hst : PO X (some (.UnaryOp .USub (.Constant (.int 1) k p1) p2)) (tPart (tUn (rU fun i => .int (-i)) (tC (.int 1)))) := po_some (pe_un un_neg pe_int)
  refine wpAny_Slice (thn (po_none.run pins s1 σ H1 (fun o H2 => o = none ∧ H2 = H1) I1 ⟨rfl, rfl⟩) fun vl s2 ⟨l, H2, I2, pl, el, e2⟩ => ?_)
  subst el e2
  refine thn (po_none.run pins s2 σ H2 (fun o H3 => o = none ∧ H3 = H2) I2 ⟨rfl, rfl⟩) fun vu s3 ⟨u, H3, I3, pu, eu, e3⟩ => ?_
  subst eu e3
  refine thn (hst.run pins s3 σ H3 (fun o H4 => o = some (-1) ∧ H4 = H3) I3 ⟨1, rfl, -1, rfl, rfl, rfl⟩) fun vs s4 ⟨o, H4, I4, ps, eo, e4⟩ => ?_
  subst eo e4
  cases pl
  cases pu
  cases ps with
  | int i uk =>
  show wpAny (model X.prog X.w) X.A (subscriptTail e (.Slice none none (some (.UnaryOp .USub (.Constant (.int 1) k p1) p2)) p3) (.str z t) (.ref s4.heap.objs.size)) (EP X pins σ Q) X.xe { s4 with heap := s4.heap.push { cls := .type "slice", data := .fields #[.none, .none, .int (-1) uk] } }
  have hrev : (Txt.sliceBy z none none (-1, uk)) = mkS z.cps.toList.reverse := by
    rw [mkS_of (Txt.sliceBy z none none (-1, uk)), step_rev_list]
    congr 1
    apply List.ext_getElem
    · simp [Str.length]
    · intro n h1 h2
      simp only [List.length_map, List.length_range] at h1
      simp only [List.getElem_map, List.getElem_range, List.getElem_reverse, Array.length_toList, Array.getElem_toList]
      have hz : z.length = z.cps.size := rfl
      rw [hz] at h1
      rw [Array.getD_eq_getD_getElem?, hz, Array.getElem?_eq_getElem (by omega)]
      rfl
  refine tail_any (ops := [.ref s4.heap.objs.size, .str z t]) (typeIs_str _ _ _) F.slot_str_getitem.lookup ?_ (by with_unfolding_all rfl)
  refine wpAny_getItem_str_slice (l := none) (u := none) (st := some (-1, uk)) ⟨_, Heap.get?_push_size _ rfl, rfl, rfl⟩ rfl (post_val_or_str ⟨Nat.le_trans (Txt.sliceBy_le z none none (-1, uk) (by show (-1 : Int) ≠ 0; decide)) hx, fun t' c => ?_⟩)
  show EP X pins σ Q (.str (Txt.sliceBy z none none (-1, uk)) t') _
  rw [hrev]
  exact ⟨.str _, H4, I4.kept (t' := c) fun b o e => Heap.get?_push_of_some _ e, ⟨t', rfl⟩, q⟩
end My
namespace My
open PySem L2
theorem mkS_app0 (a : List Nat) : mkS a ++ Str.ofString "" = mkS a := by rw [← mkS_nil, mkS_app, List.append_nil]
end My
namespace My
open PySem L2
theorem sjoin_nil : ∀ parts : List (List Nat), Str.join (Str.ofString "") (parts.map mkS) = mkS parts.flatten
  | [] => rfl
  | [x] => by show mkS x = mkS (x ++ []); rw [List.append_nil]
  | x :: y :: r => by
    show mkS x ++ Str.ofString "" ++ Str.join (Str.ofString "") ((y :: r).map mkS) = _
    rw [sjoin_nil (y :: r), mkS_app0, mkS_app]
    rfl
theorem join_nil (parts : List (List Nat)) : Txt.join (Str.ofString "") (parts.map mkS) = mkS parts.flatten := by rw [TL.join_eq, sjoin_nil]
theorem join_signs (l : List Nat) : Txt.join (Str.ofString "") (l.map fun c => mkS [c]) = mkS l := by
  have := join_nil (l.map fun c => [c])
  rw [List.map_map] at this
  rw [show (fun c => mkS [c]) = mkS ∘ (fun c => [c]) from rfl, this]
  have : ∀ l : List Nat, (l.map fun c => [c]).flatten = l := fun l => by
    induction l with
    | nil => rfl
    | cons c r ih => simpa using ih
  rw [this]
end My
namespace My
open PySem L2
theorem cut_hi (xs : List V) (k : Nat) : cutV xs none (some (k : Int)) = xs.take k := by
  unfold cutV
  rw [HT.sIx_none, HT.sIx_nat, List.drop_zero, Nat.sub_zero]
  by_cases h : k ≤ xs.length
  · rw [Nat.min_eq_left h]
  · rw [Nat.min_eq_right (by omega), List.take_length, List.take_of_length_le (by omega)]
theorem cut_lohi (xs : List V) (j k : Nat) : cutV xs (some (j : Int)) (some (k : Int)) = (xs.take k).drop j := by
  unfold cutV
  rw [HT.sIx_nat, HT.sIx_nat]
  apply List.ext_getElem?
  intro n
  simp only [List.getElem?_take, List.getElem?_drop]
  by_cases h1 : j ≤ xs.length <;> by_cases h2 : k ≤ xs.length
  · rw [Nat.min_eq_left h1, Nat.min_eq_left h2]
    by_cases h : n < k - j
    · rw [if_pos h, if_pos (by omega)]
    · rw [if_neg h, if_neg (by omega)]
  · rw [Nat.min_eq_left h1, Nat.min_eq_right (show xs.length ≤ k by omega)]
    by_cases h : n < xs.length - j
    · rw [if_pos h, if_pos (by omega)]
    · rw [if_neg h]
      split
      · rw [List.getElem?_eq_none (by omega)]
      · rfl
  · rw [Nat.min_eq_right (show xs.length ≤ j by omega), Nat.min_eq_left h2, if_neg (by omega)]
    split
    · rw [List.getElem?_eq_none (by omega)]
    · rfl
  · rw [Nat.min_eq_right (show xs.length ≤ j by omega), Nat.min_eq_right (show xs.length ≤ k by omega), if_neg (by omega)]
    split
    · rw [List.getElem?_eq_none (by omega)]
    · rfl
end My

namespace My
open PySem L2
open PySem.W
/-! ### sorted of pairs (int, text) -/
abbrev SRow := Addr × Int × Str
def encR (b : SRow) : PyData := .tuple [.int b.2.1, .str b.2.2]
def rSortIS (K : PySem.W.Frag) : List V → Hp → VK → Prop := fun vs H Q => ∃ (a : Addr) (bs : List SRow), vs = [.ref a] ∧ SqL K H a (bs.map fun b => .ref b.1) ∧ (∀ b ∈ bs, SqT K H b.1 [.int b.2.1, .str b.2.2]) ∧ bs.length ≤ 1000 ∧
  ∀ (cs : List SRow) (p : Addr), cs.Perm bs → cs.Pairwise (fun b c => b.2.1 ≤ c.2.1) → H p = none → Q (.ref p) (upd H p (.lst (cs.map fun c => .ref c.1)))
theorem encR_le {b c : SRow} (h : dataLe false encR b c = true) : b.2.1 ≤ c.2.1 := by
  have h1 : (!dataLt (encR c) (encR b)) = true := by rw [PySem.W.dataLe_eq] at h; exact h
  have h2 : dataLt (encR c) (encR b) = false := by simpa using h1
  unfold encR at h2
  rw [PySem.W.dataLt_pair (by simp [alike]) (by simp [alike]), PySem.W.dataLt_int] at h2
  by_cases e : PyData.eqv (.int c.2.1) (.int b.2.1) = true
  · simp only [PyData.eqv, beq_iff_eq] at e
    omega
  · rw [if_neg e] at h2
    have := of_decide_eq_false h2
    omega
theorem cr_sortedIS {X : Cx} (hu : X.A.units + 64 < cLine) : CallR X (.builtin "sorted") (rSortIS X.K) := by
  intro pins s σ H xs us Q I r h
  obtain ⟨a, bs, rfl, ha, hb, hl, q⟩ := h
  rw [Vals.ref1 r]
  obtain ⟨its, rv, p, hz⟩ := I.list ha
  have its_eq : its = bs.map fun b => Value.ref b.1 := by
    have : ∀ (bs : List SRow) (its : List Value), Vals (bs.map fun b => V.ref b.1) its → its = bs.map fun b => Value.ref b.1 := by
      intro bs
      induction bs with
      | nil => intro its h; cases h; rfl
      | cons b r ih =>
        intro its h
        cases h with
        | cons h1 h2 => rw [ih _ h2, show _ = Value.ref b.1 from h1]; rfl
    exact this bs its rv
  subst its_eq
  have e : ∀ (bs : List SRow), EachIs (fun v (b : SRow) => v = Value.ref b.1) (bs.map fun b => Value.ref b.1) bs := by
    intro bs
    induction bs with
    | nil => exact .nil
    | cons b r ih => exact .cons rfl ih
  have er : ∀ (cs : List SRow), (∀ b ∈ cs, b ∈ bs) → EachIs (fun v (b : SRow) => ∃ as, Reads s.heap v (encR b) as) (cs.map fun b => Value.ref b.1) cs := by
    intro cs
    induction cs with
    | nil => intro _; exact .nil
    | cons b r ih =>
      intro hm
      refine .cons ?_ (ih fun x hx => hm x (List.mem_cons_of_mem _ hx))
      obtain ⟨ts, rt, ⟨o, ho, hc, n, hd⟩, _⟩ := I.tuple (hb b (hm b (List.mem_cons_self)))
      cases rt with
      | cons r1 rt =>
        cases rt with
        | cons r2 rt =>
          cases rt
          obtain ⟨t1, rfl⟩ := r1
          obtain ⟨t2, rfl⟩ := r2
          exact ⟨_, Reads.tuple ho hc hd (.cons (.int _ _) (.cons (.str _ _) .nil))⟩
  refine sorted_data (R := fun v (b : SRow) => v = Value.ref b.1) (enc := encR) (bs := bs) p.isList (e bs) (er bs fun _ h => h) (AllAlike.of fun b c => by simp [encR, alike, PySem.W.alikeAll]) (Sortable.tuples fun b => ⟨_, _, rfl⟩) (szL (by omega)) (fun b _ => ?_) (fun out ho eo => ?_)
  · have : (encR b).depth ≤ 2 := by show PyData.depth (.tuple [.int b.2.1, .str b.2.2]) ≤ 2; simp [PyData.depth, PyData.depthAll]
    omega
  · obtain ⟨c, hc⟩ := PyProof.Rows.sortedAll_at s.heap (bs.map fun b => Value.ref b.1) out.toArray
    have hp : s.heap.objs.size ≤ s.heap.objs.size + 1 := Nat.le_succ _
    have hn : H (s.heap.objs.size + 1) = none := I.hok.fresh hp
    have hperm : (bs.mergeSort (dataLe false encR)).Perm bs := List.mergeSort_perm _ _
    have hpw : (bs.mergeSort (dataLe false encR)).Pairwise (fun b c => b.2.1 ≤ c.2.1) :=
      (PySem.W.sort_pairwise (PySem.W.sortLe_total _ false _) bs).imp fun h => encR_le h
    have hv : Vals ((bs.mergeSort (dataLe false encR)).map fun c => V.ref c.1) out := by
      clear hc ho hperm hpw
      generalize bs.mergeSort (dataLe false encR) = cs at eo
      induction eo with
      | nil => exact .nil
      | cons h1 h2 ih => exact .cons h1 ih
    refine ⟨.ref _, _, I.laid (a := s.heap.objs.size + 1) (o := .lst ((bs.mergeSort (dataLe false encR)).map fun c => V.ref c.1)) (t' := s.toks) (fun b o q => PyProof.Rows.sortedAll_old q) hp ⟨?_, out, c, hv, hc⟩, rfl, q _ _ hperm hpw hn⟩
    rw [List.length_map, hperm.length_eq]
    exact szL (by omega)
end My
namespace My
open PySem L2
/-! ### the rules within a comprehension's block: the written part told by name -/
section
variable {X : Cx} {K : PySem.W.Frag}
theorem ix_tupK (h : X.K = K := by rfl) : IxR X (rIxT K) := h ▸ ix_tup
theorem ix_listK (h : X.K = K := by rfl) : IxR X (rIxL K) := h ▸ ix_list
theorem sl_tupK (h : X.K = K := by rfl) : SlR X (rSlT K) := h ▸ sl_tup
theorem sl_listK (h : X.K = K := by rfl) : SlR X (rSlL K) := h ▸ sl_list
theorem op_in_seqK (h : X.K = K := by rfl) : OpR X (compareOp .In) (rIn K false) := h ▸ op_in_seq
theorem op_notIn_seqK (h : X.K = K := by rfl) : OpR X (compareOp .NotIn) (rIn K true) := h ▸ op_notIn_seq
end
end My
namespace My
open PySem L2
theorem pr_zip {α β : Type} {R : α → β → Prop} : ∀ {as : List α} {bs : List β}, Paired R as bs → ∀ p ∈ as.zip bs, R p.1 p.2
  | _, _, .nil, p, h => by simp at h
  | _, _, .cons r t, p, h => by
    rcases List.mem_cons.mp h with e | h
    · subst e; exact r
    · exact pr_zip t p h
end My
namespace My
open PySem L2
open PyProof.Rows (envOfC)
/-- the law's def, by its address -/
theorem law_of {P : Program} {w : World} {K : PySem.W.Frag} {mg : Str → Option Value} {st : Stmt} {fa : Addr} {x y : Str} {k : Nat} {sp : Sp} {CX : CXT} (F : FunAt K mg x st) (hfa : mg x = some (.ref fa))
    (hb : ∀ (kV doc pm : Value) (an : Option Addr) (cdv ct : Value) (v : Value), bindArgs (PySem.W.fnOf x x (defArgs st) (defBody st) (defScope st) .none kV doc pm an cdv ct) ⟨[v], []⟩ = pure [(y, v)])
    {H : Heap → Prop} (h : ∀ fd : FuncData, Fun K x x st fa fd → ∀ base : Heap, H base → FnOk P w K mg base CX k fa fd [y] sp) :
    ∃ fd : FuncData, (∀ (s : Shared) (v : Value), BindsTo s fd ⟨[v], []⟩ [(y, v)]) ∧ ∀ base : Heap, H base → FnOk P w K mg base CX k fa fd [y] sp := by
  obtain ⟨f, fd, Fn, m⟩ := F
  cases hfa.symm.trans m
  refine ⟨fd, fun s v => ?_, h fd Fn⟩
  obtain ⟨oc, od, kV, doc, pm, an, cdv, ct, osl, rfl, lk, hcd⟩ := Fn.ex
  exact .of_eq (hb kV doc pm an cdv ct v)
end My

namespace My
open PySem L2
open PyProof.Rows (envOfC)
/-! ### a def that may raise -/
structure DfX (P : Program) (w : World) (K : PySem.W.Frag) (mg : Str → Option Value) (base : Heap) (k : Nat) (x : Str) (ps : List Str) (sp : Sp) : Prop where
  ex : ∃ (f : Addr) (fd : FuncData), FnOk P w K mg base (L2.CX P w) k f fd ps sp ∧ mg x = some (.ref f) ∧ PySem.W.keepIn K (.ref f) = true ∧ Binds K fd ps []
section
variable {P : Program} {w : World} {K : PySem.W.Frag} {mg : Str → Option Value} {base : Heap}
theorem FunAt.dfX {x : Str} {st : Stmt} {N ps : List Str} {k : Nat} {sp : Sp} (F : FunAt K mg x st) (S : FnScope N ps (defScope st)) (hb : BindAll x st ps) (len : ∀ vs H Q E, sp vs H Q E → vs.length = ps.length)
    (hbody : ∀ (f : Addr) (cdv : Value) (A : Around) (outer : List Env) (s : Shared) (H : Hp) (vs : List V) (Q : VK) (E : XK), Room k (A.deeper (envOfC x (defScope st) s.heap.objs.size f cdv)) → sp vs H Q E →
      ∃ t, PSs (cxOf (L2.CX P w) P w K mg base N x (defScope st) f cdv A outer s H E) (defBody st) t ∧ t { nx := fun _ H' => Q .non H', rt := Q } (start N vs) H) : DfX P w K mg base (k + 1) x ps sp := by
  obtain ⟨f, fd, h, m⟩ := F
  exact ⟨f, fd, h.okX S len (hbody f), m, h.kp, h.binds hb⟩
end
section
variable {X : Cx} {j k : Nat} {x : Str} {ps : List Str} {sp : Sp} {p pos : Pos} {e : Expr} {es : List Expr} {t : TA} {E : St → XK}
/-- called where nothing is let out -/
theorem pe_callX (D : DfX X.prog X.w X.K X.mg X.base j x ps sp) (hr : Room k X.A) (hj : j ≤ k) (hg : Gl X x) (ha : PA X (e :: es) t) (hdb : (x == ("__debug__" : Str)) = false := by decide)
    (he : starEach (e :: es) X.env = (false, eval e X.env) :: starEach es X.env := by rfl) (hpl : (backTo pos (starEach es X.env)).any (·.1) = false := by rfl) :
    PE X (.Call (.Name x p) (e :: es) [] pos) (tCallD sp t) := by
  obtain ⟨f, fd, F, m, kp, b⟩ := D.ex
  have h : PE X (.Call (.Name x p) (e :: es) [] pos) (tCall sp [] E0 t) := pe_call F (hr.mono hj) hg m kp b .nil passL ha hdb he hpl
  refine ⟨fun pins s σ H Q I q => h.run pins s σ H Q I ?_⟩
  unfold tCall
  unfold tCallD at q
  simpa only [List.append_nil] using q
/-- called where what it lets out is taken -/
theorem pe_callXS (D : DfX X.prog X.w X.K X.mg X.base j x ps sp) (hr : Room k X.A) (hj : j ≤ k) (hg : Gl X x) (hx : ∀ σ, PassesAt (L2.CX X.prog X.w) X σ (E σ)) (ha : PA X (e :: es) t) (hdb : (x == ("__debug__" : Str)) = false := by decide)
    (he : starEach (e :: es) X.env = (false, eval e X.env) :: starEach es X.env := by rfl) (hpl : (backTo pos (starEach es X.env)).any (·.1) = false := by rfl) :
    PE X (.Call (.Name x p) (e :: es) [] pos) (tCallS sp E t) := by
  obtain ⟨f, fd, F, m, kp, b⟩ := D.ex
  exact pe_callS F (hr.mono hj) hg m kp b hx ha hdb he hpl
end
/-- isinstance of the error that a suite holds -/
def rIsEc (K : PySem.W.Frag) (D a : Addr) (cls : Value) (d : Option Addr) : List V → Hp → VK → Prop := fun xs H Q => cls = .ref D ∧ d = none ∧ ∃ (c : V) (b : Bool), xs = [.ref a, c] ∧ (∃ cv, (∀ u, RelV c u → u = cv) ∧ PySem.W.kitOne K (.ref D) cv = some b) ∧ Q (.bl b) H
theorem call_isEc {X : Cx} {a D : Addr} {cls : Value} {d : Option Addr} {oe : Obj} {pn : List (Addr × Obj)} (C : ExcC X.K D) (hz : Zc cls d oe) (hf : ∃ vs, oe.data = .fields vs) : CallR (X.suite a ((a, oe) :: pn)) (.builtin "isinstance") (rIsEc X.K D a cls d) := by
  intro pins s σ H xs us Q I r h
  obtain ⟨rfl, rfl, c, b, e, ⟨cv, h1, h2⟩, q⟩ := h
  exact call_isE C hz hf pins s σ H xs us Q I r ⟨c, cv, b, e, h1, h2, q⟩
/-! ### a text a number of times -/
def rMulS : R2 := fun x y H Q => ∃ (l : List Nat) (n : Nat), x = .str (mkS l) ∧ y = .int n ∧ 1 ≤ n ∧ n ≤ 1000 ∧ l.length ≤ 1000 ∧ Q (.str (mkS (List.replicate n l).flatten)) H
theorem foldl_app : ∀ (xs : List (Array Nat)) (a : Array Nat), (xs.foldl (· ++ ·) a).toList = a.toList ++ (xs.map Array.toList).flatten
  | [], a => by simp
  | x :: xs, a => by rw [List.foldl_cons, foldl_app xs (a ++ x)]; simp
theorem rep_len (l : List Nat) : ∀ n : Nat, (List.replicate n l).flatten.length = n * l.length
  | 0 => by simp
  | n + 1 => by rw [List.replicate_succ, List.flatten_cons, List.length_append, rep_len l n, Nat.succ_mul, Nat.add_comm]
theorem op_mul_str {X : Cx} : OpR X (binaryOp .Mult) rMulS := by
  intro pins s σ H x y v u Q I rx ry h
  obtain ⟨l, n, rfl, rfl, h1, h2, h3, q⟩ := h
  obtain ⟨t, rfl⟩ := rx
  obtain ⟨t', rfl⟩ := ry
  have hm : l.length * n ≤ 1000000 := Nat.mul_le_mul h3 h2
  have hlen : (mkS l).length = l.length := mkS_len l
  have hz : (⟨(List.replicate n (mkS l).cps).foldl (· ++ ·) #[]⟩ : Str) = mkS (List.replicate n l).flatten := by
    rw [mkS_of ⟨_⟩]
    show mkS ((List.replicate n (mkS l).cps).foldl (· ++ ·) #[]).toList = _
    rw [foldl_app, List.map_replicate]
    rfl
  refine PySem.P.mul_str ?_ ?_ ?_ ?_
  · simp; omega
  · intro _ _
    rw [hlen]
    have : (1000000 : Int) ≤ (2 ^ 63 - 1) / n := by
      rw [Int.le_ediv_iff_mul_le (by omega)]
      omega
    omega
  · intro _ _
    rw [hlen, Int.toNat_natCast]
    show decide (l.length * n > sizeLine) = false
    exact decide_eq_false (Nat.not_lt.mpr (Nat.le_trans hm (by decide)))
  · rw [if_neg (by omega), Int.toNat_natCast, hz]
    by_cases h : ((n : Int) == 1 || (mkS l).length == 0) = true
    · have e : mkS (List.replicate n l).flatten = mkS l := by
        simp only [Bool.or_eq_true, beq_iff_eq] at h
        rcases h with h | h
        · have : n = 1 := by omega
          subst this
          simp
        · rw [hlen] at h
          have : l = [] := List.length_eq_zero_iff.mp h
          subst this
          congr 1
          simp
      rw [if_pos h]
      rw [e] at q
      exact ⟨.str _, H, I, ⟨t, rfl⟩, q⟩
    · rw [if_neg h]
      refine ⟨?_, .str _, H, I.tok _, ⟨_, rfl⟩, q⟩
      rw [mkS_len, rep_len]
      have : n * l.length ≤ 1000000 := by rw [Nat.mul_comm]; exact hm
      exact Nat.le_trans this (by decide)
/-! ### a comprehension over a text -/
section
variable {z : Str} {j : Nat} {tt : TT} {te : TE} {vs : List Nat} {σ : L2.St} {H1 : Hp} {Q : VK}
theorem lcS (P : Nat → List V → Hp → Prop) (mono : ∀ i acc H H', KT H H' → P i acc H → P i acc H') (hl : z.cps.size ≤ 100000) (hw : ∀ x, wipe ((wipe σ vs).set j (some x)) vs = wipe σ vs) (h0 : P 0 [] H1)
    (hs : ∀ i c acc H, z.cps[i]? = some c → acc.length ≤ i → Same H1 H → P i acc H → LcTurn tt te ((wipe σ vs).set j (some (.str (mkS [c])))) P i acc H)
    (hq : ∀ D ys H', H1 D = none → Same H1 H' → H' D = some (.lst ys) → P z.cps.size ys H' → Q (.ref D) H') : LcGo (Its z) (gName j) tt te vs σ H1 Q := by
  intro D hD
  refine ⟨fun i m H => m = z.cps.size - i ∧ i ≤ z.cps.size ∧ LcInv H1 D P i H, ⟨z.cps.size, by simp, Nat.zero_le _, [], upd_same, Nat.zero_le _, same_new hD, mono _ _ _ _ (kt_new hD) h0⟩, ?_⟩
  rintro i m H ⟨rfl, hi, p⟩
  by_cases hlt : i < z.cps.size
  · refine .inr ⟨hlt, LcInv H1 D P (i + 1), fun H' p' => ⟨z.cps.size - (i + 1), by omega, rfl, hlt, p'⟩, ?_⟩
    rintro x H' ⟨rfl, c, hc, rfl⟩
    exact ⟨hw _, lc_turn mono hD (by omega) p fun acc h2 h3 h4 => hs i c acc _ hc h2 h3 h4⟩
  · have e : i = z.cps.size := by omega
    subst e
    obtain ⟨acc, h1, h2, h3, h4⟩ := p
    exact .inl ⟨Nat.le_refl _, hq D acc H hD h3 h1 h4⟩
end
/-! ### a written dict, also asked for what it does not hold -/
def rInK (K : PySem.W.Frag) (d : Addr) (neg : Bool) : R2 := fun x y H Q => ∃ (z : Str) (b : Bool), x = .str z ∧ y = .ref d ∧ (∃ r, PySem.W.nsIn K d z = some r ∧ r.isSome = b) ∧ Q (.bl (if neg = true then !b else b)) H
abbrev KDE (K : PySem.W.Frag) (w : World) (d : Addr) : Prop := ∃ es n, KDict K w d es n
theorem op_in_kde {X : Cx} {d : Addr} (D : KDE X.K X.w d) : OpR X (compareOp .In) (rInK X.K d false) := by
  obtain ⟨es, n, D⟩ := D
  intro pins s σ H x y v u Q I rx ry h
  obtain ⟨z, b, e1, e2, ⟨r, h1, rfl⟩, q⟩ := h
  exact op_in_kd D pins s σ H x y v u Q I rx ry ⟨z, r, e1, e2, h1, q⟩
theorem op_notIn_kde {X : Cx} {d : Addr} (D : KDE X.K X.w d) : OpR X (compareOp .NotIn) (rInK X.K d true) := by
  obtain ⟨es, n, D⟩ := D
  intro pins s σ H x y v u Q I rx ry h
  obtain ⟨z, b, e1, e2, ⟨r, h1, rfl⟩, q⟩ := h
  exact op_notIn_kd D pins s σ H x y v u Q I rx ry ⟨z, r, e1, e2, h1, q⟩
/-- what a written dict does not hold -/
theorem nsIn_none {K : PySem.W.Frag} {a : Addr} {c : Value} {od : Option Addr} {es : Array DictEntry} {n : Nat} {sl : Array (Option Value)} {ws : List Str} (h : K.lookup a = some ⟨c, od, .dict es n, sl⟩)
    (hk : es.toList.all (fun e => match e.key with | .str z _ => ws.contains z | _ => false) = true) {x : Str} (hx : ws.contains x = false) : PySem.W.nsIn K a x = some none := by
  unfold PySem.W.nsIn
  rw [h]
  have hk' := List.all_eq_true.mp hk
  have h1 : es.toList.find? (fun e => e.key.isStr x) = none := by
    rw [List.find?_eq_none]
    intro e he hs
    have := hk' e he
    split at this
    · rename_i z t ez
      rw [ez] at hs
      have hzx : z = x := by simpa [Value.isStr] using hs
      rw [hzx, hx] at this
      cases this
    · cases this
  have h2 : es.toList.any (fun e => e.refKey) = false := by
    rw [List.any_eq_false]
    intro e he hs
    have := hk' e he
    split at this
    · rename_i z t ez
      unfold DictEntry.refKey at hs
      rw [ez] at hs
      cases hs
    · cases this
  dsimp only
  rw [h1]
  dsimp only
  rw [h2]
  rfl
end My
namespace My
open PySem L2
theorem cut_from {xs : List V} {n : Nat} (h : n ≤ xs.length) : cutV xs (some (n : Int)) none = xs.drop n := by
  unfold cutV
  rw [HT.sIx_nat, HT.sIx_none, Nat.min_eq_left h]
  exact List.take_of_length_le (by rw [List.length_drop]; exact Nat.le_refl _)
theorem not_whole {n m : Nat} (h : 0 < n) (hm : n ≤ m) : ¬ (HT.sIx m 0 (some (n : Int)) = 0 ∧ HT.sIx m m none = m) := by
  rw [HT.sIx_nat]
  omega
/-- the script's number at a place, 0 behind its end -/
def cell (ns : List Int) (k : Nat) : Int := ns.getD k 0
theorem cell_at {ns : List Int} {k : Nat} (h : (k : Int) < ((ns.map V.int).length : Int)) : atI (ns.map V.int) (k : Int) = some (.int (cell ns k)) := by
  rw [List.length_map] at h
  have h' : k < ns.length := by omega
  refine atI_nat ?_
  rw [List.getElem?_map, List.getElem?_eq_getElem h']
  simp [cell, List.getD_eq_getElem?_getD, List.getElem?_eq_getElem h']
theorem cell_out {ns : List Int} {k : Nat} (h : ¬ (k : Int) < ((ns.map V.int).length : Int)) : cell ns k = 0 := by
  rw [List.length_map] at h
  have h' : ns.length ≤ k := by omega
  simp [cell, List.getD_eq_getElem?_getD, List.getElem?_eq_none h']
def spCellA (K : PySem.W.Frag) : Sp := fun vs H Q _ => ∃ (a : Addr) (ns : List Int) (k : Nat), vs = [.ref a, .int k] ∧ SqL K H a (ns.map V.int) ∧ Q (.int (cell ns k)) H
end My
namespace My
open PySem L2
section
variable {lo c : Int} {n : Nat} {j : Nat} {tt : TT} {te : TE} {vs : List Nat} {σ : L2.St} {H1 : Hp} {Q : VK}
theorem lcC (P : Nat → List V → Hp → Prop) (mono : ∀ i acc H H', KT H H' → P i acc H → P i acc H') (hl : n ≤ 100000) (hw : ∀ x, wipe ((wipe σ vs).set j (some x)) vs = wipe σ vs) (h0 : P 0 [] H1)
    (hs : ∀ i acc H, i < n → acc.length ≤ i → Same H1 H → P i acc H → LcTurn tt te ((wipe σ vs).set j (some (.int (lo + (i : Nat) * c)))) P i acc H)
    (hq : ∀ D ys H', H1 D = none → Same H1 H' → H' D = some (.lst ys) → P n ys H' → Q (.ref D) H') : LcGo (Itc lo c n) (gName j) tt te vs σ H1 Q := by
  intro D hD
  refine ⟨fun i m H => m = n - i ∧ i ≤ n ∧ LcInv H1 D P i H, ⟨n, by simp, Nat.zero_le _, [], upd_same, Nat.zero_le _, same_new hD, mono _ _ _ _ (kt_new hD) h0⟩, ?_⟩
  rintro i m H ⟨rfl, hi, p⟩
  by_cases hlt : i < n
  · refine .inr ⟨hlt, LcInv H1 D P (i + 1), fun H' p' => ⟨n - (i + 1), by omega, rfl, hlt, p'⟩, ?_⟩
    rintro x H' ⟨rfl, rfl⟩
    exact ⟨hw _, lc_turn mono hD (by omega) p fun acc h2 h3 h4 => hs i acc _ hlt h2 h3 h4⟩
  · have e : i = n := by omega
    subst e
    obtain ⟨acc, h1, h2, h3, h4⟩ := p
    exact .inl ⟨Nat.le_refl _, hq D acc H hD h3 h1 h4⟩
end
theorem RgC.two {m : Nat} (h0 : 0 < m) (h1 : m ≤ 100000) : RgC 0 ((m : Int) - 1) 2 (m / 2) := by
  refine ⟨by decide, by decide, ?_, ?_⟩
  · have hz : Builtin.Range.rangeSize 0 ((m : Int) - 1) 2 = ((m / 2 : Nat) : Int) := by
      unfold Builtin.Range.rangeSize
      rw [if_pos (by decide)]
      split <;> omega
    unfold Builtin.Range.small
    rw [hz]
    simp only [Builtin.Range.rangeFitsLong, Bool.and_eq_true, Bool.or_eq_true, decide_eq_true_eq, beq_iff_eq, show (2 : Int) > 0 by decide, if_true]
    omega
  · unfold Builtin.Range.rangeSize
    rw [if_pos (by decide)]
    split <;> omega
end My
namespace My
open PySem L2
theorem kit_own {K : PySem.W.Frag} {t : Value} {C : Addr} (h1 : PySem.W.isClsIn K C = true) (h2 : PySem.W.typeIn K (.ref C) = some (.type "type")) (h3 : PySem.W.subIn K t (.ref C) = some true) : PySem.W.kitOne K t (.ref C) = some true := by
  unfold PySem.W.kitOne
  split
  · rfl
  · have h1' : (PySem.W.clsIn K C).isSome = true := h1
    show (if ((PySem.W.clsIn K C).isSome && PySem.W.typeIn K (.ref C) == some (.type "type")) = true then PySem.W.subIn K t (.ref C) else none) = some true
    rw [h1', h2]
    exact (if_pos (by rfl)).trans h3
theorem kit_blt {K : PySem.W.Frag} {t : Value} {T : String} (h1 : PySem.W.kitMeta T = true) (h3 : PySem.W.subIn K t (.type T) = some true) : PySem.W.kitOne K t (.type T) = some true := by
  unfold PySem.W.kitOne
  split
  · rfl
  · show (if PySem.W.kitMeta T = true then PySem.W.subIn K t (.type T) else none) = some true
    rw [if_pos h1]
    exact h3
end My

namespace My
open PySem L2
/-! ### free names and putting in -/
/-- x stands free in the tree -/
def Tr.fr (x : Str) : Tr → Prop
  | .num _ => False
  | .name y => y = x
  | .fn y b => y ≠ x ∧ b.fr x
  | .call f a => f.fr x ∨ a.fr x
  | .plus f a => f.fr x ∨ a.fr x
  | .less f a => f.fr x ∨ a.fr x
  | .ite c f a => c.fr x ∨ f.fr x ∨ a.fr x
  | .lt y e b => e.fr x ∨ (y ≠ x ∧ b.fr x)
def Tr.closed (t : Tr) : Prop := ∀ x, ¬ t.fr x
/-- what stands for names -/
abbrev Sb := Str → Option Tr
def Sb.none : Sb := fun _ => Option.none
def Sb.one (x : Str) (v : Tr) : Sb := fun y => if y = x then some v else Option.none
def Sb.del (s : Sb) (x : Str) : Sb := fun y => if y = x then Option.none else s y
def Sb.add (s : Sb) (x : Str) (v : Tr) : Sb := fun y => if y = x then some v else s y
def Sb.or (s r : Sb) : Sb := fun y => (s y).or (r y)
/-- put in for all of them at once -/
def Tr.sub (s : Sb) : Tr → Tr
  | .num n => .num n
  | .name y => (s y).getD (.name y)
  | .fn y b => .fn y (b.sub (s.del y))
  | .call f a => .call (f.sub s) (a.sub s)
  | .plus f a => .plus (f.sub s) (a.sub s)
  | .less f a => .less (f.sub s) (a.sub s)
  | .ite c f a => .ite (c.sub s) (f.sub s) (a.sub s)
  | .lt y e b => .lt y (e.sub s) (b.sub (s.del y))
def Tr.put (t : Tr) (x : Str) (v : Tr) : Tr := t.sub (Sb.one x v)
def Sb.Cl (s : Sb) : Prop := ∀ x v, s x = some v → v.closed
theorem Sb.Cl.del {s : Sb} (h : s.Cl) (x : Str) : (s.del x).Cl := fun y v e => by
  unfold Sb.del at e
  split at e
  · cases e
  · exact h y v e
theorem Sb.Cl.add {s : Sb} (h : s.Cl) {x : Str} {v : Tr} (hv : v.closed) : (s.add x v).Cl := fun y u e => by
  unfold Sb.add at e
  split at e
  · cases e; exact hv
  · exact h y u e
theorem Sb.Cl.one {x : Str} {v : Tr} (hv : v.closed) : (Sb.one x v).Cl := fun y u e => by
  unfold Sb.one at e
  split at e
  · cases e; exact hv
  · cases e
theorem Tr.sub_congr : ∀ {t : Tr} {s r : Sb}, (∀ x, t.fr x → s x = r x) → t.sub s = t.sub r
  | .num _, s, r, h => rfl
  | .name y, s, r, h => by simp only [Tr.sub]; rw [h y rfl]
  | .fn y b, s, r, h => by
    simp only [Tr.sub]
    rw [Tr.sub_congr (t := b) (s := s.del y) (r := r.del y) fun x hx => by
      unfold Sb.del
      split
      · rfl
      · rename_i ne; exact h x ⟨fun e => ne e.symm, hx⟩]
  | .call f a, s, r, h => by simp only [Tr.sub]; rw [Tr.sub_congr fun x hx => h x (.inl hx), Tr.sub_congr fun x hx => h x (.inr hx)]
  | .plus f a, s, r, h => by simp only [Tr.sub]; rw [Tr.sub_congr fun x hx => h x (.inl hx), Tr.sub_congr fun x hx => h x (.inr hx)]
  | .less f a, s, r, h => by simp only [Tr.sub]; rw [Tr.sub_congr fun x hx => h x (.inl hx), Tr.sub_congr fun x hx => h x (.inr hx)]
  | .ite c f a, s, r, h => by simp only [Tr.sub]; rw [Tr.sub_congr fun x hx => h x (.inl hx), Tr.sub_congr fun x hx => h x (.inr (.inl hx)), Tr.sub_congr fun x hx => h x (.inr (.inr hx))]
  | .lt y e b, s, r, h => by
    simp only [Tr.sub]
    rw [Tr.sub_congr (t := e) fun x hx => h x (.inl hx), Tr.sub_congr (t := b) (s := s.del y) (r := r.del y) fun x hx => by
      unfold Sb.del
      split
      · rfl
      · rename_i ne; exact h x (.inr ⟨fun e => ne e.symm, hx⟩)]
theorem Sb.none_del (x : Str) : Sb.none.del x = Sb.none := by
  funext y
  unfold Sb.del Sb.none
  split <;> rfl
theorem Tr.sub_none : ∀ t : Tr, t.sub Sb.none = t
  | .num _ => rfl
  | .name _ => rfl
  | .fn y b => by simp only [Tr.sub]; rw [Sb.none_del, Tr.sub_none b]
  | .call f a => by simp only [Tr.sub]; rw [Tr.sub_none f, Tr.sub_none a]
  | .plus f a => by simp only [Tr.sub]; rw [Tr.sub_none f, Tr.sub_none a]
  | .less f a => by simp only [Tr.sub]; rw [Tr.sub_none f, Tr.sub_none a]
  | .ite c f a => by simp only [Tr.sub]; rw [Tr.sub_none c, Tr.sub_none f, Tr.sub_none a]
  | .lt y e b => by simp only [Tr.sub]; rw [Sb.none_del, Tr.sub_none e, Tr.sub_none b]
theorem Tr.sub_id {t : Tr} {s : Sb} (h : ∀ x, t.fr x → s x = none) : t.sub s = t := (Tr.sub_congr (r := Sb.none) h).trans t.sub_none
theorem Tr.sub_closed {t : Tr} (h : t.closed) (s : Sb) : t.sub s = t := Tr.sub_id fun x hx => absurd hx (h x)
theorem Tr.put_id {t : Tr} {x : Str} {v : Tr} (h : ¬ t.fr x) : t.put x v = t := Tr.sub_id fun y hy => by
  unfold Sb.one
  rw [if_neg]
  intro e
  exact h (e ▸ hy)
theorem Sb.or_del (s r : Sb) (x : Str) : (s.or r).del x = (s.del x).or (r.del x) := by
  funext y
  unfold Sb.del Sb.or
  by_cases h : y = x <;> simp [h]
/-- first s, then r: closed things stand for names in s -/
theorem Tr.sub_sub : ∀ {t : Tr} {s r : Sb}, s.Cl → (t.sub s).sub r = t.sub (s.or r)
  | .num _, s, r, h => rfl
  | .name y, s, r, h => by
    simp only [Tr.sub, Sb.or]
    cases e : s y with
    | none => rfl
    | some v => exact Tr.sub_closed (h y v e) r
  | .fn y b, s, r, h => by simp only [Tr.sub]; rw [Tr.sub_sub (h.del y), Sb.or_del]
  | .call f a, s, r, h => by simp only [Tr.sub]; rw [Tr.sub_sub h, Tr.sub_sub h]
  | .plus f a, s, r, h => by simp only [Tr.sub]; rw [Tr.sub_sub h, Tr.sub_sub h]
  | .less f a, s, r, h => by simp only [Tr.sub]; rw [Tr.sub_sub h, Tr.sub_sub h]
  | .ite c f a, s, r, h => by simp only [Tr.sub]; rw [Tr.sub_sub h, Tr.sub_sub h, Tr.sub_sub h]
  | .lt y e b, s, r, h => by simp only [Tr.sub]; rw [Tr.sub_sub h, Tr.sub_sub (h.del y), Sb.or_del]
/-- what is free behind it -/
theorem Tr.fr_sub : ∀ {t : Tr} {s : Sb} {x : Str}, s.Cl → ((t.sub s).fr x ↔ t.fr x ∧ s x = none)
  | .num _, s, x, h => by simp [Tr.sub, Tr.fr]
  | .name y, s, x, h => by
    simp only [Tr.sub, Tr.fr]
    cases e : s y with
    | none =>
      show y = x ↔ _
      constructor
      · intro h; exact ⟨h, h ▸ e⟩
      · exact fun h => h.1
    | some v =>
      show v.fr x ↔ _
      constructor
      · intro hx; exact absurd hx (h y v e x)
      · rintro ⟨rfl, h2⟩; rw [e] at h2; cases h2
  | .fn y b, s, x, h => by
    simp only [Tr.sub, Tr.fr]
    rw [Tr.fr_sub (h.del y)]
    unfold Sb.del
    constructor
    · rintro ⟨h1, h2, h3⟩
      rw [if_neg (fun e => h1 e.symm)] at h3
      exact ⟨⟨h1, h2⟩, h3⟩
    · rintro ⟨⟨h1, h2⟩, h3⟩
      exact ⟨h1, h2, by rw [if_neg (fun e => h1 e.symm)]; exact h3⟩
  | .call f a, s, x, h => by simp only [Tr.sub, Tr.fr]; rw [Tr.fr_sub h, Tr.fr_sub h]; exact ⟨fun | .inl p => ⟨.inl p.1, p.2⟩ | .inr p => ⟨.inr p.1, p.2⟩, fun | ⟨.inl p, q⟩ => .inl ⟨p, q⟩ | ⟨.inr p, q⟩ => .inr ⟨p, q⟩⟩
  | .plus f a, s, x, h => by simp only [Tr.sub, Tr.fr]; rw [Tr.fr_sub h, Tr.fr_sub h]; exact ⟨fun | .inl p => ⟨.inl p.1, p.2⟩ | .inr p => ⟨.inr p.1, p.2⟩, fun | ⟨.inl p, q⟩ => .inl ⟨p, q⟩ | ⟨.inr p, q⟩ => .inr ⟨p, q⟩⟩
  | .less f a, s, x, h => by simp only [Tr.sub, Tr.fr]; rw [Tr.fr_sub h, Tr.fr_sub h]; exact ⟨fun | .inl p => ⟨.inl p.1, p.2⟩ | .inr p => ⟨.inr p.1, p.2⟩, fun | ⟨.inl p, q⟩ => .inl ⟨p, q⟩ | ⟨.inr p, q⟩ => .inr ⟨p, q⟩⟩
  | .ite c f a, s, x, h => by
    simp only [Tr.sub, Tr.fr]
    rw [Tr.fr_sub h, Tr.fr_sub h, Tr.fr_sub h]
    exact ⟨fun | .inl p => ⟨.inl p.1, p.2⟩ | .inr (.inl p) => ⟨.inr (.inl p.1), p.2⟩ | .inr (.inr p) => ⟨.inr (.inr p.1), p.2⟩, fun | ⟨.inl p, q⟩ => .inl ⟨p, q⟩ | ⟨.inr (.inl p), q⟩ => .inr (.inl ⟨p, q⟩) | ⟨.inr (.inr p), q⟩ => .inr (.inr ⟨p, q⟩)⟩
  | .lt y e b, s, x, h => by
    simp only [Tr.sub, Tr.fr]
    rw [Tr.fr_sub h, Tr.fr_sub (h.del y)]
    unfold Sb.del
    constructor
    · rintro (p | ⟨h1, h2, h3⟩)
      · exact ⟨.inl p.1, p.2⟩
      · rw [if_neg (fun e => h1 e.symm)] at h3
        exact ⟨.inr ⟨h1, h2⟩, h3⟩
    · rintro ⟨p | ⟨h1, h2⟩, h3⟩
      · exact .inl ⟨p, h3⟩
      · exact .inr ⟨h1, h2, by rw [if_neg (fun e => h1 e.symm)]; exact h3⟩
theorem Sb.del_or_one (s : Sb) (x : Str) (v : Tr) : (s.del x).or (Sb.one x v) = s.add x v := by
  funext y
  unfold Sb.del Sb.or Sb.one Sb.add
  by_cases h : y = x
  · simp [h]
  · simp [h]
/-- the body of a function round which s was put in, with v for its name -/
theorem Tr.put_body {b : Tr} {s : Sb} {x : Str} {v : Tr} (h : s.Cl) : (b.sub (s.del x)).put x v = b.sub (s.add x v) := by
  unfold Tr.put
  rw [Tr.sub_sub (h.del x), Sb.del_or_one]
end My

namespace My
open PySem L2
/-! ### what a deed is refused for -/
inductive Er where
  | number | function | closed
  deriving DecidableEq
/-! ### one deed -/
inductive St1 where
  | val | to (t : Tr) | err (e : Er)
def Tr.isV : Tr → Bool
  | .num _ => true
  | .fn _ _ => true
  | _ => false
def Tr.step : Tr → St1
  | .num _ => .val
  | .fn _ _ => .val
  | .name _ => .err .closed
  | .plus a b => match a.step with
    | .to a' => .to (.plus a' b)
    | .err e => .err e
    | .val => match b.step with
      | .to b' => .to (.plus a b')
      | .err e => .err e
      | .val => match a, b with
        | .num m, .num n => .to (.num (m + n))
        | _, _ => .err .number
  | .less a b => match a.step with
    | .to a' => .to (.less a' b)
    | .err e => .err e
    | .val => match b.step with
      | .to b' => .to (.less a b')
      | .err e => .err e
      | .val => match a, b with
        | .num m, .num n => .to (.num (m - n))
        | _, _ => .err .number
  | .call a b => match a.step with
    | .to a' => .to (.call a' b)
    | .err e => .err e
    | .val => match b.step with
      | .to b' => .to (.call a b')
      | .err e => .err e
      | .val => match a with
        | .fn x t => .to (t.put x b)
        | _ => .err .function
  | .ite c a b => match c.step with
    | .to c' => .to (.ite c' a b)
    | .err e => .err e
    | .val => match c with
      | .num n => .to (if n = 0 then b else a)
      | _ => .err .number
  | .lt x e b => match e.step with
    | .to e' => .to (.lt x e' b)
    | .err e => .err e
    | .val => .to (b.put x e)
theorem Tr.step_val {t : Tr} : t.step = .val ↔ t.isV = true := by
  cases t with
  | num n => simp [Tr.step, Tr.isV]
  | fn x b => simp [Tr.step, Tr.isV]
  | name x => simp [Tr.step, Tr.isV]
  | plus a b =>
    simp only [Tr.step, Tr.isV]
    repeat' split
    all_goals simp
  | less a b =>
    simp only [Tr.step, Tr.isV]
    repeat' split
    all_goals simp
  | call a b =>
    simp only [Tr.step, Tr.isV]
    repeat' split
    all_goals simp
  | ite c a b =>
    simp only [Tr.step, Tr.isV]
    repeat' split
    all_goals simp
  | lt x e b =>
    simp only [Tr.step, Tr.isV]
    repeat' split
    all_goals simp
/-! ### deed behind deed -/
/-- what comes of a whole work: a value and the deeds left; refused; dry -/
inductive Rs (α : Type) where
  | ok (v : α) (m : Nat) | err (e : Er) | dry
def work : Nat → Tr → Rs Tr
  | 0, t => match t.step with
    | .val => .ok t 0
    | _ => .dry
  | m + 1, t => match t.step with
    | .val => .ok t (m + 1)
    | .to t' => work m t'
    | .err e => .err e
/-! ### the machine -/
mutual
inductive Val where
  | num (n : Int) | fn (x : Str) (b : Tr) (e : Env)
inductive Env where
  | nil | cons (y : Str) (v : Val) (e : Env)
end
def Env.look : Env → Str → Option Val
  | .nil, _ => none
  | .cons y v e, x => if x = y then some v else e.look x
def Env.keep (e : Env) : List Str → Env
  | [] => .nil
  | y :: r => match e.look y with
    | some v => .cons y v (e.keep r)
    | none => e.keep r
inductive Rv where
  | ok (v : Val) (m : Nat) (l : List Val) | err (e : Er) | dry
def Rv.left : Rv → Nat
  | .ok _ m _ => m
  | _ => 0
def Rv.log (l : List Val) : Rv → Rv
  | .ok v m l' => .ok v m (l ++ l')
  | r => r
theorem Rv.left_log (l : List Val) (r : Rv) : (r.log l).left = r.left := by cases r <;> rfl
def Val.add : Val → Val → Rv
  | .num m, .num n => .ok (.num (m + n)) 0 []
  | _, _ => .err .number
/-- a sum's or a difference's deed, with m deeds left behind it -/
def arith (f : Int → Int → Int) (v w : Val) (m : Nat) (l : List Val) : Rv := match v, w with
  | .num a, .num b => .ok (.num (f a b)) m l
  | _, _ => .err .number
theorem arith_left (f : Int → Int → Int) (v w : Val) (m : Nat) (l : List Val) : (arith f v w m l).left ≤ m := by
  unfold arith
  split
  · exact Nat.le_refl _
  · exact Nat.zero_le _
theorem lexle {a b c d : Nat} (h : a ≤ b) (g : c < d) : Prod.Lex (fun x y => x < y) (fun x y => x < y) (a, c) (b, d) := by
  rcases Nat.lt_or_eq_of_le h with h | h
  · exact Prod.Lex.left _ _ h
  · subst h; exact Prod.Lex.right _ g
variable (fl : Tr → List Str)
def evA : (m : Nat) → (e : Env) → (t : Tr) → {r : Rv // r.left ≤ m}
  | m, e, .num n => ⟨.ok (.num n) m [], Nat.le_refl _⟩
  | m, e, .name x => match e.look x with
    | some v => ⟨.ok v m [], Nat.le_refl _⟩
    | none => ⟨.err .closed, Nat.zero_le _⟩
  | m, e, .fn x b => ⟨.ok (.fn x b (e.keep (fl (.fn x b)))) m [.fn x b (e.keep (fl (.fn x b)))], Nat.le_refl _⟩
  | m, e, .plus a b => match evA m e a with
    | ⟨.ok v m1 l1, h1⟩ => match evA m1 e b with
      | ⟨.ok _ 0 _, _⟩ => ⟨.dry, Nat.zero_le _⟩
      | ⟨.ok w (m2 + 1) l2, h2⟩ => ⟨arith (· + ·) v w m2 (l1 ++ l2), Nat.le_trans (arith_left _ _ _ _ _) (by simp only [Rv.left] at h1 h2; omega)⟩
      | ⟨.err c, _⟩ => ⟨.err c, Nat.zero_le _⟩
      | ⟨.dry, _⟩ => ⟨.dry, Nat.zero_le _⟩
    | ⟨.err c, _⟩ => ⟨.err c, Nat.zero_le _⟩
    | ⟨.dry, _⟩ => ⟨.dry, Nat.zero_le _⟩
  | m, e, .less a b => match evA m e a with
    | ⟨.ok v m1 l1, h1⟩ => match evA m1 e b with
      | ⟨.ok _ 0 _, _⟩ => ⟨.dry, Nat.zero_le _⟩
      | ⟨.ok w (m2 + 1) l2, h2⟩ => ⟨arith (· - ·) v w m2 (l1 ++ l2), Nat.le_trans (arith_left _ _ _ _ _) (by simp only [Rv.left] at h1 h2; omega)⟩
      | ⟨.err c, _⟩ => ⟨.err c, Nat.zero_le _⟩
      | ⟨.dry, _⟩ => ⟨.dry, Nat.zero_le _⟩
    | ⟨.err c, _⟩ => ⟨.err c, Nat.zero_le _⟩
    | ⟨.dry, _⟩ => ⟨.dry, Nat.zero_le _⟩
  | m, e, .call a b => match evA m e a with
    | ⟨.ok v m1 l1, h1⟩ => match evA m1 e b with
      | ⟨.ok _ 0 _, _⟩ => ⟨.dry, Nat.zero_le _⟩
      | ⟨.ok w (m2 + 1) l2, h2⟩ => match v with
        | .fn x t e' => ⟨(evA m2 (.cons x w e') t).1.log (l1 ++ l2), by rw [Rv.left_log]; exact Nat.le_trans (evA m2 (.cons x w e') t).2 (by simp only [Rv.left] at h1 h2; omega)⟩
        | .num _ => ⟨.err .function, Nat.zero_le _⟩
      | ⟨.err c, _⟩ => ⟨.err c, Nat.zero_le _⟩
      | ⟨.dry, _⟩ => ⟨.dry, Nat.zero_le _⟩
    | ⟨.err c, _⟩ => ⟨.err c, Nat.zero_le _⟩
    | ⟨.dry, _⟩ => ⟨.dry, Nat.zero_le _⟩
  | m, e, .ite c a b => match evA m e c with
    | ⟨.ok _ 0 _, _⟩ => ⟨.dry, Nat.zero_le _⟩
    | ⟨.ok v (m1 + 1) l1, h1⟩ => match v with
      | .num n => if n = 0 then ⟨(evA m1 e b).1.log l1, by rw [Rv.left_log]; exact Nat.le_trans (evA m1 e b).2 (by simp only [Rv.left] at h1; omega)⟩
        else ⟨(evA m1 e a).1.log l1, by rw [Rv.left_log]; exact Nat.le_trans (evA m1 e a).2 (by simp only [Rv.left] at h1; omega)⟩
      | .fn _ _ _ => ⟨.err .number, Nat.zero_le _⟩
    | ⟨.err c, _⟩ => ⟨.err c, Nat.zero_le _⟩
    | ⟨.dry, _⟩ => ⟨.dry, Nat.zero_le _⟩
  | m, e, .lt x a b => match evA m e a with
    | ⟨.ok _ 0 _, _⟩ => ⟨.dry, Nat.zero_le _⟩
    | ⟨.ok v (m1 + 1) l1, h1⟩ => ⟨(evA m1 (.cons x v e) b).1.log l1, by rw [Rv.left_log]; exact Nat.le_trans (evA m1 (.cons x v e) b).2 (by simp only [Rv.left] at h1; omega)⟩
    | ⟨.err c, _⟩ => ⟨.err c, Nat.zero_le _⟩
    | ⟨.dry, _⟩ => ⟨.dry, Nat.zero_le _⟩
termination_by m _ t => (m, t.size)
decreasing_by
  all_goals simp_wf
  all_goals (simp only [Rv.left, Tr.size] at *; first | exact lexle (by omega) (by omega) | exact Prod.Lex.left _ _ (by omega))
def ev (m : Nat) (e : Env) (t : Tr) : Rv := (evA fl m e t).1
section
variable {fl : Tr → List Str} {m : Nat} {e : Env} {x : Str} {n : Int} {a b c : Tr}
theorem ev_num : ev fl m e (.num n) = .ok (.num n) m [] := by unfold ev; rw [evA]
theorem ev_name : ev fl m e (.name x) = match e.look x with | some v => .ok v m [] | none => .err .closed := by
  unfold ev; rw [evA]
  split <;> rfl
theorem ev_fn : ev fl m e (.fn x b) = .ok (.fn x b (e.keep (fl (.fn x b)))) m [.fn x b (e.keep (fl (.fn x b)))] := by unfold ev; rw [evA]
/-- behind a first part -/
def Rv.bind (r : Rv) (k : Val → Nat → List Val → Rv) : Rv := match r with
  | .ok v m l => k v m l
  | .err c => .err c
  | .dry => .dry
/-- a deed, where one is left -/
def deed (m : Nat) (k : Nat → Rv) : Rv := match m with
  | 0 => .dry
  | m + 1 => k m
theorem ev_plus : ev fl m e (.plus a b) = (ev fl m e a).bind fun v m1 l1 => (ev fl m1 e b).bind fun w m2 l2 => deed m2 fun m3 => arith (· + ·) v w m3 (l1 ++ l2) := by
  unfold ev; rw [evA]
  generalize evA fl m e a = A
  obtain ⟨r, hr⟩ := A
  cases r with
  | ok v m1 l1 =>
    dsimp only [Rv.bind]
    generalize evA fl m1 e b = B
    obtain ⟨r2, hr2⟩ := B
    cases r2 with
    | ok w m2 l2 => cases m2 <;> first | rfl | (cases v <;> rfl)
    | _ => rfl
  | _ => rfl
theorem ev_less : ev fl m e (.less a b) = (ev fl m e a).bind fun v m1 l1 => (ev fl m1 e b).bind fun w m2 l2 => deed m2 fun m3 => arith (· - ·) v w m3 (l1 ++ l2) := by
  unfold ev; rw [evA]
  generalize evA fl m e a = A
  obtain ⟨r, hr⟩ := A
  cases r with
  | ok v m1 l1 =>
    dsimp only [Rv.bind]
    generalize evA fl m1 e b = B
    obtain ⟨r2, hr2⟩ := B
    cases r2 with
    | ok w m2 l2 => cases m2 <;> first | rfl | (cases v <;> rfl)
    | _ => rfl
  | _ => rfl
theorem ev_call : ev fl m e (.call a b) = (ev fl m e a).bind fun v m1 l1 => (ev fl m1 e b).bind fun w m2 l2 => deed m2 fun m3 => match v with | .fn x t e' => (ev fl m3 (.cons x w e') t).log (l1 ++ l2) | .num _ => .err .function := by
  unfold ev; rw [evA]
  generalize evA fl m e a = A
  obtain ⟨r, hr⟩ := A
  cases r with
  | ok v m1 l1 =>
    dsimp only [Rv.bind]
    generalize evA fl m1 e b = B
    obtain ⟨r2, hr2⟩ := B
    cases r2 with
    | ok w m2 l2 => cases m2 <;> first | rfl | (cases v <;> rfl)
    | _ => rfl
  | _ => rfl
theorem ev_ite : ev fl m e (.ite c a b) = (ev fl m e c).bind fun v m1 l1 => deed m1 fun m2 => match v with | .num n => (ev fl m2 e (if n = 0 then b else a)).log l1 | .fn _ _ _ => .err .number := by
  unfold ev; rw [evA]
  generalize evA fl m e c = A
  obtain ⟨r, hr⟩ := A
  cases r with
  | ok v m1 l1 => cases m1 <;> first | rfl | (cases v <;> first | rfl | (rename_i n; dsimp only [Rv.bind, deed]; split <;> rfl))
  | _ => rfl
theorem ev_lt : ev fl m e (.lt x a b) = (ev fl m e a).bind fun v m1 l1 => deed m1 fun m2 => (ev fl m2 (.cons x v e) b).log l1 := by
  unfold ev; rw [evA]
  generalize evA fl m e a = A
  obtain ⟨r, hr⟩ := A
  cases r with
  | ok v m1 l1 => cases m1 <;> first | rfl | (cases v <;> first | rfl | (rename_i n; dsimp only [Rv.bind, deed]; split <;> rfl))
  | _ => rfl
theorem ev_left : (ev fl m e a).left ≤ m := (evA fl m e a).2
end
end My

namespace My
open PySem L2
mutual
def Val.told : Val → Tr
  | .num n => .num n
  | .fn x b e => .fn x (b.sub (e.sb.del x))
def Env.sb : Env → Sb
  | .nil => Sb.none
  | .cons y v e => e.sb.add y v.told
end
mutual
def Val.ok : Val → Prop
  | .num _ => True
  | .fn x b e => (∀ y, (Tr.fn x b).fr y → ∃ v, e.look y = some v) ∧ e.ok
def Env.ok : Env → Prop
  | .nil => True
  | .cons _ v e => v.ok ∧ e.ok
end
def Env.Cov (e : Env) (t : Tr) : Prop := ∀ y, t.fr y → ∃ v, e.look y = some v
theorem Env.sb_look : ∀ (e : Env) (y : Str), e.sb y = (e.look y).map Val.told
  | .nil, y => rfl
  | .cons z v e, y => by
    show (if y = z then some v.told else e.sb y) = Option.map Val.told (if y = z then some v else e.look y)
    split
    · rfl
    · exact Env.sb_look e y
mutual
theorem Val.closed_told : ∀ {v : Val}, v.ok → v.told.closed
  | .num n, _ => fun x h => h
  | .fn x b e, h => fun y hy => by
    have hc : e.sb.Cl := Env.cl_sb h.2
    have hy : ((Tr.fn x b).sub e.sb).fr y := hy
    obtain ⟨h1, h2⟩ := (Tr.fr_sub hc).mp hy
    obtain ⟨v, hv⟩ := h.1 y h1
    rw [Env.sb_look, hv] at h2
    cases h2
theorem Env.cl_sb : ∀ {e : Env}, e.ok → e.sb.Cl
  | .nil, _ => fun x v h => by cases h
  | .cons y v e, h => (Env.cl_sb h.2).add (Val.closed_told h.1)
end
theorem Val.isV_told (v : Val) : v.told.isV = true := by cases v <;> rfl
theorem Val.step_told (v : Val) : v.told.step = .val := Tr.step_val.mpr v.isV_told
theorem Env.ok_look : ∀ {e : Env} {y : Str} {v : Val}, e.ok → e.look y = some v → v.ok
  | .nil, y, v, _, h => by cases h
  | .cons z u e, y, v, k, h => by
    have h : (if y = z then some u else e.look y) = some v := h
    split at h
    · cases h; exact k.1
    · exact Env.ok_look k.2 h
theorem Env.look_keep {e : Env} : ∀ {ns : List Str} {y : Str}, (e.keep ns).look y = if y ∈ ns then e.look y else none
  | [], y => by simp [Env.keep, Env.look]
  | z :: r, y => by
    have ih := Env.look_keep (e := e) (ns := r) (y := y)
    show (match e.look z with | some v => Env.cons z v (e.keep r) | none => e.keep r).look y = _
    cases h : e.look z with
    | none =>
      dsimp only
      rw [ih]
      by_cases hy : y = z
      · subst hy
        simp [h]
      · simp [hy]
    | some v =>
      show (if y = z then some v else (e.keep r).look y) = _
      by_cases hy : y = z
      · subst hy
        simp [h]
      · rw [if_neg hy, ih]
        simp [hy]
theorem Env.ok_keep {e : Env} (k : e.ok) : ∀ ns : List Str, (e.keep ns).ok
  | [] => trivial
  | z :: r => by
    show (match e.look z with | some v => Env.cons z v (e.keep r) | none => e.keep r).ok
    cases h : e.look z with
    | none => exact Env.ok_keep k r
    | some v => exact ⟨Env.ok_look k h, Env.ok_keep k r⟩
/-- a place in which a part is worked out next -/
structure Ctx (F : Tr → Tr) : Prop where
  to : ∀ T T', T.step = .to T' → (F T).step = .to (F T')
  err : ∀ T c, T.step = .err c → (F T).step = .err c
theorem Ctx.id : Ctx fun T => T := ⟨fun _ _ h => h, fun _ _ h => h⟩
theorem Ctx.comp {F G : Tr → Tr} (f : Ctx F) (g : Ctx G) : Ctx fun T => F (G T) := ⟨fun T T' h => f.to _ _ (g.to _ _ h), fun T c h => f.err _ _ (g.err _ _ h)⟩
theorem ctx_plus1 (b : Tr) : Ctx fun T => .plus T b := ⟨fun T T' h => by simp only [Tr.step, h], fun T c h => by simp only [Tr.step, h]⟩
theorem ctx_less1 (b : Tr) : Ctx fun T => .less T b := ⟨fun T T' h => by simp only [Tr.step, h], fun T c h => by simp only [Tr.step, h]⟩
theorem ctx_call1 (b : Tr) : Ctx fun T => .call T b := ⟨fun T T' h => by simp only [Tr.step, h], fun T c h => by simp only [Tr.step, h]⟩
theorem ctx_ite (a b : Tr) : Ctx fun T => .ite T a b := ⟨fun T T' h => by simp only [Tr.step, h], fun T c h => by simp only [Tr.step, h]⟩
theorem ctx_lt (x : Str) (b : Tr) : Ctx fun T => .lt x T b := ⟨fun T T' h => by simp only [Tr.step, h], fun T c h => by simp only [Tr.step, h]⟩
theorem ctx_plus2 {a : Tr} (k : a.step = .val) : Ctx fun T => .plus a T := ⟨fun T T' h => by simp only [Tr.step, k, h], fun T c h => by simp only [Tr.step, k, h]⟩
theorem ctx_less2 {a : Tr} (k : a.step = .val) : Ctx fun T => .less a T := ⟨fun T T' h => by simp only [Tr.step, k, h], fun T c h => by simp only [Tr.step, k, h]⟩
theorem ctx_call2 {a : Tr} (k : a.step = .val) : Ctx fun T => .call a T := ⟨fun T T' h => by simp only [Tr.step, k, h], fun T c h => by simp only [Tr.step, k, h]⟩
theorem work_to {m : Nat} {t t' : Tr} (h : t.step = .to t') : work (m + 1) t = work m t' := by rw [work, h]
theorem work_err {m : Nat} {t : Tr} {c : Er} (h : t.step = .err c) : work (m + 1) t = .err c := by rw [work, h]
theorem work_to0 {t t' : Tr} (h : t.step = .to t') : work 0 t = .dry := by rw [work, h]
theorem work_err0 {t : Tr} {c : Er} (h : t.step = .err c) : work 0 t = .dry := by rw [work, h]
theorem work_val {m : Nat} {t : Tr} (h : t.step = .val) : work m t = .ok t m := by
  cases m <;> rw [work, h]
/-- what ev tells of the work on the tree -/
def Agree (m : Nat) (T : Tr) (F : Tr → Tr) : Rv → Prop
  | .ok v m' l => v.ok ∧ (∀ u ∈ l, u.ok) ∧ work m (F T) = work m' (F v.told)
  | .err c => work m (F T) = .err c
  | .dry => work m (F T) = .dry
theorem Agree.trans {m m1 : Nat} {T T1 : Tr} {F F1 : Tr → Tr} {r : Rv} (h : work m (F T) = work m1 (F1 T1)) (g : Agree m1 T1 F1 r) (k : ∀ v, r = v → True) (hF : ∀ u : Val, F1 u.told = F u.told) : Agree m T F r := by
  cases r with
  | ok v m' l => exact ⟨g.1, g.2.1, by rw [h, g.2.2, hF]⟩
  | err c => exact h.trans g
  | dry => exact h.trans g
theorem Agree.log {m : Nat} {T : Tr} {F : Tr → Tr} {r : Rv} {l : List Val} (g : Agree m T F r) (hl : ∀ u ∈ l, u.ok) : Agree m T F (r.log l) := by
  cases r with
  | ok v m' l' => exact ⟨g.1, fun u hu => by
      rcases List.mem_append.mp hu with hu | hu
      · exact hl u hu
      · exact g.2.1 u hu, g.2.2⟩
  | err c => exact g
  | dry => exact g
variable {fl : Tr → List Str}
theorem agree (hfl : ∀ t y, t.fr y → y ∈ fl t) : ∀ (m : Nat) (e : Env) (t : Tr), e.ok → e.Cov t → ∀ F, Ctx F → Agree m (t.sub e.sb) F (ev fl m e t)
  | m, e, .num n, ho, hc, F, hF => by rw [ev_num]; exact ⟨trivial, (fun u hu => by cases hu), rfl⟩
  | m, e, .name x, ho, hc, F, hF => by
    obtain ⟨v, hv⟩ := hc x rfl
    rw [ev_name, hv]
    refine ⟨Env.ok_look ho hv, (fun u hu => by cases hu), ?_⟩
    simp only [Tr.sub]
    rw [Env.sb_look, hv]
    rfl
  | m, e, .fn x b, ho, hc, F, hF => by
    rw [ev_fn]
    have hok : (Val.fn x b (e.keep (fl (.fn x b)))).ok := ⟨fun y hy => by
      obtain ⟨v, hv⟩ := hc y hy
      exact ⟨v, by rw [Env.look_keep, if_pos (hfl _ _ hy), hv]⟩, Env.ok_keep ho _⟩
    refine ⟨hok, fun u hu => by rw [List.mem_singleton.mp hu]; exact hok, ?_⟩
    have : (Tr.fn x b).sub e.sb = (Tr.fn x b).sub (e.keep (fl (.fn x b))).sb := Tr.sub_congr fun y hy => by
      rw [Env.sb_look, Env.sb_look, Env.look_keep, if_pos (hfl _ _ hy)]
    rw [this]
    rfl
  | m, e, .plus a b, ho, hc, F, hF => by
    rw [ev_plus]
    have g1 := agree hfl m e a ho (fun y hy => hc y (.inl hy)) _ (hF.comp (ctx_plus1 (b.sub e.sb)))
    have l1 := ev_left (fl := fl) (m := m) (e := e) (a := a)
    cases h1 : ev fl m e a with
    | err c => rw [h1] at g1; exact g1
    | dry => rw [h1] at g1; exact g1
    | ok v m1 L1 =>
      rw [h1] at g1 l1
      have hle : m1 ≤ m := l1
      have g2 := agree hfl m1 e b ho (fun y hy => hc y (.inr hy)) _ (hF.comp (ctx_plus2 v.step_told))
      have q : work m (F (.plus (a.sub e.sb) (b.sub e.sb))) = work m1 (F (.plus v.told (b.sub e.sb))) := g1.2.2
      dsimp only [Rv.bind]
      cases h2 : ev fl m1 e b with
      | err c => rw [h2] at g2; exact q.trans g2
      | dry => rw [h2] at g2; exact q.trans g2
      | ok w m2 L2 =>
        rw [h2] at g2
        have q2 := q.trans g2.2.2
        have hst : ∀ m2 v w, (Tr.plus (Val.told v) (Val.told w)).step = match arith (· + ·) v w m2 (L1 ++ L2) with | .ok u _ _ => .to u.told | _ => .err .number := by
          intro m2 v w
          simp only [Tr.step, Val.step_told]
          cases v <;> cases w <;> rfl
        have hst := hst m2 v w
        cases m2 with
        | zero =>
          show work m (F (.plus (a.sub e.sb) (b.sub e.sb))) = .dry
          rw [q2]
          cases v <;> cases w <;> first | exact work_to0 (hF.to _ _ hst) | exact work_err0 (hF.err _ _ hst)
        | succ m3 =>
          cases v <;> cases w <;> first
            | exact ⟨trivial, fun u hu => by
                rcases List.mem_append.mp hu with hu | hu
                · exact g1.2.1 u hu
                · exact g2.2.1 u hu, q2.trans (work_to (hF.to _ _ hst))⟩
            | exact q2.trans (work_err (hF.err _ _ hst))
  | m, e, .less a b, ho, hc, F, hF => by
    rw [ev_less]
    have g1 := agree hfl m e a ho (fun y hy => hc y (.inl hy)) _ (hF.comp (ctx_less1 (b.sub e.sb)))
    have l1 := ev_left (fl := fl) (m := m) (e := e) (a := a)
    cases h1 : ev fl m e a with
    | err c => rw [h1] at g1; exact g1
    | dry => rw [h1] at g1; exact g1
    | ok v m1 L1 =>
      rw [h1] at g1 l1
      have hle : m1 ≤ m := l1
      have g2 := agree hfl m1 e b ho (fun y hy => hc y (.inr hy)) _ (hF.comp (ctx_less2 v.step_told))
      have q : work m (F (.less (a.sub e.sb) (b.sub e.sb))) = work m1 (F (.less v.told (b.sub e.sb))) := g1.2.2
      dsimp only [Rv.bind]
      cases h2 : ev fl m1 e b with
      | err c => rw [h2] at g2; exact q.trans g2
      | dry => rw [h2] at g2; exact q.trans g2
      | ok w m2 L2 =>
        rw [h2] at g2
        have q2 := q.trans g2.2.2
        have hst : ∀ m2 v w, (Tr.less (Val.told v) (Val.told w)).step = match arith (· - ·) v w m2 (L1 ++ L2) with | .ok u _ _ => .to u.told | _ => .err .number := by
          intro m2 v w
          simp only [Tr.step, Val.step_told]
          cases v <;> cases w <;> rfl
        have hst := hst m2 v w
        cases m2 with
        | zero =>
          show work m (F (.less (a.sub e.sb) (b.sub e.sb))) = .dry
          rw [q2]
          cases v <;> cases w <;> first | exact work_to0 (hF.to _ _ hst) | exact work_err0 (hF.err _ _ hst)
        | succ m3 =>
          cases v <;> cases w <;> first
            | exact ⟨trivial, fun u hu => by
                rcases List.mem_append.mp hu with hu | hu
                · exact g1.2.1 u hu
                · exact g2.2.1 u hu, q2.trans (work_to (hF.to _ _ hst))⟩
            | exact q2.trans (work_err (hF.err _ _ hst))
  | m, e, .call a b, ho, hc, F, hF => by
    rw [ev_call]
    have g1 := agree hfl m e a ho (fun y hy => hc y (.inl hy)) _ (hF.comp (ctx_call1 (b.sub e.sb)))
    have l1 := ev_left (fl := fl) (m := m) (e := e) (a := a)
    cases h1 : ev fl m e a with
    | err c => rw [h1] at g1; exact g1
    | dry => rw [h1] at g1; exact g1
    | ok v m1 L1 =>
      rw [h1] at g1 l1
      have hle : m1 ≤ m := l1
      have g2 := agree hfl m1 e b ho (fun y hy => hc y (.inr hy)) _ (hF.comp (ctx_call2 v.step_told))
      have l2 := ev_left (fl := fl) (m := m1) (e := e) (a := b)
      have q : work m (F (.call (a.sub e.sb) (b.sub e.sb))) = work m1 (F (.call v.told (b.sub e.sb))) := g1.2.2
      dsimp only [Rv.bind]
      cases h2 : ev fl m1 e b with
      | err c => rw [h2] at g2; exact q.trans g2
      | dry => rw [h2] at g2; exact q.trans g2
      | ok w m2 L2 =>
        rw [h2] at g2 l2
        have q2 := q.trans g2.2.2
        have hL : ∀ u ∈ L1 ++ L2, u.ok := fun u hu => by
          rcases List.mem_append.mp hu with hu | hu
          · exact g1.2.1 u hu
          · exact g2.2.1 u hu
        cases v with
        | num n =>
          have hst : (Tr.call (Val.num n).told w.told).step = .err .function := by
            simp only [Tr.step, Val.step_told]; rfl
          cases m2 with
          | zero => exact q2.trans (work_err0 (hF.err _ _ hst))
          | succ m3 => exact q2.trans (work_err (hF.err _ _ hst))
        | fn x t e' =>
          have hst : (Tr.call (Val.fn x t e').told w.told).step = .to (t.sub (Env.cons x w e').sb) := by
            simp only [Tr.step, Val.step_told]
            show St1.to ((t.sub (e'.sb.del x)).put x w.told) = _
            rw [Tr.put_body (Env.cl_sb g1.1.2)]
            rfl
          cases m2 with
          | zero => exact q2.trans (work_to0 (hF.to _ _ hst))
          | succ m3 =>
            have hlt : m3 < m := by simp only [Rv.left] at l1 l2; omega
            have g3 := agree hfl m3 (.cons x w e') t ⟨g2.1, g1.1.2⟩ (fun y hy => by
              by_cases hxy : y = x
              · exact ⟨w, by show (if y = x then some w else _) = _; rw [if_pos hxy]⟩
              · obtain ⟨u, hu⟩ := g1.1.1 y ⟨fun e => hxy e.symm, hy⟩
                exact ⟨u, by show (if y = x then some w else e'.look y) = _; rw [if_neg hxy]; exact hu⟩) F hF
            have q3 := q2.trans (work_to (m := m3) (hF.to _ _ hst))
            exact (Agree.trans (F := F) (F1 := F) (T := Tr.call (a.sub e.sb) (b.sub e.sb)) q3 g3 (fun _ _ => trivial) fun _ => rfl).log hL
  | m, e, .ite c a b, ho, hc, F, hF => by
    rw [ev_ite]
    have g1 := agree hfl m e c ho (fun y hy => hc y (.inl hy)) _ (hF.comp (ctx_ite (a.sub e.sb) (b.sub e.sb)))
    have l1 := ev_left (fl := fl) (m := m) (e := e) (a := c)
    cases h1 : ev fl m e c with
    | err c => rw [h1] at g1; exact g1
    | dry => rw [h1] at g1; exact g1
    | ok v m1 L1 =>
      rw [h1] at g1 l1
      have q : work m (F (.ite (c.sub e.sb) (a.sub e.sb) (b.sub e.sb))) = work m1 (F (.ite v.told (a.sub e.sb) (b.sub e.sb))) := g1.2.2
      cases v with
      | fn x t e' =>
        have hst : (Tr.ite (Val.fn x t e').told (a.sub e.sb) (b.sub e.sb)).step = .err .number := by
          simp only [Tr.step, Val.step_told]; rfl
        cases m1 with
        | zero => exact q.trans (work_err0 (hF.err _ _ hst))
        | succ m3 => exact q.trans (work_err (hF.err _ _ hst))
      | num n =>
        have hst : (Tr.ite (Val.num n).told (a.sub e.sb) (b.sub e.sb)).step = .to ((if n = 0 then b else a).sub e.sb) := by
          simp only [Tr.step, Val.step_told, Val.told]
          split <;> rfl
        cases m1 with
        | zero => exact q.trans (work_to0 (hF.to _ _ hst))
        | succ m3 =>
          have hlt : m3 < m := by simp only [Rv.left] at l1; omega
          have g3 := agree hfl m3 e (if n = 0 then b else a) ho (fun y hy => by
            by_cases h0 : n = 0
            · rw [if_pos h0] at hy; exact hc y (.inr (.inr hy))
            · rw [if_neg h0] at hy; exact hc y (.inr (.inl hy))) F hF
          have q3 := q.trans (work_to (m := m3) (hF.to _ _ hst))
          exact (Agree.trans (F := F) (F1 := F) (T := Tr.ite (c.sub e.sb) (a.sub e.sb) (b.sub e.sb)) q3 g3 (fun _ _ => trivial) fun _ => rfl).log g1.2.1
  | m, e, .lt x a b, ho, hc, F, hF => by
    rw [ev_lt]
    have g1 := agree hfl m e a ho (fun y hy => hc y (.inl hy)) _ (hF.comp (ctx_lt x (b.sub (e.sb.del x))))
    have l1 := ev_left (fl := fl) (m := m) (e := e) (a := a)
    cases h1 : ev fl m e a with
    | err c => rw [h1] at g1; exact g1
    | dry => rw [h1] at g1; exact g1
    | ok v m1 L1 =>
      rw [h1] at g1 l1
      have q : work m (F (.lt x (a.sub e.sb) (b.sub (e.sb.del x)))) = work m1 (F (.lt x v.told (b.sub (e.sb.del x)))) := g1.2.2
      have hst : (Tr.lt x v.told (b.sub (e.sb.del x))).step = .to (b.sub (Env.cons x v e).sb) := by
        simp only [Tr.step, Val.step_told]
        rw [Tr.put_body (Env.cl_sb ho)]
        rfl
      cases m1 with
      | zero => exact q.trans (work_to0 (hF.to _ _ hst))
      | succ m3 =>
        have hlt : m3 < m := by simp only [Rv.left] at l1; omega
        have g3 := agree hfl m3 (.cons x v e) b ⟨g1.1, ho⟩ (fun y hy => by
          by_cases hxy : y = x
          · exact ⟨v, by show (if y = x then some v else _) = _; rw [if_pos hxy]⟩
          · obtain ⟨u, hu⟩ := hc y (.inr ⟨fun e => hxy e.symm, hy⟩)
            exact ⟨u, by show (if y = x then some v else e.look y) = _; rw [if_neg hxy]; exact hu⟩) F hF
        have q3 := q.trans (work_to (m := m3) (hF.to _ _ hst))
        exact (Agree.trans (F := F) (F1 := F) (T := Tr.lt x (a.sub e.sb) (b.sub (e.sb.del x))) q3 g3 (fun _ _ => trivial) fun _ => rfl).log g1.2.1
termination_by m _ t => (m, t.size)
decreasing_by
  all_goals simp_wf
  all_goals (try simp only [Rv.left] at *)
  all_goals (try simp only [Tr.size])
  all_goals first | exact Prod.Lex.left _ _ (by omega) | exact lexle (by omega) (by omega)
/-- run and worked come to the same -/
theorem run_work (hfl : ∀ t y, t.fr y → y ∈ fl t) {m : Nat} {t : Tr} (hc : t.closed) : work m t = match ev fl m .nil t with | .ok v m' _ => .ok v.told m' | .err c => .err c | .dry => .dry := by
  have g := agree hfl m .nil t trivial (fun y hy => absurd hy (hc y)) _ Ctx.id
  have e : t.sub Env.nil.sb = t := t.sub_none
  rw [e] at g
  cases h : ev fl m .nil t with
  | ok v m' l =>
    rw [h] at g
    exact g.2.2.trans (work_val v.step_told)
  | err c => rw [h] at g; exact g
  | dry => rw [h] at g; exact g
end My

namespace My
open PySem L2
/-- the names that the module has no own for -/
structure Bt (mg : Str → Option Value) : Prop where
  len : mg "len" = none
  list : mg "list" = none
  range : mg "range" = none
  isinstance : mg "isinstance" = none
  type : mg "type" = none
  all : mg "all" = none
  any : mg "any" = none
  str : mg "str" = none
  int : mg "int" = none
  bool : mg "bool" = none
  tuple : mg "tuple" = none
  sorted : mg "sorted" = none
  reversed : mg "reversed" = none
  zip : mg "zip" = none
  dict : mg "dict" = none
  min : mg "min" = none
  max : mg "max" = none
  sum : mg "sum" = none
  set : mg "set" = none
  repr : mg "repr" = none
  abs : mg "abs" = none
  enumerate : mg "enumerate" = none
  ValueError : mg "ValueError" = none
def kinWord (c : Int) : List Nat := (List.range 8).map fun (k : Nat) => lett (c + 3 * (k : Int))
def kinTurned (c : Int) : List (List Nat) := (List.range 8).map fun k => (kinWord c).drop k ++ (kinWord c).take k
def kinBy (c : Int) (many : Nat) : List (List Nat) :=
  if c / 26 % 2 = 0 ∧ many < 9 then (List.range many).map fun k => (kinWord c).take (k + 1) else (kinTurned c ++ (kinTurned c).map List.reverse).take many
def spKin : Sp := fun vs H Q _ => ∃ (c : Int) (many : Nat), vs = [.int c, .int many] ∧ many ≤ 16 ∧ ∀ (l : Addr) (H' : Hp), H l = none → Same H H' → H' l = some (.lst ((kinBy c many).map fun x => .str (mkS x))) → Q (.ref l) H'
def spName (m : Int) : Sp := fun vs H Q _ => ∃ (c : Int), vs = [.int c] ∧ ∀ H', Same H H' → Q (.str (mkS (nameBy m c))) H'
/-- what the law's _law_joined makes -/
def joined (k : Int) (x : Str) (a b : Tr) : Tr :=
  if k = 6 then .call (.fn x a) b else if k = 7 then .plus a b else if k = 8 then .less a b else if k = 9 then .ite a b (.name x) else .lt x a b
def spJoined : Sp := fun vs H Q _ => ∃ (k : Int) (x : Str) (a b : Tr) (u v : V), vs = [.int k, .str x, u, v] ∧ At H a u ∧ At H b v ∧ ∀ (r : V) (H' : Hp), Same H H' → At H' (joined k x a b) r → Q r H'
def N60 (n : Int) : Prop := -(10 ^ 60) < n ∧ n < 10 ^ 60
theorem n60a (m : Int) : N60 (m % (2 * 10 ^ (60 : Int).toNat - 1) - 10 ^ (60 : Int).toNat + 1) := by
  show -(10 ^ 60) < m % (2 * 10 ^ 60 - 1) - 10 ^ 60 + 1 ∧ m % (2 * 10 ^ 60 - 1) - 10 ^ 60 + 1 < 10 ^ 60
  omega
theorem n60b (m : Int) : N60 (m % 10 ^ (60 : Int).toNat) := by
  show -(10 ^ 60) < m % 10 ^ 60 ∧ m % 10 ^ 60 < 10 ^ 60
  omega
def spTreeN (K : PySem.W.Frag) (nn g : Nat) : Sp := fun vs H Q _ => ∃ (a b : Addr) (ns : List Int) (xs : List Str), vs = [.ref a, .ref b] ∧ SqL K H a (ns.map V.int) ∧ ns.length ≤ 60 ∧ SqL K H b (xs.map V.str) ∧ xs.length = nn ∧
  ∀ (t : Tr) (r : V) (H' : Hp), Same H H' → At H' t r → t.all (· ∈ xs) N60 → t.size ≤ g * ns.length + 2 → Q r H'
theorem n60n (m : Int) : N60 (m % 10 ^ (60 : Int).toNat) := n60b m
theorem n60s (m : Int) : N60 (m % 7 - 3) := by
  show -(10 ^ 60) < m % 7 - 3 ∧ m % 7 - 3 < 10 ^ 60
  omega
theorem at_nm {xs : List Str} {nn : Nat} (h : xs.length = nn) (h0 : 0 < nn) (m : Int) : ∃ x ∈ xs, atI (xs.map V.str) (m % (nn : Int)) = some (.str x) := by
  subst h
  exact at_mod V.str h0 m
theorem joined_all {S : Str → Prop} {N : Int → Prop} {k : Int} {x : Str} {a b : Tr} (hx : S x) (ha : a.all S N) (hb : b.all S N) : (joined k x a b).all S N := by
  unfold joined
  split
  · exact ⟨⟨hx, ha⟩, hb⟩
  split
  · exact ⟨ha, hb⟩
  split
  · exact ⟨ha, hb⟩
  split
  · exact ⟨ha, hb, hx⟩
  · exact ⟨hx, ha, hb⟩
theorem joined_size (k : Int) (x : Str) (a b : Tr) : (joined k x a b).size ≤ a.size + b.size + 2 := by
  unfold joined
  split
  · simp only [Tr.size]; omega
  split
  · simp only [Tr.size]; omega
  split
  · simp only [Tr.size]; omega
  split
  · simp only [Tr.size]; omega
  · simp only [Tr.size]; omega
def joined11 (k : Int) (x : Str) (a b : Tr) : Tr := if k = 6 then .call (.fn x a) b else if k = 7 then .plus a b else if k = 8 then .ite a b (.name x) else .lt x a b
def spJoined11 : Sp := fun vs H Q _ => ∃ (k : Int) (x : Str) (a b : Tr) (u v : V), vs = [.int k, .str x, u, v] ∧ At H a u ∧ At H b v ∧ ∀ (r : V) (H' : Hp), Same H H' → At H' (joined11 k x a b) r → Q r H'
theorem joined_all11 {S : Str → Prop} {N : Int → Prop} {k : Int} {x : Str} {a b : Tr} (hx : S x) (ha : a.all S N) (hb : b.all S N) : (joined11 k x a b).all S N := by
  unfold joined11
  repeat' split
  all_goals simp only [Tr.all]
  all_goals simp only [hx, ha, hb, and_self]
theorem joined_size11 (k : Int) (x : Str) (a b : Tr) : (joined11 k x a b).size ≤ a.size + b.size + 2 := by
  unfold joined11
  repeat' split
  all_goals simp only [Tr.size]
  all_goals omega
def joined13 (k : Int) (x : Str) (a b : Tr) : Tr := if k = 5 then .call (.fn x a) b else if k = 6 then .plus a b else if k = 7 then .less a b else if k = 8 then .ite a (.fn x (.name x)) b else .lt x a b
def spJoined13 : Sp := fun vs H Q _ => ∃ (k : Int) (x : Str) (a b : Tr) (u v : V), vs = [.int k, .str x, u, v] ∧ At H a u ∧ At H b v ∧ ∀ (r : V) (H' : Hp), Same H H' → At H' (joined13 k x a b) r → Q r H'
theorem joined_all13 {S : Str → Prop} {N : Int → Prop} {k : Int} {x : Str} {a b : Tr} (hx : S x) (ha : a.all S N) (hb : b.all S N) : (joined13 k x a b).all S N := by
  unfold joined13
  repeat' split
  all_goals simp only [Tr.all]
  all_goals simp only [hx, ha, hb, and_self]
theorem joined_size13 (k : Int) (x : Str) (a b : Tr) : (joined13 k x a b).size ≤ a.size + b.size + 3 := by
  unfold joined13
  repeat' split
  all_goals simp only [Tr.size]
  all_goals omega
/-- two leaves that are one -/
def spLeaf : Sp := fun vs H Q _ => ∃ (v : V), ((∃ i, v = .int i) ∨ ∃ x, v = .str x) ∧ vs = [v, v] ∧ Q (.bl true) H
theorem isi_it {K : PySem.W.Frag} {H : Hp} (i : Int) : TyX K H (.int i) (.type "int") ∧ PySem.W.kitOne K (.type "int") (.type "tuple") = some false := ⟨.base (.int i), kit_ty (by decide +kernel)⟩
theorem isi_st {K : PySem.W.Frag} {H : Hp} (i : Str) : TyX K H (.str i) (.type "str") ∧ PySem.W.kitOne K (.type "str") (.type "tuple") = some false := ⟨.base (.str i), kit_ty (by decide +kernel)⟩
theorem isi_sb {K : PySem.W.Frag} {H : Hp} (i : Str) : TyX K H (.str i) (.type "str") ∧ PySem.W.kitOne K (.type "str") (.type "bool") = some false := ⟨.base (.str i), kit_ty (by decide +kernel)⟩
theorem isi_is {K : PySem.W.Frag} {H : Hp} (i : Int) : TyX K H (.int i) (.type "int") ∧ PySem.W.kitOne K (.type "int") (.type "str") = some false := ⟨.base (.int i), kit_ty (by decide +kernel)⟩
/-! ### two trees, walked down at once -/
def Tr.dep : Tr → Nat
  | .num _ => 1 | .name _ => 1 | .fn _ b => 1 + b.dep | .call a b => 1 + max a.dep b.dep | .plus a b => 1 + max a.dep b.dep | .less a b => 1 + max a.dep b.dep
  | .ite c a b => 1 + max c.dep (max a.dep b.dep) | .lt _ a b => 1 + max a.dep b.dep
theorem Tr.dep_pos (t : Tr) : 1 ≤ t.dep := by cases t <;> simp only [Tr.dep] <;> omega
structure Rw where
  u : V
  v : V
  b : Bool
  d : Nat
  n : Nat
/-- v is u with w in the place of x, where b doesn't tell that x is bound -/
def RowR (x : Str) (w : Tr) (H : Hp) (r : Rw) : Prop :=
  (((∃ i, r.u = .int i) ∨ ∃ z, r.u = .str z) ∧ r.v = r.u ∧ r.d = 0 ∧ r.n = 1) ∨
  ∃ t t' : Tr, At H t r.u ∧ At H t' r.v ∧ t' = (if r.b = true then t else t.put x w) ∧ r.d = t'.dep ∧ r.n = 8 * t'.size + (if r.b = true then 0 else 1)
def nsum (rs : List Rw) : Nat := (rs.map Rw.n).sum
theorem nsum_append (a b : List Rw) : nsum (a ++ b) = nsum a + nsum b := by simp [nsum]
theorem nsum_cons (a : Rw) (b : List Rw) : nsum (a :: b) = a.n + nsum b := by simp [nsum]
theorem RowR.pos {x : Str} {w : Tr} {H : Hp} {r : Rw} (h : RowR x w H r) : 1 ≤ r.n := by
  rcases h with ⟨_, _, _, e⟩ | ⟨t, t', _, _, _, _, e⟩
  · omega
  · have := t'.size_pos; omega
/-- is x bound at the k-th place of a node? -/
def flagAt (x : Str) (b : Bool) (t : Tr) (k : Nat) : Bool := match t with
  | .fn z _ => b || decide (z = x)
  | .lt z _ _ => b || (decide (z = x) && decide (k = 3))
  | _ => b
/-- a node's own row, taken apart -/
structure Apart (x : Str) (w : Tr) (H : Hp) (r : Rw) (t : Tr) (a a' : Addr) (xs ys : List V) (ks : List Rw) : Prop where
  u : r.u = .ref a
  v : r.v = .ref a'
  xs_ : H a = some (.tup xs)
  ys_ : H a' = some (.tup ys)
  mu : ks.map Rw.u = xs
  mv : ks.map Rw.v = ys
  b : ∀ k s, ks[k]? = some s → s.b = flagAt x r.b t k
  row : ∀ s ∈ ks, RowR x w H s
  d : ∀ s ∈ ks, s.d + 1 ≤ r.d
  n : nsum ks < r.n
  le : ks.length ≤ 4
  word : xs[0]? = some (.str t.word)
  name : t.binds = true → ∃ z, xs[1]? = some (.str z) ∧ ((∃ c, t = .fn z c) ∨ ∃ e c, t = .lt z e c)
theorem row_leaf {x : Str} {w : Tr} {H : Hp} {v : V} (b : Bool) (h : (∃ i, v = .int i) ∨ ∃ z, v = .str z) : RowR x w H ⟨v, v, b, 0, 1⟩ := .inl ⟨h, rfl, rfl, rfl⟩
theorem row_tree {x : Str} {w : Tr} {H : Hp} {t t' : Tr} {u v : V} (b : Bool) (h1 : At H t u) (h2 : At H t' v) (h : t' = (if b = true then t else t.put x w)) : RowR x w H ⟨u, v, b, t'.dep, 8 * t'.size + (if b = true then 0 else 1)⟩ := .inr ⟨t, t', h1, h2, h, rfl, rfl⟩
theorem put_fn {z x : Str} {c w : Tr} : (Tr.fn z c).put x w = .fn z (if z = x then c else c.put x w) := by
  unfold Tr.put
  simp only [Tr.sub]
  by_cases h : z = x
  · subst h
    rw [if_pos rfl, Tr.sub_id]
    intro y hy
    unfold Sb.del Sb.one
    by_cases e : y = z <;> simp [e]
  · rw [if_neg h]
    congr 2
    funext y
    unfold Sb.del Sb.one
    by_cases e : y = z
    · subst e; rw [if_pos rfl, if_neg h]
    · rw [if_neg e]
theorem put_lt {z x : Str} {e c w : Tr} : (Tr.lt z e c).put x w = .lt z (e.put x w) (if z = x then c else c.put x w) := by
  have h := put_fn (z := z) (x := x) (c := c) (w := w)
  unfold Tr.put at h ⊢
  simp only [Tr.sub] at h ⊢
  injection h with h1 h2
  rw [h2]
theorem put_call {x : Str} {a b w : Tr} : (Tr.call a b).put x w = .call (a.put x w) (b.put x w) := rfl
theorem put_plus {x : Str} {a b w : Tr} : (Tr.plus a b).put x w = .plus (a.put x w) (b.put x w) := rfl
theorem put_less {x : Str} {a b w : Tr} : (Tr.less a b).put x w = .less (a.put x w) (b.put x w) := rfl
theorem put_ite {x : Str} {c a b w : Tr} : (Tr.ite c a b).put x w = .ite (c.put x w) (a.put x w) (b.put x w) := rfl
theorem put_num {x : Str} {n : Int} {w : Tr} : (Tr.num n).put x w = .num n := rfl
theorem put_name {x y : Str} {w : Tr} : (Tr.name y).put x w = if y = x then w else .name y := by
  unfold Tr.put
  simp only [Tr.sub, Sb.one]
  split <;> rfl
local macro_rules | `(tactic| walk_at "ap_b") => `(tactic| (rintro (_ | _ | _ | _ | k) s hs <;> first | (simp at hs; done) | (cases hs; simp [flagAt])))
local macro_rules | `(tactic| walk_at "ap_d") => `(tactic| (simp only [List.mem_cons, List.not_mem_nil, or_false, forall_eq_or_imp, forall_eq, Tr.dep]; omega))
local macro_rules | `(tactic| walk_at "ap_n") => `(tactic| (simp only [nsum, List.map_cons, List.map_nil, List.sum_cons, List.sum_nil, Tr.size]; (repeat' split) <;> first | omega | (exfalso; simp_all; done)))
local macro_rules | `(tactic| walk_at "ap_m") => `(tactic| simp only [List.mem_cons, List.not_mem_nil, or_false, forall_eq_or_imp, forall_eq])
theorem apart {x : Str} {w : Tr} {H : Hp} {r : Rw} {t t' : Tr} (h1 : At H t r.u) (h2 : At H t' r.v) (ht : t' = (if r.b = true then t else t.put x w)) (hd : r.d = t'.dep) (hn : r.n = 8 * t'.size + (if r.b = true then 0 else 1)) (hx : r.b = false → t ≠ .name x) :
    ∃ a a' xs ys ks, Apart x w H r t a a' xs ys ks := by
  obtain ⟨u, v, b, d, n⟩ := r
  change At H t u at h1
  change At H t' v at h2
  change t' = (if b = true then t else t.put x w) at ht
  change d = t'.dep at hd
  change n = 8 * t'.size + (if b = true then 0 else 1) at hn
  change b = false → t ≠ .name x at hx
  cases t with
  | num i =>
    have e : t' = .num i := by
      rw [ht]; cases b <;> rfl
    subst e
    subst hd
    subst hn
    obtain ⟨a, rfl, ha⟩ := h1
    obtain ⟨a', rfl, ha'⟩ := h2
    exact ⟨a, a', _, _, [⟨.str "num", .str "num", b, 0, 1⟩, ⟨.int i, .int i, b, 0, 1⟩], rfl, rfl, ha, ha', rfl, rfl, (by walk_at "ap_b"),
      (by walk_at "ap_m"; exact ⟨row_leaf _ (.inr ⟨_, rfl⟩), row_leaf _ (.inl ⟨_, rfl⟩)⟩), (by walk_at "ap_d"), (by walk_at "ap_n"), (by simp), rfl, (fun h => by cases h)⟩
  | name y =>
    have e : t' = .name y := by
      rw [ht]
      cases b with
      | true => rfl
      | false =>
        rw [if_neg (by decide), put_name, if_neg]
        intro e
        exact hx rfl (by rw [e])
    subst e
    subst hd
    subst hn
    obtain ⟨a, rfl, ha⟩ := h1
    obtain ⟨a', rfl, ha'⟩ := h2
    exact ⟨a, a', _, _, [⟨.str "name", .str "name", b, 0, 1⟩, ⟨.str y, .str y, b, 0, 1⟩], rfl, rfl, ha, ha', rfl, rfl, (by walk_at "ap_b"),
      (by walk_at "ap_m"; exact ⟨row_leaf _ (.inr ⟨_, rfl⟩), row_leaf _ (.inr ⟨_, rfl⟩)⟩), (by walk_at "ap_d"), (by walk_at "ap_n"), (by simp), rfl, (fun h => by cases h)⟩
  | fn z c =>
    have e : t' = .fn z (if (b || decide (z = x)) = true then c else c.put x w) := by
      rw [ht]
      cases b with
      | true => rfl
      | false => rw [if_neg (by decide), put_fn]; by_cases h : z = x <;> simp [h]
    subst e
    subst hd
    subst hn
    obtain ⟨a, u1, rfl, ha, c1⟩ := h1
    obtain ⟨a', v1, rfl, ha', d1⟩ := h2
    exact ⟨a, a', _, _, [⟨.str "fun", .str "fun", (b || decide (z = x)), 0, 1⟩, ⟨.str z, .str z, (b || decide (z = x)), 0, 1⟩, ⟨u1, v1, (b || decide (z = x)), Tr.dep (if (b || decide (z = x)) = true then c else c.put x w), 8 * Tr.size (if (b || decide (z = x)) = true then c else c.put x w) + (if ((b || decide (z = x))) = true then 0 else 1)⟩], rfl, rfl, ha, ha', rfl, rfl, (by walk_at "ap_b"),
      (by walk_at "ap_m"; exact ⟨row_leaf _ (.inr ⟨_, rfl⟩), row_leaf _ (.inr ⟨_, rfl⟩), row_tree (b || decide (z = x)) c1 d1 rfl⟩), (by walk_at "ap_d"), (by walk_at "ap_n"), (by simp), rfl, (fun _ => ⟨z, rfl, .inl ⟨c, rfl⟩⟩)⟩
  | call f g =>
    have e : t' = .call (if b = true then f else f.put x w) (if b = true then g else g.put x w) := by
      rw [ht]; cases b <;> rfl
    subst e
    subst hd
    subst hn
    obtain ⟨a, u1, u2, rfl, ha, c1, c2⟩ := h1
    obtain ⟨a', v1, v2, rfl, ha', d1, d2⟩ := h2
    exact ⟨a, a', _, _, [⟨.str "call", .str "call", b, 0, 1⟩, ⟨u1, v1, b, Tr.dep (if b = true then f else f.put x w), 8 * Tr.size (if b = true then f else f.put x w) + (if (b) = true then 0 else 1)⟩, ⟨u2, v2, b, Tr.dep (if b = true then g else g.put x w), 8 * Tr.size (if b = true then g else g.put x w) + (if (b) = true then 0 else 1)⟩], rfl, rfl, ha, ha', rfl, rfl, (by walk_at "ap_b"),
      (by walk_at "ap_m"; exact ⟨row_leaf _ (.inr ⟨_, rfl⟩), row_tree b c1 d1 rfl, row_tree b c2 d2 rfl⟩), (by walk_at "ap_d"), (by walk_at "ap_n"), (by simp), rfl, (fun h => by cases h)⟩
  | plus f g =>
    have e : t' = .plus (if b = true then f else f.put x w) (if b = true then g else g.put x w) := by
      rw [ht]; cases b <;> rfl
    subst e
    subst hd
    subst hn
    obtain ⟨a, u1, u2, rfl, ha, c1, c2⟩ := h1
    obtain ⟨a', v1, v2, rfl, ha', d1, d2⟩ := h2
    exact ⟨a, a', _, _, [⟨.str "plus", .str "plus", b, 0, 1⟩, ⟨u1, v1, b, Tr.dep (if b = true then f else f.put x w), 8 * Tr.size (if b = true then f else f.put x w) + (if (b) = true then 0 else 1)⟩, ⟨u2, v2, b, Tr.dep (if b = true then g else g.put x w), 8 * Tr.size (if b = true then g else g.put x w) + (if (b) = true then 0 else 1)⟩], rfl, rfl, ha, ha', rfl, rfl, (by walk_at "ap_b"),
      (by walk_at "ap_m"; exact ⟨row_leaf _ (.inr ⟨_, rfl⟩), row_tree b c1 d1 rfl, row_tree b c2 d2 rfl⟩), (by walk_at "ap_d"), (by walk_at "ap_n"), (by simp), rfl, (fun h => by cases h)⟩
  | less f g =>
    have e : t' = .less (if b = true then f else f.put x w) (if b = true then g else g.put x w) := by
      rw [ht]; cases b <;> rfl
    subst e
    subst hd
    subst hn
    obtain ⟨a, u1, u2, rfl, ha, c1, c2⟩ := h1
    obtain ⟨a', v1, v2, rfl, ha', d1, d2⟩ := h2
    exact ⟨a, a', _, _, [⟨.str "less", .str "less", b, 0, 1⟩, ⟨u1, v1, b, Tr.dep (if b = true then f else f.put x w), 8 * Tr.size (if b = true then f else f.put x w) + (if (b) = true then 0 else 1)⟩, ⟨u2, v2, b, Tr.dep (if b = true then g else g.put x w), 8 * Tr.size (if b = true then g else g.put x w) + (if (b) = true then 0 else 1)⟩], rfl, rfl, ha, ha', rfl, rfl, (by walk_at "ap_b"),
      (by walk_at "ap_m"; exact ⟨row_leaf _ (.inr ⟨_, rfl⟩), row_tree b c1 d1 rfl, row_tree b c2 d2 rfl⟩), (by walk_at "ap_d"), (by walk_at "ap_n"), (by simp), rfl, (fun h => by cases h)⟩
  | ite f g k =>
    have e : t' = .ite (if b = true then f else f.put x w) (if b = true then g else g.put x w) (if b = true then k else k.put x w) := by
      rw [ht]; cases b <;> rfl
    subst e
    subst hd
    subst hn
    obtain ⟨a, u1, u2, u3, rfl, ha, c1, c2, c3⟩ := h1
    obtain ⟨a', v1, v2, v3, rfl, ha', d1, d2, d3⟩ := h2
    exact ⟨a, a', _, _, [⟨.str "if", .str "if", b, 0, 1⟩, ⟨u1, v1, b, Tr.dep (if b = true then f else f.put x w), 8 * Tr.size (if b = true then f else f.put x w) + (if (b) = true then 0 else 1)⟩, ⟨u2, v2, b, Tr.dep (if b = true then g else g.put x w), 8 * Tr.size (if b = true then g else g.put x w) + (if (b) = true then 0 else 1)⟩, ⟨u3, v3, b, Tr.dep (if b = true then k else k.put x w), 8 * Tr.size (if b = true then k else k.put x w) + (if (b) = true then 0 else 1)⟩], rfl, rfl, ha, ha', rfl, rfl, (by walk_at "ap_b"),
      (by walk_at "ap_m"; exact ⟨row_leaf _ (.inr ⟨_, rfl⟩), row_tree b c1 d1 rfl, row_tree b c2 d2 rfl, row_tree b c3 d3 rfl⟩), (by walk_at "ap_d"), (by walk_at "ap_n"), (by simp), rfl, (fun h => by cases h)⟩
  | lt z f c =>
    have e : t' = .lt z (if b = true then f else f.put x w) (if (b || decide (z = x)) = true then c else c.put x w) := by
      rw [ht]
      cases b with
      | true => rfl
      | false => rw [if_neg (by decide), put_lt]; by_cases h : z = x <;> simp [h]
    subst e
    subst hd
    subst hn
    obtain ⟨a, u1, u2, rfl, ha, c1, c2⟩ := h1
    obtain ⟨a', v1, v2, rfl, ha', d1, d2⟩ := h2
    exact ⟨a, a', _, _, [⟨.str "let", .str "let", b, 0, 1⟩, ⟨.str z, .str z, b, 0, 1⟩, ⟨u1, v1, b, Tr.dep (if b = true then f else f.put x w), 8 * Tr.size (if b = true then f else f.put x w) + (if (b) = true then 0 else 1)⟩, ⟨u2, v2, (b || decide (z = x)), Tr.dep (if (b || decide (z = x)) = true then c else c.put x w), 8 * Tr.size (if (b || decide (z = x)) = true then c else c.put x w) + (if ((b || decide (z = x))) = true then 0 else 1)⟩], rfl, rfl, ha, ha', rfl, rfl, (by walk_at "ap_b"),
      (by walk_at "ap_m"; exact ⟨row_leaf _ (.inr ⟨_, rfl⟩), row_leaf _ (.inr ⟨_, rfl⟩), row_tree b c1 d1 rfl, row_tree (b || decide (z = x)) c2 d2 rfl⟩), (by walk_at "ap_d"), (by walk_at "ap_n"), (by simp), rfl, (fun _ => ⟨z, rfl, .inr ⟨f, c, rfl⟩⟩)⟩
theorem map_snoc {α : Type} {f : α → V} {xs : List α} {ys : List V} {y : V} (h : xs.map f = ys ++ [y]) : ∃ zs z, xs = zs ++ [z] ∧ ys = zs.map f ∧ y = f z := by
  rcases List.eq_nil_or_concat xs with r | ⟨zs, z, r⟩
  · subst r
    simp at h
  · rw [List.concat_eq_append] at r
    subst r
    rw [List.map_append] at h
    obtain ⟨h1, h2⟩ := List.append_inj' h rfl
    exact ⟨zs, z, rfl, h1.symm, by simpa using h2.symm⟩
/-- found is the tree with w in the place of x -/
def spLed : Sp := fun vs H Q _ => ∃ (r : Rw) (x : Str) (wv : V) (w : Tr) (_ : True), vs = [r.u, r.v, .str x, wv] ∧ RowR x w H r ∧ r.b = false ∧ At H w wv ∧ r.d ≤ 1000000 ∧ ∀ H', Same H H' → Q (.bl true) H'
/-- what _law_led's first look at a row tells -/
def innerB (x : Str) (b : Bool) (t : Tr) : Bool := match t with
  | .fn z _ => b || decide (z = x)
  | _ => b
def letB (x : Str) (t : Tr) (k : Nat) : Bool := match t with
  | .lt z _ _ => decide (z = x) && decide (k = 3)
  | _ => false
theorem flag_inner (x : Str) (b : Bool) (t : Tr) (k : Nat) : flagAt x b t k = (innerB x b t || letB x t k) := by
  cases t <;> simp [flagAt, innerB, letB]
theorem szLt5 {n : Nat} (h : n ≤ 5000000) : n < sizeLine := Nat.lt_of_le_of_lt h (by decide)
theorem tru_bl {K : PySem.W.Frag} {b c : Bool} {H : Hp} (h : b = c) : TruV K (.bl b) H c := h ▸ rfl
theorem Tr.dep_size : ∀ t : Tr, t.dep ≤ t.size
  | .num _ => Nat.le_refl _
  | .name _ => Nat.le_refl _
  | .fn _ b => by have := b.dep_size; simp only [Tr.dep, Tr.size]; omega
  | .call a b => by have := a.dep_size; have := b.dep_size; simp only [Tr.dep, Tr.size]; omega
  | .plus a b => by have := a.dep_size; have := b.dep_size; simp only [Tr.dep, Tr.size]; omega
  | .less a b => by have := a.dep_size; have := b.dep_size; simp only [Tr.dep, Tr.size]; omega
  | .ite c a b => by have := c.dep_size; have := a.dep_size; have := b.dep_size; simp only [Tr.dep, Tr.size]; omega
  | .lt _ a b => by have := a.dep_size; have := b.dep_size; simp only [Tr.dep, Tr.size]; omega
theorem Tr.dep_sub {s : Sb} {d : Nat} (h : ∀ x v, s x = some v → v.dep ≤ d) : ∀ t : Tr, (t.sub s).dep ≤ t.dep + d
  | .num _ => by simp only [Tr.sub, Tr.dep]; omega
  | .name y => by
    simp only [Tr.sub, Tr.dep]
    cases e : s y with
    | none => show (Tr.name y).dep ≤ _; simp only [Tr.dep]; omega
    | some v => show v.dep ≤ _; have := h y v e; omega
  | .fn y b => by
    have := Tr.dep_sub (s := s.del y) (d := d) (fun x v e => by unfold Sb.del at e; split at e; cases e; exact h x v e) b
    simp only [Tr.sub, Tr.dep]; omega
  | .call a b => by have := Tr.dep_sub h a; have := Tr.dep_sub h b; simp only [Tr.sub, Tr.dep]; omega
  | .plus a b => by have := Tr.dep_sub h a; have := Tr.dep_sub h b; simp only [Tr.sub, Tr.dep]; omega
  | .less a b => by have := Tr.dep_sub h a; have := Tr.dep_sub h b; simp only [Tr.sub, Tr.dep]; omega
  | .ite c a b => by have := Tr.dep_sub h c; have := Tr.dep_sub h a; have := Tr.dep_sub h b; simp only [Tr.sub, Tr.dep]; omega
  | .lt y a b => by
    have := Tr.dep_sub h a
    have := Tr.dep_sub (s := s.del y) (d := d) (fun x v e => by unfold Sb.del at e; split at e; cases e; exact h x v e) b
    simp only [Tr.sub, Tr.dep]; omega
theorem Tr.dep_put (t : Tr) (x : Str) (w : Tr) : (t.put x w).dep ≤ t.dep + w.dep := Tr.dep_sub (fun y v e => by unfold Sb.one at e; split at e; cases e; exact Nat.le_refl _; cases e) t
/-! ### the program's promises -/
def spPut : Sp := fun vs H Q _ => ∃ (t w : Tr) (x : Str) (u v : V), vs = [u, .str x, v] ∧ At H t u ∧ At H w v ∧ w.closed ∧ t.dep ≤ 100000 ∧ w.dep ≤ 100000 ∧ ∀ r H', Same H H' → At H' (t.put x w) r → Q r H'
/-- the law: true, whatever the script -/
def spLaw (K : PySem.W.Frag) : Sp := fun vs H Q _ => ∃ (a : Addr) (ns : List Int), vs = [.ref a] ∧ SqL K H a (ns.map V.int) ∧ ns.length ≤ 63 ∧ ∀ H', Q (.bl true) H'
def cellK (first : Int) (k : Nat) (s : Int) : Int := first - first % 26 + (first + s * (k : Int)) % 26
theorem kinBy_len (c : Int) {many : Nat} (hm : many ≤ 16) : (kinBy c many).length = many := by
  unfold kinBy
  split
  · simp
  · rw [List.length_take]
    simp only [kinTurned, List.length_append, List.length_map, List.length_range]
    omega
theorem none_ne' {H : Hp} {a b : Addr} {o : HO} (h : H b = none) (h' : H a = some o) : a ≠ b := fun e => by rw [e, h] at h'; cases h'
/-- does x stand free in the tree? -/
def spHas : Sp := fun vs H Q _ => ∃ (t : Tr) (x : Str) (v : V), vs = [v, .str x] ∧ At H t v ∧ t.size ≤ 1000 ∧ ∀ (b : Bool) (H' : Hp), Same H H' → (b = true ↔ t.fr x) → Q (.bl b) H'
end My
namespace My
open PySem L2
open PyProof.Rows
/-! ### l.extend(a tuple) -/
def rExtendT (K : PySem.W.Frag) : V → List V → Hp → VK → Prop := fun x vs H Q => ∃ l b xs zs, x = .ref l ∧ vs = [.ref b] ∧ H l = some (.lst xs) ∧ SqT K H b zs ∧ xs.length + zs.length ≤ sizeLine ∧ Q .non (upd H l (.lst (xs ++ zs)))
theorem ext_tup (l : Addr) (ys : Array Value) (c : Nat) (b : Addr) (zs : Array Value) (d : Nat) (od : Option Addr) (sl : Array (Option Value)) (g1 : ¬(!ys.isEmpty && Builtin.List.listTooLong (ys.size + zs.size)) = true) (g2 : ys.size ≤ sizeLine) (g3 : (ys ++ zs).size ≤ sizeLine + 1) :
    Meets (Builtin.«list.extend» ⟨[.ref l, .ref b], []⟩) (fun _ R s => s.heap.get? l = some { cls := .type "list", data := .seq ys c } ∧ s.heap.get? b = some { cls := .type "tuple", dict := od, data := .seq zs d, slots := sl } ∧
      R (.ok (.ret .none)) { s with heap := s.heap.update l (Obj.mapSeq fun x => x ++ zs) }) :=
  .of_wp fun pg wd A R s0 k => by
    obtain ⟨hp, gs, dr, tk, os⟩ := s0
    obtain ⟨k1, k2, k3⟩ := k
    have i1 := AutoSeq1.idx_int
    have i2 := AutoSeq1.sub_tuple_tuple
    have i3 := AutoSeq1.sub_list_list
    have i4 := AutoSeq1.sub_tuple_list
    have i5 := AutoSeq1.sub_list_tuple
    wp_walk using (wpAny_updateSeq k1 rfl (hz := g2) (_hz' := g3)), AutoSeq1.wpAny_loadPart' k1, AutoSeq1.wpAny_loadPart' k2
    exact ⟨_, rfl, k3⟩
theorem mt_extendT {X : Cx} : MtM X "list.extend" (rExtendT X.K) := by
  intro pins s σ H x vs v us Q I rx rv h
  obtain ⟨l, b, xs, zs, rfl, rfl, hH, hB, hz, q⟩ := h
  cases rx
  obtain ⟨u, rfl, ru⟩ := rv.one
  cases ru
  obtain ⟨z, its, n, r, hl, e⟩ := I.lstM hH
  obtain ⟨its2, r2, ⟨o2, e2, c2, n2, d2⟩, _⟩ := I.tuple hB
  obtain ⟨oc, od, oa, sl⟩ := o2
  dsimp only at c2 d2
  subst c2 d2
  have h1 := r.length
  have h2 := r2.length
  have g1 : ¬ (!its.toArray.isEmpty && Builtin.List.listTooLong (its.toArray.size + its2.toArray.size)) = true := by
    have : Builtin.List.listTooLong (its.toArray.size + its2.toArray.size) = false := by
      unfold Builtin.List.listTooLong
      exact decide_eq_false (by simp only [List.size_toArray]; omega)
    rw [this, Bool.and_false]
    decide
  refine call_meets PySem.F.slot_list_extend ⟨_, e, rfl⟩ PySem.F.entry_list_extend (PySem.F.args_list_extend_2 _ _) (ext_tup l its.toArray n b its2.toArray n2 od sl g1 (by simp only [List.size_toArray]; omega) (by simp only [Array.size_append, List.size_toArray]; omega)) ⟨e, e2, ?_⟩
  refine ⟨.non, _, I.lset (its' := its ++ its2) hH e (by simp) (r.append r2) ?_, rfl, q⟩
  rw [List.length_append]
  omega
/-- one tree, twice -/
def spSameT : Sp := fun vs H Q _ => ∃ (t : Tr) (u v : V), vs = [u, v] ∧ At H t u ∧ At H t v ∧ t.dep ≤ 1000000 ∧ ∀ H', Same H H' → Q (.bl true) H'
end My

namespace My
open PySem L2
/-! ### the eight words -/
inductive Wd where
  | num | name | fn | call | plus | less | ite | lt
  deriving DecidableEq
def Wd.str : Wd → Str
  | .num => "num" | .name => "name" | .fn => "fun" | .call => "call" | .plus => "plus" | .less => "less" | .ite => "if" | .lt => "let"
def Wd.len : Wd → Int
  | .num => 2 | .name => 2 | .fn => 3 | .call => 3 | .plus => 3 | .less => 3 | .ite => 4 | .lt => 4
def Wd.start : Wd → Int
  | .num => 2 | .name => 2 | .fn => 2 | .lt => 2 | _ => 1
def wordsL : List Str := ["num", "name", "fun", "call", "plus", "less", "if", "let"]
def Wd.find (x : Str) : Option Wd :=
  if x = "num" then some .num else if x = "name" then some .name else if x = "fun" then some .fn else if x = "call" then some .call else if x = "plus" then some .plus else if x = "less" then some .less
  else if x = "if" then some .ite else if x = "let" then some .lt else none
theorem Wd.find_str (t : Wd) : Wd.find t.str = some t := by cases t <;> decide +kernel
theorem Wd.of_find {x : Str} {t : Wd} (h : Wd.find x = some t) : x = t.str := by
  unfold Wd.find at h
  repeat' split at h
  all_goals first
    | (cases h; assumption)
    | cases h
theorem Wd.find_none {x : Str} (h : Wd.find x = none) : wordsL.contains x = false := by
  unfold Wd.find at h
  repeat' split at h
  all_goals first
    | cases h
    | skip
  simp only [wordsL, List.contains_cons, List.contains_nil, Bool.or_false, Bool.or_eq_false_iff, beq_eq_false_iff_ne]
  exact ⟨by assumption, by assumption, by assumption, by assumption, by assumption, by assumption, by assumption, by assumption⟩
/-- the addresses of the classes of refusals -/
structure Ers where
  mill : Addr
  tree : Addr
  closed : Addr
  most : Addr
  number : Addr
  function : Addr
  dry : Addr
  text : Addr
/-- a class of refusals, straight under MillError -/
structure ErrC (K : PySem.W.Frag) (mg : Str → Option Value) (x : Str) (c : Addr) : Prop where
  c_ : mg x = some (.ref c)
  k : PySem.W.keepIn K (.ref c) = true
  inn : PySem.W.excIn K c [.type "ValueError", .type "Exception", .type "BaseException", .type "object"] "ValueError.__new__" = true
  ex : PySem.W.subIn K (.ref c) (.type "BaseException") = some true
  ty : PySem.W.typeIn K (.ref c) = some (.type "type")
theorem ErrC.r {K : PySem.W.Frag} {mg : Str → Option Value} {x : Str} {c : Addr} (T : ErrC K mg x c) {X : Cx} (h : X.K = K := by rfl) : Raises X (.ref c) := raises_own (by rw [h]; exact T.ex) (by rw [h]; exact T.ty)
/-- what trees.py's top has written -/
structure PTxt (K : PySem.W.Frag) (w : World) (mg : Str → Option Value) (aL aS cT : Addr) : Prop extends Bt mg where
  MOST_NODES : GInt mg "MOST_NODES" 400
  MOST_SIGNS : GInt mg "MOST_SIGNS" 8
  TOO_GREAT : GInt mg "TOO_GREAT" (10 ^ 60)
  SIGNS : GStr mg "SIGNS" "abcdefghijklmnopqrstuvwxyz"
  STARTS : mg "STARTS" = some (.ref aS)
  starts : ∀ t : Wd, RdK K w aS t.str (.int t.start)
  LENGTHS : mg "LENGTHS" = some (.ref aL)
  lengths : ∀ t : Wd, RdK K w aL t.str (.int t.len)
  nolen : ∀ x, Wd.find x = none → PySem.W.nsIn K aL x = some none
  KLENGTHS : KDE K w aL
  NoTree : ErrC K mg "NoTree" cT
/-- what free's part of trees.py's top has written -/
structure FTxt (K : PySem.W.Frag) (w : World) (mg : Str → Option Value) (aS : Addr) : Prop extends Bt mg where
  LOOK : GInt mg "LOOK" 0
  BIND : GInt mg "BIND" 1
  LOOSE : GInt mg "LOOSE" 2
  STARTS : mg "STARTS" = some (.ref aS)
  starts : ∀ t : Wd, RdK K w aS t.str (.int t.start)
theorem PTxt.has {K : PySem.W.Frag} {w : World} {mg : Str → Option Value} {aL aS cT : Addr} (T : PTxt K w mg aL aS cT) (x : Str) : ∃ r, PySem.W.nsIn K aL x = some r ∧ r.isSome = (Wd.find x).isSome := by
  cases h : Wd.find x with
  | none => exact ⟨none, T.nolen x h, rfl⟩
  | some t =>
    obtain ⟨es, n, u0, h1, h2, h3, h4⟩ := T.lengths t
    rw [Wd.of_find h]
    exact ⟨_, h3, rfl⟩
/-! ### what _is_node answers -/
def numV : V → Bool
  | .int n => decide (-(10 ^ 60) < n) && decide (n < 10 ^ 60)
  | _ => false
def isLet (c : Nat) : Bool := decide (97 ≤ c) && decide (c < 123)
theorem in_abc (c : Nat) : decide (c ∈ (Str.ofString "abcdefghijklmnopqrstuvwxyz").cps.toList) = isLet c := by
  rw [abc_eq, mkS_cps, Bool.eq_iff_iff]
  simp only [decide_eq_true_eq, isLet, Bool.and_eq_true, abc, List.mem_range'_1]
def isName (x : Str) : Bool := decide (1 ≤ x.length) && decide (x.length ≤ 8) && (Wd.find x).isNone && x.cps.toList.all isLet
def nameV : V → Bool
  | .str x => isName x
  | _ => false
def Wd.ownOk : Wd → List V → Bool
  | .num, v :: _ => numV v
  | .name, v :: _ => nameV v
  | .fn, v :: _ => nameV v
  | .lt, v :: _ => nameV v
  | _, _ => true
def nodeC : List V → Bool
  | .str w :: r => match Wd.find w with | none => false | some t => decide ((r.length : Int) + 1 = t.len) && t.ownOk r
  | _ => false
theorem nodeC_str (x : Str) (r : List V) : nodeC (.str x :: r) = (match Wd.find x with | none => false | some t => decide ((r.length : Int) + 1 = t.len) && t.ownOk r) := rfl
theorem nodeC_str_app (x : Str) (r s : List V) : nodeC (.str x :: r ++ s) = (match Wd.find x with | none => false | some t => decide (((r ++ s).length : Int) + 1 = t.len) && t.ownOk (r ++ s)) := rfl
def nodeV (H : Hp) (v : V) : Bool := match v with
  | .ref a => (match H a with | some (.tup xs) => nodeC xs | _ => false)
  | _ => false
/-- of a kind that type() tells -/
def Kd (H : Hp) (v : V) : Prop := ∃ n, zTyV v H = some n
/-- a value that need_tree may come to -/
def Kn (H : Hp) (v : V) : Prop := Kd H v ∧ ∀ a xs, v = .ref a → H a = some (.tup xs) → xs.length ≤ 100 ∧ ∀ x ∈ xs, Kd H x
theorem zTy_tup {H : Hp} {v : V} (h : zTyV v H = some "tuple") : ∃ a xs, v = .ref a ∧ H a = some (.tup xs) := by
  unfold zTyV at h
  split at h
  all_goals first
    | (cases h; done)
    | skip
  all_goals first
    | (exact absurd h (by decide))
    | skip
  rename_i p
  split at h
  · exact absurd h (by decide)
  · exact ⟨p, _, rfl, by assumption⟩
  · cases h
theorem zTy_int {H : Hp} {v : V} (h : zTyV v H = some "int") : ∃ i, v = .int i := by
  unfold zTyV at h
  split at h
  all_goals first
    | exact ⟨_, rfl⟩
    | (cases h; done)
    | (exact absurd h (by decide))
    | skip
  split at h
  all_goals first
    | (cases h; done)
    | (exact absurd h (by decide))
theorem zTy_str {H : Hp} {v : V} (h : zTyV v H = some "str") : ∃ i, v = .str i := by
  unfold zTyV at h
  split at h
  all_goals first
    | exact ⟨_, rfl⟩
    | (cases h; done)
    | (exact absurd h (by decide))
    | skip
  split at h
  all_goals first
    | (cases h; done)
    | (exact absurd h (by decide))
theorem num_no {H : Hp} {v : V} {n : String} (h : zTyV v H = some n) (hn : n ≠ "int") : numV v = false := by
  cases v with
  | int i => exact absurd (Option.some.inj h).symm hn
  | _ => rfl
theorem name_no {H : Hp} {v : V} {n : String} (h : zTyV v H = some n) (hn : n ≠ "str") : nameV v = false := by
  cases v with
  | str i => exact absurd (Option.some.inj h).symm hn
  | _ => rfl
theorem node_no {H : Hp} {v : V} (h : zTyV v H ≠ some "tuple") : nodeV H v = false := by
  unfold nodeV
  split
  · split
    · rename_i a _ xs e
      exact absurd (show (match H a with | some (.lst _) => some "list" | some (.tup _) => some "tuple" | _ => none) = some "tuple" by rw [e]) h
    · rfl
  · rfl
def spNum : Sp := fun vs H Q _ => ∃ v, vs = [v] ∧ Kd H v ∧ Q (.bl (numV v)) H
def spIsName : Sp := fun vs H Q _ => ∃ v, vs = [v] ∧ Kd H v ∧ (∀ x, v = .str x → x.length ≤ 10000) ∧ ∀ H', Same H H' → Q (.bl (nameV v)) H'
/-- a tuple of a node's form is given: its parts, in a new list -/
def spParts : Sp := fun vs H Q _ => ∃ (t : Wd) (a : Addr) (own ws : List V), vs = [.ref a] ∧ H a = some (.tup (.str t.str :: own ++ ws)) ∧ ((own.length : Int) + 1 = t.start) ∧ ws.length ≤ 3 ∧ ∀ (l : Addr) (H' : Hp), H l = none → Same H H' → H' l = some (.lst ws) → Q (.ref l) H'
def spIsNode : Sp := fun vs H Q _ => ∃ v, vs = [v] ∧ Kn H v ∧ (∀ a xs x, v = .ref a → H a = some (.tup xs) → V.str x ∈ xs → x.length ≤ 10000) ∧ ∀ H', Same H H' → Q (.bl (nodeV H v)) H'
theorem own_at {t : Wd} {own ws : List V} (h : (own.length : Int) + 1 = t.start) : ∃ n : Nat, t.start = (n : Int) ∧ 0 < n ∧ (V.str t.str :: own ++ ws).drop n = ws ∧ n ≤ (V.str t.str :: own ++ ws).length :=
  ⟨own.length + 1, by omega, by omega, by simp, by simp⟩
/-! ### what need_tree walks over -/
structure Bad (H : Hp) (v : V) : Prop where
  kn : Kn H v
  st : ∀ x, v = .str x → x.length ≤ 10000
  sts : ∀ a xs x, v = .ref a → H a = some (.tup xs) → V.str x ∈ xs → x.length ≤ 10000
  no : nodeV H v = false
/-- a good node's own head -/
def OwnV (v : V) : Prop := (∃ n, v = .int n) ∨ ∃ x, v = .str x ∧ x.length ≤ 10000
/-- values, one behind another, that are nodes as they ought to be, all the way down, or (then b is true) things that are none; n nodes and things in all -/
inductive Wks (H : Hp) : List V → Nat → Bool → Prop
  | nil : Wks H [] 0 false
  | nd {a : Addr} {t : Wd} {own ws vs : List V} {m n : Nat} {b c : Bool} (h : H a = some (.tup (.str t.str :: own ++ ws))) (ho : (own.length : Int) + 1 = t.start) (hn : nodeC (.str t.str :: own ++ ws) = true) (hw : ∀ x ∈ own, OwnV x) (hl : ws.length ≤ 3)
      (h1 : Wks H ws m b) (h2 : Wks H vs n c) : Wks H (.ref a :: vs) (1 + m + n) (b || c)
  | odd {v : V} {vs : List V} {n : Nat} {c : Bool} (h : Bad H v) (h2 : Wks H vs n c) : Wks H (v :: vs) (1 + n) true
theorem Wks.append {H : Hp} {xs : List V} {m : Nat} {b : Bool} (h : Wks H xs m b) {ys : List V} {n : Nat} {c : Bool} (g : Wks H ys n c) : Wks H (xs ++ ys) (m + n) (b || c) := by
  induction h with
  | nil => simpa using g
  | nd h ho hn hw hl h1 h2 ih1 ih2 =>
    rw [List.cons_append, Nat.add_assoc, Bool.or_assoc]
    exact .nd h ho hn hw hl h1 ih2
  | odd h h2 ih =>
    rw [List.cons_append, Nat.add_assoc, Bool.true_or]
    exact .odd h ih
theorem Wks.snoc {H : Hp} {v : V} : ∀ {ys : List V} {n : Nat} {b : Bool}, Wks H (ys ++ [v]) n b → ∃ n1 b1 n2 b2, Wks H ys n1 b1 ∧ Wks H [v] n2 b2 ∧ n = n1 + n2 ∧ b = (b1 || b2)
  | [], n, b, h => ⟨0, false, n, b, .nil, h, by omega, by simp⟩
  | u :: ys, n, b, h => by
    cases h with
    | nd h ho hn hw hl h1 h2 =>
      obtain ⟨n1, b1, n2, b2, g1, g2, rfl, rfl⟩ := Wks.snoc h2
      exact ⟨_, _, n2, b2, .nd h ho hn hw hl h1 g1, g2, by omega, by rw [Bool.or_assoc]⟩
    | odd h h2 =>
      obtain ⟨n1, b1, n2, b2, g1, g2, rfl, rfl⟩ := Wks.snoc h2
      exact ⟨_, _, n2, b2, .odd h g1, g2, by omega, by rw [Bool.true_or]⟩
theorem zTy_same {H H' : Hp} (e : Same H H') {v : V} {n : String} (h : zTyV v H = some n) : zTyV v H' = some n := by
  cases v with
  | ref p =>
    have h' : (match H p with | some (.lst _) => some "list" | some (.tup _) => some "tuple" | _ => none) = some n := h
    show (match H' p with | some (.lst _) => some "list" | some (.tup _) => some "tuple" | _ => none) = some n
    cases q : H p with
    | none => rw [q] at h'; cases h'
    | some o => rw [e _ _ q]; rw [q] at h'; exact h'
  | _ => exact h
theorem Kd.same {H H' : Hp} (e : Same H H') {v : V} (h : Kd H v) : Kd H' v := ⟨h.choose, zTy_same e h.choose_spec⟩
theorem zTy_known {H : Hp} {a : Addr} (h : Kd H (.ref a)) : ∃ o, H a = some o := by
  obtain ⟨n, h⟩ := h
  have h' : (match H a with | some (.lst _) => some "list" | some (.tup _) => some "tuple" | _ => none) = some n := h
  cases q : H a with
  | none => rw [q] at h'; cases h'
  | some o => exact ⟨o, rfl⟩
theorem same_at {H H' : Hp} (e : Same H H') {a : Addr} (k : Kd H (.ref a)) : H' a = H a := by
  obtain ⟨o, h⟩ := zTy_known k
  rw [h]
  exact e _ _ h
theorem Bad.same {H H' : Hp} (e : Same H H') {v : V} (h : Bad H v) : Bad H' v where
  kn := ⟨h.kn.1.same e, fun a xs ev ha => by
    subst ev
    rw [same_at e h.kn.1] at ha
    obtain ⟨h1, h2⟩ := h.kn.2 a xs rfl ha
    exact ⟨h1, fun x hx => (h2 x hx).same e⟩⟩
  st := h.st
  sts := fun a xs x ev ha => by
    subst ev
    rw [same_at e h.kn.1] at ha
    exact h.sts a xs x rfl ha
  no := by
    cases v with
    | ref a =>
      show (match H' a with | some (.tup xs) => nodeC xs | _ => false) = false
      rw [same_at e h.kn.1]
      exact h.no
    | _ => rfl
theorem Wks.same {H H' : Hp} (e : Same H H') {vs : List V} {n : Nat} {b : Bool} (h : Wks H vs n b) : Wks H' vs n b := by
  induction h with
  | nil => exact .nil
  | nd h ho hn hw hl h1 h2 ih1 ih2 => exact .nd (e _ _ h) ho hn hw hl ih1 ih2
  | odd h h2 ih => exact .odd (h.same e) ih
theorem kd_tup {H : Hp} {a : Addr} {xs : List V} (h : H a = some (.tup xs)) : Kd H (.ref a) :=
  ⟨"tuple", show (match H a with | some (.lst _) => some "list" | some (.tup _) => some "tuple" | _ => none) = some "tuple" by rw [h]⟩
theorem Wks.kd {H : Hp} {vs : List V} {n : Nat} {b : Bool} (h : Wks H vs n b) : ∀ v ∈ vs, Kd H v ∧ ∀ x, v = .str x → x.length ≤ 10000 := by
  induction h with
  | nil => intro v hv; cases hv
  | nd h ho hn hw hl h1 h2 ih1 ih2 =>
    intro v hv
    rcases List.mem_cons.mp hv with e | hv
    · subst e
      exact ⟨kd_tup h, fun x e => by cases e⟩
    · exact ih2 v hv
  | odd h h2 ih =>
    intro v hv
    rcases List.mem_cons.mp hv with e | hv
    · subst e
      exact ⟨h.kn.1, h.st⟩
    · exact ih v hv
/-- one thing: a good node with its parts, or none -/
theorem Wks.one {H : Hp} {v : V} {n : Nat} {b : Bool} (h : Wks H [v] n b) : (Bad H v ∧ n = 1 ∧ b = true) ∨
    (∃ (a : Addr) (t : Wd) (own ws : List V) (m : Nat), v = .ref a ∧ H a = some (.tup (.str t.str :: own ++ ws)) ∧ (own.length : Int) + 1 = t.start ∧ nodeV H v = true ∧ Kn H v ∧ (∀ a xs x, v = .ref a → H a = some (.tup xs) → V.str x ∈ xs → x.length ≤ 10000) ∧ ws.length ≤ 3 ∧ Wks H ws m b ∧ n = 1 + m) := by
  cases h with
  | @nd a t own ws _ m _ b' _ h ho hn hw hl h1 h2 =>
    cases h2
    have hkd := h1.kd
    have key : ∀ x ∈ (V.str t.str :: own ++ ws), Kd H x ∧ ∀ z, x = .str z → z.length ≤ 10000 := by
      intro x hx
      rcases List.mem_append.mp hx with hx | hx
      · rcases List.mem_cons.mp hx with e | hx
        · subst e
          exact ⟨⟨"str", rfl⟩, fun z e => by cases e; cases t <;> decide +kernel⟩
        · rcases hw x hx with ⟨n, rfl⟩ | ⟨z, rfl, hz⟩
          · exact ⟨⟨"int", rfl⟩, fun z e => by cases e⟩
          · exact ⟨⟨"str", rfl⟩, fun z' e => by cases e; exact hz⟩
      · exact hkd x hx
    have hlen : (V.str t.str :: own ++ ws).length ≤ 100 := by
      have : t.start ≤ 2 := by cases t <;> decide
      simp only [List.length_append, List.length_cons]
      omega
    refine .inr ⟨a, t, own, ws, m, rfl, h, ho, ?_, ⟨kd_tup h, fun a' xs e ha => ?_⟩, fun a' xs x e ha hx => ?_, hl, ?_, by omega⟩
    · show (match H a with | some (.tup xs) => nodeC xs | _ => false) = true
      rw [h]
      exact hn
    · cases e
      rw [h] at ha
      cases ha
      exact ⟨hlen, fun x hx => (key x hx).1⟩
    · cases e
      rw [h] at ha
      cases ha
      exact (key _ hx).2 x rfl
    · simpa using h1
  | odd h h2 =>
    cases h2
    exact .inl ⟨h, rfl, rfl⟩
def spNeed (cN : Addr) : Sp := fun vs H Q E => ∃ (v : V) (n : Nat) (b : Bool), vs = [v] ∧ Wks H [v] n b ∧ (n ≤ 400 → b = false → ∀ H', Same H H' → Q v H') ∧ ((400 < n ∨ b = true) → ∀ H', Same H H' → E (.ref cN) none H')
/-- a tree as the document asks -/
def Good (t : Tr) : Prop := t.all (fun x => isName x = true) N60
/-! ### one thing, with whether it holds something that is none -/
def W1 (H : Hp) (v : V) (b : Bool) : Prop := ∃ n, Wks H [v] n b
theorem nodeW {H : Hp} {a : Addr} (t : Wd) (own ws : List V) {n : Nat} {b : Bool} (h : H a = some (.tup (.str t.str :: own ++ ws))) (ho : (own.length : Int) + 1 = t.start) (hn : nodeC (.str t.str :: own ++ ws) = true) (hw : ∀ x ∈ own, OwnV x) (hl : ws.length ≤ 3)
    (h1 : Wks H ws n b) : Wks H [.ref a] (1 + n) b := by
  have := Wks.nd h ho hn hw hl h1 .nil
  simpa using this
theorem wks2 {H : Hp} {u v : V} {m n : Nat} {b c : Bool} (h1 : Wks H [u] m b) (h2 : Wks H [v] n c) : Wks H [u, v] (m + n) (b || c) := h1.append h2
theorem wks3 {H : Hp} {u v x : V} {m n k : Nat} {b c d : Bool} (h1 : Wks H [u] m b) (h2 : Wks H [v] n c) (h3 : Wks H [x] k d) : Wks H [u, v, x] (m + n + k) (b || c || d) := (wks2 h1 h2).append h3
theorem name_own {x : Str} (h : isName x = true) : ∀ v ∈ [V.str x], OwnV v := fun v hv => by
  rw [List.mem_singleton.mp hv]
  refine .inr ⟨x, rfl, ?_⟩
  unfold isName at h
  simp only [Bool.and_eq_true, decide_eq_true_eq] at h
  omega
theorem wks_of {H : Hp} : ∀ {t : Tr} {v : V}, At H t v → Good t → Wks H [v] t.size false
  | .num n, _, ⟨a, rfl, h⟩, g => nodeW .num [.int n] [] h rfl (by rw [nodeC_str_app, Wd.find_str]; show (true && (decide (-(10 ^ 60) < n) && decide (n < 10 ^ 60))) = true; rw [decide_eq_true g.1, decide_eq_true g.2]; rfl) (fun v hv => by rw [List.mem_singleton.mp hv]; exact .inl ⟨n, rfl⟩) (by simp) .nil
  | .name x, _, ⟨a, rfl, h⟩, g => nodeW .name [.str x] [] h rfl (by rw [nodeC_str_app, Wd.find_str]; show (true && isName x) = true; rw [show isName x = true from g]; rfl) (name_own g) (by simp) .nil
  | .fn x b, _, ⟨a, u, rfl, h, h1⟩, g => by
    have := nodeW .fn [.str x] [u] h rfl (by rw [nodeC_str_app, Wd.find_str]; show (true && isName x) = true; rw [g.1]; rfl) (name_own g.1) (by simp) (wks_of h1 g.2)
    exact this
  | .call f b, _, ⟨a, u, u', rfl, h, h1, h2⟩, g => by
    have := nodeW .call [] [u, u'] h rfl rfl (fun v hv => by cases hv) (by simp) (wks2 (wks_of h1 g.1) (wks_of h2 g.2))
    rw [show (Tr.call f b).size = 1 + (f.size + b.size) by simp only [Tr.size]; omega]; exact this
  | .plus f b, _, ⟨a, u, u', rfl, h, h1, h2⟩, g => by
    have := nodeW .plus [] [u, u'] h rfl rfl (fun v hv => by cases hv) (by simp) (wks2 (wks_of h1 g.1) (wks_of h2 g.2))
    rw [show (Tr.plus f b).size = 1 + (f.size + b.size) by simp only [Tr.size]; omega]; exact this
  | .less f b, _, ⟨a, u, u', rfl, h, h1, h2⟩, g => by
    have := nodeW .less [] [u, u'] h rfl rfl (fun v hv => by cases hv) (by simp) (wks2 (wks_of h1 g.1) (wks_of h2 g.2))
    rw [show (Tr.less f b).size = 1 + (f.size + b.size) by simp only [Tr.size]; omega]; exact this
  | .ite c f b, _, ⟨a, u, u', u'', rfl, h, h1, h2, h3⟩, g => by
    have := nodeW .ite [] [u, u', u''] h rfl rfl (fun v hv => by cases hv) (by simp) (wks3 (wks_of h1 g.1) (wks_of h2 g.2.1) (wks_of h3 g.2.2))
    rw [show (Tr.ite c f b).size = 1 + (c.size + f.size + b.size) by simp only [Tr.size]; omega]; exact this
  | .lt x f b, _, ⟨a, u, u', rfl, h, h1, h2⟩, g => by
    have := nodeW .lt [.str x] [u, u'] h rfl (by rw [nodeC_str_app, Wd.find_str]; show (true && isName x) = true; rw [g.1]; rfl) (name_own g.1) (by simp) (wks2 (wks_of h1 g.2.1) (wks_of h2 g.2.2))
    rw [show (Tr.lt x f b).size = 1 + (f.size + b.size) by simp only [Tr.size]; omega]; exact this
/-- what free has to do -/
inductive Td where
  | look (t : Tr) | bind (x : Str) | loose (x : Str)
def At3 (H : Hp) : Td → V → Prop
  | .look t, v => ∃ a u, v = .ref a ∧ H a = some (.tup [.int 0, u]) ∧ At H t u
  | .bind x, v => ∃ a, v = .ref a ∧ H a = some (.tup [.int 1, .str x])
  | .loose x, v => ∃ a, v = .ref a ∧ H a = some (.tup [.int 2, .str x])
theorem At3.mono {H H' : Hp} (k : KT H H') : ∀ {d : Td} {v : V}, At3 H d v → At3 H' d v
  | .look _, _, ⟨a, u, e, h, h1⟩ => ⟨a, u, e, k _ _ h, h1.mono k⟩
  | .bind _, _, ⟨a, e, h⟩ => ⟨a, e, k _ _ h⟩
  | .loose _, _, ⟨a, e, h⟩ => ⟨a, e, k _ _ h⟩
/-- what a node that is no name sets going -/
def reading (t : Tr) : List Td := match t with
  | .fn x b => [.bind x, .look b, .loose x]
  | .lt x e b => [.look e, .bind x, .look b, .loose x]
  | t => t.kids.map .look
def spReading : Sp := fun vs H Q _ => ∃ (t : Tr) (a : Addr), vs = [.ref a] ∧ At H t (.ref a) ∧ ∀ (l : Addr) (ws : List V) (H' : Hp), H l = none → Same H H' → H' l = some (.lst ws) → Paired (At3 H') (reading t) ws → Q (.ref l) H'
/-- the free ones, in the order of reading, each as often as it stands; b tells how often a name is bound round it -/
def inc (x : Str) (b : Str → Nat) : Str → Nat := fun y => if y = x then b y + 1 else b y
def dec (x : Str) (b : Str → Nat) : Str → Nat := fun y => if y = x then b y - 1 else b y
theorem dec_inc (x : Str) (b : Str → Nat) : dec x (inc x b) = b := by
  funext y
  unfold dec inc
  by_cases h : y = x
  · simp [h]
  · simp [h]
def frees (b : Str → Nat) : Tr → List Str
  | .num _ => []
  | .name y => if b y = 0 then [y] else []
  | .fn x t => frees (inc x b) t
  | .call f a => frees b f ++ frees b a
  | .plus f a => frees b f ++ frees b a
  | .less f a => frees b f ++ frees b a
  | .ite c f a => frees b c ++ (frees b f ++ frees b a)
  | .lt x e t => frees b e ++ frees (inc x b) t
def rem : List Td → (Str → Nat) → List Str
  | [], _ => []
  | .look t :: r, b => frees b t ++ rem r b
  | .bind x :: r, b => rem r (inc x b)
  | .loose x :: r, b => rem r (dec x b)
def wf : List Td → (Str → Nat) → Prop
  | [], _ => True
  | .look _ :: r, b => wf r b
  | .bind x :: r, b => wf r (inc x b)
  | .loose x :: r, b => 1 ≤ b x ∧ wf r (dec x b)
def isNm : Tr → Bool | .name _ => true | _ => false
theorem rem_reading (t : Tr) (h : isNm t = false) (r : List Td) (b : Str → Nat) : rem (reading t ++ r) b = frees b t ++ rem r b := by
  cases t <;> simp [reading, rem, frees, Tr.kids, dec_inc, isNm] at h ⊢
theorem wf_reading (t : Tr) (r : List Td) (b : Str → Nat) : wf (reading t ++ r) b ↔ wf r b := by
  cases t <;> simp [reading, wf, Tr.kids, dec_inc, inc]
def wt1 : Td → Nat | .look t => 3 * t.size | _ => 1
def wt (ds : List Td) : Nat := (ds.map wt1).sum
theorem wt_append (a b : List Td) : wt (a ++ b) = wt a + wt b := by simp [wt]
theorem wt_reverse (a : List Td) : wt a.reverse = wt a := by simp [wt, List.sum_reverse]
theorem wt_one (d : Td) : wt [d] = wt1 d := by simp [wt]
theorem le_wt : ∀ a : List Td, a.length ≤ wt a
  | [] => Nat.le_refl _
  | d :: r => by
    have := le_wt r
    have h : 1 ≤ wt1 d := by
      cases d with
      | look t => have := t.size_pos; simp only [wt1]; omega
      | _ => exact Nat.le_refl _
    simp only [wt, List.map_cons, List.sum_cons, List.length_cons] at *
    omega
theorem wt_reading (t : Tr) : wt (reading t) + 1 ≤ 3 * t.size := by
  cases t <;> simp [reading, wt, wt1, Tr.kids, Tr.size] <;> omega
/-- each once -/
def dd (fs : List Str) : List Str → List Str
  | [] => fs
  | x :: r => dd (if x ∈ fs then fs else fs ++ [x]) r
def freeNames (t : Tr) : List Str := dd [] (frees (fun _ => 0) t)
/-- the dict of the names that are bound -/
def Bd (kvs : List (Key × V)) (b : Str → Nat) : Prop := ∀ x : Str, match valV kvs (Sum.inr x : Key) with | none => b x = 0 | some v => v = .int (b x)
theorem Bd.get {kvs : List (Key × V)} {b : Str → Nat} (h : Bd kvs b) (x : Str) : (valV kvs (Sum.inr x : Key)).getD (.int 0) = .int (b x) := by
  have := h x
  cases e : valV kvs (Sum.inr x : Key) with
  | none => rw [e] at this; simp only at this; rw [this]; rfl
  | some v => rw [e] at this; exact this
theorem Bd.there {kvs : List (Key × V)} {b : Str → Nat} (h : Bd kvs b) {x : Str} (hx : 1 ≤ b x) : valV kvs (Sum.inr x : Key) = some (.int (b x)) := by
  have := h x
  cases e : valV kvs (Sum.inr x : Key) with
  | none => rw [e] at this; simp only at this; omega
  | some v => rw [e] at this; simp only at this; rw [this]
theorem Bd.put {kvs : List (Key × V)} {b b' : Str → Nat} (h : Bd kvs b) (x : Str) (hb : ∀ y, y ≠ x → b' y = b y) : Bd (putK kvs (Sum.inr x) (.int (b' x))) b' := by
  intro y
  rw [valV_put]
  by_cases e : y = x
  · subst e; rw [if_pos rfl]
  · rw [if_neg (fun z => e (Sum.inr.inj z))]
    have := h y
    rw [hb y e]
    exact this
def foundK (fs : List Str) : List (Key × V) := fs.map fun x => (Sum.inr x, V.bl true)
theorem foundK_val (fs : List Str) (x : Str) : valV (foundK fs) (Sum.inr x : Key) = if x ∈ fs then some (.bl true) else none := by
  induction fs with
  | nil => rfl
  | cons y r ih =>
    show valV ((Sum.inr y, V.bl true) :: foundK r) (Sum.inr x : Key) = _
    by_cases e : y = x
    · subst e
      rw [valV_pos rfl]; simp
    · rw [valV_neg (fun z => e (Sum.inr.inj z)), ih]
      have : ¬ x = y := fun z => e z.symm
      simp [this]
theorem foundK_put (fs : List Str) (x : Str) : putK (foundK fs) (Sum.inr x) (.bl true) = foundK (if x ∈ fs then fs else fs ++ [x]) := by
  by_cases h : x ∈ fs
  · rw [if_pos h]
    have e : (foundK fs).any (fun kv => decide (kv.1 = (Sum.inr x : Key))) = true := by
      rw [valV_any, foundK_val, if_pos h]; rfl
    unfold putK
    rw [if_pos e]
    unfold foundK
    rw [List.map_map]
    refine List.map_congr_left fun y _ => ?_
    simp only [Function.comp]
    split
    · rename_i e; rw [Sum.inr.inj e]
    · rfl
  · rw [if_neg h, putK_new _ (by rw [foundK_val, if_neg h])]
    simp [foundK]
def spFree : Sp := fun vs H Q _ => ∃ (t : Tr) (v : V), vs = [v] ∧ At H t v ∧ t.size ≤ 30000 ∧ ∀ (l : Addr) (H' : Hp), H l = none → Same H H' → H' l = some (.lst ((freeNames t).map V.str)) → Q (.ref l) H'
def Tr.wd : Tr → Wd
  | .num _ => .num | .name _ => .name | .fn _ _ => .fn | .call _ _ => .call | .plus _ _ => .plus | .less _ _ => .less | .ite _ _ _ => .ite | .lt _ _ _ => .lt
theorem Tr.wd_str (t : Tr) : t.wd.str = t.word := by cases t <;> rfl
theorem Tr.wd_start (t : Tr) : (t.own.length : Int) + 1 = t.wd.start := by cases t <;> rfl
/-- parts, asked of a tree -/
def spPartsT : Sp := fun vs H Q _ => ∃ (t : Tr) (a : Addr) (ws : List V), vs = [.ref a] ∧ H a = some (.tup (.str t.word :: t.own ++ ws)) ∧ ws.length ≤ 3 ∧ ∀ (l : Addr) (H' : Hp), H l = none → Same H H' → H' l = some (.lst ws) → Q (.ref l) H'
theorem parts_t {P : Program} {w : World} {K : PySem.W.Frag} {mg : Str → Option Value} {base : Heap} (D : Df P w K mg base 1 "parts" ["tree"] spParts) : Df P w K mg base 1 "parts" ["tree"] spPartsT :=
  D.imp fun vs H Q E ⟨t, a, ws, h1, h2, h3, h4⟩ => ⟨t.wd, a, t.own, ws, h1, by rw [t.wd_str]; exact h2, t.wd_start, h3, h4⟩
end My

namespace My
open PySem L2
/-! ### what the program promises -/
def Ers.cls (E : Ers) : Er → Addr
  | .number => E.number
  | .function => E.function
  | .closed => E.closed
abbrev evF := ev freeNames
/-- a closed tree and a count of deeds, as they ought to be -/
structure OkIn (H : Hp) (t : Tr) (v : V) (m : Nat) : Prop where
  at_ : At H t v
  good : Good t
  closed : t.closed
  size : t.size ≤ 400
  most : m ≤ 1000
def spRun (E : Ers) (KV : Hp → Val → V → Prop) : Sp := fun vs H Q X => ∃ (v : V) (t : Tr) (m : Nat), vs = [v, .int m] ∧ OkIn H t v m ∧
  match evF m .nil t with
  | .ok u m' _ => ∀ (r : V) (p : Addr) (H' : Hp), Same H H' → KV H' u r → H' p = some (.tup [r, .int ((m : Int) - m')]) → Q (.ref p) H'
  | .err c => ∀ H', Same H H' → X (.ref (E.cls c)) none H'
  | .dry => ∀ H', Same H H' → X (.ref E.dry) none H'
def spWorked (E : Ers) : Sp := fun vs H Q X => ∃ (v : V) (t : Tr) (m : Nat), vs = [v, .int m] ∧ OkIn H t v m ∧
  match work m t with
  | .ok u m' => ∀ (r : V) (p : Addr) (H' : Hp), Same H H' → At H' u r → H' p = some (.tup [r, .int ((m : Int) - m')]) → Q (.ref p) H'
  | .err c => ∀ H', Same H H' → X (.ref (E.cls c)) none H'
  | .dry => ∀ H', Same H H' → X (.ref E.dry) none H'
/-- the trees on the way -/
def path : Nat → Tr → List Tr
  | 0, t => [t]
  | m + 1, t => match t.step with
    | .to t' => t :: path m t'
    | _ => [t]
def spSteps (E : Ers) : Sp := fun vs H Q X => ∃ (v : V) (t : Tr) (m : Nat), vs = [v, .int m] ∧ OkIn H t v m ∧
  match work m t with
  | .ok _ _ => ∀ (rs : List V) (l : Addr) (H' : Hp), Same H H' → Ats H' (path m t) rs → H' l = some (.lst rs) → Q (.ref l) H'
  | .err c => ∀ H', Same H H' → X (.ref (E.cls c)) none H'
  | .dry => ∀ H', Same H H' → X (.ref E.dry) none H'
def spTold (KV : Hp → Val → V → Prop) : Sp := fun vs H Q _ => ∃ (u : Val) (v : V), vs = [v] ∧ KV H u v ∧ u.ok ∧ ∀ (r : V) (H' : Hp), Same H H' → At H' u.told r → Q r H'
theorem path_ok : ∀ {m : Nat} {t u : Tr} {m' : Nat}, work m t = .ok u m' → m' ≤ m ∧ (path m t).length = m - m' + 1 ∧ (path m t).getLast? = some u
  | 0, t, u, m', h => by
    rw [work] at h
    split at h
    · cases h; exact ⟨Nat.le_refl _, rfl, rfl⟩
    · cases h
  | m + 1, t, u, m', h => by
    rw [work] at h
    split at h
    · rename_i hs
      cases h
      refine ⟨Nat.le_refl _, ?_, ?_⟩ <;> (rw [path, hs]; simp)
    · rename_i t' hs
      obtain ⟨h1, h2, h3⟩ := path_ok h
      refine ⟨by omega, ?_, ?_⟩
      · rw [path, hs]; simp only [List.length_cons]; omega
      · rw [path, hs]
        dsimp only
        cases hp : path m t' with
        | nil => rw [hp] at h3; cases h3
        | cons a r => rw [hp] at h3; rw [List.getLast?_cons_cons]; exact h3
    · cases h
/-- with just as many deeds as there are it is done, with one fewer it is dry -/
theorem work_less : ∀ {m : Nat} {t u : Tr} {m' : Nat}, work m t = .ok u m' → work (m - m') t = .ok u 0 ∧ (0 < m - m' → work (m - m' - 1) t = .dry)
  | 0, t, u, m', h => by
    rw [work] at h
    split at h
    · rename_i hs
      cases h
      exact ⟨by rw [work, hs], fun h => by omega⟩
    · cases h
  | m + 1, t, u, m', h => by
    have hle := (path_ok h).1
    rw [work] at h
    split at h
    · rename_i hs
      cases h
      rw [Nat.sub_self]
      exact ⟨by rw [work, hs], fun h => by omega⟩
    · rename_i t' hs
      obtain ⟨h1, h2⟩ := work_less h
      have hle2 := (path_ok h).1
      have e : m + 1 - m' = (m - m') + 1 := by omega
      rw [e]
      refine ⟨by rw [work, hs]; exact h1, fun _ => ?_⟩
      rw [Nat.add_sub_cancel]
      by_cases h0 : m - m' = 0
      · rw [h0, work, hs]
      · obtain ⟨k, hk⟩ : ∃ k, m - m' = k + 1 := ⟨m - m' - 1, by omega⟩
        have := h2 (by omega)
        rw [hk] at this ⊢
        rw [work, hs]
        exact this
    · cases h
/-- freeNames tells the free ones -/
theorem frees_mem : ∀ (t : Tr) (b : Str → Nat) (x : Str), x ∈ frees b t ↔ t.fr x ∧ b x = 0
  | .num _, b, x => by simp [frees, Tr.fr]
  | .name y, b, x => by
    simp only [frees, Tr.fr]
    split
    · rename_i h
      simp only [List.mem_singleton]
      constructor
      · intro e; subst e; exact ⟨rfl, h⟩
      · exact fun e => e.1.symm
    · rename_i h
      simp only [List.not_mem_nil, false_iff]
      rintro ⟨rfl, h2⟩
      exact h h2
  | .fn y t, b, x => by
    simp only [frees, Tr.fr]
    rw [frees_mem t (inc y b) x]
    unfold inc
    by_cases h : x = y
    · subst h; simp
    · rw [if_neg h]
      constructor
      · rintro ⟨h1, h2⟩; exact ⟨⟨fun e => h e.symm, h1⟩, h2⟩
      · rintro ⟨⟨_, h1⟩, h2⟩; exact ⟨h1, h2⟩
  | .call f a, b, x => by simp only [frees, Tr.fr, List.mem_append]; rw [frees_mem f b x, frees_mem a b x]; exact ⟨fun h => h.elim (fun h => ⟨.inl h.1, h.2⟩) fun h => ⟨.inr h.1, h.2⟩, fun ⟨h1, h2⟩ => h1.elim (fun h => .inl ⟨h, h2⟩) fun h => .inr ⟨h, h2⟩⟩
  | .plus f a, b, x => by simp only [frees, Tr.fr, List.mem_append]; rw [frees_mem f b x, frees_mem a b x]; exact ⟨fun h => h.elim (fun h => ⟨.inl h.1, h.2⟩) fun h => ⟨.inr h.1, h.2⟩, fun ⟨h1, h2⟩ => h1.elim (fun h => .inl ⟨h, h2⟩) fun h => .inr ⟨h, h2⟩⟩
  | .less f a, b, x => by simp only [frees, Tr.fr, List.mem_append]; rw [frees_mem f b x, frees_mem a b x]; exact ⟨fun h => h.elim (fun h => ⟨.inl h.1, h.2⟩) fun h => ⟨.inr h.1, h.2⟩, fun ⟨h1, h2⟩ => h1.elim (fun h => .inl ⟨h, h2⟩) fun h => .inr ⟨h, h2⟩⟩
  | .ite c f a, b, x => by
    simp only [frees, Tr.fr, List.mem_append]
    rw [frees_mem c b x, frees_mem f b x, frees_mem a b x]
    exact ⟨fun h => h.elim (fun h => ⟨.inl h.1, h.2⟩) fun h => h.elim (fun h => ⟨.inr (.inl h.1), h.2⟩) fun h => ⟨.inr (.inr h.1), h.2⟩, fun ⟨h1, h2⟩ => h1.elim (fun h => .inl ⟨h, h2⟩) fun h => h.elim (fun h => .inr (.inl ⟨h, h2⟩)) fun h => .inr (.inr ⟨h, h2⟩)⟩
  | .lt y e t, b, x => by
    simp only [frees, Tr.fr, List.mem_append]
    rw [frees_mem e b x, frees_mem t (inc y b) x]
    unfold inc
    by_cases h : x = y
    · subst h; simp
    · rw [if_neg h]
      constructor
      · rintro (⟨h1, h2⟩ | ⟨h1, h2⟩)
        · exact ⟨.inl h1, h2⟩
        · exact ⟨.inr ⟨fun e => h e.symm, h1⟩, h2⟩
      · rintro ⟨h1 | ⟨_, h1⟩, h2⟩
        · exact .inl ⟨h1, h2⟩
        · exact .inr ⟨h1, h2⟩
theorem dd_mem : ∀ (ys fs : List Str) (x : Str), x ∈ dd fs ys ↔ x ∈ fs ∨ x ∈ ys
  | [], fs, x => by simp [dd]
  | y :: r, fs, x => by
    simp only [dd]
    rw [dd_mem r _ x]
    by_cases h : y ∈ fs
    · rw [if_pos h]
      constructor
      · rintro (h1 | h1)
        · exact .inl h1
        · exact .inr (List.mem_cons_of_mem _ h1)
      · rintro (h1 | h1)
        · exact .inl h1
        · rcases List.mem_cons.mp h1 with e | h1
          · exact .inl (e ▸ h)
          · exact .inr h1
    · rw [if_neg h]
      simp only [List.mem_append, List.mem_cons, List.not_mem_nil, or_false]
      exact ⟨fun h => h.elim (fun h => h.elim .inl fun e => .inr (.inl e)) fun h => .inr (.inr h), fun h => h.elim (fun h => .inl (.inl h)) fun h => h.elim (fun e => .inl (.inr e)) .inr⟩
theorem fl_iff (t : Tr) (x : Str) : x ∈ freeNames t ↔ t.fr x := by
  unfold freeNames
  rw [dd_mem, frees_mem]
  simp
theorem fl_mem : ∀ t y, Tr.fr y t → y ∈ freeNames t := fun t y h => (fl_iff t y).mpr h
theorem put_closed {b w : Tr} {x : Str} (hw : w.closed) (hb : ∀ y, b.fr y → y = x) : (b.put x w).closed := fun y hy => by
  obtain ⟨h1, h2⟩ := (Tr.fr_sub (Sb.Cl.one hw)).mp hy
  have := hb y h1
  subst this
  unfold Sb.one at h2
  rw [if_pos rfl] at h2
  cases h2
theorem step_closed : ∀ {t : Tr}, t.closed → t.step ≠ .err .closed ∧ ∀ t', t.step = .to t' → t'.closed
  | .num n, _ => ⟨by simp [Tr.step], fun t' h => by simp [Tr.step] at h⟩
  | .fn x b, _ => ⟨by simp [Tr.step], fun t' h => by simp [Tr.step] at h⟩
  | .name x, h => absurd rfl (h x)
  | .plus a b, h => by
    have ha := step_closed (t := a) fun x hx => h x (.inl hx)
    have hb := step_closed (t := b) fun x hx => h x (.inr hx)
    simp only [Tr.step]
    split
    · rename_i a' e
      exact ⟨by simp, fun t' ht => by cases ht; exact fun x hx => hx.elim (ha.2 _ e x) fun hx => h x (.inr hx)⟩
    · rename_i c e
      exact ⟨fun hc => by cases hc; exact ha.1 e, fun t' ht => by cases ht⟩
    · split
      · rename_i b' e
        exact ⟨by simp, fun t' ht => by cases ht; exact fun x hx => hx.elim (fun hx => h x (.inl hx)) (hb.2 _ e x)⟩
      · rename_i c e
        exact ⟨fun hc => by cases hc; exact hb.1 e, fun t' ht => by cases ht⟩
      · split
        · exact ⟨by simp, fun t' ht => by cases ht; exact fun x hx => hx⟩
        · exact ⟨by simp, fun t' ht => by cases ht⟩
  | .less a b, h => by
    have ha := step_closed (t := a) fun x hx => h x (.inl hx)
    have hb := step_closed (t := b) fun x hx => h x (.inr hx)
    simp only [Tr.step]
    split
    · rename_i a' e
      exact ⟨by simp, fun t' ht => by cases ht; exact fun x hx => hx.elim (ha.2 _ e x) fun hx => h x (.inr hx)⟩
    · rename_i c e
      exact ⟨fun hc => by cases hc; exact ha.1 e, fun t' ht => by cases ht⟩
    · split
      · rename_i b' e
        exact ⟨by simp, fun t' ht => by cases ht; exact fun x hx => hx.elim (fun hx => h x (.inl hx)) (hb.2 _ e x)⟩
      · rename_i c e
        exact ⟨fun hc => by cases hc; exact hb.1 e, fun t' ht => by cases ht⟩
      · split
        · exact ⟨by simp, fun t' ht => by cases ht; exact fun x hx => hx⟩
        · exact ⟨by simp, fun t' ht => by cases ht⟩
  | .call a b, h => by
    have ha := step_closed (t := a) fun x hx => h x (.inl hx)
    have hb := step_closed (t := b) fun x hx => h x (.inr hx)
    simp only [Tr.step]
    split
    · rename_i a' e
      exact ⟨by simp, fun t' ht => by cases ht; exact fun x hx => hx.elim (ha.2 _ e x) fun hx => h x (.inr hx)⟩
    · rename_i c e
      exact ⟨fun hc => by cases hc; exact ha.1 e, fun t' ht => by cases ht⟩
    · split
      · rename_i b' e
        exact ⟨by simp, fun t' ht => by cases ht; exact fun x hx => hx.elim (fun hx => h x (.inl hx)) (hb.2 _ e x)⟩
      · rename_i c e
        exact ⟨fun hc => by cases hc; exact hb.1 e, fun t' ht => by cases ht⟩
      · split
        · rename_i x t e
          exact ⟨by simp, fun t' ht => by
            cases ht
            exact put_closed (fun y hy => h y (.inr hy)) fun y hy => by
              by_cases e : x = y
              · exact e.symm
              · exact absurd (.inl ⟨e, hy⟩) (h y)⟩
        · exact ⟨by simp, fun t' ht => by cases ht⟩
  | .ite c a b, h => by
    have hc := step_closed (t := c) fun x hx => h x (.inl hx)
    simp only [Tr.step]
    split
    · rename_i a' e
      exact ⟨by simp, fun t' ht => by cases ht; exact fun x hx => hx.elim (hc.2 _ e x) fun hx => h x (.inr hx)⟩
    · rename_i k e
      exact ⟨fun hk => by cases hk; exact hc.1 e, fun t' ht => by cases ht⟩
    · split
      · refine ⟨by simp, fun t' ht => ?_⟩
        injection ht with ht
        subst ht
        split
        · exact fun x hx => h x (.inr (.inr hx))
        · exact fun x hx => h x (.inr (.inl hx))
      · exact ⟨by simp, fun t' ht => by cases ht⟩
  | .lt x a b, h => by
    have ha := step_closed (t := a) fun y hy => h y (.inl hy)
    simp only [Tr.step]
    split
    · rename_i a' e
      exact ⟨by simp, fun t' ht => by cases ht; exact fun y hy => hy.elim (ha.2 _ e y) fun hy => h y (.inr hy)⟩
    · rename_i k e
      exact ⟨fun hk => by cases hk; exact ha.1 e, fun t' ht => by cases ht⟩
    · exact ⟨by simp, fun t' ht => by
        cases ht
        exact put_closed (fun y hy => h y (.inl hy)) fun y hy => by
          by_cases e : x = y
          · exact e.symm
          · exact absurd (.inr ⟨e, hy⟩) (h y)⟩
theorem work_closed : ∀ {m : Nat} {t : Tr}, t.closed → work m t ≠ .err .closed ∧ ∀ u m', work m t = .ok u m' → u.closed
  | 0, t, h => by
    rw [work]
    split
    · exact ⟨by simp, fun u m' e => by cases e; exact h⟩
    · exact ⟨by simp, fun u m' e => by cases e⟩
  | m + 1, t, h => by
    have hs := step_closed h
    rw [work]
    split
    · exact ⟨by simp, fun u m' e => by cases e; exact h⟩
    · rename_i t' e
      exact work_closed (hs.2 t' e)
    · rename_i c e
      exact ⟨fun hc => by cases hc; exact hs.1 e, fun u m' e => by cases e⟩
theorem ev_closed {m : Nat} {t : Tr} (h : t.closed) : evF m .nil t ≠ .err .closed := fun e => by
  have := run_work (fl := freeNames) fl_mem (m := m) h
  rw [show ev freeNames m .nil t = .err .closed from e] at this
  exact (work_closed h).1 this
/-- how the classes of refusals are told apart -/
structure MeetsT (K : PySem.W.Frag) (E : Ers) : Prop where
  nn : PySem.W.exmOne K (.ref E.number) (.ref E.number) = some true
  fn : PySem.W.exmOne K (.ref E.function) (.ref E.number) = some false
  ff : PySem.W.exmOne K (.ref E.function) (.ref E.function) = some true
  dn : PySem.W.exmOne K (.ref E.dry) (.ref E.number) = some false
  df : PySem.W.exmOne K (.ref E.dry) (.ref E.function) = some false
  dd : PySem.W.exmOne K (.ref E.dry) (.ref E.dry) = some true
/-- what the law's three ways of asking need of the text -/
structure ATxt (K : PySem.W.Frag) (mg : Str → Option Value) (E : Ers) : Prop extends Bt mg where
  NoNumber : ErrC K mg "NoNumber" E.number
  NoFunction : ErrC K mg "NoFunction" E.function
  Dry : ErrC K mg "Dry" E.dry
  meets : MeetsT K E
def Er.word : Er → Str
  | .number => "number"
  | .function => "function"
  | .closed => "closed"
def spRunW (KV : Hp → Val → V → Prop) : Sp := fun vs H Q _ => ∃ (v : V) (t : Tr) (m : Nat), vs = [v, .int m] ∧ OkIn H t v m ∧
  match evF m .nil t with
  | .ok u m' _ => ∀ (r : V) (p : Addr) (H' : Hp), Same H H' → KV H' u r → H' p = some (.tup [r, .int ((m : Int) - m')]) → Q (.ref p) H'
  | .err c => ∀ H', Same H H' → Q (.str c.word) H'
  | .dry => ∀ H', Same H H' → Q (.str "dry") H'
def spWorkedW : Sp := fun vs H Q _ => ∃ (v : V) (t : Tr) (m : Nat), vs = [v, .int m] ∧ OkIn H t v m ∧
  match work m t with
  | .ok u m' => ∀ (r : V) (p : Addr) (H' : Hp), Same H H' → At H' u r → H' p = some (.tup [r, .int ((m : Int) - m')]) → Q (.ref p) H'
  | .err c => ∀ H', Same H H' → Q (.str c.word) H'
  | .dry => ∀ H', Same H H' → Q (.str "dry") H'
def spStepsW : Sp := fun vs H Q _ => ∃ (v : V) (t : Tr) (m : Nat), vs = [v, .int m] ∧ OkIn H t v m ∧
  match work m t with
  | .ok _ _ => ∀ (rs : List V) (l : Addr) (H' : Hp), Same H H' → Ats H' (path m t) rs → H' l = some (.lst rs) → Q (.ref l) H'
  | .err c => ∀ H', Same H H' → Q (.str c.word) H'
  | .dry => ∀ H', Same H H' → Q (.str "dry") H'
structure KTxt (K : PySem.W.Frag) (mg : Str → Option Value) (E : Ers) (cK : Addr) : Prop extends ATxt K mg E where
  cKept : mg "Kept" = some (.ref cK)
  kint : PySem.W.kitOne K (.type "int") (.ref cK) = some false
/-- what a machine's value is in the heap, as far as the laws ask for it -/
structure KVok (K : PySem.W.Frag) (cK : Addr) (KV : Hp → Val → V → Prop) : Prop where
  num : ∀ {H n r}, KV H (.num n) r → r = .int n
  fn : ∀ {H x b e r}, KV H (.fn x b e) r → ∃ t, TyX K H r t ∧ PySem.W.kitOne K t (.ref cK) = some true
  same : ∀ {H H' u r}, Same H H' → KV H u r → KV H' u r
/-- a pair with a count -/
def spPair : Sp := fun vs H Q _ => ∃ (p : Addr) (r : V) (n : Int), vs = [.ref p] ∧ H p = some (.tup [r, .int n]) ∧ Q (.bl true) H
theorem OkIn.same {H H' : Hp} {t : Tr} {v : V} {m : Nat} (h : OkIn H t v m) (e : Same H H') : OkIn H' t v m := ⟨h.at_.mono (same_kt e), h.good, h.closed, h.size, h.most⟩
end My

namespace My
open PySem L2
/-! ### how deep the trees become -/
/-- each free x stands at most d deep -/
def Oc (x : Str) : Nat → Tr → Prop
  | _, .num _ => True
  | _, .name _ => True
  | d, .fn y b => y = x ∨ match d with | 0 => ¬ b.fr x | d + 1 => Oc x d b
  | d, .call f a => match d with | 0 => ¬ f.fr x ∧ ¬ a.fr x | d + 1 => Oc x d f ∧ Oc x d a
  | d, .plus f a => match d with | 0 => ¬ f.fr x ∧ ¬ a.fr x | d + 1 => Oc x d f ∧ Oc x d a
  | d, .less f a => match d with | 0 => ¬ f.fr x ∧ ¬ a.fr x | d + 1 => Oc x d f ∧ Oc x d a
  | d, .ite c f a => match d with | 0 => ¬ c.fr x ∧ ¬ f.fr x ∧ ¬ a.fr x | d + 1 => Oc x d c ∧ Oc x d f ∧ Oc x d a
  | d, .lt y e b => match d with | 0 => ¬ e.fr x ∧ (y = x ∨ ¬ b.fr x) | d + 1 => Oc x d e ∧ (y = x ∨ Oc x d b)
theorem oc_not {x : Str} : ∀ {t : Tr} {d : Nat}, ¬ t.fr x → Oc x d t
  | .num _, d, h => by unfold Oc; trivial
  | .name _, d, h => by unfold Oc; trivial
  | .fn y b, d, h => by
    unfold Oc
    by_cases e : y = x
    · exact .inl e
    · have hb : ¬ b.fr x := fun hb => h ⟨e, hb⟩
      right
      cases d with
      | zero => exact hb
      | succ d => exact oc_not hb
  | .call f a, d, h => by
    have h1 : ¬ f.fr x := fun k => h (.inl k)
    have h2 : ¬ a.fr x := fun k => h (.inr k)
    unfold Oc
    cases d with
    | zero => exact ⟨h1, h2⟩
    | succ d => exact ⟨oc_not h1, oc_not h2⟩
  | .plus f a, d, h => by
    have h1 : ¬ f.fr x := fun k => h (.inl k)
    have h2 : ¬ a.fr x := fun k => h (.inr k)
    unfold Oc
    cases d with
    | zero => exact ⟨h1, h2⟩
    | succ d => exact ⟨oc_not h1, oc_not h2⟩
  | .less f a, d, h => by
    have h1 : ¬ f.fr x := fun k => h (.inl k)
    have h2 : ¬ a.fr x := fun k => h (.inr k)
    unfold Oc
    cases d with
    | zero => exact ⟨h1, h2⟩
    | succ d => exact ⟨oc_not h1, oc_not h2⟩
  | .ite c f a, d, h => by
    have h0 : ¬ c.fr x := fun k => h (.inl k)
    have h1 : ¬ f.fr x := fun k => h (.inr (.inl k))
    have h2 : ¬ a.fr x := fun k => h (.inr (.inr k))
    unfold Oc
    cases d with
    | zero => exact ⟨h0, h1, h2⟩
    | succ d => exact ⟨oc_not h0, oc_not h1, oc_not h2⟩
  | .lt y e b, d, h => by
    have h1 : ¬ e.fr x := fun k => h (.inl k)
    unfold Oc
    by_cases q : y = x
    · cases d with
      | zero => exact ⟨h1, .inl q⟩
      | succ d => exact ⟨oc_not h1, .inl q⟩
    · have h2 : ¬ b.fr x := fun k => h (.inr ⟨q, k⟩)
      cases d with
      | zero => exact ⟨h1, .inr h2⟩
      | succ d => exact ⟨oc_not h1, .inr (oc_not h2)⟩
/-- a tree is as deep as that -/
theorem oc_dep {x : Str} : ∀ {t : Tr} {d : Nat}, t.dep ≤ d → Oc x d t
  | .num _, d, h => by unfold Oc; trivial
  | .name _, d, h => by unfold Oc; trivial
  | .fn y b, 0, h => by simp only [Tr.dep] at h; omega
  | .fn y b, d + 1, h => by unfold Oc; simp only [Tr.dep] at h; exact .inr (oc_dep (by omega))
  | .call f a, 0, h => by simp only [Tr.dep] at h; omega
  | .call f a, d + 1, h => by unfold Oc; simp only [Tr.dep] at h; exact ⟨oc_dep (by omega), oc_dep (by omega)⟩
  | .plus f a, 0, h => by simp only [Tr.dep] at h; omega
  | .plus f a, d + 1, h => by unfold Oc; simp only [Tr.dep] at h; exact ⟨oc_dep (by omega), oc_dep (by omega)⟩
  | .less f a, 0, h => by simp only [Tr.dep] at h; omega
  | .less f a, d + 1, h => by unfold Oc; simp only [Tr.dep] at h; exact ⟨oc_dep (by omega), oc_dep (by omega)⟩
  | .ite c f a, 0, h => by simp only [Tr.dep] at h; omega
  | .ite c f a, d + 1, h => by unfold Oc; simp only [Tr.dep] at h; exact ⟨oc_dep (by omega), oc_dep (by omega), oc_dep (by omega)⟩
  | .lt y e b, 0, h => by simp only [Tr.dep] at h; omega
  | .lt y e b, d + 1, h => by unfold Oc; simp only [Tr.dep] at h; exact ⟨oc_dep (by omega), .inr (oc_dep (by omega))⟩
theorem put_dep {x : Str} {w : Tr} : ∀ {t : Tr} {d : Nat}, Oc x d t → (t.put x w).dep ≤ max t.dep (d + w.dep)
  | .num _, d, h => by rw [put_num]; omega
  | .name y, d, h => by rw [put_name]; split <;> omega
  | .fn y b, d, h => by
    unfold Oc at h
    rw [put_fn]
    by_cases e : y = x
    · rw [if_pos e]; omega
    · rw [if_neg e]
      have h := h.resolve_left e
      cases d with
      | zero =>
        rw [Tr.put_id h]; omega
      | succ d => have := put_dep (w := w) h; simp only [Tr.dep]; omega
  | .call f a, 0, h => by unfold Oc at h; rw [put_call, Tr.put_id h.1, Tr.put_id h.2]; omega
  | .call f a, d + 1, h => by unfold Oc at h; have := put_dep (w := w) h.1; have := put_dep (w := w) h.2; rw [put_call]; simp only [Tr.dep]; omega
  | .plus f a, 0, h => by unfold Oc at h; rw [put_plus, Tr.put_id h.1, Tr.put_id h.2]; omega
  | .plus f a, d + 1, h => by unfold Oc at h; have := put_dep (w := w) h.1; have := put_dep (w := w) h.2; rw [put_plus]; simp only [Tr.dep]; omega
  | .less f a, 0, h => by unfold Oc at h; rw [put_less, Tr.put_id h.1, Tr.put_id h.2]; omega
  | .less f a, d + 1, h => by unfold Oc at h; have := put_dep (w := w) h.1; have := put_dep (w := w) h.2; rw [put_less]; simp only [Tr.dep]; omega
  | .ite c f a, 0, h => by unfold Oc at h; rw [put_ite, Tr.put_id h.1, Tr.put_id h.2.1, Tr.put_id h.2.2]; omega
  | .ite c f a, d + 1, h => by unfold Oc at h; have := put_dep (w := w) h.1; have := put_dep (w := w) h.2.1; have := put_dep (w := w) h.2.2; rw [put_ite]; simp only [Tr.dep]; omega
  | .lt y e b, d, h => by
    unfold Oc at h
    rw [put_lt]
    cases d with
    | zero =>
      rw [Tr.put_id h.1]
      by_cases q : y = x
      · rw [if_pos q]; omega
      · rw [if_neg q, Tr.put_id (h.2.resolve_left q)]; omega
    | succ d =>
      have := put_dep (w := w) h.1
      by_cases q : y = x
      · rw [if_pos q]; simp only [Tr.dep]; omega
      · rw [if_neg q]
        have := put_dep (w := w) (h.2.resolve_left q)
        simp only [Tr.dep]; omega
/-- putting closed things in changes nothing of that -/
theorem oc_sub {x : Str} : ∀ {t : Tr} {d : Nat} {s : Sb}, s.Cl → Oc x d t → Oc x d (t.sub s)
  | .num _, d, s, hs, h => by simp only [Tr.sub]; unfold Oc; trivial
  | .name y, d, s, hs, h => by
    simp only [Tr.sub]
    cases e : s y with
    | none => show Oc x d (.name y); unfold Oc; trivial
    | some v => exact oc_not (hs y v e x)
  | .fn y b, d, s, hs, h => by
    simp only [Tr.sub]
    unfold Oc at h ⊢
    rcases h with h | h
    · exact .inl h
    · right
      cases d with
      | zero => exact fun k => h ((Tr.fr_sub (hs.del y)).mp k).1
      | succ d => exact oc_sub (hs.del y) h
  | .call f a, d, s, hs, h => by
    simp only [Tr.sub]
    unfold Oc at h ⊢
    cases d with
    | zero => exact ⟨fun k => h.1 ((Tr.fr_sub hs).mp k).1, fun k => h.2 ((Tr.fr_sub hs).mp k).1⟩
    | succ d => exact ⟨oc_sub hs h.1, oc_sub hs h.2⟩
  | .plus f a, d, s, hs, h => by
    simp only [Tr.sub]
    unfold Oc at h ⊢
    cases d with
    | zero => exact ⟨fun k => h.1 ((Tr.fr_sub hs).mp k).1, fun k => h.2 ((Tr.fr_sub hs).mp k).1⟩
    | succ d => exact ⟨oc_sub hs h.1, oc_sub hs h.2⟩
  | .less f a, d, s, hs, h => by
    simp only [Tr.sub]
    unfold Oc at h ⊢
    cases d with
    | zero => exact ⟨fun k => h.1 ((Tr.fr_sub hs).mp k).1, fun k => h.2 ((Tr.fr_sub hs).mp k).1⟩
    | succ d => exact ⟨oc_sub hs h.1, oc_sub hs h.2⟩
  | .ite c f a, d, s, hs, h => by
    simp only [Tr.sub]
    unfold Oc at h ⊢
    cases d with
    | zero => exact ⟨fun k => h.1 ((Tr.fr_sub hs).mp k).1, fun k => h.2.1 ((Tr.fr_sub hs).mp k).1, fun k => h.2.2 ((Tr.fr_sub hs).mp k).1⟩
    | succ d => exact ⟨oc_sub hs h.1, oc_sub hs h.2.1, oc_sub hs h.2.2⟩
  | .lt y e b, d, s, hs, h => by
    simp only [Tr.sub]
    unfold Oc at h ⊢
    cases d with
    | zero => exact ⟨fun k => h.1 ((Tr.fr_sub hs).mp k).1, h.2.imp id fun g k => g ((Tr.fr_sub (hs.del y)).mp k).1⟩
    | succ d => exact ⟨oc_sub hs h.1, h.2.imp id fun g => oc_sub (hs.del y) g⟩
/-- each bound name stands at most c deep in what it is bound in -/
def Bo (c : Nat) : Tr → Prop
  | .num _ => True
  | .name _ => True
  | .fn y b => Oc y c b ∧ Bo c b
  | .call f a => Bo c f ∧ Bo c a
  | .plus f a => Bo c f ∧ Bo c a
  | .less f a => Bo c f ∧ Bo c a
  | .ite k f a => Bo c k ∧ Bo c f ∧ Bo c a
  | .lt y e b => Oc y c b ∧ Bo c e ∧ Bo c b
theorem bo_dep : ∀ {t : Tr} {c : Nat}, t.dep ≤ c → Bo c t
  | .num _, c, h => trivial
  | .name _, c, h => trivial
  | .fn y b, c, h => by simp only [Tr.dep] at h; exact ⟨oc_dep (by omega), bo_dep (by omega)⟩
  | .call f a, c, h => by simp only [Tr.dep] at h; exact ⟨bo_dep (by omega), bo_dep (by omega)⟩
  | .plus f a, c, h => by simp only [Tr.dep] at h; exact ⟨bo_dep (by omega), bo_dep (by omega)⟩
  | .less f a, c, h => by simp only [Tr.dep] at h; exact ⟨bo_dep (by omega), bo_dep (by omega)⟩
  | .ite k f a, c, h => by simp only [Tr.dep] at h; exact ⟨bo_dep (by omega), bo_dep (by omega), bo_dep (by omega)⟩
  | .lt y e b, c, h => by simp only [Tr.dep] at h; exact ⟨oc_dep (by omega), bo_dep (by omega), bo_dep (by omega)⟩
theorem bo_sub {c : Nat} : ∀ {t : Tr} {s : Sb}, s.Cl → (∀ x v, s x = some v → Bo c v) → Bo c t → Bo c (t.sub s)
  | .num _, s, hs, hb, h => trivial
  | .name y, s, hs, hb, h => by
    simp only [Tr.sub]
    cases e : s y with
    | none => exact trivial
    | some v => exact hb y v e
  | .fn y b, s, hs, hb, h => ⟨oc_sub (hs.del y) h.1, bo_sub (hs.del y) (fun x v e => by unfold Sb.del at e; split at e; cases e; exact hb x v e) h.2⟩
  | .call f a, s, hs, hb, h => ⟨bo_sub hs hb h.1, bo_sub hs hb h.2⟩
  | .plus f a, s, hs, hb, h => ⟨bo_sub hs hb h.1, bo_sub hs hb h.2⟩
  | .less f a, s, hs, hb, h => ⟨bo_sub hs hb h.1, bo_sub hs hb h.2⟩
  | .ite k f a, s, hs, hb, h => ⟨bo_sub hs hb h.1, bo_sub hs hb h.2.1, bo_sub hs hb h.2.2⟩
  | .lt y e b, s, hs, hb, h => ⟨oc_sub (hs.del y) h.1, bo_sub hs hb h.2.1, bo_sub (hs.del y) (fun x v e => by unfold Sb.del at e; split at e; cases e; exact hb x v e) h.2.2⟩
theorem bo_put {c : Nat} {t w : Tr} {x : Str} (hw : w.closed) (hb : Bo c w) (h : Bo c t) : Bo c (t.put x w) :=
  bo_sub (Sb.Cl.one hw) (fun y v e => by unfold Sb.one at e; split at e; cases e; exact hb; cases e) h
/-- a step makes it deeper by c at most -/
theorem step_dep {c : Nat} : ∀ {t t' : Tr}, t.closed → Bo c t → t.step = .to t' → Bo c t' ∧ t'.dep ≤ t.dep + c
  | .num n, t', _, _, h => by simp [Tr.step] at h
  | .fn x b, t', _, _, h => by simp [Tr.step] at h
  | .name x, t', _, _, h => by simp [Tr.step] at h
  | .plus a b, t', hc, hb, h => by
    simp only [Tr.step] at h
    split at h
    · rename_i a' e
      cases h
      have := step_dep (fun x hx => hc x (.inl hx)) hb.1 e
      exact ⟨⟨this.1, hb.2⟩, by simp only [Tr.dep]; omega⟩
    · cases h
    · split at h
      · rename_i b' e
        cases h
        have := step_dep (fun x hx => hc x (.inr hx)) hb.2 e
        exact ⟨⟨hb.1, this.1⟩, by simp only [Tr.dep]; omega⟩
      · cases h
      · split at h
        · cases h; exact ⟨trivial, by simp only [Tr.dep]; omega⟩
        · cases h
  | .less a b, t', hc, hb, h => by
    simp only [Tr.step] at h
    split at h
    · rename_i a' e
      cases h
      have := step_dep (fun x hx => hc x (.inl hx)) hb.1 e
      exact ⟨⟨this.1, hb.2⟩, by simp only [Tr.dep]; omega⟩
    · cases h
    · split at h
      · rename_i b' e
        cases h
        have := step_dep (fun x hx => hc x (.inr hx)) hb.2 e
        exact ⟨⟨hb.1, this.1⟩, by simp only [Tr.dep]; omega⟩
      · cases h
      · split at h
        · cases h; exact ⟨trivial, by simp only [Tr.dep]; omega⟩
        · cases h
  | .call a b, t', hc, hb, h => by
    simp only [Tr.step] at h
    split at h
    · rename_i a' e
      cases h
      have := step_dep (fun x hx => hc x (.inl hx)) hb.1 e
      exact ⟨⟨this.1, hb.2⟩, by simp only [Tr.dep]; omega⟩
    · cases h
    · split at h
      · rename_i b' e
        cases h
        have := step_dep (fun x hx => hc x (.inr hx)) hb.2 e
        exact ⟨⟨hb.1, this.1⟩, by simp only [Tr.dep]; omega⟩
      · cases h
      · split at h
        · rename_i x t e
          cases h
          have := put_dep (w := b) hb.1.1
          exact ⟨bo_put (fun y hy => hc y (.inr hy)) hb.2 hb.1.2, by simp only [Tr.dep]; omega⟩
        · cases h
  | .ite k a b, t', hc, hb, h => by
    simp only [Tr.step] at h
    split at h
    · rename_i a' e
      cases h
      have := step_dep (fun x hx => hc x (.inl hx)) hb.1 e
      exact ⟨⟨this.1, hb.2⟩, by simp only [Tr.dep]; omega⟩
    · cases h
    · split at h
      · injection h with h
        subst h
        split
        · exact ⟨hb.2.2, by simp only [Tr.dep]; omega⟩
        · exact ⟨hb.2.1, by simp only [Tr.dep]; omega⟩
      · cases h
  | .lt x a b, t', hc, hb, h => by
    simp only [Tr.step] at h
    split at h
    · rename_i a' e
      cases h
      have := step_dep (fun x hx => hc x (.inl hx)) hb.2.1 e
      exact ⟨⟨hb.1, this.1, hb.2.2⟩, by simp only [Tr.dep]; omega⟩
    · cases h
    · cases h
      have := put_dep (w := a) hb.1
      exact ⟨bo_put (fun y hy => hc y (.inl hy)) hb.2.1 hb.2.2, by simp only [Tr.dep]; omega⟩
theorem work_dep {c : Nat} : ∀ {m : Nat} {t u : Tr} {m' : Nat}, t.closed → Bo c t → work m t = .ok u m' → u.dep ≤ t.dep + m * c
  | 0, t, u, m', hc, hb, h => by
    rw [work] at h
    split at h
    · cases h; omega
    · cases h
  | m + 1, t, u, m', hc, hb, h => by
    rw [work] at h
    split at h
    · cases h; omega
    · rename_i t' e
      have h1 := step_dep hc hb e
      have h2 := work_dep ((step_closed hc).2 t' e) h1.1 h
      rw [Nat.succ_mul]
      omega
    · cases h
/-- the value of a tree of 400 nodes behind 1000 deeds -/
theorem work_dep' {m : Nat} {t u : Tr} {m' : Nat} (hc : t.closed) (hs : t.size ≤ 400) (hm : m ≤ 1000) (h : work m t = .ok u m') : u.dep ≤ 500000 := by
  have hd := t.dep_size
  have h1 := work_dep (c := 400) hc (bo_dep (by omega)) h
  have : m * 400 ≤ 400000 := by omega
  omega
theorem ev_ok {m : Nat} {t : Tr} (hc : t.closed) {u : Val} {m' : Nat} {l : List Val} (h : evF m .nil t = .ok u m' l) : u.ok := by
  have g := agree (fl := freeNames) fl_mem m .nil t trivial (fun y hy => absurd hy (hc y)) _ Ctx.id
  rw [show ev freeNames m .nil t = _ from h] at g
  exact g.1
theorem not_bang {p : Prop} {i : Decidable p} (h : p) : ¬ (!(@decide p i)) = true := by simp [h]
end My

namespace My
open PySem L2
/-! ### trees in which a name may be a number -/
inductive Sh where
  | num (n : Int) | name (k : Key) | fn (x : Str) (b : Sh) | call (f a : Sh) | plus (a b : Sh) | less (a b : Sh) | ite (c a b : Sh) | lt (x : Str) (e b : Sh)
def Tr.sh : Tr → Sh
  | .num n => .num n
  | .name x => .name (.inr x)
  | .fn x b => .fn x b.sh
  | .call f a => .call f.sh a.sh
  | .plus f a => .plus f.sh a.sh
  | .less f a => .less f.sh a.sh
  | .ite c f a => .ite c.sh f.sh a.sh
  | .lt x e b => .lt x e.sh b.sh
namespace Sh
def kids : Sh → List Sh
  | .num _ => [] | .name _ => [] | .fn _ b => [b] | .call f a => [f, a] | .plus a b => [a, b] | .less a b => [a, b] | .ite c a b => [c, a, b] | .lt _ e b => [e, b]
def word : Sh → Str
  | .num _ => "num" | .name _ => "name" | .fn _ _ => "fun" | .call _ _ => "call" | .plus _ _ => "plus" | .less _ _ => "less" | .ite _ _ _ => "if" | .lt _ _ _ => "let"
def own : Sh → List V
  | .num n => [.int n] | .name k => [kV k] | .fn x _ => [.str x] | .lt x _ _ => [.str x] | _ => []
def size : Sh → Nat
  | .num _ => 1 | .name _ => 1 | .fn _ b => 1 + b.size | .call f a => 1 + f.size + a.size | .plus a b => 1 + a.size + b.size | .less a b => 1 + a.size + b.size
  | .ite c a b => 1 + c.size + a.size + b.size | .lt _ e b => 1 + e.size + b.size
def dep : Sh → Nat
  | .num _ => 1 | .name _ => 1 | .fn _ b => 1 + b.dep | .call f a => 1 + max f.dep a.dep | .plus a b => 1 + max a.dep b.dep | .less a b => 1 + max a.dep b.dep
  | .ite c a b => 1 + max c.dep (max a.dep b.dep) | .lt _ e b => 1 + max e.dep b.dep
theorem size_pos : ∀ t : Sh, 0 < t.size := fun t => by cases t <;> simp only [size] <;> omega
theorem dep_pos : ∀ t : Sh, 0 < t.dep := fun t => by cases t <;> simp only [dep] <;> omega
theorem kids_le (t : Sh) : t.kids.length ≤ 3 := by cases t <;> simp [kids]
/-- other parts in the place of its own -/
def build : Sh → List Sh → Sh
  | .fn x _, [b] => .fn x b
  | .call _ _, [f, a] => .call f a
  | .plus _ _, [f, a] => .plus f a
  | .less _ _, [f, a] => .less f a
  | .ite _ _ _, [c, f, a] => .ite c f a
  | .lt x _ _, [e, b] => .lt x e b
  | t, _ => t
end Sh
abbrev Ss := Key → Option Sh
def Ss.none : Ss := fun _ => Option.none
def Ss.one (k : Key) (v : Sh) : Ss := fun j => if j = k then some v else Option.none
def Ss.del (s : Ss) (x : Str) : Ss := fun j => if j = .inr x then Option.none else s j
def Sh.sub (s : Ss) : Sh → Sh
  | .num n => .num n
  | .name k => (s k).getD (.name k)
  | .fn y b => .fn y (b.sub (s.del y))
  | .call f a => .call (f.sub s) (a.sub s)
  | .plus f a => .plus (f.sub s) (a.sub s)
  | .less f a => .less (f.sub s) (a.sub s)
  | .ite c f a => .ite (c.sub s) (f.sub s) (a.sub s)
  | .lt y e b => .lt y (e.sub s) (b.sub (s.del y))
def Sh.pars (s : Ss) : Sh → List (Sh × Ss)
  | .num _ => []
  | .name _ => []
  | .fn y b => [(b, s.del y)]
  | .call f a => [(f, s), (a, s)]
  | .plus f a => [(f, s), (a, s)]
  | .less f a => [(f, s), (a, s)]
  | .ite c f a => [(c, s), (f, s), (a, s)]
  | .lt y e b => [(e, s), (b, s.del y)]
theorem Ss.none_del (x : Str) : Ss.none.del x = Ss.none := by
  funext y
  unfold Ss.del Ss.none
  split <;> rfl
theorem Ss.del_id {s : Ss} {x : Str} (h : s (.inr x) = Option.none) : s.del x = s := by
  funext y
  unfold Ss.del
  split
  · rename_i e; rw [e, h]
  · rfl
theorem Sh.sub_none : ∀ t : Sh, t.sub Ss.none = t
  | .num _ => rfl
  | .name _ => rfl
  | .fn y b => by simp only [Sh.sub]; rw [Ss.none_del, Sh.sub_none b]
  | .call f a => by simp only [Sh.sub]; rw [Sh.sub_none f, Sh.sub_none a]
  | .plus f a => by simp only [Sh.sub]; rw [Sh.sub_none f, Sh.sub_none a]
  | .less f a => by simp only [Sh.sub]; rw [Sh.sub_none f, Sh.sub_none a]
  | .ite c f a => by simp only [Sh.sub]; rw [Sh.sub_none c, Sh.sub_none f, Sh.sub_none a]
  | .lt y e b => by simp only [Sh.sub]; rw [Ss.none_del, Sh.sub_none e, Sh.sub_none b]
theorem Sh.pars_len (s : Ss) (t : Sh) : (t.pars s).length = t.kids.length := by cases t <;> rfl
theorem Sh.pars_fst (s : Ss) (t : Sh) : (t.pars s).map (·.1) = t.kids := by cases t <;> rfl
theorem Sh.sub_pars {s : Ss} {t : Sh} (hn : t.word ≠ "name") : t.sub s = t.build ((t.pars s).map fun p => p.1.sub p.2) := by
  cases t <;> first | rfl | exact absurd rfl hn
theorem Sh.dep_kid {t u : Sh} (h : u ∈ t.kids) : u.dep + 1 ≤ t.dep := by
  cases t <;> simp only [Sh.kids, List.mem_cons, List.not_mem_nil, or_false] at h
  all_goals (try exact h.elim)
  all_goals simp only [Sh.dep]
  · subst h; omega
  · rcases h with rfl | rfl <;> omega
  · rcases h with rfl | rfl <;> omega
  · rcases h with rfl | rfl <;> omega
  · rcases h with rfl | rfl | rfl <;> omega
  · rcases h with rfl | rfl <;> omega
/-- the tree stands in the heap at v -/
def AtS (H : Hp) : Sh → V → Prop
  | .num n, v => ∃ a, v = .ref a ∧ H a = some (.tup [.str "num", .int n])
  | .name k, v => ∃ a, v = .ref a ∧ H a = some (.tup [.str "name", kV k])
  | .fn x b, v => ∃ a u, v = .ref a ∧ H a = some (.tup [.str "fun", .str x, u]) ∧ AtS H b u
  | .call f g, v => ∃ a u u', v = .ref a ∧ H a = some (.tup [.str "call", u, u']) ∧ AtS H f u ∧ AtS H g u'
  | .plus f g, v => ∃ a u u', v = .ref a ∧ H a = some (.tup [.str "plus", u, u']) ∧ AtS H f u ∧ AtS H g u'
  | .less f g, v => ∃ a u u', v = .ref a ∧ H a = some (.tup [.str "less", u, u']) ∧ AtS H f u ∧ AtS H g u'
  | .ite c f g, v => ∃ a u u' u'', v = .ref a ∧ H a = some (.tup [.str "if", u, u', u'']) ∧ AtS H c u ∧ AtS H f u' ∧ AtS H g u''
  | .lt x f g, v => ∃ a u u', v = .ref a ∧ H a = some (.tup [.str "let", .str x, u, u']) ∧ AtS H f u ∧ AtS H g u'
theorem at_sh {H : Hp} : ∀ {t : Tr} {v : V}, AtS H t.sh v ↔ At H t v
  | .num _, _ => Iff.rfl
  | .name _, _ => Iff.rfl
  | .fn _ b, _ => by simp only [Tr.sh, AtS, At, at_sh (t := b)]
  | .call f g, _ => by simp only [Tr.sh, AtS, At, at_sh (t := f), at_sh (t := g)]
  | .plus f g, _ => by simp only [Tr.sh, AtS, At, at_sh (t := f), at_sh (t := g)]
  | .less f g, _ => by simp only [Tr.sh, AtS, At, at_sh (t := f), at_sh (t := g)]
  | .ite c f g, _ => by simp only [Tr.sh, AtS, At, at_sh (t := c), at_sh (t := f), at_sh (t := g)]
  | .lt _ f g, _ => by simp only [Tr.sh, AtS, At, at_sh (t := f), at_sh (t := g)]
theorem AtS.mono {H H' : Hp} (k : KT H H') : ∀ {t : Sh} {v : V}, AtS H t v → AtS H' t v
  | .num _, _, ⟨a, e, h⟩ => ⟨a, e, k _ _ h⟩
  | .name _, _, ⟨a, e, h⟩ => ⟨a, e, k _ _ h⟩
  | .fn _ _, _, ⟨a, u, e, h, h1⟩ => ⟨a, u, e, k _ _ h, AtS.mono k h1⟩
  | .call _ _, _, ⟨a, u, u', e, h, h1, h2⟩ => ⟨a, u, u', e, k _ _ h, AtS.mono k h1, AtS.mono k h2⟩
  | .plus _ _, _, ⟨a, u, u', e, h, h1, h2⟩ => ⟨a, u, u', e, k _ _ h, AtS.mono k h1, AtS.mono k h2⟩
  | .less _ _, _, ⟨a, u, u', e, h, h1, h2⟩ => ⟨a, u, u', e, k _ _ h, AtS.mono k h1, AtS.mono k h2⟩
  | .ite _ _ _, _, ⟨a, u, u', u'', e, h, h1, h2, h3⟩ => ⟨a, u, u', u'', e, k _ _ h, AtS.mono k h1, AtS.mono k h2, AtS.mono k h3⟩
  | .lt _ _ _, _, ⟨a, u, u', e, h, h1, h2⟩ => ⟨a, u, u', e, k _ _ h, AtS.mono k h1, AtS.mono k h2⟩
theorem AtS.view {H : Hp} {t : Sh} {v : V} (h : AtS H t v) : ∃ a ws, v = .ref a ∧ H a = some (.tup (.str t.word :: t.own ++ ws)) ∧ Paired (AtS H) t.kids ws := by
  cases t with
  | num n => obtain ⟨a, e, h⟩ := h; exact ⟨a, [], e, h, .nil⟩
  | name x => obtain ⟨a, e, h⟩ := h; exact ⟨a, [], e, h, .nil⟩
  | fn x b => obtain ⟨a, u, e, h, h1⟩ := h; exact ⟨a, [u], e, h, .cons h1 .nil⟩
  | call f g => obtain ⟨a, u, u', e, h, h1, h2⟩ := h; exact ⟨a, [u, u'], e, h, .cons h1 (.cons h2 .nil)⟩
  | plus f g => obtain ⟨a, u, u', e, h, h1, h2⟩ := h; exact ⟨a, [u, u'], e, h, .cons h1 (.cons h2 .nil)⟩
  | less f g => obtain ⟨a, u, u', e, h, h1, h2⟩ := h; exact ⟨a, [u, u'], e, h, .cons h1 (.cons h2 .nil)⟩
  | ite c f g => obtain ⟨a, u, u', u'', e, h, h1, h2, h3⟩ := h; exact ⟨a, [u, u', u''], e, h, .cons h1 (.cons h2 (.cons h3 .nil))⟩
  | lt x f g => obtain ⟨a, u, u', e, h, h1, h2⟩ := h; exact ⟨a, [u, u'], e, h, .cons h1 (.cons h2 .nil)⟩
theorem AtS.build {H : Hp} {t : Sh} {ks : List Sh} {a : Addr} {ws : List V} (hl : ks.length = t.kids.length) (h : H a = some (.tup (.str t.word :: t.own ++ ws))) (hw : Paired (AtS H) ks ws) : AtS H (t.build ks) (.ref a) := by
  cases t <;> simp only [Sh.kids, List.length_cons, List.length_nil] at hl
  · cases hw with
    | nil => exact ⟨a, rfl, h⟩
    | cons _ _ => simp at hl
  · cases hw with
    | nil => exact ⟨a, rfl, h⟩
    | cons _ _ => simp at hl
  · cases hw with
    | nil => simp at hl
    | cons h1 t1 =>
      cases t1 with
      | nil => exact ⟨a, _, rfl, h, h1⟩
      | cons _ _ => simp at hl
  all_goals
    cases hw with
    | nil => simp at hl
    | cons h1 t1 =>
      cases t1 with
      | nil => simp at hl
      | cons h2 t2 =>
        cases t2 with
        | nil => first | exact ⟨a, _, _, rfl, h, h1, h2⟩ | simp at hl
        | cons h3 t3 =>
          cases t3 with
          | nil => first | exact ⟨a, _, _, _, rfl, h, h1, h2, h3⟩ | simp at hl
          | cons _ _ => simp at hl
/-! ### what put_all has yet to do -/
structure PIt where
  t : Sh
  s : Ss
  r : Bool
def PIt.wt (i : PIt) : Nat := if i.r then 1 else 2 * i.t.size
def wtP (W : List PIt) : Nat := (W.map PIt.wt).sum
theorem wtP_cons (i : PIt) (W : List PIt) : wtP (i :: W) = i.wt + wtP W := by simp [wtP]
theorem wtP_append (V W : List PIt) : wtP (V ++ W) = wtP V + wtP W := by simp [wtP]
theorem wtP_reverse (W : List PIt) : wtP W.reverse = wtP W := by simp [wtP, List.map_reverse, List.sum_reverse]
/-- W from its top -/
def finP : List PIt → List Sh → List Sh
  | [], D => D
  | ⟨t, s, false⟩ :: W, D => finP W (D ++ [t.sub s])
  | ⟨t, _, true⟩ :: W, D => finP W (D.take (D.length - t.kids.length) ++ [t.build (D.drop (D.length - t.kids.length))])
def okP : List PIt → Nat → Prop
  | [], n => n = 1
  | ⟨_, _, false⟩ :: W, n => okP W (n + 1)
  | ⟨t, _, true⟩ :: W, n => t.kids.length ≤ n ∧ 1 ≤ t.kids.length ∧ okP W (n - t.kids.length + 1)
def dpP (N : Nat) : List PIt → Prop
  | [] => True
  | i :: W => W.length + 4 * i.t.dep ≤ N ∧ dpP N W
theorem dpP.len {N : Nat} {W : List PIt} (h : dpP N W) : W.length ≤ N + 1 := by
  cases W with
  | nil => exact Nat.zero_le _
  | cons i W => have := h.1; rw [List.length_cons]; omega
theorem okP.le : ∀ {W : List PIt} {n : Nat}, okP W n → n ≤ 1 + 2 * W.length
  | [], n, h => by have h : n = 1 := h; omega
  | ⟨t, s, false⟩ :: W, n, h => by
    have := okP.le (W := W) (n := n + 1) h
    rw [List.length_cons]; omega
  | ⟨t, s, true⟩ :: W, n, h => by
    have h3 := okP.le h.2.2
    have := t.kids_le
    have := h.1
    rw [List.length_cons]; omega
def itemsP (ps : List (Sh × Ss)) : List PIt := ps.map fun p => ⟨p.1, p.2, false⟩
theorem itemsP_len (ps : List (Sh × Ss)) : (itemsP ps).length = ps.length := List.length_map _
theorem finP_items : ∀ (ps : List (Sh × Ss)) (W : List PIt) (D : List Sh), finP (itemsP ps ++ W) D = finP W (D ++ ps.map fun p => p.1.sub p.2)
  | [], W, D => by simp [itemsP]
  | p :: ps, W, D => by
    show finP (itemsP ps ++ W) (D ++ [p.1.sub p.2]) = _
    rw [finP_items ps W]
    simp
theorem okP_items : ∀ (ps : List (Sh × Ss)) (W : List PIt) (n : Nat), okP (itemsP ps ++ W) n ↔ okP W (n + ps.length)
  | [], W, n => Iff.rfl
  | p :: ps, W, n => by
    show okP (itemsP ps ++ W) (n + 1) ↔ _
    rw [okP_items ps W, List.length_cons]
    rw [show n + 1 + ps.length = n + (ps.length + 1) by omega]
theorem dpP_items {N : Nat} : ∀ (ps : List (Sh × Ss)) (W : List PIt) (d : Nat), (∀ p ∈ ps, p.1.dep + 1 ≤ d) → W.length + ps.length + 4 * d ≤ N + 4 → dpP N W → dpP N (itemsP ps ++ W)
  | [], W, d, _, _, h => h
  | p :: ps, W, d, hp, hl, h => by
    rw [List.length_cons] at hl
    refine ⟨?_, dpP_items ps W d (fun q hq => hp q (List.mem_cons_of_mem _ hq)) (by omega) h⟩
    have := hp p List.mem_cons_self
    show (itemsP ps ++ W).length + 4 * p.1.dep ≤ N
    rw [List.length_append, itemsP_len]
    omega
theorem wtP_items (s : Ss) (t : Sh) : wtP (itemsP (t.pars s)) + 2 = 2 * t.size := by
  cases t <;> simp [itemsP, Sh.pars, wtP, PIt.wt, Sh.size] <;> omega
theorem finP_ready {t : Sh} {s : Ss} {W : List PIt} {D : List Sh} (hn : t.word ≠ "name") : finP (itemsP (t.pars s) ++ ⟨t, s, true⟩ :: W) D = finP (⟨t, s, false⟩ :: W) D := by
  rw [finP_items]
  have hl : ((t.pars s).map fun p => p.1.sub p.2).length = t.kids.length := by rw [List.length_map, Sh.pars_len]
  show finP W _ = finP W _
  rw [List.length_append, hl, Nat.add_sub_cancel, List.take_left, List.drop_left, ← Sh.sub_pars hn]
theorem okP_ready {t : Sh} {s : Ss} {W : List PIt} {n : Nat} (hk : 1 ≤ t.kids.length) : okP (itemsP (t.pars s) ++ ⟨t, s, true⟩ :: W) n ↔ okP (⟨t, s, false⟩ :: W) n := by
  rw [okP_items, Sh.pars_len]
  show _ ∧ _ ∧ okP W _ ↔ okP W _
  rw [Nat.add_sub_cancel]
  exact ⟨fun h => h.2.2, fun h => ⟨by omega, hk, h⟩⟩
theorem dpP_ready {N : Nat} {t : Sh} {s : Ss} {W : List PIt} (h : dpP N (⟨t, s, false⟩ :: W)) : dpP N (itemsP (t.pars s) ++ ⟨t, s, true⟩ :: W) := by
  refine dpP_items _ _ t.dep (fun p hp => ?_) ?_ ⟨h.1, h.2⟩
  · exact Sh.dep_kid (by rw [← Sh.pars_fst s t]; exact List.mem_map_of_mem hp)
  · have h1 := h.1
    have := t.kids_le
    dsimp only at h1
    rw [List.length_cons, Sh.pars_len]
    omega
/-! ### a dict of trees -/
structure DictS (H : Hp) (d : Addr) (s : Ss) : Prop where
  ex : ∃ kvs : List (Key × V), H d = some (.dK kvs) ∧ kvs.length ≤ 100000 ∧ ∀ k, (valV kvs k = none ∧ s k = none) ∨ ∃ r t, valV kvs k = some r ∧ s k = some t ∧ AtS H t r
/-- tuples and dicts are kept -/
def KD (H H' : Hp) : Prop := (∀ a xs, H a = some (.tup xs) → H' a = some (.tup xs)) ∧ ∀ a kvs, H a = some (.dK kvs) → H' a = some (.dK kvs)
theorem KD.kt {H H' : Hp} (k : KD H H') : KT H H' := k.1
theorem KD.refl (H : Hp) : KD H H := ⟨fun _ _ h => h, fun _ _ h => h⟩
theorem KD.trans {H H1 H2 : Hp} (a : KD H H1) (b : KD H1 H2) : KD H H2 := ⟨fun c o h => b.1 c o (a.1 c o h), fun c o h => b.2 c o (a.2 c o h)⟩
theorem same_kd {H H' : Hp} (e : Same H H') : KD H H' := ⟨fun a _ h => e a _ h, fun a _ h => e a _ h⟩
theorem kd_lst {H : Hp} {l : Addr} {xs : List V} {o : HO} (h : H l = some (.lst xs)) : KD H (upd H l o) :=
  ⟨fun b u q => by rw [upd_ne (ne_of q h (by intro z; cases z))]; exact q, fun b u q => by rw [upd_ne (ne_of q h (by intro z; cases z))]; exact q⟩
theorem DictS.mono {H H' : Hp} (k : KD H H') {d : Addr} {s : Ss} (h : DictS H d s) : DictS H' d s := by
  obtain ⟨kvs, h1, h2, h3⟩ := h.ex
  exact ⟨kvs, k.2 _ _ h1, h2, fun j => (h3 j).imp id fun ⟨r, t, a, b, c⟩ => ⟨r, t, a, b, c.mono k.kt⟩⟩
def AtP (H : Hp) (i : PIt) (v : V) : Prop := ∃ p tv d, v = .ref p ∧ H p = some (.tup [tv, .ref d, .bl i.r]) ∧ AtS H i.t tv ∧ DictS H d i.s
theorem AtP.mono {H H' : Hp} (k : KD H H') {i : PIt} {v : V} : AtP H i v → AtP H' i v := fun ⟨p, tv, d, e, h1, h2, h3⟩ => ⟨p, tv, d, e, k.1 _ _ h1, h2.mono k.kt, h3.mono k⟩
/-! ### a tree of names alone -/
def Sb.ss (s : Sb) : Ss := fun k => match k with
  | .inr x => (s x).map Tr.sh
  | .inl _ => Option.none
theorem Sb.ss_del (s : Sb) (x : Str) : (s.del x).ss = s.ss.del x := by
  funext k
  cases k with
  | inl i => unfold Ss.del; split <;> rfl
  | inr y =>
    show (s.del x y).map Tr.sh = if (Sum.inr y : Key) = Sum.inr x then Option.none else (s y).map Tr.sh
    unfold Sb.del
    by_cases e : y = x
    · subst e; simp
    · rw [if_neg e, if_neg (fun q => e (Sum.inr.inj q))]
theorem Tr.sub_sh : ∀ (t : Tr) (s : Sb), (t.sub s).sh = t.sh.sub s.ss
  | .num _, s => rfl
  | .name x, s => by
    show ((s x).getD (.name x)).sh = ((s x).map Tr.sh).getD (.name (.inr x))
    cases s x <;> rfl
  | .fn x b, s => by simp only [Tr.sub, Tr.sh, Sh.sub]; rw [b.sub_sh, Sb.ss_del]
  | .call f a, s => by simp only [Tr.sub, Tr.sh, Sh.sub]; rw [f.sub_sh, a.sub_sh]
  | .plus f a, s => by simp only [Tr.sub, Tr.sh, Sh.sub]; rw [f.sub_sh, a.sub_sh]
  | .less f a, s => by simp only [Tr.sub, Tr.sh, Sh.sub]; rw [f.sub_sh, a.sub_sh]
  | .ite c f a, s => by simp only [Tr.sub, Tr.sh, Sh.sub]; rw [c.sub_sh, f.sub_sh, a.sub_sh]
  | .lt x e b, s => by simp only [Tr.sub, Tr.sh, Sh.sub]; rw [e.sub_sh, b.sub_sh, Sb.ss_del]
theorem Sb.one_ss (x : Str) (v : Tr) : (Sb.one x v).ss = Ss.one (.inr x) v.sh := by
  funext k
  cases k with
  | inl i => unfold Ss.one; split <;> first | rfl | (rename_i e; cases e)
  | inr y =>
    show (if y = x then some v else Option.none).map Tr.sh = if (Sum.inr y : Key) = Sum.inr x then some v.sh else Option.none
    by_cases e : y = x
    · subst e; simp
    · rw [if_neg e, if_neg (fun q => e (Sum.inr.inj q))]; rfl
theorem Tr.put_sh (t : Tr) (x : Str) (v : Tr) : (t.put x v).sh = t.sh.sub (Ss.one (.inr x) v.sh) := by rw [← Sb.one_ss]; exact t.sub_sh _
theorem Tr.dep_sh : ∀ t : Tr, t.sh.dep = t.dep
  | .num _ => rfl
  | .name _ => rfl
  | .fn _ b => by simp only [Tr.sh, Sh.dep, Tr.dep, b.dep_sh]
  | .call f a => by simp only [Tr.sh, Sh.dep, Tr.dep, f.dep_sh, a.dep_sh]
  | .plus f a => by simp only [Tr.sh, Sh.dep, Tr.dep, f.dep_sh, a.dep_sh]
  | .less f a => by simp only [Tr.sh, Sh.dep, Tr.dep, f.dep_sh, a.dep_sh]
  | .ite c f a => by simp only [Tr.sh, Sh.dep, Tr.dep, c.dep_sh, f.dep_sh, a.dep_sh]
  | .lt _ e b => by simp only [Tr.sh, Sh.dep, Tr.dep, e.dep_sh, b.dep_sh]
end My

namespace My
open PySem L2
/-! ### {k: v for k in d if ..} over a dict that is locked meanwhile -/
theorem lock_dc {td tk tv : TE} {tt : TT} {j : Nat} {vs : List Nat} {σ : L2.St} {H : Hp} {d : Addr} {kvs : List (Key × V)} {Q : VK} (p : Key → Bool) (hd : H d = some (.dK kvs)) (hz : kvs.length < sizeLine)
    (htd : ∀ H' (Q : VK), Q (.ref d) H' → td σ H' Q) (hw : ∀ x, wipe ((wipe σ vs).set j (some x)) vs = wipe σ vs)
    (hk : ∀ (k : Key) (o : Obj) (H' : Hp), Same (upd H d (.frz o (.dK kvs))) H' → (∀ Qt, Qt (p k) H' → tt ((wipe σ vs).set j (some (kV k))) H' Qt) ∧ (∀ Q : VK, Q (kV k) H' → tk ((wipe σ vs).set j (some (kV k))) H' Q) ∧
      ∀ (v : V) (Q : VK), valV kvs k = some v → Q v H' → tv ((wipe σ vs).set j (some (kV k))) H' Q)
    (hq : ∀ D acc H', H D = none → Same H H' → H' D = some (.dK acc) → acc.length ≤ kvs.length → (∀ k, valV acc k = if p k = true then valV kvs k else none) → Q (.ref D) H') :
    tLockE (tDc (iKeys td) (gName j) tt tk tv vs) σ H Q := by
  refine ⟨d, _, hd, trivial, fun od => ?_⟩
  refine htd _ _ ⟨d, od, rfl, .inl ⟨kvs, upd_same, fun D hD => ?_⟩⟩
  have hdD : D ≠ d := fun e => by rw [e, upd_same] at hD; cases hD
  have hD0 : H D = none := by rw [upd_ne hdD] at hD; exact hD
  let In (i : Nat) (k : Key) : Prop := ∃ j v, j < i ∧ kvs[j]? = some (k, v)
  refine ⟨fun i m H' => m = kvs.length - i ∧ i ≤ kvs.length ∧ Same (upd H d (.frz od (.dK kvs))) H' ∧ ∃ acc, H' D = some (.dK acc) ∧ acc.length ≤ i ∧ ∀ k, (p k = true → In i k → valV acc k = valV kvs k) ∧ (¬ (p k = true ∧ In i k) → valV acc k = none),
    ⟨kvs.length, by simp, Nat.zero_le _, same_new hD, [], upd_same, Nat.zero_le _, fun k => ⟨fun _ ⟨j, v, h, _⟩ => absurd h (Nat.not_lt_zero _), fun _ => rfl⟩⟩, ?_⟩
  rintro i m H' ⟨rfl, hi, e, acc, hA, hl, hv⟩
  have hd' := e _ _ (upd_same (H := H) (a := d))
  by_cases hlt : i < kvs.length
  · refine .inr ⟨⟨hd', hlt⟩, fun H'' => Same (upd H d (.frz od (.dK kvs))) H'' ∧ ∃ acc, H'' D = some (.dK acc) ∧ acc.length ≤ i + 1 ∧ ∀ k, (p k = true → In (i + 1) k → valV acc k = valV kvs k) ∧ (¬ (p k = true ∧ In (i + 1) k) → valV acc k = none),
      fun H'' h => ⟨kvs.length - (i + 1), by omega, rfl, hlt, h⟩, ?_⟩
    rintro x H'' ⟨rfl, k, v, hkv, rfl⟩
    refine ⟨hw _, ?_⟩
    obtain ⟨ht, hk1, hv1⟩ := hk k od H'' e
    refine ht _ ?_
    have inS : ∀ k', In (i + 1) k' ↔ In i k' ∨ k' = k := fun k' => by
      constructor
      · rintro ⟨j, u, h1, h2⟩
        by_cases hj : j = i
        · subst hj; rw [hkv] at h2; cases h2; exact .inr rfl
        · exact .inl ⟨j, u, by omega, h2⟩
      · rintro (⟨j, u, h1, h2⟩ | rfl)
        · exact ⟨j, u, by omega, h2⟩
        · exact ⟨i, v, by omega, hkv⟩
    have hs : ∃ u, valV kvs k = some u := by
      cases h : valV kvs k with
      | some u => exact ⟨u, rfl⟩
      | none =>
        have h1 := valV_any k kvs
        rw [h] at h1
        have : (kvs.any fun kv => decide (kv.1 = k)) = true := List.any_eq_true.mpr ⟨(k, v), List.mem_of_getElem? hkv, by simp⟩
        rw [this] at h1
        cases h1
    by_cases hp : p k = true
    · rw [if_pos hp]
      refine hk1 _ ?_
      obtain ⟨u, hu⟩ := hs
      refine hv1 u _ hu ?_
      refine ⟨acc, k, rfl, hA, by omega, ?_, putK acc k u, upd_same, ?_, fun k' => ?_⟩
      · exact same_mut e hD
      · have := length_putK acc k u; omega
      · rw [valV_put]
        by_cases e1 : k' = k
        · subst e1
          exact ⟨fun _ _ => by rw [if_pos rfl, hu], fun h => absurd ⟨hp, (inS k').mpr (.inr rfl)⟩ h⟩
        · rw [if_neg e1]
          exact ⟨fun h1 h2 => (hv k').1 h1 (((inS k').mp h2).resolve_right e1), fun h => (hv k').2 fun h' => h ⟨h'.1, (inS k').mpr (.inl h'.2)⟩⟩
    · rw [if_neg hp]
      refine ⟨e, acc, hA, by omega, fun k' => ⟨fun h1 h2 => (hv k').1 h1 (((inS k').mp h2).resolve_right fun e1 => hp (e1 ▸ h1)), fun h => (hv k').2 fun h' => h ⟨h'.1, (inS k').mpr (.inl h'.2)⟩⟩⟩
  · have hi' : i = kvs.length := by omega
    refine .inl ⟨⟨hd', by omega⟩, hd', hq D acc _ hD0 ?_ ?_ (by omega) fun k => ?_⟩
    · intro b o hb
      by_cases e1 : b = d
      · subst e1; rw [upd_same]; rw [hd] at hb; exact hb
      · rw [upd_ne e1]; exact e b o (by rw [upd_ne e1]; exact hb)
    · rw [upd_ne hdD]; exact hA
    · by_cases hp : p k = true
      · rw [if_pos hp]
        by_cases hin : In i k
        · exact (hv k).1 hp hin
        · rw [(hv k).2 fun h => hin h.2]
          cases h : valV kvs k with
          | none => rfl
          | some u =>
            have h1 := valV_any k kvs
            rw [h] at h1
            obtain ⟨q, hq1, hq2⟩ := List.any_eq_true.mp h1
            obtain ⟨j, hj, e2⟩ := List.mem_iff_getElem.mp hq1
            exact absurd ⟨j, q.2, by omega, by rw [List.getElem?_eq_getElem hj, e2, ← of_decide_eq_true hq2]⟩ hin
      · rw [if_neg hp]
        exact (hv k).2 fun h => hp h.1
/-! ### what putting.py's putting in promises -/
def Sh.wd : Sh → Wd
  | .num _ => .num | .name _ => .name | .fn _ _ => .fn | .call _ _ => .call | .plus _ _ => .plus | .less _ _ => .less | .ite _ _ _ => .ite | .lt _ _ _ => .lt
theorem Sh.wd_str (t : Sh) : t.wd.str = t.word := by cases t <;> rfl
theorem Sh.wd_start (t : Sh) : ((t.own.length : Nat) : Int) + 1 = t.wd.start := by cases t <;> rfl
structure UTxt (K : PySem.W.Frag) (w : World) (mg : Str → Option Value) (aS : Addr) : Prop extends Bt mg where
  STARTS : mg "STARTS" = some (.ref aS)
  starts : ∀ t : Wd, RdK K w aS t.str (.int t.start)
def spPartsS : Sp := fun vs H Q _ => ∃ (t : Sh) (a : Addr) (ws : List V), vs = [.ref a] ∧ H a = some (.tup (.str t.word :: t.own ++ ws)) ∧ ws.length ≤ 3 ∧ ∀ (l : Addr) (H' : Hp), H l = none → Same H H' → H' l = some (.lst ws) → Q (.ref l) H'
theorem parts_s {P : Program} {w : World} {K : PySem.W.Frag} {mg : Str → Option Value} {base : Heap} (D : Df P w K mg base 1 "parts" ["tree"] spParts) : Df P w K mg base 1 "parts" ["tree"] spPartsS :=
  D.imp fun vs H Q E ⟨t, a, ws, h1, h2, h3, h4⟩ => ⟨t.wd, a, t.own, ws, h1, by rw [t.wd_str]; exact h2, t.wd_start, h3, h4⟩
theorem Df.mono {P : Program} {w : World} {K : PySem.W.Frag} {mg : Str → Option Value} {base : Heap} {j k : Nat} {x : Str} {ps : List Str} {sp : Sp} (D : Df P w K mg base j x ps sp) (h : j ≤ k) : Df P w K mg base k x ps sp := by
  obtain ⟨f, fd, F, m, kp, b⟩ := D.ex
  exact ⟨f, fd, F.mono h, m, kp, b⟩
def spPutting : Sp := fun vs H Q _ => ∃ (t : Sh) (s : Ss) (u : V) (d : Addr), vs = [u, .ref d] ∧ AtS H t u ∧ DictS H d s ∧
  ∀ (l : Addr) (rs : List V) (H' : Hp), H l = none → Same H H' → H' l = some (.lst rs) → Paired (AtP H') (itemsP (t.pars s)) rs → Q (.ref l) H'
def spPutAll : Sp := fun vs H Q _ => ∃ (t : Sh) (s : Ss) (u : V) (d : Addr), vs = [u, .ref d] ∧ AtS H t u ∧ DictS H d s ∧ t.dep ≤ 1000000 ∧ ∀ r H', Same H H' → AtS H' (t.sub s) r → Q r H'
def spPutS : Sp := fun vs H Q _ => ∃ (t v : Sh) (k : Key) (u y : V), vs = [u, kV k, y] ∧ AtS H t u ∧ AtS H v y ∧ t.dep ≤ 1000000 ∧ ∀ r H', Same H H' → AtS H' (t.sub (Ss.one k v)) r → Q r H'
theorem put_t {P : Program} {w : World} {K : PySem.W.Frag} {mg : Str → Option Value} {base : Heap} {j : Nat} (D : Df P w K mg base j "put" ["tree", "name", "value"] spPutS) : Df P w K mg base j "put" ["tree", "name", "value"] spPut :=
  D.imp fun vs H Q E ⟨t, v, x, u, y, h1, h2, h3, _, h4, _, q⟩ => ⟨t.sh, v.sh, .inr x, u, y, h1, at_sh.mpr h2, at_sh.mpr h3, by rw [t.dep_sh]; omega, fun r H' e h => q r H' e (at_sh.mp (by rw [t.put_sh]; exact h))⟩
theorem DictS.one {H : Hp} {d : Addr} {k : Key} {v : Sh} {y : V} (h : H d = some (.dK [(k, y)])) (hv : AtS H v y) : DictS H d (Ss.one k v) := ⟨_, h, by simp, fun j => by
  unfold Ss.one
  by_cases e : j = k
  · subst e; exact .inr ⟨y, v, valV_pos rfl, if_pos rfl, hv⟩
  · exact .inl ⟨valV_neg fun z => e z.symm, if_neg e⟩⟩
end My
namespace My
open PySem L2
def AtK (d : Addr) (H : Hp) (k : Sh) (v : V) : Prop := ∃ p tv, v = .ref p ∧ H p = some (.tup [tv, .ref d, .bl false]) ∧ AtS H k tv
theorem AtK.mono {H H' : Hp} (k : KT H H') {d : Addr} {t : Sh} {v : V} : AtK d H t v → AtK d H' t v := fun ⟨p, tv, e, h1, h2⟩ => ⟨p, tv, e, k _ _ h1, h2.mono k⟩
theorem AtK.items {H : Hp} {d : Addr} {s : Ss} (hs : DictS H d s) : ∀ {ts : List Sh} {vs : List V}, Paired (AtK d H) ts vs → Paired (AtP H) (itemsP (ts.map fun k => (k, s))) vs
  | _, _, .nil => .nil
  | _, _, .cons ⟨p, tv, e, h1, h2⟩ t => .cons ⟨p, tv, d, e, h1, h2, hs⟩ (AtK.items hs t)
/-- nothing is bound again: all parts as the whole -/
theorem Sh.pars_same {s : Ss} {t : Sh} (h : ∀ x, (t.word = "fun" ∨ t.word = "let") → t.own = [.str x] → s (.inr x) = none) : t.pars s = t.kids.map fun k => (k, s) := by
  cases t with
  | fn x b => simp only [Sh.pars, Sh.kids, List.map_cons, List.map_nil]; rw [Ss.del_id (h x (.inl rfl) rfl)]
  | lt x e b => simp only [Sh.pars, Sh.kids, List.map_cons, List.map_nil]; rw [Ss.del_id (h x (.inr rfl) rfl)]
  | _ => rfl
/-- the last one with another dict -/
theorem Sh.pars_last {s : Ss} {t : Sh} {x : Str} (hw : t.word = "fun" ∨ t.word = "let") (ho : t.own = [.str x]) : ∃ us b, t.kids = us ++ [b] ∧ t.pars s = (us.map fun k => (k, s)) ++ [(b, s.del x)] := by
  cases t with
  | fn y b => cases ho; exact ⟨[], b, rfl, rfl⟩
  | lt y e b => cases ho; exact ⟨[e], b, rfl, rfl⟩
  | num n => (simp only [Sh.word] at hw; exact absurd hw (by decide +kernel))
  | name k => (simp only [Sh.word] at hw; exact absurd hw (by decide +kernel))
  | call _ _ => (simp only [Sh.word] at hw; exact absurd hw (by decide +kernel))
  | plus _ _ => (simp only [Sh.word] at hw; exact absurd hw (by decide +kernel))
  | less _ _ => (simp only [Sh.word] at hw; exact absurd hw (by decide +kernel))
  | ite _ _ _ => (simp only [Sh.word] at hw; exact absurd hw (by decide +kernel))
theorem DictS.look {H : Hp} {d : Addr} {s : Ss} (h : DictS H d s) : ∃ kvs : List (Key × V), H d = some (.dK kvs) ∧ kvs.length ≤ 100000 ∧ ∀ k, (valV kvs k = none ∧ s k = none) ∨ ∃ r t, valV kvs k = some r ∧ s k = some t ∧ AtS H t r := h.ex
theorem Sh.bind_own {t : Sh} (h : t.word = "fun" ∨ t.word = "let") : ∃ x, t.own = [.str x] := by
  cases t with
  | fn y b => exact ⟨y, rfl⟩
  | lt y e b => exact ⟨y, rfl⟩
  | num n => (simp only [Sh.word] at h; exact absurd h (by decide +kernel))
  | name k => (simp only [Sh.word] at h; exact absurd h (by decide +kernel))
  | call _ _ => (simp only [Sh.word] at h; exact absurd h (by decide +kernel))
  | plus _ _ => (simp only [Sh.word] at h; exact absurd h (by decide +kernel))
  | less _ _ => (simp only [Sh.word] at h; exact absurd h (by decide +kernel))
  | ite _ _ _ => (simp only [Sh.word] at h; exact absurd h (by decide +kernel))
end My
namespace My
open PySem L2
theorem pr_take {α β : Type} {R : α → β → Prop} : ∀ {xs : List α} {ys : List β} (_ : Paired R xs ys) (n : Nat), Paired R (xs.take n) (ys.take n)
  | _, _, _, 0 => .nil
  | _, _, .nil, _ + 1 => .nil
  | _, _, .cons r t, n + 1 => .cons r (pr_take t n)
theorem pr_drop {α β : Type} {R : α → β → Prop} : ∀ {xs : List α} {ys : List β} (_ : Paired R xs ys) (n : Nat), Paired R (xs.drop n) (ys.drop n)
  | _, _, h, 0 => h
  | _, _, .nil, _ + 1 => .nil
  | _, _, .cons _ t, n + 1 => pr_drop t n
/-- xs[-k:] -/
theorem cut_tail {xs : List V} {k : Nat} (h : k ≤ xs.length) (h1 : 1 ≤ k) : cutV xs (some (-(k : Int))) none = xs.drop (xs.length - k) := by
  have e : HT.sIx xs.length 0 (some (-(k : Int))) = xs.length - k := by
    show (if -(k : Int) < 0 then (-(k : Int) + (xs.length : Int)).toNat else min (-(k : Int)).toNat xs.length) = _
    rw [if_pos (by omega)]
    omega
  unfold cutV
  rw [e, HT.sIx_none]
  exact List.take_of_length_le (by rw [List.length_drop]; exact Nat.le_refl _)
end My
namespace My
open PySem L2
theorem pr_rev {α β : Type} {R : α → β → Prop} {xs : List α} {ys : List β} (h : Paired R xs ys) : Paired R xs.reverse ys.reverse := by
  induction h with
  | nil => exact .nil
  | cons r t ih =>
    rw [List.reverse_cons, List.reverse_cons]
    exact pr_append ih (.cons r .nil)
end My
namespace My
theorem wtP_r {us : List PIt} {t : Sh} {s : Ss} : wtP (us ++ [⟨t, s, true⟩]) = wtP us + 1 := by rw [wtP_append]; rfl
theorem wtP_f {us : List PIt} {t : Sh} {s : Ss} : wtP (us ++ [⟨t, s, false⟩]) = wtP us + 2 * t.size := by rw [wtP_append]; rfl
end My

namespace My
open PySem L2
/-! ### trees within a tree -/
inductive Tr.In (t0 : Tr) : Tr → Prop where
  | here : Tr.In t0 t0
  | kid {t u : Tr} : Tr.In t0 t → u ∈ t.kids → Tr.In t0 u
theorem Tr.kid_size {t u : Tr} (h : u ∈ t.kids) : u.size < t.size := by
  cases t <;> simp only [Tr.kids, List.mem_cons, List.not_mem_nil, or_false] at h <;> (try exact h.elim) <;> simp only [Tr.size]
  · subst h; omega
  · rcases h with rfl | rfl <;> omega
  · rcases h with rfl | rfl <;> omega
  · rcases h with rfl | rfl <;> omega
  · rcases h with rfl | rfl | rfl <;> omega
  · rcases h with rfl | rfl <;> omega
theorem Tr.In.size {t0 t : Tr} (h : t0.In t) : t.size ≤ t0.size := by
  induction h with
  | here => exact Nat.le_refl _
  | kid _ hk ih => have := Tr.kid_size hk; omega
mutual
def Val.all (p : Tr → Prop) : Val → Prop
  | .num _ => True
  | .fn x b e => p (.fn x b) ∧ e.all p
def Env.all (p : Tr → Prop) : Env → Prop
  | .nil => True
  | .cons _ v e => v.all p ∧ e.all p
end
theorem Env.all_look {p : Tr → Prop} : ∀ {e : Env} {x : Str} {v : Val}, e.all p → e.look x = some v → v.all p
  | .nil, x, v, _, h => by cases h
  | .cons y u e, x, v, ha, h => by
    have h : (if x = y then some u else e.look x) = some v := h
    split at h
    · cases h; exact ha.1
    · exact Env.all_look ha.2 h
theorem Env.all_keep {p : Tr → Prop} {e : Env} (ha : e.all p) : ∀ ns : List Str, (e.keep ns).all p
  | [] => trivial
  | y :: r => by
    show (match e.look y with | some v => Env.cons y v (e.keep r) | none => e.keep r).all p
    cases h : e.look y with
    | none => exact Env.all_keep ha r
    | some v => exact ⟨Env.all_look ha h, Env.all_keep ha r⟩
/-! ### the machine, turn by turn -/
structure MI where
  t : Tr
  e : Env
  r : Bool
def Tr.two : Tr → Bool
  | .plus _ _ => true | .less _ _ => true | .call _ _ => true | _ => false
def Tr.one : Tr → Bool
  | .ite _ _ _ => true | .lt _ _ _ => true | _ => false
inductive Do where
  | err (c : Er) | val (v : Val) | look (e : Env) (b : Tr)
/-- the deed of a node, its parts' values told -/
def do2 : Tr → Val → Val → Do
  | .plus _ _, .num a, .num b => .val (.num (a + b))
  | .less _ _, .num a, .num b => .val (.num (a - b))
  | .call _ _, .fn x t e, w => .look (.cons x w e) t
  | .call _ _, .num _, _ => .err .function
  | _, _, _ => .err .number
def do1 (t : Tr) (e : Env) (w : Val) : Do := match t, w with
  | .ite _ a b, .num n => .look e (if n = 0 then b else a)
  | .lt x _ b, w => .look (.cons x w e) b
  | _, _ => .err .number
/-- what comes of all that waits (W from its top) -/
def finM : List MI → List Val → Nat → List Val → Rv
  | [], F, m, L => match F with
    | [v] => .ok v m L
    | _ => .dry
  | ⟨t, e, false⟩ :: W, F, m, L => (evF m e t).bind fun v m1 l => finM W (F ++ [v]) m1 (L ++ l)
  | ⟨t, e, true⟩ :: W, F, m, L => deed m fun m1 =>
    if t.two then match F.dropLast.getLast?, F.getLast? with
      | some v, some w => match do2 t v w with
        | .err c => .err c
        | .val u => finM W (F.dropLast.dropLast ++ [u]) m1 L
        | .look e' b => (evF m1 e' b).bind fun u m2 l => finM W (F.dropLast.dropLast ++ [u]) m2 (L ++ l)
      | _, _ => .dry
    else match F.getLast? with
      | some w => match do1 t e w with
        | .err c => .err c
        | .val u => finM W (F.dropLast ++ [u]) m1 L
        | .look e' b => (evF m1 e' b).bind fun u m2 l => finM W (F.dropLast ++ [u]) m2 (L ++ l)
      | _ => .dry
def needM : List MI → Nat → Prop
  | [], n => n = 1
  | ⟨_, _, false⟩ :: W, n => needM W (n + 1)
  | ⟨t, _, true⟩ :: W, n => (t.two = true ∧ 2 ≤ n ∧ needM W (n - 1)) ∨ (t.one = true ∧ 1 ≤ n ∧ needM W n)
def wM (i : MI) : Nat := if i.r then 1 else 3 * i.t.size
def wtM (W : List MI) : Nat := (W.map wM).sum
theorem wtM_cons (i : MI) (W : List MI) : wtM (i :: W) = wM i + wtM W := by simp [wtM]
theorem wM_pos (i : MI) : 1 ≤ wM i := by
  unfold wM
  split
  · exact Nat.le_refl _
  · have := i.t.size_pos; omega
theorem len_wtM : ∀ W : List MI, W.length ≤ wtM W
  | [] => Nat.zero_le _
  | i :: W => by
    have := wM_pos i
    have := len_wtM W
    rw [wtM_cons, List.length_cons]; omega
theorem finM_two {t : Tr} {e : Env} {W : List MI} {F : List Val} {v w : Val} {m : Nat} {L : List Val} (h : t.two = true) : finM (⟨t, e, true⟩ :: W) (F ++ [v] ++ [w]) (m + 1) L = match do2 t v w with
    | .err c => .err c
    | .val u => finM W (F ++ [u]) m L
    | .look e' b => finM (⟨b, e', false⟩ :: W) F m L := by
  show (if t.two = true then _ else _) = _
  rw [if_pos h]
  simp only [List.dropLast_concat, List.getLast?_concat]
  cases do2 t v w <;> rfl
theorem finM_one {t : Tr} {e : Env} {W : List MI} {F : List Val} {w : Val} {m : Nat} {L : List Val} (h : t.two = false) : finM (⟨t, e, true⟩ :: W) (F ++ [w]) (m + 1) L = match do1 t e w with
    | .err c => .err c
    | .val u => finM W (F ++ [u]) m L
    | .look e' b => finM (⟨b, e', false⟩ :: W) F m L := by
  show (if t.two = true then _ else _) = _
  rw [if_neg (by rw [h]; exact Bool.false_ne_true)]
  simp only [List.dropLast_concat, List.getLast?_concat]
  cases do1 t e w <;> rfl
theorem finM_dry {t : Tr} {e : Env} {W : List MI} {F L : List Val} : finM (⟨t, e, true⟩ :: W) F 0 L = .dry := rfl
theorem bind_bind (r : Rv) (k : Val → Nat → List Val → Rv) (j : Val → Nat → List Val → Rv) : (r.bind k).bind j = r.bind fun v m l => (k v m l).bind j := by cases r <;> rfl
theorem log_bind (r : Rv) (l : List Val) (j : Val → Nat → List Val → Rv) : (r.log l).bind j = r.bind fun v m l' => j v m (l ++ l') := by cases r <;> rfl
theorem deed_bind (m : Nat) (k : Nat → Rv) (j : Val → Nat → List Val → Rv) : (deed m k).bind j = deed m fun m1 => (k m1).bind j := by cases m <;> rfl
theorem finM_look2 {t a b : Tr} {e : Env} {W : List MI} {F : List Val} {m : Nat} {L : List Val} (h : t = .plus a b ∨ t = .less a b ∨ t = .call a b) :
    finM (⟨t, e, false⟩ :: W) F m L = finM (⟨a, e, false⟩ :: ⟨b, e, false⟩ :: ⟨t, e, true⟩ :: W) F m L := by
  have h2 : t.two = true := by rcases h with rfl | rfl | rfl <;> rfl
  have key : ∀ (k : Val → Val → Nat → List Val → Rv), (∀ v w m3 l, (k v w m3 l).bind (fun u m' l' => finM W (F ++ [u]) m' (L ++ l')) = match do2 t v w with
      | .err c => .err c
      | .val u => finM W (F ++ [u]) m3 (L ++ l)
      | .look e' b => finM (⟨b, e', false⟩ :: W) F m3 (L ++ l)) → evF m e t = ((evF m e a).bind fun v m1 l1 => (evF m1 e b).bind fun w m2 l2 => deed m2 fun m3 => k v w m3 (l1 ++ l2)) →
      finM (⟨t, e, false⟩ :: W) F m L = finM (⟨a, e, false⟩ :: ⟨b, e, false⟩ :: ⟨t, e, true⟩ :: W) F m L := by
    intro k hk he
    show (evF m e t).bind _ = (evF m e a).bind fun v m1 l => (evF m1 e b).bind fun w m2 l2 => finM (⟨t, e, true⟩ :: W) (F ++ [v] ++ [w]) m2 (L ++ l ++ l2)
    rw [he, bind_bind]
    congr 1
    funext v m1 l1
    rw [bind_bind]
    congr 1
    funext w m2 l2
    rw [deed_bind]
    cases m2 with
    | zero => rfl
    | succ m3 =>
      rw [finM_two h2]
      show (k v w m3 (l1 ++ l2)).bind _ = _
      rw [hk, List.append_assoc]
  rcases h with rfl | rfl | rfl
  · refine key (fun v w m l => arith (· + ·) v w m l) (fun v w m3 l => ?_) ev_plus
    cases v <;> cases w <;> rfl
  · refine key (fun v w m l => arith (· - ·) v w m l) (fun v w m3 l => ?_) ev_less
    cases v <;> cases w <;> rfl
  · refine key (fun v w m l => match v with | .fn x t e' => (evF m (.cons x w e') t).log l | .num _ => .err .function) (fun v w m3 l => ?_) ev_call
    cases v with
    | num n => rfl
    | fn x t e' =>
      show ((evF m3 (.cons x w e') t).log l).bind _ = _
      rw [log_bind]
      show _ = (evF m3 (.cons x w e') t).bind _
      congr 1
      funext u m4 l4
      rw [List.append_assoc]
theorem finM_ite {c a b : Tr} {e : Env} {W : List MI} {F : List Val} {m : Nat} {L : List Val} : finM (⟨.ite c a b, e, false⟩ :: W) F m L = finM (⟨c, e, false⟩ :: ⟨.ite c a b, e, true⟩ :: W) F m L := by
  show (evF m e (.ite c a b)).bind _ = (evF m e c).bind fun v m1 l => finM (⟨.ite c a b, e, true⟩ :: W) (F ++ [v]) m1 (L ++ l)
  rw [show evF m e (.ite c a b) = _ from ev_ite, bind_bind]
  congr 1
  funext v m1 l1
  rw [deed_bind]
  cases m1 with
  | zero => rfl
  | succ m3 =>
    rw [finM_one rfl]
    show Rv.bind (match v with | .num n => (evF m3 e (if n = 0 then b else a)).log l1 | .fn _ _ _ => .err .number) _ = _
    cases v with
    | fn _ _ _ => rfl
    | num n =>
      show ((evF m3 e (if n = 0 then b else a)).log l1).bind _ = (evF m3 e (if n = 0 then b else a)).bind _
      rw [log_bind]
      congr 1
      funext u m4 l4
      rw [List.append_assoc]
theorem finM_lt {x : Str} {a b : Tr} {e : Env} {W : List MI} {F : List Val} {m : Nat} {L : List Val} : finM (⟨.lt x a b, e, false⟩ :: W) F m L = finM (⟨a, e, false⟩ :: ⟨.lt x a b, e, true⟩ :: W) F m L := by
  show (evF m e (.lt x a b)).bind _ = (evF m e a).bind fun v m1 l => finM (⟨.lt x a b, e, true⟩ :: W) (F ++ [v]) m1 (L ++ l)
  rw [show evF m e (.lt x a b) = _ from ev_lt, bind_bind]
  congr 1
  funext v m1 l1
  rw [deed_bind]
  cases m1 with
  | zero => rfl
  | succ m3 =>
    rw [finM_one rfl]
    show ((evF m3 (.cons x v e) b).log l1).bind _ = (match do1 (.lt x a b) e v with
      | .err c => .err c
      | .val u => finM W (F ++ [u]) m3 (L ++ l1)
      | .look e' b => finM (⟨b, e', false⟩ :: W) F m3 (L ++ l1))
    rw [log_bind, show do1 (.lt x a b) e v = .look (.cons x v e) b from by cases v <;> rfl]
    show _ = (evF m3 (.cons x v e) b).bind _
    congr 1
    funext u m4 l4
    rw [List.append_assoc]
end My

namespace My
open PySem L2
def Tr.comp (t : Tr) : Bool := t.two || t.one
structure ItOk (t0 : Tr) (i : MI) : Prop where
  t_in : t0.In i.t
  ok : i.e.ok
  cov : i.e.Cov i.t
  all : i.e.all t0.In
structure VOk (t0 : Tr) (v : Val) : Prop where
  ok : v.ok
  all : v.all t0.In
structure MInv (t0 : Tr) (most : Nat) (R : Rv) (W : List MI) (F : List Val) (m : Nat) (L : List Val) : Prop where
  items : ∀ i ∈ W, ItOk t0 i
  found : ∀ v ∈ F, VOk t0 v
  log : ∀ v ∈ L, VOk t0 v
  need : needM W F.length
  fin : finM W F m L = R
  le : m ≤ most
  wt : wtM W + F.length + L.length ≤ 1200 * (most - m + 1)
  small : t0.size ≤ 400
section
variable {t0 : Tr} {most m : Nat} {R : Rv} {W : List MI} {F L : List Val} {e : Env} {t : Tr}
theorem MInv.start (hc : t0.closed) (hs : t0.size ≤ 400) : MInv t0 most (evF most .nil t0) [⟨t0, .nil, false⟩] [] most [] := by
  refine ⟨fun i hi => ?_, (fun v hv => by cases hv), (fun v hv => by cases hv), rfl, ?_, Nat.le_refl _, ?_, hs⟩
  · rw [List.mem_singleton.mp hi]
    exact ⟨.here, trivial, fun y hy => absurd hy (hc y), trivial⟩
  · show (evF most .nil t0).bind (fun v m' l => Rv.ok v m' ([] ++ l)) = _
    cases evF most .nil t0 <;> rfl
  · show 3 * t0.size + 0 + 0 + 0 ≤ _
    omega
theorem MInv.item (h : MInv t0 most R (⟨t, e, false⟩ :: W) F m L) : ItOk t0 ⟨t, e, false⟩ := h.items _ List.mem_cons_self
/-- a value is found -/
theorem MInv.value (h : MInv t0 most R (⟨t, e, false⟩ :: W) F m L) {v : Val} {l : List Val} (hv : VOk t0 v) (hl : ∀ u ∈ l, VOk t0 u) (he : evF m e t = .ok v m l) (hz : 1 + l.length ≤ 3 * t.size) : MInv t0 most R W (F ++ [v]) m (L ++ l) := by
  refine ⟨fun i hi => h.items i (List.mem_cons_of_mem _ hi), fun u hu => ?_, fun u hu => ?_, ?_, ?_, h.le, ?_, h.small⟩
  · rcases List.mem_append.mp hu with hu | hu
    · exact h.found u hu
    · rw [List.mem_singleton.mp hu]; exact hv
  · rcases List.mem_append.mp hu with hu | hu
    · exact h.log u hu
    · exact hl u hu
  · rw [List.length_append, List.length_singleton]; exact h.need
  · rw [← h.fin]
    show _ = (evF m e t).bind _
    rw [he]
    rfl
  · have := h.wt
    rw [wtM_cons] at this
    have : wM ⟨t, e, false⟩ = 3 * t.size := rfl
    rw [List.length_append, List.length_append, List.length_singleton]
    omega
theorem MInv.num {n : Int} (h : MInv t0 most R (⟨.num n, e, false⟩ :: W) F m L) : MInv t0 most R W (F ++ [.num n]) m L := by
  have := h.value (v := .num n) (l := []) ⟨trivial, trivial⟩ (fun u hu => by cases hu) ev_num (by simp [Tr.size])
  rwa [List.append_nil] at this
theorem MInv.look {x : Str} {v : Val} (h : MInv t0 most R (⟨.name x, e, false⟩ :: W) F m L) (hv : e.look x = some v) : MInv t0 most R W (F ++ [v]) m L := by
  have := h.value (v := v) (l := []) ⟨Env.ok_look h.item.ok hv, Env.all_look h.item.all hv⟩ (fun u hu => by cases hu) (by rw [show evF m e (.name x) = _ from ev_name, hv]) (by simp [Tr.size])
  rwa [List.append_nil] at this
theorem MInv.there {x : Str} (h : MInv t0 most R (⟨.name x, e, false⟩ :: W) F m L) : ∃ v, e.look x = some v := h.item.cov x rfl
theorem MInv.keep {x : Str} {b : Tr} (h : MInv t0 most R (⟨.fn x b, e, false⟩ :: W) F m L) : MInv t0 most R W (F ++ [.fn x b (e.keep (freeNames (.fn x b)))]) m (L ++ [.fn x b (e.keep (freeNames (.fn x b)))]) := by
  have hok : VOk t0 (.fn x b (e.keep (freeNames (.fn x b)))) := ⟨⟨fun y hy => by
    obtain ⟨v, hv⟩ := h.item.cov y hy
    exact ⟨v, by rw [Env.look_keep, if_pos (fl_mem _ _ hy), hv]⟩, Env.ok_keep h.item.ok _⟩, h.item.t_in, Env.all_keep h.item.all _⟩
  exact h.value hok (fun u hu => by rw [List.mem_singleton.mp hu]; exact hok) ev_fn (by have := b.size_pos; simp only [Tr.size, List.length_singleton]; omega)
theorem kid_ok (h : ItOk t0 ⟨t, e, false⟩) {u : Tr} (hu : u ∈ t.kids) (hf : ∀ x, u.fr x → t.fr x) : ItOk t0 ⟨u, e, false⟩ := ⟨.kid h.t_in hu, h.ok, fun y hy => h.cov y (hf y hy), h.all⟩
theorem MInv.look2 {a b : Tr} (h : MInv t0 most R (⟨t, e, false⟩ :: W) F m L) (ht : t = .plus a b ∨ t = .less a b ∨ t = .call a b) : MInv t0 most R (⟨a, e, false⟩ :: ⟨b, e, false⟩ :: ⟨t, e, true⟩ :: W) F m L := by
  refine ⟨fun i hi => ?_, h.found, h.log, ?_, ?_, h.le, ?_, h.small⟩
  · rcases List.mem_cons.mp hi with rfl | hi
    · rcases ht with rfl | rfl | rfl <;> exact kid_ok h.item (by simp [Tr.kids]) fun x hx => .inl hx
    rcases List.mem_cons.mp hi with rfl | hi
    · rcases ht with rfl | rfl | rfl <;> exact kid_ok h.item (by simp [Tr.kids]) fun x hx => .inr hx
    rcases List.mem_cons.mp hi with rfl | hi
    · exact ⟨h.item.t_in, h.item.ok, h.item.cov, h.item.all⟩
    · exact h.items i (List.mem_cons_of_mem _ hi)
  · have := h.need
    show (t.two = true ∧ 2 ≤ F.length + 1 + 1 ∧ needM W (F.length + 1 + 1 - 1)) ∨ _
    exact .inl ⟨by rcases ht with rfl | rfl | rfl <;> rfl, by omega, this⟩
  · rw [← finM_look2 ht]; exact h.fin
  · have := h.wt
    rw [wtM_cons] at this ⊢
    rw [wtM_cons, wtM_cons]
    have e1 : wM ⟨t, e, false⟩ = 3 * t.size := rfl
    have e2 : wM ⟨a, e, false⟩ = 3 * a.size := rfl
    have e3 : wM ⟨b, e, false⟩ = 3 * b.size := rfl
    have e4 : wM ⟨t, e, true⟩ = 1 := rfl
    have e5 : t.size = 1 + a.size + b.size := by rcases ht with rfl | rfl | rfl <;> rfl
    omega
theorem MInv.look1 {a : Tr} (h : MInv t0 most R (⟨t, e, false⟩ :: W) F m L) (ht : (∃ b c, t = .ite a b c) ∨ ∃ x b, t = .lt x a b) : MInv t0 most R (⟨a, e, false⟩ :: ⟨t, e, true⟩ :: W) F m L := by
  refine ⟨fun i hi => ?_, h.found, h.log, ?_, ?_, h.le, ?_, h.small⟩
  · rcases List.mem_cons.mp hi with rfl | hi
    · rcases ht with ⟨b, c, rfl⟩ | ⟨x, b, rfl⟩ <;> exact kid_ok h.item (by simp [Tr.kids]) fun x hx => .inl hx
    rcases List.mem_cons.mp hi with rfl | hi
    · exact ⟨h.item.t_in, h.item.ok, h.item.cov, h.item.all⟩
    · exact h.items i (List.mem_cons_of_mem _ hi)
  · have := h.need
    refine .inr ⟨?_, by omega, this⟩
    rcases ht with ⟨b, c, rfl⟩ | ⟨x, b, rfl⟩ <;> rfl
  · rw [← h.fin]
    rcases ht with ⟨b, c, rfl⟩ | ⟨x, b, rfl⟩
    · exact finM_ite.symm
    · exact finM_lt.symm
  · have := h.wt
    rw [wtM_cons] at this ⊢
    rw [wtM_cons]
    have e1 : wM ⟨t, e, false⟩ = 3 * t.size := rfl
    have e2 : wM ⟨a, e, false⟩ = 3 * a.size := rfl
    have e4 : wM ⟨t, e, true⟩ = 1 := rfl
    have e5 : 1 + a.size ≤ t.size := by rcases ht with ⟨b, c, rfl⟩ | ⟨x, b, rfl⟩ <;> simp only [Tr.size] <;> omega
    omega
theorem MInv.dry (h : MInv t0 most R (⟨t, e, true⟩ :: W) F 0 L) : R = .dry := by rw [← h.fin]; rfl
/-- two values, or one, wait -/
theorem MInv.split2 (h : MInv t0 most R (⟨t, e, true⟩ :: W) F m L) (ht : t.two = true) : ∃ F' v w, F = F' ++ [v] ++ [w] ∧ needM W (F'.length + 1) := by
  have hn := h.need
  have h1 : t.one = false := by cases t <;> first | rfl | cases ht
  rcases hn with ⟨_, h2, h3⟩ | ⟨h2, _⟩
  · rcases List.eq_nil_or_concat F with e0 | ⟨G, w, e0⟩
    · subst e0; simp at h2
    rw [List.concat_eq_append] at e0
    subst e0
    rcases List.eq_nil_or_concat G with e0 | ⟨G', v, e0⟩
    · subst e0; simp at h2
    rw [List.concat_eq_append] at e0
    subst e0
    refine ⟨G', v, w, rfl, ?_⟩
    simp only [List.length_append, List.length_singleton] at h3
    exact h3
  · rw [h1] at h2; cases h2
theorem MInv.split1 (h : MInv t0 most R (⟨t, e, true⟩ :: W) F m L) (ht : t.one = true) : ∃ F' w, F = F' ++ [w] ∧ needM W (F'.length + 1) := by
  have hn := h.need
  have h1 : t.two = false := by cases t <;> first | rfl | cases ht
  rcases hn with ⟨h2, _⟩ | ⟨_, h2, h3⟩
  · rw [h1] at h2; cases h2
  · rcases List.eq_nil_or_concat F with e0 | ⟨G, w, e0⟩
    · subst e0; simp at h2
    rw [List.concat_eq_append] at e0
    subst e0
    refine ⟨G, w, rfl, ?_⟩
    simp only [List.length_append, List.length_singleton] at h3
    exact h3
/-- a deed that looks at another tree -/
theorem MInv.go {F' G : List Val} {e' : Env} {b : Tr} (h : MInv t0 most R (⟨t, e, true⟩ :: W) (F' ++ G) (m + 1) L) (hi : ItOk t0 ⟨b, e', false⟩) (hn : needM W (F'.length + 1)) (hf : finM (⟨b, e', false⟩ :: W) F' m L = R) : MInv t0 most R (⟨b, e', false⟩ :: W) F' m L := by
  refine ⟨fun i hi' => ?_, fun v hv => h.found v (List.mem_append_left _ hv), h.log, hn, hf, by have := h.le; omega, ?_, h.small⟩
  · rcases List.mem_cons.mp hi' with rfl | hi'
    · exact hi
    · exact h.items i (List.mem_cons_of_mem _ hi')
  · have h1 := h.wt
    have h2 := h.le
    have h3 := hi.t_in.size
    have h4 := h.small
    rw [wtM_cons, List.length_append] at h1
    rw [wtM_cons]
    have e1 : wM ⟨b, e', false⟩ = 3 * b.size := rfl
    dsimp only at h3
    have : most - m + 1 = (most - (m + 1) + 1) + 1 := by omega
    rw [this]
    omega
theorem MInv.put {F' G : List Val} {u : Val} (h : MInv t0 most R (⟨t, e, true⟩ :: W) (F' ++ G) (m + 1) L) (hu : VOk t0 u) (hg : 1 ≤ G.length) (hn : needM W (F'.length + 1)) (hf : finM W (F' ++ [u]) m L = R) : MInv t0 most R W (F' ++ [u]) m L := by
  refine ⟨fun i hi' => h.items i (List.mem_cons_of_mem _ hi'), fun v hv => ?_, h.log, by rw [List.length_append, List.length_singleton]; exact hn, hf, by have := h.le; omega, ?_, h.small⟩
  · rcases List.mem_append.mp hv with hv | hv
    · exact h.found v (List.mem_append_left _ hv)
    · rw [List.mem_singleton.mp hv]; exact hu
  · have h1 := h.wt
    have h2 := h.le
    rw [wtM_cons, List.length_append] at h1
    rw [List.length_append, List.length_singleton]
    omega
theorem MInv.item1 (h : MInv t0 most R (⟨t, e, true⟩ :: W) F m L) : ItOk t0 ⟨t, e, true⟩ := h.items _ List.mem_cons_self
/-- the deeds -/
theorem MInv.plus {a b : Tr} {F' : List Val} {x y : Int} (h : MInv t0 most R (⟨.plus a b, e, true⟩ :: W) (F' ++ [.num x] ++ [.num y]) (m + 1) L) (hn : needM W (F'.length + 1)) : MInv t0 most R W (F' ++ [.num (x + y)]) m L := by
  have hf := h.fin
  rw [finM_two rfl] at hf
  rw [List.append_assoc] at h
  exact h.put ⟨trivial, trivial⟩ (by simp) hn hf
theorem MInv.less {a b : Tr} {F' : List Val} {x y : Int} (h : MInv t0 most R (⟨.less a b, e, true⟩ :: W) (F' ++ [.num x] ++ [.num y]) (m + 1) L) (hn : needM W (F'.length + 1)) : MInv t0 most R W (F' ++ [.num (x - y)]) m L := by
  have hf := h.fin
  rw [finM_two rfl] at hf
  rw [List.append_assoc] at h
  exact h.put ⟨trivial, trivial⟩ (by simp) hn hf
theorem MInv.call {a b : Tr} {F' : List Val} {x : Str} {c : Tr} {e' : Env} {y : Val} (h : MInv t0 most R (⟨.call a b, e, true⟩ :: W) (F' ++ [.fn x c e'] ++ [y]) (m + 1) L) (hn : needM W (F'.length + 1)) : MInv t0 most R (⟨c, .cons x y e', false⟩ :: W) F' m L := by
  have hf := h.fin
  rw [finM_two rfl] at hf
  have h1 := h.found (.fn x c e') (by simp)
  have h2 := h.found y (by simp)
  rw [List.append_assoc] at h
  refine h.go ⟨.kid h1.all.1 (by simp [Tr.kids]), ⟨h2.ok, h1.ok.2⟩, fun z hz => ?_, ⟨h2.all, h1.all.2⟩⟩ hn hf
  by_cases hxz : z = x
  · exact ⟨y, by show (if z = x then some y else _) = _; rw [if_pos hxz]⟩
  · obtain ⟨u, hu⟩ := h1.ok.1 z ⟨fun e => hxz e.symm, hz⟩
    exact ⟨u, by show (if z = x then some y else e'.look z) = _; rw [if_neg hxz]; exact hu⟩
theorem MInv.ite {a b c : Tr} {F' : List Val} {n : Int} (h : MInv t0 most R (⟨.ite c a b, e, true⟩ :: W) (F' ++ [.num n]) (m + 1) L) (hn : needM W (F'.length + 1)) : MInv t0 most R (⟨if n = 0 then b else a, e, false⟩ :: W) F' m L := by
  have hf := h.fin
  rw [finM_one rfl] at hf
  have hi := h.item1
  refine h.go ⟨?_, hi.ok, fun z hz => ?_, hi.all⟩ hn hf
  · by_cases h0 : n = 0
    · rw [if_pos h0]; exact .kid hi.t_in (by simp [Tr.kids])
    · rw [if_neg h0]; exact .kid hi.t_in (by simp [Tr.kids])
  · by_cases h0 : n = 0
    · rw [if_pos h0] at hz; exact hi.cov z (.inr (.inr hz))
    · rw [if_neg h0] at hz; exact hi.cov z (.inr (.inl hz))
theorem MInv.lt {x : Str} {a b : Tr} {F' : List Val} {y : Val} (h : MInv t0 most R (⟨.lt x a b, e, true⟩ :: W) (F' ++ [y]) (m + 1) L) (hn : needM W (F'.length + 1)) : MInv t0 most R (⟨b, .cons x y e, false⟩ :: W) F' m L := by
  have hf := h.fin
  rw [finM_one rfl, show do1 (.lt x a b) e y = .look (.cons x y e) b from by cases y <;> rfl] at hf
  have hi := h.item1
  have h2 := h.found y (by simp)
  refine h.go ⟨.kid hi.t_in (by simp [Tr.kids]), ⟨h2.ok, hi.ok⟩, fun z hz => ?_, ⟨h2.all, hi.all⟩⟩ hn hf
  by_cases hxz : z = x
  · exact ⟨y, by show (if z = x then some y else _) = _; rw [if_pos hxz]⟩
  · obtain ⟨u, hu⟩ := hi.cov z (.inr ⟨fun e => hxz e.symm, hz⟩)
    exact ⟨u, by show (if z = x then some y else e.look z) = _; rw [if_neg hxz]; exact hu⟩
theorem MInv.bad2 {F' : List Val} {v w : Val} {c : Er} (h : MInv t0 most R (⟨t, e, true⟩ :: W) (F' ++ [v] ++ [w]) (m + 1) L) (ht : t.two = true) (hd : do2 t v w = .err c) : R = .err c := by
  rw [← h.fin, finM_two ht, hd]
theorem MInv.bad1 {F' : List Val} {w : Val} {c : Er} (h : MInv t0 most R (⟨t, e, true⟩ :: W) (F' ++ [w]) (m + 1) L) (ht : t.two = false) (hd : do1 t e w = .err c) : R = .err c := by
  rw [← h.fin, finM_one ht, hd]
theorem MInv.done (h : MInv t0 most R [] F m L) : ∃ v, F = [v] ∧ R = .ok v m L ∧ VOk t0 v := by
  have hn : F.length = 1 := h.need
  match F, hn, h with
  | [v], _, h => exact ⟨v, rfl, h.fin.symm, h.found v List.mem_cons_self⟩
end
end My

namespace My
open PySem L2
open PyProof.Rows (envOfC)
/-! ### a def under another name; a method -/
def FunQ (K : PySem.W.Frag) (mg : Str → Option Value) (g x : Str) (st : Stmt) : Prop := ∃ (f : Addr) (fd : FuncData), Fun K x x st f fd ∧ mg g = some (.ref f)
def BindQ (x q : Str) (st : Stmt) (ps : List Str) : Prop := ∀ (kV doc pm : Value) (an : Option Addr) (cdv ct : Value) (us : List Value), us.length = ps.length → bindArgs (PySem.W.fnOf x q (defArgs st) (defBody st) (defScope st) .none kV doc pm an cdv ct) ⟨us, []⟩ = pure (ps.zip us)
structure FunM (K : PySem.W.Frag) (C : Addr) (m q : Str) (st : Stmt) : Prop where
  ex : ∃ (f : Addr) (fd : FuncData), Fun K m q st f fd ∧ Meth K C m f ∧ Cls K C
structure Mt (CX : CXT) (P : Program) (w : World) (K : PySem.W.Frag) (mg : Str → Option Value) (base : Heap) (k : Nat) (C : Addr) (m : Str) (sp : Sp) : Prop where
  ex : ∃ (f : Addr) (fd : FuncData) (ps : List Str), FnOk P w K mg base CX k f fd ps sp ∧ Meth K C m f ∧ Binds K fd ps [] ∧ Cls K C
structure MkD (P : Program) (w : World) (K : PySem.W.Frag) (mg : Str → Option Value) (base : Heap) (k : Nat) (x : Str) (C : Addr) (sp : Sp) : Prop where
  ex : ∃ (f : Addr) (fd : FuncData) (ps : List Str), FnOk P w K mg base CX0 k f fd ps sp ∧ Mk K C f ∧ Binds K fd ps [] ∧ mg x = some (.ref C)
/-- a class's __init__ -/
structure FunI (K : PySem.W.Frag) (mg : Str → Option Value) (x : Str) (C : Addr) (q : Str) (st : Stmt) : Prop where
  ex : ∃ (f : Addr) (fd : FuncData), Fun K "__init__" q st f fd ∧ Mk K C f ∧ mg x = some (.ref C)
section
variable {P : Program} {w : World} {K : PySem.W.Frag} {mg : Str → Option Value} {base : Heap} {N ps : List Str} {k : Nat} {sp : Sp} {st : Stmt} {C : Addr} {x q : Str}
theorem FunQ.df {g : Str} (F : FunQ K mg g x st) (S : FnScope N ps (defScope st)) (hb : BindAll x st ps) (len : ∀ vs H Q E, sp vs H Q E → vs.length = ps.length)
    (hbody : ∀ (f : Addr) (cdv : Value) (A : Around) (outer : List PySem.Env) (s : Shared) (H : Hp) (vs : List V) (Q : VK) (E : XK), Room k (A.deeper (envOfC x (defScope st) s.heap.objs.size f cdv)) → sp vs H Q E →
      ∃ t, PSs (cxOf CX0 P w K mg base N x (defScope st) f cdv A outer s H E).nox (defBody st) t ∧ t { nx := fun _ H' => Q .non H', rt := Q } (start N vs) H) : Df P w K mg base (k + 1) g ps sp := by
  obtain ⟨f, fd, h, m⟩ := F
  exact ⟨f, fd, h.ok S len (hbody f), m, h.kp, h.binds hb⟩
theorem FunQ.dfX {g : Str} (F : FunQ K mg g x st) (S : FnScope N ps (defScope st)) (hb : BindAll x st ps) (len : ∀ vs H Q E, sp vs H Q E → vs.length = ps.length)
    (hbody : ∀ (f : Addr) (cdv : Value) (A : Around) (outer : List PySem.Env) (s : Shared) (H : Hp) (vs : List V) (Q : VK) (E : XK), Room k (A.deeper (envOfC x (defScope st) s.heap.objs.size f cdv)) → sp vs H Q E →
      ∃ t, PSs (cxOf (L2.CX P w) P w K mg base N x (defScope st) f cdv A outer s H E) (defBody st) t ∧ t { nx := fun _ H' => Q .non H', rt := Q } (start N vs) H) : DfX P w K mg base (k + 1) g ps sp := by
  obtain ⟨f, fd, h, m⟩ := F
  exact ⟨f, fd, h.okX S len (hbody f), m, h.kp, h.binds hb⟩
theorem FunM.mt {m : Str} (F : FunM K C m q st) (S : FnScope N ps (defScope st)) (hb : BindQ m q st ps) (len : ∀ vs H Q E, sp vs H Q E → vs.length = ps.length)
    (hbody : ∀ (f : Addr) (cdv : Value) (A : Around) (outer : List PySem.Env) (s : Shared) (H : Hp) (vs : List V) (Q : VK) (E : XK), Room k (A.deeper (envOfC q (defScope st) s.heap.objs.size f cdv)) → sp vs H Q E →
      ∃ t, PSs (cxOf CX0 P w K mg base N q (defScope st) f cdv A outer s H E).nox (defBody st) t ∧ t { nx := fun _ H' => Q .non H', rt := Q } (start N vs) H) : Mt CX0 P w K mg base (k + 1) C m sp := by
  obtain ⟨f, fd, h, me, c⟩ := F.ex
  exact ⟨f, fd, ps, h.ok S len (hbody f), me, h.binds hb, c⟩
theorem FunM.mtX {m : Str} (F : FunM K C m q st) (S : FnScope N ps (defScope st)) (hb : BindQ m q st ps) (len : ∀ vs H Q E, sp vs H Q E → vs.length = ps.length)
    (hbody : ∀ (f : Addr) (cdv : Value) (A : Around) (outer : List PySem.Env) (s : Shared) (H : Hp) (vs : List V) (Q : VK) (E : XK), Room k (A.deeper (envOfC q (defScope st) s.heap.objs.size f cdv)) → sp vs H Q E →
      ∃ t, PSs (cxOf (L2.CX P w) P w K mg base N q (defScope st) f cdv A outer s H E) (defBody st) t ∧ t { nx := fun _ H' => Q .non H', rt := Q } (start N vs) H) : Mt (L2.CX P w) P w K mg base (k + 1) C m sp := by
  obtain ⟨f, fd, h, me, c⟩ := F.ex
  exact ⟨f, fd, ps, h.okX S len (hbody f), me, h.binds hb, c⟩
theorem FunI.mkd (F : FunI K mg x C q st) (S : FnScope N ps (defScope st)) (hb : BindQ "__init__" q st ps) (len : ∀ vs H Q E, sp vs H Q E → vs.length = ps.length)
    (hbody : ∀ (f : Addr) (cdv : Value) (A : Around) (outer : List PySem.Env) (s : Shared) (H : Hp) (vs : List V) (Q : VK) (E : XK), Room k (A.deeper (envOfC q (defScope st) s.heap.objs.size f cdv)) → sp vs H Q E →
      ∃ t, PSs (cxOf CX0 P w K mg base N q (defScope st) f cdv A outer s H E).nox (defBody st) t ∧ t { nx := fun _ H' => Q .non H', rt := Q } (start N vs) H) : MkD P w K mg base (k + 1) x C sp := by
  obtain ⟨f, fd, h, me, c⟩ := F.ex
  exact ⟨f, fd, ps, h.ok S len (hbody f), me, h.binds hb, c⟩
end
/-- called where what it lets out is the caller's own -/
def tCallE (sp : Sp) (E : XK) (t : TA) : TE := fun σ H Q => t σ H fun vs H1 => sp vs H1 Q E
def tMe (C : Addr) (m : Str) (sp : Sp) (E : XK) (ta : TE) (t : TA) : TE := fun σ H Q => ta σ H fun x H1 => ∃ a dx fs, x = .ref a ∧ H1 a = some (.ins C dx fs) ∧ fs.lookup m = none ∧ t σ H1 fun vs H2 => sp (x :: vs) H2 Q E
def tMkD (C : Addr) (sp : Sp) (t : TA) : TE := fun σ H Q => t σ H fun vs H1 => ∀ x dx, H1 x = none → H1 dx = none → dx ≠ x → sp (.ref x :: vs) (upd (upd H1 dx (.own x)) x (.ins C dx [])) (fun v H2 => v = .non ∧ Q (.ref x) H2) E0
section
variable {X : Cx} {CX : CXT} {j k : Nat} {C : Addr} {x m : Str} {ps : List Str} {sp : Sp} {p pos apos : Pos} {e o : Expr} {es : List Expr} {ta : TE} {t : TA} {E : XK}
theorem pe_callXP (D : DfX X.prog X.w X.K X.mg X.base j x ps sp) (hr : Room k X.A) (hj : j ≤ k) (hg : Gl X x) (hx : Passes (L2.CX X.prog X.w) X E) (ha : PA X (e :: es) t) (hdb : (x == ("__debug__" : Str)) = false := by decide)
    (he : starEach (e :: es) X.env = (false, eval e X.env) :: starEach es X.env := by rfl) (hpl : (backTo pos (starEach es X.env)).any (·.1) = false := by rfl) :
    PE X (.Call (.Name x p) (e :: es) [] pos) (tCallE sp E t) := by
  obtain ⟨f, fd, F, m, kp, b⟩ := D.ex
  have h : PE X (.Call (.Name x p) (e :: es) [] pos) (tCall sp [] E t) := pe_call F (hr.mono hj) hg m kp b .nil hx ha hdb he hpl
  refine ⟨fun pins s σ H Q I q => h.run pins s σ H Q I ?_⟩
  unfold tCall
  unfold tCallE at q
  simpa only [List.append_nil] using q
theorem pe_me {pl : Sem Bool} (M : Mt CX X.prog X.w X.K X.mg X.base j C m sp) (hr : Room k X.A) (hj : j ≤ k) (hx : Passes CX X E) (he : PE X o ta) (ha : PA X (e :: es) t)
    (hst : starEach (e :: es) X.env = (false, eval e X.env) :: starEach es X.env := by rfl) (hpl : (backTo pos (starEach es X.env)).any (·.1) = false := by rfl)
    (ht : eval (.Call (.Attribute o m apos) (e :: es) [] pos) X.env = (do
      let ov ← eval o X.env
      standAt apos.atName
      let (f, first) ← holding [ov] (getMethod ov m pl)
      callWith pos f first (backTo pos (starEach (e :: es) X.env)) (backToKw pos (keywordEach [] X.env))) := by rfl) :
    PE X (.Call (.Attribute o m apos) (e :: es) [] pos) (tMe C m sp E ta t) := by
  obtain ⟨f, fd, ps, F, me, b, c⟩ := M.ex
  have h : PE X (.Call (.Attribute o m apos) (e :: es) [] pos) (tMeth C m sp [] E ta t) := pe_meth (pl := pl) he c me F (hr.mono hj) b .nil hx ha hst hpl ht
  refine ⟨fun pins s σ H Q I q => h.run pins s σ H Q I ?_⟩
  unfold tMeth
  unfold tMe at q
  simpa only [List.append_nil] using q
theorem pe_me0 {pl : Sem Bool} (M : Mt CX X.prog X.w X.K X.mg X.base j C m sp) (hr : Room k X.A) (hj : j ≤ k) (hx : Passes CX X E) (he : PE X o ta)
    (ht : eval (.Call (.Attribute o m apos) [] [] pos) X.env = (do
      let ov ← eval o X.env
      standAt apos.atName
      let (f, first) ← holding [ov] (getMethod ov m pl)
      callWith pos f first (backTo pos (starEach [] X.env)) (backToKw pos (keywordEach [] X.env))) := by rfl) :
    PE X (.Call (.Attribute o m apos) [] [] pos) (tMe C m sp E ta tNil) := by
  obtain ⟨f, fd, ps, F, me, b, c⟩ := M.ex
  have h : PE X (.Call (.Attribute o m apos) [] [] pos) (tMeth C m sp [] E ta tNil) := pe_meth0 (pl := pl) he c me F (hr.mono hj) b .nil hx ht
  refine ⟨fun pins s σ H Q I q => h.run pins s σ H Q I ?_⟩
  unfold tMeth
  unfold tMe at q
  simpa only [List.append_nil] using q
theorem pe_mkD (M : MkD X.prog X.w X.K X.mg X.base j x C sp) (hr : Room k X.A) (hj : j + 1 ≤ k) (hg : Gl X x) (ha : PA X (e :: es) t) (hdb : (x == ("__debug__" : Str)) = false := by decide)
    (he : starEach (e :: es) X.env = (false, eval e X.env) :: starEach es X.env := by rfl) (hpl : (backTo pos (starEach es X.env)).any (·.1) = false := by rfl) :
    PE X (.Call (.Name x p) (e :: es) [] pos) (tMkD C sp t) := by
  obtain ⟨f, fd, ps, F, M, b, g⟩ := M.ex
  have h : PE X (.Call (.Name x p) (e :: es) [] pos) (tMake C sp [] E0 t) := pe_make M F (hr.mono hj) hg g b .nil pass0 ha hdb he hpl
  refine ⟨fun pins s σ H Q I q => h.run pins s σ H Q I ?_⟩
  unfold tMake
  unfold tMkD at q
  simpa only [List.append_nil] using q
end
/-! ### a machine's values in the heap -/
/-- the four objects of a machine that change -/
structure MA where
  aM : Addr
  dx : Addr
  lk : Addr
  lf : Addr
  lw : Addr
def MA.has (M : MA) (a : Addr) : Prop := a = M.aM ∨ a = M.lk ∨ a = M.lf ∨ a = M.lw
def keptF (x : Str) (b : V) (ln lh : Addr) : List (Str × V) := [("name", .str x), ("body", b), ("names", .ref ln), ("held", .ref lh)]
mutual
def KVm (cK : Addr) (A : Addr → Prop) (H : Hp) : Val → V → Prop
  | .num n, r => r = .int n
  | .fn x b e, r => ∃ (a dx ln lh : Addr) (tb : V) (ns : List Str) (hs : List V), r = .ref a ∧ ¬ A a ∧ ¬ A ln ∧ ¬ A lh ∧ H a = some (.ins cK dx (keptF x tb ln lh)) ∧ At H b tb ∧ H ln = some (.lst (ns.map V.str)) ∧ H lh = some (.lst hs) ∧
      ns = freeNames (.fn x b) ∧ EnvL cK A H e ns hs
def EnvL (cK : Addr) (A : Addr → Prop) (H : Hp) : Env → List Str → List V → Prop
  | .nil, ns, hs => ns = [] ∧ hs = []
  | .cons y v e, ns, hs => ∃ (ns' : List Str) (h : V) (hs' : List V), ns = y :: ns' ∧ hs = h :: hs' ∧ KVm cK A H v h ∧ EnvL cK A H e ns' hs'
end
/-- all but the four stays -/
structure Kp (A : Addr → Prop) (H H' : Hp) : Prop where
  kd : KD H H'
  kp : ∀ a o, ¬ A a → H a = some o → H' a = some o
theorem Kp.refl (A : Addr → Prop) (H : Hp) : Kp A H H := ⟨KD.refl H, fun _ _ _ h => h⟩
theorem Kp.trans {A : Addr → Prop} {H H1 H2 : Hp} (a : Kp A H H1) (b : Kp A H1 H2) : Kp A H H2 := ⟨a.kd.trans b.kd, fun c o n h => b.kp c o n (a.kp c o n h)⟩
theorem Kp.same {A : Addr → Prop} {H H' : Hp} (e : Same H H') : Kp A H H' := ⟨same_kd e, fun a o _ h => e a o h⟩
theorem Kp.out {A : Addr → Prop} {H0 H H' : Hp} (k : Kp A H H') (e : Same H0 H) (h : ∀ a, A a → H0 a = none) : Same H0 H' := fun a o ho => k.kp a o (fun ha => by rw [h a ha] at ho; cases ho) (e a o ho)
theorem Kp.lst {A : Addr → Prop} {H : Hp} {l : Addr} {xs : List V} {o : HO} (ha : A l) (h : H l = some (.lst xs)) : Kp A H (upd H l o) := ⟨kd_lst h, fun a u n q => by rw [upd_ne (fun e : a = l => n (by rw [e]; exact ha))]; exact q⟩
theorem Kp.ins {A : Addr → Prop} {H : Hp} {l C dx : Addr} {fs : List (Str × V)} {o : HO} (ha : A l) (h : H l = some (.ins C dx fs)) : Kp A H (upd H l o) :=
  ⟨⟨fun b u q => by rw [upd_ne (ne_of q h (by intro z; cases z))]; exact q, fun b u q => by rw [upd_ne (ne_of q h (by intro z; cases z))]; exact q⟩, fun a u n q => by rw [upd_ne (fun e : a = l => n (by rw [e]; exact ha))]; exact q⟩
mutual
theorem KVm.mono {cK : Addr} {A : Addr → Prop} {H H' : Hp} (k : Kp A H H') : ∀ {v : Val} {r : V}, KVm cK A H v r → KVm cK A H' v r
  | .num _, _, h => h
  | .fn _ _ _, _, ⟨a, dx, ln, lh, tb, ns, hs, e, n1, n2, n3, h1, h2, h3, h4, h5, h6⟩ => ⟨a, dx, ln, lh, tb, ns, hs, e, n1, n2, n3, k.kp _ _ n1 h1, h2.mono k.kd.kt, k.kp _ _ n2 h3, k.kp _ _ n3 h4, h5, EnvL.mono k h6⟩
theorem EnvL.mono {cK : Addr} {A : Addr → Prop} {H H' : Hp} (k : Kp A H H') : ∀ {e : Env} {ns : List Str} {hs : List V}, EnvL cK A H e ns hs → EnvL cK A H' e ns hs
  | .nil, _, _, h => h
  | .cons _ _ _, _, _, ⟨ns', h, hs', e1, e2, h1, h2⟩ => ⟨ns', h, hs', e1, e2, KVm.mono k h1, EnvL.mono k h2⟩
end
/-- a dict of values -/
def EnvD (cK : Addr) (A : Addr → Prop) (H : Hp) (n : Nat) (e : Env) (d : Addr) : Prop := ∃ kvs : List (Key × V), H d = some (.dK kvs) ∧ kvs.length ≤ n ∧ ∀ x v, e.look x = some v → ∃ r, valV kvs (.inr x) = some r ∧ KVm cK A H v r
theorem EnvD.mono {cK : Addr} {A : Addr → Prop} {H H' : Hp} (k : Kp A H H') {n n' : Nat} (hn : n ≤ n') {e : Env} {d : Addr} : EnvD cK A H n e d → EnvD cK A H' n' e d := fun ⟨kvs, h1, h2, h3⟩ =>
  ⟨kvs, k.kd.2 _ _ h1, Nat.le_trans h2 hn, fun x v hx => let ⟨r, a, b⟩ := h3 x v hx; ⟨r, a, b.mono k⟩⟩
def ItAt (cK : Addr) (A : Addr → Prop) (H : Hp) (n : Nat) (i : MI) (v : V) : Prop := ∃ p tv d, v = .ref p ∧ H p = some (.tup [tv, .ref d, .bl i.r]) ∧ At H i.t tv ∧ EnvD cK A H n i.e d
theorem ItAt.mono {cK : Addr} {A : Addr → Prop} {H H' : Hp} (k : Kp A H H') {n n' : Nat} (hn : n ≤ n') {i : MI} {v : V} : ItAt cK A H n i v → ItAt cK A H' n' i v := fun ⟨p, tv, d, e, h1, h2, h3⟩ => ⟨p, tv, d, e, k.kd.1 _ _ h1, h2.mono k.kd.kt, h3.mono k hn⟩
def machF (M : MA) (most deeds : Nat) : List (Str × V) := [("most", .int most), ("deeds", .int deeds), ("kepts", .ref M.lk), ("found", .ref M.lf), ("waiting", .ref M.lw)]
/-- the machine in the heap: W, F, L from their bottoms; n bounds the dicts -/
structure MachAt (cM cK : Addr) (M : MA) (H : Hp) (most deeds n : Nat) (W : List MI) (F L : List Val) : Prop where
  ins : H M.aM = some (.ins cM M.dx (machF M most deeds))
  own : H M.dx = some (.own M.aM)
  lkf : M.lk ≠ M.lf
  lkw : M.lk ≠ M.lw
  lfw : M.lf ≠ M.lw
  ks : ∃ vs, H M.lk = some (.lst vs) ∧ Paired (KVm cK M.has H) L vs
  fs : ∃ vs, H M.lf = some (.lst vs) ∧ Paired (KVm cK M.has H) F vs
  ws : ∃ vs, H M.lw = some (.lst vs) ∧ Paired (ItAt cK M.has H n) W vs
end My

namespace My
open PySem L2
/-! ### what the machine's texts need of the top -/
def aheadL : List (Str × List V) := [("name", []), ("call", [.int 1, .int 2]), ("plus", [.int 1, .int 2]), ("less", [.int 1, .int 2]), ("if", [.int 1]), ("let", [.int 2])]
def SqK (K : PySem.W.Frag) (a : Addr) (xs : List V) : Prop := ∃ (o : Obj) (its : Array Value) (n : Nat), K.lookup a = some o ∧ o.cls = .type "tuple" ∧ o.data = .seq its n ∧ its.size ≤ sizeLine ∧ Vals xs its.toList
theorem SqK.at {K : PySem.W.Frag} {a : Addr} {xs : List V} (h : SqK K a xs) (H : Hp) : SqT K H a xs := .inr h
/-- a class of one's own, as isinstance and its attributes ask -/
structure ClsX (K : PySem.W.Frag) (C : Addr) (fs : List Str) : Prop where
  cl : Cls K C
  ha : PySem.W.findIn K (.ref C) "__class__" = some (some (.builtin "object.__class__"))
  hn : PySem.W.specialIn K (.builtin "object.__class__") "__get__" = some (some (.builtin "getset_descriptor.__get__"))
  tk : PySem.W.takesIn K (.builtin "object.__class__") = some true
  hm : PySem.W.mroIn K C (.type "object") = some true
  no : ∀ f ∈ fs, NoAttr K C f
  int : PySem.W.kitOne K (.type "int") (.ref C) = some false
theorem ClsX.ty {K : PySem.W.Frag} {C : Addr} {fs : List Str} (c : ClsX K C fs) {H : Hp} {a dx : Addr} {gs : List (Str × V)} (h : H a = some (.ins C dx gs)) : TyX K H (.ref a) (.ref C) ∧ PySem.W.kitOne K (.ref C) (.ref C) = some true :=
  ⟨.base (.ins h c.cl c.ha c.hn c.tk c.hm), by unfold PySem.W.kitOne; rw [if_pos (beq_self_eq_true _)]⟩
def keptN : List Str := ["name", "body", "names", "held"]
def machN : List Str := ["most", "deeds", "kepts", "found", "waiting"]
structure MTxt (K : PySem.W.Frag) (w : World) (mg : Str → Option Value) (E : Ers) (aA cM cK : Addr) : Prop extends Bt mg where
  AHEAD : mg "AHEAD" = some (.ref aA)
  ahead : ∀ p ∈ aheadL, ∃ a, RdK K w aA p.1 (.ref a) ∧ SqK K a p.2
  MOST_DEEDS : GInt mg "MOST_DEEDS" 1000
  cKept : mg "Kept" = some (.ref cK)
  K_ : ClsX K cK keptN
  M_ : ClsX K cM machN
  NotClosed : ErrC K mg "NotClosed" E.closed
  BadMost : ErrC K mg "BadMost" E.most
  NoNumber : ErrC K mg "NoNumber" E.number
  NoFunction : ErrC K mg "NoFunction" E.function
  Dry : ErrC K mg "Dry" E.dry
/-! ### the fields -/
theorem machF_most (M : MA) (a b : Nat) : (machF M a b).lookup ("most" : Str) = some (.int a) := rfl
theorem machF_deeds (M : MA) (a b : Nat) : (machF M a b).lookup ("deeds" : Str) = some (.int b) := rfl
theorem machF_kepts (M : MA) (a b : Nat) : (machF M a b).lookup ("kepts" : Str) = some (.ref M.lk) := rfl
theorem machF_found (M : MA) (a b : Nat) : (machF M a b).lookup ("found" : Str) = some (.ref M.lf) := rfl
theorem machF_waiting (M : MA) (a b : Nat) : (machF M a b).lookup ("waiting" : Str) = some (.ref M.lw) := rfl
theorem machF_put (M : MA) (a b c : Nat) : putF ("deeds" : Str) (.int c) (machF M a b) = machF M a c := rfl
theorem machF_no {M : MA} {a b : Nat} {m : Str} (h : machN.contains m = false) : (machF M a b).lookup m = none := by
  have key : ∀ (fs : List (Str × V)), (fs.map (·.1)).contains m = false → fs.lookup m = none := by
    intro fs
    induction fs with
    | nil => intro _; rfl
    | cons p r ih =>
      intro h
      rw [List.map_cons, List.contains_cons, Bool.or_eq_false_iff] at h
      rw [List.lookup_cons, h.1]
      exact ih h.2
  exact key _ h
theorem keptF_name (x : Str) (b : V) (ln lh : Addr) : (keptF x b ln lh).lookup ("name" : Str) = some (.str x) := rfl
theorem keptF_body (x : Str) (b : V) (ln lh : Addr) : (keptF x b ln lh).lookup ("body" : Str) = some b := rfl
theorem keptF_names (x : Str) (b : V) (ln lh : Addr) : (keptF x b ln lh).lookup ("names" : Str) = some (.ref ln) := rfl
theorem keptF_held (x : Str) (b : V) (ln lh : Addr) : (keptF x b ln lh).lookup ("held" : Str) = some (.ref lh) := rfl
/-! ### the machine's promises -/
def spInitK (cK : Addr) : Sp := fun vs H Q _ => ∃ (a dx ln lh : Addr) (x : Str) (b : V), vs = [.ref a, .str x, b, .ref ln, .ref lh] ∧ H a = some (.ins cK dx []) ∧ Q .non (upd H a (.ins cK dx (keptF x b ln lh)))
def spInitM (cM : Addr) : Sp := fun vs H Q _ => ∃ (a dx : Addr) (most : Nat), vs = [.ref a, .int most] ∧ H a = some (.ins cM dx []) ∧
  ∀ (lk lf lw : Addr) (H' : Hp), H lk = none → H lf = none → H lw = none → lk ≠ lf → lk ≠ lw → lf ≠ lw → (∀ b o, b ≠ a → H b = some o → H' b = some o) → H' a = some (.ins cM dx (machF ⟨a, dx, lk, lf, lw⟩ most 0)) → H' lk = some (.lst []) → H' lf = some (.lst []) → H' lw = some (.lst []) → Q .non H'
section
variable (cM cK : Addr)
def spLater : Sp := fun vs H Q _ => ∃ (M : MA) (most deeds n : Nat) (W : List MI) (F L : List Val) (t : Tr) (e : Env) (tv : V) (d : Addr), vs = [.ref M.aM, tv, .ref d] ∧ MachAt cM cK M H most deeds n W F L ∧ At H t tv ∧ EnvD cK M.has H n e d ∧ W.length ≤ 2000000 ∧
  ∀ H', Kp M.has H H' → MachAt cM cK M H' most deeds n (W ++ [⟨t, e, false⟩]) F L → Q .non H'
def keptV (x : Str) (b : Tr) (e : Env) : Val := .fn x b (e.keep (freeNames (.fn x b)))
def spKeep : Sp := fun vs H Q _ => ∃ (M : MA) (most deeds n : Nat) (W : List MI) (F L : List Val) (x : Str) (b : Tr) (e : Env) (tv : V) (d : Addr), vs = [.ref M.aM, tv, .ref d] ∧ MachAt cM cK M H most deeds n W F L ∧ At H (.fn x b) tv ∧ EnvD cK M.has H n e d ∧
  e.Cov (.fn x b) ∧ (Tr.fn x b).size ≤ 400 ∧ F.length ≤ 2000000 ∧ L.length ≤ 2000000 ∧ ∀ H', Kp M.has H H' → MachAt cM cK M H' most deeds n W (F ++ [keptV x b e]) (L ++ [keptV x b e]) → Q .non H'
/-- what a look leaves -/
def lookR (t : Tr) (e : Env) (W : List MI) (F L : List Val) : List MI × List Val × List Val := match t with
  | .num n => (W, F ++ [.num n], L)
  | .name x => (W, F ++ [(e.look x).getD (.num 0)], L)
  | .fn x b => (W, F ++ [keptV x b e], L ++ [keptV x b e])
  | .plus a b => (W ++ [⟨t, e, true⟩, ⟨b, e, false⟩, ⟨a, e, false⟩], F, L)
  | .less a b => (W ++ [⟨t, e, true⟩, ⟨b, e, false⟩, ⟨a, e, false⟩], F, L)
  | .call a b => (W ++ [⟨t, e, true⟩, ⟨b, e, false⟩, ⟨a, e, false⟩], F, L)
  | .ite c _ _ => (W ++ [⟨t, e, true⟩, ⟨c, e, false⟩], F, L)
  | .lt _ a _ => (W ++ [⟨t, e, true⟩, ⟨a, e, false⟩], F, L)
def spLook : Sp := fun vs H Q _ => ∃ (M : MA) (most deeds n : Nat) (W : List MI) (F L : List Val) (t : Tr) (e : Env) (tv : V) (d : Addr), vs = [.ref M.aM, tv, .ref d] ∧ MachAt cM cK M H most deeds n W F L ∧ At H t tv ∧ EnvD cK M.has H n e d ∧
  e.Cov t ∧ t.size ≤ 400 ∧ W.length ≤ 1500000 ∧ F.length ≤ 2000000 ∧ L.length ≤ 2000000 ∧ ∀ H', Kp M.has H H' → MachAt cM cK M H' most deeds n (lookR t e W F L).1 (lookR t e W F L).2.1 (lookR t e W F L).2.2 → Q .non H'
variable (E : Ers)
/-- what a deed leaves -/
def DoR (M : MA) (H : Hp) (most deeds n : Nat) (W : List MI) (F L : List Val) (d : Do) (Q : VK) (X : XK) : Prop := match d with
  | .err c => ∀ H', Kp M.has H H' → X (.ref (E.cls c)) none H'
  | .val u => ∀ H', Kp M.has H H' → MachAt cM cK M H' most deeds (n + 1) W (F ++ [u]) L → Q .non H'
  | .look e b => ∀ H', Kp M.has H H' → MachAt cM cK M H' most deeds (n + 1) (W ++ [⟨b, e, false⟩]) F L → Q .non H'
def spCall : Sp := fun vs H Q X => ∃ (M : MA) (most deeds n : Nat) (W : List MI) (F L : List Val) (v w : Val) (rv rw : V), vs = [.ref M.aM, rv, rw] ∧ MachAt cM cK M H most deeds n W F L ∧ KVm cK M.has H v rv ∧ KVm cK M.has H w rw ∧ 402 ≤ n ∧ n ≤ 100000 ∧ W.length ≤ 2000000 ∧
  v.ok ∧ (∀ x b e, v = .fn x b e → (Tr.fn x b).size ≤ 400) ∧ DoR cM cK E M H most deeds n W F L (do2 (.call (.num 0) (.num 0)) v w) Q X
def spDeed : Sp := fun vs H Q X => ∃ (M : MA) (most deeds n : Nat) (W : List MI) (F F' L : List Val) (t : Tr) (e : Env) (tv : V) (d : Addr) (a : Do), vs = [.ref M.aM, tv, .ref d] ∧ MachAt cM cK M H most deeds n W F L ∧ At H t tv ∧ EnvD cK M.has H n e d ∧
  402 ≤ n ∧ n ≤ 100000 ∧ W.length ≤ 2000000 ∧ F.length ≤ 2000000 ∧ (∀ v ∈ F, v.ok ∧ ∀ x b e, v = .fn x b e → (Tr.fn x b).size ≤ 400) ∧
  ((t.two = true ∧ ∃ v w, F = F' ++ [v] ++ [w] ∧ a = do2 t v w) ∨ (t.one = true ∧ ∃ w, F = F' ++ [w] ∧ a = do1 t e w)) ∧ DoR cM cK E M H most deeds n W F' L a Q X
def spWorkOut : Sp := fun vs H Q X => ∃ (M : MA) (most : Nat) (t : Tr) (tv : V), vs = [.ref M.aM, tv] ∧ MachAt cM cK M H most 0 500 [] [] [] ∧ At H t tv ∧ t.closed ∧ t.size ≤ 400 ∧ most ≤ 1000 ∧
  match evF most .nil t with
  | .ok v m L => ∀ (r : V) (n : Nat) (H' : Hp), Kp M.has H H' → KVm cK M.has H' v r → MachAt cM cK M H' most (most - m) n [] [] L → Q r H'
  | .err c => ∀ H', Kp M.has H H' → X (.ref (E.cls c)) none H'
  | .dry => ∀ H', Kp M.has H H' → X (.ref E.dry) none H'
end
def spLeft (E : Ers) : Sp := fun vs H Q X => ∃ (a b : Nat), vs = [.int a, .int b] ∧ (a < b → Q .non H) ∧ (b ≤ a → X (.ref E.dry) none H)
def spReckon : Sp := fun vs H Q _ => ∃ (z : Str) (a b : Int), vs = [.str z, .int a, .int b] ∧ Q (.int (if z = "plus" then a + b else a - b)) H
/-- the number that a machine's value is -/
def spNumM (cK : Addr) (E : Ers) : Sp := fun vs H Q X => ∃ (A : Addr → Prop) (v : Val) (r : V), vs = [r] ∧ KVm cK A H v r ∧ match v with | .num n => Q (.int n) H | .fn _ _ _ => X (.ref E.number) none H
theorem KVm.isK {K : PySem.W.Frag} {cK : Addr} {fs : List Str} (c : ClsX K cK fs) {A : Addr → Prop} {H : Hp} {x : Str} {b : Tr} {e : Env} {r : V} (h : KVm cK A H (.fn x b e) r) : TyX K H r (.ref cK) ∧ PySem.W.kitOne K (.ref cK) (.ref cK) = some true := by
  obtain ⟨a, dx, ln, lh, tb, ns, hs, rfl, _, _, _, h1, _⟩ := h
  exact c.ty h1
theorem KVm.isI {K : PySem.W.Frag} {cK : Addr} {fs : List Str} (c : ClsX K cK fs) {A : Addr → Prop} {H : Hp} {n : Int} {r : V} (h : KVm cK A H (.num n) r) : r = .int n ∧ TyX K H r (.type "int") ∧ PySem.W.kitOne K (.type "int") (.ref cK) = some false := by
  obtain rfl : r = .int n := h
  exact ⟨rfl, .base (.int n), c.int⟩
end My
namespace My
open PySem L2
theorem isi_own {K : PySem.W.Frag} {H : Hp} {x : V} {t : Value} {C : Addr} {b : Bool} {G : Bool → Prop} (h : TyX K H x t ∧ PySem.W.kitOne K t (.ref C) = some b) (g : G b) :
    ∃ t u, ClsV (.ref C) u ∧ TyX K H x t ∧ ∃ b, PySem.W.kitOne K t u = some b ∧ G b := ⟨_, _, .own _, h.1, b, h.2, g⟩
theorem ClsX.na {K : PySem.W.Frag} {C : Addr} {fs : List Str} (c : ClsX K C fs) (f : Str) (h : fs.contains f = true := by decide +kernel) : NoAttr K C f := c.no f (by simpa using h)
end My
namespace My
open PySem L2
section
variable {cM cK : Addr} {M : MA} {H H' : Hp} {most deeds n n' : Nat} {W W' : List MI} {F F' L L' : List Val} {vs : List V}
theorem MA.has_a : M.has M.aM := .inl rfl
theorem MA.has_k : M.has M.lk := .inr (.inl rfl)
theorem MA.has_f : M.has M.lf := .inr (.inr (.inl rfl))
theorem MA.has_w : M.has M.lw := .inr (.inr (.inr rfl))
theorem MachAt.ext (S : MachAt cM cK M H most deeds n W F L) (e : Same H H') : MachAt cM cK M H' most deeds n W F L := by
  obtain ⟨v1, a1, p1⟩ := S.ks
  obtain ⟨v2, a2, p2⟩ := S.fs
  obtain ⟨v3, a3, p3⟩ := S.ws
  exact ⟨e _ _ S.ins, e _ _ S.own, S.lkf, S.lkw, S.lfw, ⟨v1, e _ _ a1, pr_mono p1 fun _ _ h => h.mono (Kp.same e)⟩, ⟨v2, e _ _ a2, pr_mono p2 fun _ _ h => h.mono (Kp.same e)⟩, ⟨v3, e _ _ a3, pr_mono p3 fun _ _ h => h.mono (Kp.same e) (Nat.le_refl _)⟩⟩
theorem MachAt.more (S : MachAt cM cK M H most deeds n W F L) (h : n ≤ n') : MachAt cM cK M H most deeds n' W F L := by
  obtain ⟨v3, a3, p3⟩ := S.ws
  exact ⟨S.ins, S.own, S.lkf, S.lkw, S.lfw, S.ks, S.fs, ⟨v3, a3, pr_mono p3 fun _ _ q => q.mono (Kp.refl _ _) h⟩⟩
theorem MachAt.setW (S : MachAt cM cK M H most deeds n W F L) : Kp M.has H (upd H M.lw (.lst vs)) ∧ (Paired (ItAt cK M.has (upd H M.lw (.lst vs)) n) W' vs → MachAt cM cK M (upd H M.lw (.lst vs)) most deeds n W' F L) := by
  obtain ⟨v1, a1, p1⟩ := S.ks
  obtain ⟨v2, a2, p2⟩ := S.fs
  obtain ⟨v3, a3, p3⟩ := S.ws
  have k : Kp M.has H (upd H M.lw (.lst vs)) := Kp.lst MA.has_w a3
  have ne : M.aM ≠ M.lw := ne_of S.ins a3 (by intro z; cases z)
  have no : M.dx ≠ M.lw := ne_of S.own a3 (by intro z; cases z)
  refine ⟨k, fun h => ⟨by rw [upd_ne ne]; exact S.ins, by rw [upd_ne no]; exact S.own, S.lkf, S.lkw, S.lfw, ⟨v1, by rw [upd_ne S.lkw]; exact a1, pr_mono p1 fun _ _ h => h.mono k⟩, ⟨v2, by rw [upd_ne S.lfw]; exact a2, pr_mono p2 fun _ _ h => h.mono k⟩, ⟨vs, upd_same, h⟩⟩⟩
theorem MachAt.setF (S : MachAt cM cK M H most deeds n W F L) : Kp M.has H (upd H M.lf (.lst vs)) ∧ (Paired (KVm cK M.has (upd H M.lf (.lst vs))) F' vs → MachAt cM cK M (upd H M.lf (.lst vs)) most deeds n W F' L) := by
  obtain ⟨v1, a1, p1⟩ := S.ks
  obtain ⟨v2, a2, p2⟩ := S.fs
  obtain ⟨v3, a3, p3⟩ := S.ws
  have k : Kp M.has H (upd H M.lf (.lst vs)) := Kp.lst MA.has_f a2
  have ne : M.aM ≠ M.lf := ne_of S.ins a2 (by intro z; cases z)
  have no : M.dx ≠ M.lf := ne_of S.own a2 (by intro z; cases z)
  refine ⟨k, fun h => ⟨by rw [upd_ne ne]; exact S.ins, by rw [upd_ne no]; exact S.own, S.lkf, S.lkw, S.lfw, ⟨v1, by rw [upd_ne S.lkf]; exact a1, pr_mono p1 fun _ _ h => h.mono k⟩, ⟨vs, upd_same, h⟩, ⟨v3, by rw [upd_ne S.lfw.symm]; exact a3, pr_mono p3 fun _ _ h => h.mono k (Nat.le_refl _)⟩⟩⟩
theorem MachAt.setK (S : MachAt cM cK M H most deeds n W F L) : Kp M.has H (upd H M.lk (.lst vs)) ∧ (Paired (KVm cK M.has (upd H M.lk (.lst vs))) L' vs → MachAt cM cK M (upd H M.lk (.lst vs)) most deeds n W F L') := by
  obtain ⟨v1, a1, p1⟩ := S.ks
  obtain ⟨v2, a2, p2⟩ := S.fs
  obtain ⟨v3, a3, p3⟩ := S.ws
  have k : Kp M.has H (upd H M.lk (.lst vs)) := Kp.lst MA.has_k a1
  have ne : M.aM ≠ M.lk := ne_of S.ins a1 (by intro z; cases z)
  have no : M.dx ≠ M.lk := ne_of S.own a1 (by intro z; cases z)
  refine ⟨k, fun h => ⟨by rw [upd_ne ne]; exact S.ins, by rw [upd_ne no]; exact S.own, S.lkf, S.lkw, S.lfw, ⟨vs, upd_same, h⟩, ⟨v2, by rw [upd_ne S.lkf.symm]; exact a2, pr_mono p2 fun _ _ h => h.mono k⟩, ⟨v3, by rw [upd_ne S.lkw.symm]; exact a3, pr_mono p3 fun _ _ h => h.mono k (Nat.le_refl _)⟩⟩⟩
theorem MachAt.setD (S : MachAt cM cK M H most deeds n W F L) (d' : Nat) : Kp M.has H (upd H M.aM (.ins cM M.dx (machF M most d'))) ∧ MachAt cM cK M (upd H M.aM (.ins cM M.dx (machF M most d'))) most d' n W F L := by
  obtain ⟨v1, a1, p1⟩ := S.ks
  obtain ⟨v2, a2, p2⟩ := S.fs
  obtain ⟨v3, a3, p3⟩ := S.ws
  have k : Kp M.has H (upd H M.aM (.ins cM M.dx (machF M most d'))) := Kp.ins MA.has_a S.ins
  have n1 : M.lk ≠ M.aM := ne_of a1 S.ins (by intro z; cases z)
  have n2 : M.lf ≠ M.aM := ne_of a2 S.ins (by intro z; cases z)
  have n3 : M.lw ≠ M.aM := ne_of a3 S.ins (by intro z; cases z)
  have no : M.dx ≠ M.aM := ne_of S.own S.ins (by intro z; cases z)
  exact ⟨k, upd_same, by rw [upd_ne no]; exact S.own, S.lkf, S.lkw, S.lfw, ⟨v1, by rw [upd_ne n1]; exact a1, pr_mono p1 fun _ _ h => h.mono k⟩, ⟨v2, by rw [upd_ne n2]; exact a2, pr_mono p2 fun _ _ h => h.mono k⟩, ⟨v3, by rw [upd_ne n3]; exact a3, pr_mono p3 fun _ _ h => h.mono k (Nat.le_refl _)⟩⟩
end
end My
namespace My
open PySem L2
theorem MachAt.new {cM cK : Addr} {M : MA} {H : Hp} {most deeds n : Nat} {W : List MI} {F L : List Val} (S : MachAt cM cK M H most deeds n W F L) {a : Addr} (h : H a = none) : ¬ M.has a := by
  obtain ⟨v1, a1, p1⟩ := S.ks
  obtain ⟨v2, a2, p2⟩ := S.fs
  obtain ⟨v3, a3, p3⟩ := S.ws
  rintro (rfl | rfl | rfl | rfl)
  · rw [S.ins] at h; cases h
  · rw [a1] at h; cases h
  · rw [a2] at h; cases h
  · rw [a3] at h; cases h
theorem EnvL.keep {cK : Addr} {A : Addr → Prop} {H : Hp} {e : Env} {kvs : List (Key × V)} : ∀ {ns : List Str}, (∀ x ∈ ns, ∃ v r, e.look x = some v ∧ valV kvs (.inr x) = some r ∧ KVm cK A H v r) → EnvL cK A H (e.keep ns) ns (ns.map fun x => (valV kvs (.inr x)).getD .non)
  | [], _ => ⟨rfl, rfl⟩
  | y :: r, h => by
    obtain ⟨v, rv, h1, h2, h3⟩ := h y List.mem_cons_self
    show EnvL cK A H (match e.look y with | some v => Env.cons y v (e.keep r) | none => e.keep r) _ _
    rw [h1]
    exact ⟨r, (valV kvs (.inr y)).getD .non, r.map fun x => (valV kvs (.inr x)).getD .non, rfl, rfl, by rw [h2]; exact h3, EnvL.keep fun x hx => h x (List.mem_cons_of_mem _ hx)⟩
theorem freeNames_fr {t : Tr} {x : Str} (h : x ∈ freeNames t) : t.fr x := (fl_iff t x).mp h
end My
namespace My
open PySem L2
theorem dd_len : ∀ (ys fs : List Str), (dd fs ys).length ≤ fs.length + ys.length
  | [], fs => by simp [dd]
  | y :: r, fs => by
    simp only [dd]
    have := dd_len r (if y ∈ fs then fs else fs ++ [y])
    split at this
    · rename_i h; rw [if_pos h]; rw [List.length_cons]; omega
    · rename_i h; rw [if_neg h]; rw [List.length_append, List.length_singleton] at this; rw [List.length_cons]; omega
theorem dd_nodup : ∀ (ys : List Str) {fs : List Str}, fs.Nodup → (dd fs ys).Nodup
  | [], fs, h => by simpa [dd] using h
  | y :: r, fs, h => by
    simp only [dd]
    refine dd_nodup r ?_
    split
    · exact h
    · rename_i hn
      rw [List.nodup_append]
      refine ⟨h, by simp, fun a ha b hb e => ?_⟩
      rw [List.mem_singleton.mp hb] at e
      exact hn (e ▸ ha)
theorem frees_len : ∀ (t : Tr) (b : Str → Nat), (frees b t).length ≤ t.size
  | .num _, b => by simp [frees, Tr.size]
  | .name y, b => by simp only [frees, Tr.size]; split <;> simp
  | .fn y t, b => by simp only [frees, Tr.size]; have := frees_len t (inc y b); omega
  | .call f a, b => by simp only [frees, Tr.size, List.length_append]; have := frees_len f b; have := frees_len a b; omega
  | .plus f a, b => by simp only [frees, Tr.size, List.length_append]; have := frees_len f b; have := frees_len a b; omega
  | .less f a, b => by simp only [frees, Tr.size, List.length_append]; have := frees_len f b; have := frees_len a b; omega
  | .ite c f a, b => by simp only [frees, Tr.size, List.length_append]; have := frees_len c b; have := frees_len f b; have := frees_len a b; omega
  | .lt y e t, b => by simp only [frees, Tr.size, List.length_append]; have := frees_len e b; have := frees_len t (inc y b); omega
theorem freeNames_len (t : Tr) : (freeNames t).length ≤ t.size := by
  unfold freeNames
  have h1 := dd_len (frees (fun _ => 0) t) []
  have h2 := frees_len t (fun _ => 0)
  simp only [List.length_nil] at h1
  omega
theorem freeNames_nodup (t : Tr) : (freeNames t).Nodup := dd_nodup _ List.nodup_nil
end My
namespace My
open PySem L2
theorem valV_merge : ∀ {kvs acc : List (Key × V)} {k : Key}, (kvs.map (·.1)).Nodup → valV (mergeK acc kvs) k = (valV kvs k).or (valV acc k)
  | [], acc, k, _ => rfl
  | p :: r, acc, k, h => by
    show valV (mergeK (putK acc p.1 p.2) r) k = _
    rw [List.map_cons, List.nodup_cons] at h
    rw [valV_merge h.2, valV_put]
    by_cases e : p.1 = k
    · rw [valV_pos e, if_pos e.symm]
      have : valV r k = none := by
        cases hv : valV r k with
        | none => rfl
        | some u =>
          have h1 := valV_any k r
          rw [hv] at h1
          obtain ⟨q, hq1, hq2⟩ := List.any_eq_true.mp h1
          exact absurd (List.mem_map.mpr ⟨q, hq1, (of_decide_eq_true hq2).trans e.symm⟩) h.1
      rw [this]
      rfl
    · rw [valV_neg e, if_neg (fun z => e z.symm)]
theorem EnvL.len {cK : Addr} {A : Addr → Prop} {H : Hp} : ∀ {e : Env} {ns : List Str} {hs : List V}, EnvL cK A H e ns hs → ns.length = hs.length
  | .nil, _, _, ⟨h1, h2⟩ => by rw [h1, h2]; rfl
  | .cons _ _ _, _, _, ⟨ns', h, hs', e1, e2, _, h2⟩ => by rw [e1, e2, List.length_cons, List.length_cons, EnvL.len h2]
theorem EnvL.look {cK : Addr} {A : Addr → Prop} {H : Hp} {x : Str} {v : Val} : ∀ {e : Env} {ns : List Str} {hs : List V}, EnvL cK A H e ns hs → e.look x = some v → ∃ r, valV ((ns.map Sum.inr).zip hs : List (Key × V)) (.inr x) = some r ∧ KVm cK A H v r
  | .nil, _, _, _, h => by cases h
  | .cons y u e, _, _, ⟨ns', r, hs', e1, e2, h1, h2⟩, h => by
    subst e1 e2
    have h : (if x = y then some u else e.look x) = some v := h
    by_cases hx : x = y
    · subst hx
      rw [if_pos rfl] at h
      cases h
      exact ⟨r, valV_pos rfl, h1⟩
    · rw [if_neg hx] at h
      obtain ⟨r', h3, h4⟩ := EnvL.look h2 h
      exact ⟨r', by rw [← h3]; exact valV_neg fun z => hx (Sum.inr.inj z).symm, h4⟩
theorem EnvL.dict {cK : Addr} {A : Addr → Prop} {H : Hp} {e : Env} {ns : List Str} {hs : List V} (h : EnvL cK A H e ns hs) (hn : ns.Nodup) {x : Str} {v : Val} (hv : e.look x = some v) :
    ∃ r, valV (mergeK [] ((ns.map Sum.inr).zip hs : List (Key × V))) (.inr x) = some r ∧ KVm cK A H v r := by
  obtain ⟨r, h1, h2⟩ := h.look hv
  refine ⟨r, ?_, h2⟩
  rw [valV_merge, h1]
  · rfl
  · rw [List.map_fst_zip (by rw [List.length_map, h.len]; exact Nat.le_refl _)]
    exact List.Pairwise.map _ (fun a b h e => h (Sum.inr.inj e)) hn
end My
namespace My
open PySem L2
theorem DoR.mono {cM cK : Addr} {E : Ers} {M : MA} {H H1 : Hp} {most deeds n : Nat} {W : List MI} {F L : List Val} {d : Do} {Q : VK} {X : XK} (k : Kp M.has H H1) (h : DoR cM cK E M H most deeds n W F L d Q X) : DoR cM cK E M H1 most deeds n W F L d Q X := by
  cases d with
  | err c => exact fun H' k' => h H' (k.trans k')
  | val u => exact fun H' k' => h H' (k.trans k')
  | look e b => exact fun H' k' => h H' (k.trans k')
end My

namespace My
open PySem L2
section
variable {t0 : Tr} {most m : Nat} {R : Rv} {W : List MI} {F L : List Val} {e : Env} {t : Tr}
theorem wtM_append (V W : List MI) : wtM (V ++ W) = wtM V + wtM W := by simp [wtM]
theorem wtM_reverse (W : List MI) : wtM W.reverse = wtM W := by simp [wtM, List.map_reverse, List.sum_reverse]
theorem MInv.lookR (h : MInv t0 most R (⟨t, e, false⟩ :: W.reverse) F m L) : MInv t0 most R (lookR t e W F L).1.reverse (lookR t e W F L).2.1 m (lookR t e W F L).2.2 ∧ wtM (lookR t e W F L).1 < wtM (W ++ [⟨t, e, false⟩]) := by
  have hw : wtM (W ++ [⟨t, e, false⟩]) = wtM W + 3 * t.size := by rw [wtM_append]; rfl
  have hp := t.size_pos
  have h2 : ∀ {a b : Tr}, (t = .plus a b ∨ t = .less a b ∨ t = .call a b) → MInv t0 most R (W ++ [(⟨t, e, true⟩ : MI), ⟨b, e, false⟩, ⟨a, e, false⟩]).reverse F m L ∧ wtM (W ++ [⟨t, e, true⟩, ⟨b, e, false⟩, ⟨a, e, false⟩]) < wtM W + 3 * t.size := by
    intro a b ht
    refine ⟨by simpa using h.look2 ht, ?_⟩
    rw [wtM_append]
    have e1 : wtM [(⟨t, e, true⟩ : MI), ⟨b, e, false⟩, ⟨a, e, false⟩] = 1 + (3 * b.size + (3 * a.size + 0)) := rfl
    have e5 : t.size = 1 + a.size + b.size := by rcases ht with rfl | rfl | rfl <;> rfl
    omega
  have h1 : ∀ {a : Tr}, ((∃ b c, t = .ite a b c) ∨ ∃ x b, t = .lt x a b) → MInv t0 most R (W ++ [(⟨t, e, true⟩ : MI), ⟨a, e, false⟩]).reverse F m L ∧ wtM (W ++ [⟨t, e, true⟩, ⟨a, e, false⟩]) < wtM W + 3 * t.size := by
    intro a ht
    refine ⟨by simpa using h.look1 ht, ?_⟩
    rw [wtM_append]
    have e1 : wtM [(⟨t, e, true⟩ : MI), ⟨a, e, false⟩] = 1 + (3 * a.size + 0) := rfl
    have e5 : 1 + a.size ≤ t.size := by rcases ht with ⟨b, c, rfl⟩ | ⟨x, b, rfl⟩ <;> simp only [Tr.size] <;> omega
    omega
  rw [hw]
  cases t with
  | num n => exact ⟨h.num, by show wtM W < _; omega⟩
  | name x =>
    obtain ⟨v, hv⟩ := h.there
    refine ⟨?_, by show wtM W < _; omega⟩
    show MInv t0 most R W.reverse (F ++ [(e.look x).getD (.num 0)]) m L
    rw [hv]
    exact h.look hv
  | fn x b => exact ⟨h.keep, by show wtM W < _; omega⟩
  | call a b => exact h2 (.inr (.inr rfl))
  | plus a b => exact h2 (.inl rfl)
  | less a b => exact h2 (.inr (.inl rfl))
  | ite c a b => exact h1 (.inl ⟨_, _, rfl⟩)
  | lt x a b => exact h1 (.inr ⟨_, _, rfl⟩)
/-- what a deed is, and what it leaves -/
theorem MInv.deed (h : MInv t0 most R (⟨t, e, true⟩ :: W) F (m + 1) L) : ∃ (F' : List Val) (a : Do), ((t.two = true ∧ ∃ v w, F = F' ++ [v] ++ [w] ∧ a = do2 t v w) ∨ (t.one = true ∧ ∃ w, F = F' ++ [w] ∧ a = do1 t e w)) ∧
    match a with
    | .err c => R = .err c
    | .val u => MInv t0 most R W (F' ++ [u]) m L
    | .look e' b => MInv t0 most R (⟨b, e', false⟩ :: W) F' m L := by
  have hn := h.need
  rcases hn with ⟨h2, _, _⟩ | ⟨h1, _, _⟩
  · obtain ⟨F', v, w, rfl, hn⟩ := h.split2 h2
    refine ⟨F', do2 t v w, .inl ⟨h2, v, w, rfl, rfl⟩, ?_⟩
    cases t with
    | plus a b =>
      cases v with
      | num x =>
        cases w with
        | num y => exact h.plus hn
        | fn _ _ _ => exact h.bad2 rfl rfl
      | fn _ _ _ => exact h.bad2 rfl (by cases w <;> rfl)
    | less a b =>
      cases v with
      | num x =>
        cases w with
        | num y => exact h.less hn
        | fn _ _ _ => exact h.bad2 rfl rfl
      | fn _ _ _ => exact h.bad2 rfl (by cases w <;> rfl)
    | call a b =>
      cases v with
      | num x => exact h.bad2 rfl rfl
      | fn x c e' => exact h.call hn
    | num _ => exact absurd h2 Bool.false_ne_true
    | name _ => exact absurd h2 Bool.false_ne_true
    | fn _ _ => exact absurd h2 Bool.false_ne_true
    | ite _ _ _ => exact absurd h2 Bool.false_ne_true
    | lt _ _ _ => exact absurd h2 Bool.false_ne_true
  · obtain ⟨F', w, rfl, hn⟩ := h.split1 h1
    refine ⟨F', do1 t e w, .inr ⟨h1, w, rfl, rfl⟩, ?_⟩
    cases t with
    | ite c a b =>
      cases w with
      | num n => exact h.ite hn
      | fn _ _ _ => exact h.bad1 rfl rfl
    | lt x a b =>
      have h3 := h.lt hn
      cases w <;> exact h3
    | num _ => exact absurd h1 Bool.false_ne_true
    | name _ => exact absurd h1 Bool.false_ne_true
    | fn _ _ => exact absurd h1 Bool.false_ne_true
    | call _ _ => exact absurd h1 Bool.false_ne_true
    | plus _ _ => exact absurd h1 Bool.false_ne_true
    | less _ _ => exact absurd h1 Bool.false_ne_true
theorem MInv.lens (h : MInv t0 most R W F m L) (hm : most ≤ 1000) : W.length ≤ 1300000 ∧ F.length ≤ 1300000 ∧ L.length ≤ 1300000 ∧ wtM W ≤ 1300000 := by
  have h1 := h.wt
  have h2 := len_wtM W
  omega
theorem MInv.fsz (h : MInv t0 most R W F m L) : ∀ v ∈ F, v.ok ∧ ∀ x b e, v = .fn x b e → (Tr.fn x b).size ≤ 400 := fun v hv => by
  have h1 := h.found v hv
  refine ⟨h1.ok, fun x b e ev => ?_⟩
  subst ev
  have := h1.all.1.size
  have := h.small
  omega
end
/-- a loop whose test is known -/
theorem whileF_ {c : TT} {tb : TS} {D : Ends} {σ : L2.St} {H : Hp} (W : Nat → L2.St → Hp → Prop) (m : Nat) (w0 : W m σ H)
    (h : ∀ m σ H, W m σ H → ∃ b : Bool, (∀ Q : Bool → Hp → Prop, Q b H → c σ H Q) ∧ (b = false → D.nx σ H) ∧ (b = true → ∀ N : L2.St → Hp → Prop, (∀ m' σ' H', m' < m → W m' σ' H' → N σ' H') → tb { D with nx := N, ct := N, bk := D.nx } σ H)) :
    tWhile c tb D σ H := by
  refine ⟨W, ⟨m, w0⟩, fun m σ H w => ?_⟩
  obtain ⟨b, h1, h2, h3⟩ := h m σ H w
  refine h1 _ ?_
  cases b with
  | false => exact h2 rfl
  | true => exact ⟨fun σ' H' => ∃ m', m' < m ∧ W m' σ' H', fun _ _ n => n, h3 rfl _ fun m' _ _ l w' => ⟨m', l, w'⟩⟩
theorem truL {K : PySem.W.Frag} {H : Hp} {l : Addr} {xs : List V} (h : H l = some (.lst xs)) : TruV K (.ref l) H (!xs.isEmpty) := .inl ⟨xs, SqL.of h, rfl⟩
end My
namespace My
open PySem L2
/-- a count of deeds that is none -/
def BadM (H : Hp) (v : V) : Prop := ∃ n, zTyV v H = some n ∧ (n ≠ "int" ∨ ∃ i, v = .int i ∧ (i < 0 ∨ 1000 < i))
def spStart (E : Ers) : Sp := fun vs H Q X => ∃ (tv mv : V), vs = [tv, mv] ∧ ((∃ n b, Wks H [tv] n b ∧ (400 < n ∨ b = true) ∧ ∀ H', Same H H' → X (.ref E.tree) none H') ∨
  ∃ t, At H t tv ∧ Good t ∧ t.size ≤ 400 ∧ ((¬ t.closed ∧ ∀ H', Same H H' → X (.ref E.closed) none H') ∨ (t.closed ∧ BadM H mv ∧ ∀ H', Same H H' → X (.ref E.most) none H') ∨ (t.closed ∧ (∃ m : Nat, mv = .int m ∧ m ≤ 1000) ∧ ∀ H', Same H H' → Q .non H')))
theorem closed_nil {t : Tr} : t.closed ↔ freeNames t = [] := by
  constructor
  · intro h
    cases e : freeNames t with
    | nil => rfl
    | cons x r => exact absurd (freeNames_fr (t := t) (x := x) (by rw [e]; exact List.mem_cons_self)) (h x)
  · intro h x hx
    have := fl_mem t x hx
    rw [h] at this
    cases this
def spMade (E : Ers) (cK : Addr) : Sp := fun vs H Q X => ∃ (v : V) (t : Tr) (m : Nat), vs = [v, .int m] ∧ OkIn H t v m ∧
  match evF m .nil t with
  | .ok _ _ L => ∀ (l : Addr) (rs : List V) (H' : Hp), Same H H' → H' l = some (.lst rs) → Paired (KVm cK (fun _ => False) H') L rs → Q (.ref l) H'
  | .err c => ∀ H', Same H H' → X (.ref (E.cls c)) none H'
  | .dry => ∀ H', Same H H' → X (.ref E.dry) none H'
mutual
theorem KVm.weak {cK : Addr} {A : Addr → Prop} {H : Hp} : ∀ {v : Val} {r : V}, KVm cK A H v r → KVm cK (fun _ => False) H v r
  | .num _, _, h => h
  | .fn _ _ _, _, ⟨a, dx, ln, lh, tb, ns, hs, e, n1, n2, n3, h1, h2, h3, h4, h5, h6⟩ => ⟨a, dx, ln, lh, tb, ns, hs, e, fun z => z, fun z => z, fun z => z, h1, h2, h3, h4, h5, EnvL.weak h6⟩
theorem EnvL.weak {cK : Addr} {A : Addr → Prop} {H : Hp} : ∀ {e : Env} {ns : List Str} {hs : List V}, EnvL cK A H e ns hs → EnvL cK (fun _ => False) H e ns hs
  | .nil, _, _, h => h
  | .cons _ _ _, _, _, ⟨ns', h, hs', e1, e2, h1, h2⟩ => ⟨ns', h, hs', e1, e2, KVm.weak h1, EnvL.weak h2⟩
end
end My
namespace My
open PySem L2
structure STxt (K : PySem.W.Frag) (mg : Str → Option Value) (E : Ers) : Prop extends Bt mg where
  MOST_DEEDS : GInt mg "MOST_DEEDS" 1000
  NotClosed : ErrC K mg "NotClosed" E.closed
  BadMost : ErrC K mg "BadMost" E.most
theorem MTxt.st {K : PySem.W.Frag} {w : World} {mg : Str → Option Value} {E : Ers} {aA cM cK : Addr} (T : MTxt K w mg E aA cM cK) : STxt K mg E := { toBt := T.toBt, MOST_DEEDS := T.MOST_DEEDS, NotClosed := T.NotClosed, BadMost := T.BadMost }
end My
namespace My
open PySem L2
theorem mach_new {cM cK : Addr} {H H1 H3 : Hp} {x dx lk lf lw : Addr} {m : Nat} (e1 : Same H H1) (hx : H1 x = none) (hdx : H1 dx = none) (hne : dx ≠ x) (hk : upd (upd H1 dx (.own x)) x (.ins cM dx []) lk = none) (hf : upd (upd H1 dx (.own x)) x (.ins cM dx []) lf = none)
    (hw : upd (upd H1 dx (.own x)) x (.ins cM dx []) lw = none) (nkf : lk ≠ lf) (nkw : lk ≠ lw) (nfw : lf ≠ lw) (kp : ∀ b o, b ≠ x → upd (upd H1 dx (.own x)) x (.ins cM dx []) b = some o → H3 b = some o) (hins : H3 x = some (.ins cM dx (machF ⟨x, dx, lk, lf, lw⟩ m 0)))
    (h1 : H3 lk = some (.lst [])) (h2 : H3 lf = some (.lst [])) (h3 : H3 lw = some (.lst [])) : MachAt cM cK ⟨x, dx, lk, lf, lw⟩ H3 m 0 500 [] [] [] ∧ Same H H3 ∧ ∀ a, MA.has ⟨x, dx, lk, lf, lw⟩ a → H a = none := by
  have e12 : Same H1 (upd (upd H1 dx (.own x)) x (.ins cM dx [])) := (same_new hdx).trans (same_new (by rw [upd_ne hne.symm]; exact hx))
  refine ⟨⟨hins, kp dx _ hne (by rw [upd_ne hne, upd_same]), nkf, nkw, nfw, ⟨[], h1, .nil⟩, ⟨[], h2, .nil⟩, ⟨[], h3, .nil⟩⟩, fun b o hb => ?_, ?_⟩
  · have hb1 := e1 _ _ hb
    exact kp b o (ne_of_none hb1 hx) (e12 _ _ hb1)
  · rintro a (rfl | rfl | rfl | rfl)
    · exact e1.free hx
    · exact (e1.trans e12).free hk
    · exact (e1.trans e12).free hf
    · exact (e1.trans e12).free hw
end My
namespace My
open PySem L2
theorem typ_ {v : V} {H : Hp} {n : String} {Q : VK} (h : zTyV v H = some n) (q : Q (.ty n) H) : r1 kTyp [v] H Q := ⟨n, h, q⟩
end My

namespace My
open PySem L2
/-! ### where a name stands first (as in k01) -/
theorem forRC {lo c : Int} {n : Nat} {g : TG} {tb : TS} {D : Ends} {σ : L2.St} {H : Hp} (Pv : Nat → L2.St → Hp → Prop) (h0 : Pv 0 σ H)
    (hs : ∀ i σ H, i < n → Pv i σ H → ∀ N : L2.St → Hp → Prop, (∀ σ' H', Pv (i + 1) σ' H' → N σ' H') → g (.int (lo + i * c)) σ H fun σ2 H2 => tb { D with nx := N, ct := N, bk := D.nx } σ2 H2) (hd : ∀ σ H, Pv n σ H → D.nx σ H) : ForGo (Itc lo c n) g tb D σ H :=
  for_rangeC Pv h0 (fun i σ H hi p => hs i σ H hi p _ fun _ _ z => z) hd
theorem atL2 (x y z : V) : atI [x, y, z] (-1) = some z := atI_last [x, y] z
theorem atL3 (x y z u : V) : atI [x, y, z, u] (-1) = some u := atI_last [x, y, z] u
theorem at_last {α : Type} {f : α → V} {x : α} {xs : List α} : atI ((xs ++ [x]).map f) (-1) = some (f x) := by
  rw [List.map_append]
  exact atI_last _ _
/-- the parts of a node, each with whether x is bound there -/
def kidFlags (x : Str) (b : Bool) : Tr → List (Tr × Bool)
  | .fn y t => [(t, b || y == x)]
  | .lt y e t => [(e, b), (t, b || y == x)]
  | t => t.kids.map fun k => (k, b)
/-- for each node, in the order of reading: does x stand free here -/
def occ (x : Str) : Bool → Tr → List Bool
  | _, .num _ => [false]
  | b, .name y => [y == x && !b]
  | b, .fn y t => false :: occ x (b || y == x) t
  | b, .call f a => false :: (occ x b f ++ occ x b a)
  | b, .plus f a => false :: (occ x b f ++ occ x b a)
  | b, .less f a => false :: (occ x b f ++ occ x b a)
  | b, .ite c f a => false :: (occ x b c ++ (occ x b f ++ occ x b a))
  | b, .lt y e t => false :: (occ x b e ++ occ x (b || y == x) t)
def here (x : Str) (b : Bool) : Tr → Bool
  | .name y => y == x && !b
  | _ => false
def occs (x : Str) (ks : List (Tr × Bool)) : List Bool := ks.flatMap fun p => occ x p.2 p.1
theorem occ_eq (x : Str) (b : Bool) (t : Tr) : occ x b t = here x b t :: occs x (kidFlags x b t) := by
  cases t <;> simp [occ, here, occs, kidFlags, Tr.kids]
def firstT : List Bool → Int → Int
  | [], _ => -1
  | true :: _, k => k
  | false :: r, k => firstT r (k + 1)
def whereT (x : Str) (t : Tr) : Int := firstT (occ x false t) 0
theorem kf_len (x : Str) (b : Bool) (t : Tr) : (kidFlags x b t).map (·.1) = t.kids := by
  cases t <;> simp [kidFlags, Tr.kids]
def spWhere : Sp := fun vs H Q _ => ∃ (t : Tr) (x : Str) (v : V), vs = [v, .str x] ∧ At H t v ∧ t.size ≤ 100000 ∧ ∀ H', Same H H' → Q (.int (whereT x t)) H'
/-- a pair of a tree and a truth -/
def At2 (H : Hp) (p : Tr × Bool) (v : V) : Prop := ∃ a u, v = .ref a ∧ H a = some (.tup [u, .bl p.2]) ∧ At H p.1 u
theorem At2.mono {H H' : Hp} (k : KT H H') {p : Tr × Bool} {v : V} : At2 H p v → At2 H' p v := fun ⟨a, u, e, h, h1⟩ => ⟨a, u, e, k _ _ h, h1.mono k⟩
def szs (ks : List (Tr × Bool)) : Nat := sizes (ks.map (·.1))
theorem szs_append (a b : List (Tr × Bool)) : szs (a ++ b) = szs a + szs b := by simp [szs, sizes]
theorem szs_reverse (a : List (Tr × Bool)) : szs a.reverse = szs a := by simp [szs, sizes, List.sum_reverse]
theorem le_szs (a : List (Tr × Bool)) : a.length ≤ szs a := by
  have := le_sizes (a.map (·.1))
  rwa [List.length_map] at this
def pre (b : Str → Nat) : Tr → List (Option Str)
  | .num _ => [none]
  | .name y => [if b y = 0 then some y else none]
  | .fn x t => none :: pre (inc x b) t
  | .call f a => none :: (pre b f ++ pre b a)
  | .plus f a => none :: (pre b f ++ pre b a)
  | .less f a => none :: (pre b f ++ pre b a)
  | .ite c f a => none :: (pre b c ++ (pre b f ++ pre b a))
  | .lt x e t => none :: (pre b e ++ pre (inc x b) t)
theorem frees_pre : ∀ (t : Tr) (b : Str → Nat), frees b t = (pre b t).filterMap id
  | .num _, _ => rfl
  | .name y, b => by by_cases h : b y = 0 <;> simp [frees, pre, h]
  | .fn x t, b => by simp [frees, pre, frees_pre t]
  | .call f a, b => by simp [frees, pre, frees_pre f, frees_pre a]
  | .plus f a, b => by simp [frees, pre, frees_pre f, frees_pre a]
  | .less f a, b => by simp [frees, pre, frees_pre f, frees_pre a]
  | .ite c f a, b => by simp [frees, pre, frees_pre c, frees_pre f, frees_pre a]
  | .lt x e t, b => by simp [frees, pre, frees_pre e, frees_pre t]
theorem inc_flag (x y : Str) (b : Str → Nat) : decide (inc y b x ≠ 0) = (decide (b x ≠ 0) || y == x) := by
  unfold inc
  by_cases h : x = y
  · subst h; simp
  · have : ¬ y = x := fun e => h e.symm
    simp [h, this]
theorem occ_pre (x : Str) : ∀ (t : Tr) (b : Str → Nat), occ x (decide (b x ≠ 0)) t = (pre b t).map fun o => decide (o = some x)
  | .num _, _ => by simp [occ, pre]
  | .name y, b => by
    by_cases h : b y = 0 <;> by_cases hy : y = x
    · subst hy; simp [occ, pre, h]
    · simp [occ, pre, h, hy]
    · subst hy; simp [occ, pre, h]
    · simp [occ, pre, h, hy]
  | .fn y t, b => by simp only [occ, pre, List.map_cons, ← inc_flag, occ_pre x t]; simp
  | .call f a, b => by simp only [occ, pre, List.map_cons, List.map_append, occ_pre x f, occ_pre x a]; simp
  | .plus f a, b => by simp only [occ, pre, List.map_cons, List.map_append, occ_pre x f, occ_pre x a]; simp
  | .less f a, b => by simp only [occ, pre, List.map_cons, List.map_append, occ_pre x f, occ_pre x a]; simp
  | .ite c f a, b => by simp only [occ, pre, List.map_cons, List.map_append, occ_pre x c, occ_pre x f, occ_pre x a]; simp
  | .lt y e t, b => by simp only [occ, pre, List.map_cons, List.map_append, ← inc_flag, occ_pre x e, occ_pre x t]; simp
/-- where a free name stands first -/
def wh (P : List (Option Str)) (x : Str) : Int := firstT (P.map fun o => decide (o = some x)) 0
theorem whereT_pre (x : Str) (t : Tr) : whereT x t = wh (pre (fun _ => 0) t) x := by
  unfold whereT wh
  rw [← occ_pre]
  rfl
theorem firstT_at : ∀ (A B : List Bool) (k : Int), (∀ a ∈ A, a = false) → firstT (A ++ true :: B) k = k + A.length
  | [], _, k, _ => by simp [firstT]
  | a :: A, B, k, h => by
    have e : a = false := h a (List.mem_cons_self)
    subst e
    show firstT (A ++ true :: B) (k + 1) = _
    rw [firstT_at A B (k + 1) fun a ha => h a (List.mem_cons_of_mem _ ha), List.length_cons]
    omega
theorem firstT_none : ∀ (A : List Bool) (k : Int), (∀ a ∈ A, a = false) → firstT A k = -1
  | [], _, _ => rfl
  | a :: A, k, h => by
    have e : a = false := h a (List.mem_cons_self)
    subst e
    exact firstT_none A (k + 1) fun a ha => h a (List.mem_cons_of_mem _ ha)
theorem wh_at {A B : List (Option Str)} {x : Str} (h : some x ∉ A) : wh (A ++ some x :: B) x = A.length := by
  unfold wh
  rw [List.map_append, List.map_cons, decide_eq_true rfl, firstT_at _ _ _ (fun a ha => ?_), List.length_map]
  · omega
  · obtain ⟨o, ho, rfl⟩ := List.mem_map.mp ha
    exact decide_eq_false fun e => h (e ▸ ho)
theorem wh_none {P : List (Option Str)} {x : Str} (h : some x ∉ P) : wh P x = -1 := by
  unfold wh
  refine firstT_none _ _ fun a ha => ?_
  obtain ⟨o, ho, rfl⟩ := List.mem_map.mp ha
  exact decide_eq_false fun e => h (e ▸ ho)
theorem wh_mem {P : List (Option Str)} {x : Str} (h : some x ∈ P) : ∃ A B, P = A ++ some x :: B ∧ some x ∉ A ∧ wh P x = A.length := by
  obtain ⟨A, B, e, hA⟩ := List.eq_append_cons_of_mem h
  exact ⟨A, B, e, hA, by rw [e]; exact wh_at hA⟩
theorem wh_inj {P : List (Option Str)} {x y : Str} (hx : some x ∈ P) (hy : some y ∈ P) (h : wh P x = wh P y) : x = y := by
  obtain ⟨A, B, e, _, h1⟩ := wh_mem hx
  obtain ⟨A', B', e', _, h2⟩ := wh_mem hy
  have hl : A.length = A'.length := by omega
  rw [e] at e'
  obtain ⟨_, e2⟩ := List.append_inj e' hl
  have := (List.cons.inj e2).1
  exact Option.some.inj this
/-- each once, by where it stands first -/
structure DdOk (P A : List (Option Str)) (fs : List Str) : Prop where
  mem : ∀ x, x ∈ fs ↔ some x ∈ A
  pw : fs.Pairwise fun x y => wh P x < wh P y
theorem dd_ok (P : List (Option Str)) : ∀ (B A : List (Option Str)) (fs : List Str), P = A ++ B → DdOk P A fs → DdOk P P (dd fs (B.filterMap id))
  | [], A, fs, e, h => by
    have e2 : P = A := by rw [e, List.append_nil]
    show DdOk P P fs
    rw [← e2] at h
    exact h
  | none :: B, A, fs, e, h => by
    refine dd_ok P B (A ++ [none]) fs (by rw [e]; simp) ⟨fun x => ?_, h.pw⟩
    rw [h.mem x]; simp
  | some x :: B, A, fs, e, h => by
    show DdOk P P (dd (if x ∈ fs then fs else fs ++ [x]) (B.filterMap id))
    refine dd_ok P B (A ++ [some x]) _ (by rw [e]; simp) ?_
    by_cases hx : x ∈ fs
    · rw [if_pos hx]
      refine ⟨fun y => ?_, h.pw⟩
      rw [h.mem y]
      constructor
      · intro hy; simp [hy]
      · intro hy
        rcases List.mem_append.mp hy with hy | hy
        · exact hy
        · have : y = x := Option.some.inj (List.mem_singleton.mp hy)
          subst this
          exact (h.mem y).mp hx
    · rw [if_neg hx]
      refine ⟨fun y => ?_, ?_⟩
      · rw [List.mem_append, h.mem y, List.mem_append, List.mem_singleton, List.mem_singleton]
        simp
      · rw [List.pairwise_append]
        refine ⟨h.pw, by simp, fun y hy z hz => ?_⟩
        have hz : z = x := List.mem_singleton.mp hz
        subst hz
        have h1 : wh P z = A.length := by rw [e]; exact wh_at fun q => hx ((h.mem z).mpr q)
        obtain ⟨A1, B1, e1, h2, h3⟩ := wh_mem ((h.mem y).mp hy)
        have h4 : wh P y = A1.length := by
          rw [e, e1, List.append_assoc]
          exact wh_at h2
        have : A1.length < A.length := by rw [e1]; simp
        omega
theorem freeNames_ok (t : Tr) : DdOk (pre (fun _ => 0) t) (pre (fun _ => 0) t) (freeNames t) := by
  unfold freeNames
  rw [frees_pre]
  exact dd_ok _ _ [] [] rfl ⟨fun x => by simp, .nil⟩
/-- what the law asks: the rows of the names, sorted by where, without those that stand nowhere -/
theorem due_eq {t : Tr} {names : List Str} (hn : names.Nodup) (hm : ∀ x, some x ∈ pre (fun _ => 0) t → x ∈ names) {cs : List (Int × Str)} (hp : cs.Perm (names.map fun x => (whereT x t, x))) (hs : cs.Pairwise fun b c => b.1 ≤ c.1) :
    (cs.filter fun c => decide (0 ≤ c.1)).map (·.2) = freeNames t := by
  generalize hP : pre (fun _ => 0) t = P at hm
  have F := freeNames_ok t
  rw [hP] at F
  have hw : ∀ x, whereT x t = wh P x := fun x => by rw [whereT_pre, hP]
  have hrow : ∀ c ∈ cs, c.1 = wh P c.2 ∧ c.2 ∈ names := by
    intro c hc
    obtain ⟨x, hx, rfl⟩ := List.mem_map.mp ((hp.mem_iff).mp hc)
    exact ⟨hw x, hx⟩
  have hpos : ∀ x, 0 ≤ wh P x ↔ some x ∈ P := by
    intro x
    by_cases h : some x ∈ P
    · obtain ⟨A, B, _, _, h1⟩ := wh_mem h
      simp only [h, iff_true]
      omega
    · rw [wh_none h]
      simp [h]
  have hnd : (cs.map (·.2)).Nodup := by
    have h1 : (cs.map (·.2)).Perm names := by
      have := hp.map (·.2)
      rw [List.map_map] at this
      simpa [Function.comp_def] using this
    exact h1.nodup_iff.mpr hn
  have hlist : ((cs.filter fun c => decide (0 ≤ c.1)).map (·.2)).Pairwise fun x y => wh P x < wh P y := by
    rw [List.pairwise_map]
    have h2 : (cs.filter fun c => decide (0 ≤ c.1)).Pairwise fun b c => b.1 ≤ c.1 ∧ b.2 ≠ c.2 := by
      refine List.Pairwise.filter _ ?_
      rw [List.Nodup, List.pairwise_map] at hnd
      exact hs.and hnd
    refine List.Pairwise.imp_of_mem ?_ h2
    rintro b c hb hc ⟨h3, h4⟩
    obtain ⟨hb1, hb2⟩ := List.mem_filter.mp hb
    obtain ⟨hc1, hc2⟩ := List.mem_filter.mp hc
    have e1 := (hrow b hb1).1
    have e2 := (hrow c hc1).1
    have p1 : some b.2 ∈ P := (hpos b.2).mp (by rw [← e1]; exact of_decide_eq_true hb2)
    have p2 : some c.2 ∈ P := (hpos c.2).mp (by rw [← e2]; exact of_decide_eq_true hc2)
    have : wh P b.2 ≠ wh P c.2 := fun e => h4 (wh_inj p1 p2 e)
    omega
  refine List.Perm.eq_of_pairwise (le := fun x y => wh P x < wh P y) (fun a b _ _ h1 h2 => by omega) hlist F.pw ?_
  have nd1 : ((cs.filter fun c => decide (0 ≤ c.1)).map (·.2)).Nodup := hlist.imp fun h e => by subst e; omega
  have nd2 : (freeNames t).Nodup := F.pw.imp fun h e => by subst e; omega
  rw [List.perm_ext_iff_of_nodup nd1 nd2]
  intro x
  rw [F.mem x]
  constructor
  · intro h
    obtain ⟨c, hc, rfl⟩ := List.mem_map.mp h
    obtain ⟨hc1, hc2⟩ := List.mem_filter.mp hc
    exact (hpos c.2).mp (by rw [← (hrow c hc1).1]; exact of_decide_eq_true hc2)
  · intro h
    have : (whereT x t, x) ∈ cs := hp.mem_iff.mpr (List.mem_map.mpr ⟨x, hm x h, rfl⟩)
    refine List.mem_map.mpr ⟨_, List.mem_filter.mpr ⟨this, decide_eq_true ?_⟩, rfl⟩
    show 0 ≤ whereT x t
    rw [hw]
    exact (hpos x).mpr h
theorem pre_all {S : Str → Prop} {N : Int → Prop} : ∀ {t : Tr} (b : Str → Nat), t.all S N → ∀ x, some x ∈ pre b t → S x
  | .num _, _, _, x, h => by simp [pre] at h
  | .name y, b, ha, x, h => by
    by_cases hb : b y = 0
    · simp [pre, hb] at h; subst h; exact ha
    · simp [pre, hb] at h
  | .fn y t, b, ha, x, h => by simp only [pre, List.mem_cons, reduceCtorEq, false_or] at h; exact pre_all _ ha.2 x h
  | .call f a, b, ha, x, h => by
    simp only [pre, List.mem_cons, List.mem_append, reduceCtorEq, false_or] at h
    rcases h with h | h
    · exact pre_all _ ha.1 x h
    · exact pre_all _ ha.2 x h
  | .plus f a, b, ha, x, h => by
    simp only [pre, List.mem_cons, List.mem_append, reduceCtorEq, false_or] at h
    rcases h with h | h
    · exact pre_all _ ha.1 x h
    · exact pre_all _ ha.2 x h
  | .less f a, b, ha, x, h => by
    simp only [pre, List.mem_cons, List.mem_append, reduceCtorEq, false_or] at h
    rcases h with h | h
    · exact pre_all _ ha.1 x h
    · exact pre_all _ ha.2 x h
  | .ite c f a, b, ha, x, h => by
    simp only [pre, List.mem_cons, List.mem_append, reduceCtorEq, false_or] at h
    rcases h with h | h | h
    · exact pre_all _ ha.1 x h
    · exact pre_all _ ha.2.1 x h
    · exact pre_all _ ha.2.2 x h
  | .lt y e t, b, ha, x, h => by
    simp only [pre, List.mem_cons, List.mem_append, reduceCtorEq, false_or] at h
    rcases h with h | h
    · exact pre_all _ ha.2.1 x h
    · exact pre_all _ ha.2.2 x h
/-! ### the names stand apart -/
def cellN (first : Int) (k : Nat) : Int := first - first % 26 + (first + 7 * (k : Int)) % 26
theorem cellN_26 (first : Int) (k : Nat) : cellN first k / 26 = first / 26 ∧ cellN first k / 208 = first / 208 ∧ cellN first k % 26 = (first + 7 * (k : Int)) % 26 := by
  unfold cellN
  omega
theorem nameBy_k (m first : Int) (k : Nat) : nameBy m (cellN first k) = wordOf (othersOf m first) (first / 208 % ((othersOf m first).length + 1 : Int)).toNat (lett (cellN first k)) := by
  obtain ⟨h1, h2, h3⟩ := cellN_26 first k
  have e : othersOf m (cellN first k) = othersOf m first := by unfold othersOf; rw [h1, h2]
  unfold nameBy
  rw [e, h2]
theorem names1_nodup (m first : Int) {many : Nat} (hm : many ≤ 26) : ((List.range many).map fun k => mkS (nameBy m (cellN first k))).Nodup := by
  rw [List.Nodup, List.pairwise_map]
  refine List.Pairwise.imp_of_mem ?_ List.pairwise_lt_range
  intro i j hi hj hij e
  have hi := List.mem_range.mp hi
  have hj := List.mem_range.mp hj
  have e1 := mkS_inj e
  rw [nameBy_k, nameBy_k] at e1
  have e2 := wordOf_inj e1
  have h3 := (cellN_26 first i).2.2
  have h4 := (cellN_26 first j).2.2
  unfold lett at e2
  rw [h3, h4] at e2
  have := Int.emod_nonneg (first + 7 * (i : Int)) (by decide : (26 : Int) ≠ 0)
  have := Int.emod_nonneg (first + 7 * (j : Int)) (by decide : (26 : Int) ≠ 0)
  omega
theorem kinWord_mod (c : Int) : kinWord c = kinWord (((c % 26).toNat : Nat) : Int) := by
  unfold kinWord
  refine List.map_congr_left fun k _ => ?_
  unfold lett
  have : (c + 3 * (k : Int)) % 26 = ((((c % 26).toNat : Nat) : Int) + 3 * (k : Int)) % 26 := by omega
  rw [this]
theorem kinA6 : ∀ r : Nat, r < 26 → ((List.range 6).map fun k => (kinWord (r : Int)).take (k + 1)).Nodup := by decide +kernel
theorem kinA : ∀ r : Nat, r < 26 → ((List.range 4).map fun k => (kinWord (r : Int)).take (k + 1)).Nodup := by decide +kernel
theorem kinB : ∀ r : Nat, r < 26 → (kinTurned (r : Int) ++ (kinTurned (r : Int)).map List.reverse).Nodup := by decide +kernel
theorem kinBy_nodup (c : Int) {many : Nat} (hm : many = 4 ∨ many = 12 ∨ many = 6) : (kinBy c many).Nodup := by
  have h0 : 0 ≤ c % 26 := Int.emod_nonneg _ (by decide)
  have h1 : c % 26 < 26 := Int.emod_lt_of_pos _ (by decide)
  have ht : kinTurned c = kinTurned (((c % 26).toNat : Nat) : Int) := by unfold kinTurned; rw [kinWord_mod c]
  unfold kinBy
  split
  · rename_i h
    rcases hm with rfl | rfl | rfl
    · rw [kinWord_mod c]
      exact kinA _ (by omega)
    · omega
    · rw [kinWord_mod c]
      exact kinA6 _ (by omega)
  · rw [ht]
    exact (kinB _ (by omega)).sublist (List.take_sublist _ _)
theorem map_mkS_nodup {l : List (List Nat)} (h : l.Nodup) : (l.map mkS).Nodup := by
  rw [List.Nodup, List.pairwise_map]
  exact h.imp fun hne e => hne (mkS_inj e)
end My

namespace My
open PySem L2
/-! ### what holds of all functions that a machine makes -/
theorem bind_ok {x : Rv} {f : Val → Nat → List Val → Rv} {u : Val} {m : Nat} {L : List Val} (h : x.bind f = .ok u m L) : ∃ v m1 l1, x = .ok v m1 l1 ∧ f v m1 l1 = .ok u m L := by
  cases x with
  | ok v m1 l1 => exact ⟨v, m1, l1, rfl, h⟩
  | err c => cases h
  | dry => cases h
theorem deed_ok {m m' : Nat} {f : Nat → Rv} {u : Val} {L : List Val} (h : deed m f = .ok u m' L) : ∃ m1, m = m1 + 1 ∧ f m1 = .ok u m' L := by
  cases m with
  | zero => cases h
  | succ m1 => exact ⟨m1, rfl, h⟩
theorem log_ok {r : Rv} {l L : List Val} {u : Val} {m : Nat} (h : r.log l = .ok u m L) : ∃ l', r = .ok u m l' ∧ L = l ++ l' := by
  cases r with
  | ok v m1 l1 => cases h; exact ⟨l1, rfl, rfl⟩
  | err c => cases h
  | dry => cases h
theorem arith_ok {f : Int → Int → Int} {v w u : Val} {m m' : Nat} {l L : List Val} (h : arith f v w m l = .ok u m' L) : ∃ a b, v = .num a ∧ w = .num b ∧ u = .num (f a b) ∧ m' = m ∧ L = l := by
  unfold arith at h
  split at h
  · cases h; exact ⟨_, _, rfl, rfl, rfl, rfl, rfl⟩
  · cases h
theorem evF_left {m m' : Nat} {e : Env} {t : Tr} {u : Val} {L : List Val} (h : evF m e t = .ok u m' L) : m' ≤ m := by
  have := ev_left (fl := freeNames) (m := m) (e := e) (a := t)
  rw [show ev freeNames m e t = .ok u m' L from h] at this
  exact this
mutual
/-- all functions within have Q -/
def Val.sub (Q : Val → Prop) : Val → Prop
  | .num _ => True
  | .fn x b e => Q (.fn x b e) ∧ e.sub Q
def Env.sub (Q : Val → Prop) : Env → Prop
  | .nil => True
  | .cons _ v e => v.sub Q ∧ e.sub Q
end
theorem Env.sub_look {Q : Val → Prop} : ∀ {e : Env} {x : Str} {v : Val}, e.sub Q → e.look x = some v → v.sub Q
  | .nil, x, v, _, h => by cases h
  | .cons y u e, x, v, ha, h => by
    have h : (if x = y then some u else e.look x) = some v := h
    split at h
    · cases h; exact ha.1
    · exact Env.sub_look ha.2 h
theorem Env.sub_keep {Q : Val → Prop} {e : Env} (ha : e.sub Q) : ∀ ns : List Str, (e.keep ns).sub Q
  | [] => trivial
  | y :: r => by
    show (match e.look y with | some v => Env.cons y v (e.keep r) | none => e.keep r).sub Q
    cases h : e.look y with
    | none => exact Env.sub_keep ha r
    | some v => exact ⟨Env.sub_look ha h, Env.sub_keep ha r⟩
theorem ev_sub {Q : Val → Prop} : ∀ (m : Nat) (t : Tr) (e : Env) (u : Val) (m' : Nat) (L : List Val), e.sub Q → evF m e t = .ok u m' L → (∀ w ∈ L, Q w) → u.sub Q ∧ ∀ w ∈ L, w.sub Q
  | m, .num n, e, u, m', L, he, h, hL => by
    rw [show evF m e (.num n) = _ from ev_num] at h
    cases h
    exact ⟨trivial, fun w hw => by cases hw⟩
  | m, .name x, e, u, m', L, he, h, hL => by
    rw [show evF m e (.name x) = _ from ev_name] at h
    cases hx : e.look x with
    | none => rw [hx] at h; cases h
    | some v =>
      rw [hx] at h
      cases h
      exact ⟨Env.sub_look he hx, fun w hw => by cases hw⟩
  | m, .fn x b, e, u, m', L, he, h, hL => by
    rw [show evF m e (.fn x b) = _ from ev_fn] at h
    cases h
    have h1 : Val.sub Q (.fn x b (e.keep (freeNames (.fn x b)))) := ⟨hL _ List.mem_cons_self, Env.sub_keep he _⟩
    exact ⟨h1, fun w hw => by rw [List.mem_singleton.mp hw]; exact h1⟩
  | m, .plus a b, e, u, m', L, he, h, hL => by
    rw [show evF m e (.plus a b) = _ from ev_plus] at h
    obtain ⟨v, m1, l1, h1, h⟩ := bind_ok h
    obtain ⟨w, m2, l2, h2, h⟩ := bind_ok h
    obtain ⟨m3, rfl, h⟩ := deed_ok h
    obtain ⟨i, j, rfl, rfl, rfl, rfl, rfl⟩ := arith_ok h
    have le1 := evF_left h1
    obtain ⟨s1, q1⟩ := ev_sub m a e _ _ _ he h1 fun w hw => hL w (by simp [hw])
    obtain ⟨s2, q2⟩ := ev_sub m1 b e _ _ _ he h2 fun w hw => hL w (by simp [hw])
    exact ⟨trivial, fun w hw => (List.mem_append.mp hw).elim (q1 w) (q2 w)⟩
  | m, .less a b, e, u, m', L, he, h, hL => by
    rw [show evF m e (.less a b) = _ from ev_less] at h
    obtain ⟨v, m1, l1, h1, h⟩ := bind_ok h
    obtain ⟨w, m2, l2, h2, h⟩ := bind_ok h
    obtain ⟨m3, rfl, h⟩ := deed_ok h
    obtain ⟨i, j, rfl, rfl, rfl, rfl, rfl⟩ := arith_ok h
    have le1 := evF_left h1
    obtain ⟨s1, q1⟩ := ev_sub m a e _ _ _ he h1 fun w hw => hL w (by simp [hw])
    obtain ⟨s2, q2⟩ := ev_sub m1 b e _ _ _ he h2 fun w hw => hL w (by simp [hw])
    exact ⟨trivial, fun w hw => (List.mem_append.mp hw).elim (q1 w) (q2 w)⟩
  | m, .call a b, e, u, m', L, he, h, hL => by
    rw [show evF m e (.call a b) = _ from ev_call] at h
    obtain ⟨v, m1, l1, h1, h⟩ := bind_ok h
    obtain ⟨w, m2, l2, h2, h⟩ := bind_ok h
    obtain ⟨m3, rfl, h⟩ := deed_ok h
    cases v with
    | num n => cases h
    | fn x t e' =>
      obtain ⟨l3, h3, rfl⟩ := log_ok h
      have le1 := evF_left h1
      have le2 := evF_left h2
      obtain ⟨s1, q1⟩ := ev_sub m a e _ _ _ he h1 fun w hw => hL w (by simp [hw])
      obtain ⟨s2, q2⟩ := ev_sub m1 b e _ _ _ he h2 fun w hw => hL w (by simp [hw])
      obtain ⟨s3, q3⟩ := ev_sub m3 t _ _ _ _ (show Env.sub Q (.cons x w e') from ⟨s2, s1.2⟩) h3 fun w hw => hL w (by simp [hw])
      exact ⟨s3, fun w hw => (List.mem_append.mp hw).elim (fun hw => (List.mem_append.mp hw).elim (q1 w) (q2 w)) (q3 w)⟩
  | m, .ite c a b, e, u, m', L, he, h, hL => by
    rw [show evF m e (.ite c a b) = _ from ev_ite] at h
    obtain ⟨v, m1, l1, h1, h⟩ := bind_ok h
    obtain ⟨m3, rfl, h⟩ := deed_ok h
    cases v with
    | fn x t e' => cases h
    | num n =>
      obtain ⟨l3, h3, rfl⟩ := log_ok h
      have le1 := evF_left h1
      obtain ⟨s1, q1⟩ := ev_sub m c e _ _ _ he h1 fun w hw => hL w (by simp [hw])
      by_cases hn : n = 0
      · rw [if_pos hn] at h3
        obtain ⟨s3, q3⟩ := ev_sub m3 b e _ _ _ he h3 fun w hw => hL w (by simp [hw])
        exact ⟨s3, fun w hw => (List.mem_append.mp hw).elim (q1 w) (q3 w)⟩
      · rw [if_neg hn] at h3
        obtain ⟨s3, q3⟩ := ev_sub m3 a e _ _ _ he h3 fun w hw => hL w (by simp [hw])
        exact ⟨s3, fun w hw => (List.mem_append.mp hw).elim (q1 w) (q3 w)⟩
  | m, .lt x a b, e, u, m', L, he, h, hL => by
    rw [show evF m e (.lt x a b) = _ from ev_lt] at h
    obtain ⟨v, m1, l1, h1, h⟩ := bind_ok h
    obtain ⟨m3, rfl, h⟩ := deed_ok h
    obtain ⟨l3, h3, rfl⟩ := log_ok h
    have le1 := evF_left h1
    obtain ⟨s1, q1⟩ := ev_sub m a e _ _ _ he h1 fun w hw => hL w (by simp [hw])
    obtain ⟨s3, q3⟩ := ev_sub m3 b _ _ _ _ (show Env.sub Q (.cons x v e) from ⟨s1, he⟩) h3 fun w hw => hL w (by simp [hw])
    exact ⟨s3, fun w hw => (List.mem_append.mp hw).elim (q1 w) (q3 w)⟩
termination_by m t => (m, t.size)
decreasing_by
  all_goals (simp only [Tr.size] at *; first | exact lexle (by omega) (by omega) | exact Prod.Lex.left _ _ (by omega))
theorem Env.Cov.cons {x : Str} {v : Val} {e : Env} {b : Tr} (h : ∀ y, y ≠ x → b.fr y → ∃ v, e.look y = some v) : (Env.cons x v e).Cov b := fun y hy => by
  by_cases hx : y = x
  · exact ⟨v, by show (if y = x then some v else e.look y) = _; rw [if_pos hx]⟩
  · obtain ⟨u, hu⟩ := h y hx hy
    exact ⟨u, by show (if y = x then some v else e.look y) = _; rw [if_neg hx]; exact hu⟩
theorem ev_log {Q : Val → Prop} {t0 : Tr} (hQ : ∀ x b e, t0.In (.fn x b) → e.sub Q → e.Cov (.fn x b) → Q (keptV x b e)) (hI : ∀ x b e, Q (.fn x b e) → t0.In (.fn x b) ∧ e.Cov (.fn x b)) :
    ∀ (m : Nat) (t : Tr) (e : Env) (u : Val) (m' : Nat) (L : List Val), t0.In t → e.sub Q → e.Cov t → evF m e t = .ok u m' L → ∀ w ∈ L, Q w
  | m, .num n, e, u, m', L, hi, he, hc, h => by
    rw [show evF m e (.num n) = _ from ev_num] at h
    cases h
    exact fun w hw => by cases hw
  | m, .name x, e, u, m', L, hi, he, hc, h => by
    rw [show evF m e (.name x) = _ from ev_name] at h
    cases hx : e.look x with
    | none => rw [hx] at h; cases h
    | some v =>
      rw [hx] at h
      cases h
      exact fun w hw => by cases hw
  | m, .fn x b, e, u, m', L, hi, he, hc, h => by
    rw [show evF m e (.fn x b) = _ from ev_fn] at h
    cases h
    intro w hw
    rw [List.mem_singleton.mp hw]
    exact hQ x b e hi he hc
  | m, .plus a b, e, u, m', L, hi, he, hc, h => by
    rw [show evF m e (.plus a b) = _ from ev_plus] at h
    obtain ⟨v, m1, l1, h1, h⟩ := bind_ok h
    obtain ⟨w, m2, l2, h2, h⟩ := bind_ok h
    obtain ⟨m3, rfl, h⟩ := deed_ok h
    obtain ⟨i, j, rfl, rfl, rfl, rfl, rfl⟩ := arith_ok h
    have le1 := evF_left h1
    have q1 := ev_log hQ hI m a e _ _ _ (hi.kid (by simp [Tr.kids])) he (fun y hy => hc y (.inl hy)) h1
    have q2 := ev_log hQ hI m1 b e _ _ _ (hi.kid (by simp [Tr.kids])) he (fun y hy => hc y (.inr hy)) h2
    exact fun w hw => (List.mem_append.mp hw).elim (q1 w) (q2 w)
  | m, .less a b, e, u, m', L, hi, he, hc, h => by
    rw [show evF m e (.less a b) = _ from ev_less] at h
    obtain ⟨v, m1, l1, h1, h⟩ := bind_ok h
    obtain ⟨w, m2, l2, h2, h⟩ := bind_ok h
    obtain ⟨m3, rfl, h⟩ := deed_ok h
    obtain ⟨i, j, rfl, rfl, rfl, rfl, rfl⟩ := arith_ok h
    have le1 := evF_left h1
    have q1 := ev_log hQ hI m a e _ _ _ (hi.kid (by simp [Tr.kids])) he (fun y hy => hc y (.inl hy)) h1
    have q2 := ev_log hQ hI m1 b e _ _ _ (hi.kid (by simp [Tr.kids])) he (fun y hy => hc y (.inr hy)) h2
    exact fun w hw => (List.mem_append.mp hw).elim (q1 w) (q2 w)
  | m, .call a b, e, u, m', L, hi, he, hc, h => by
    rw [show evF m e (.call a b) = _ from ev_call] at h
    obtain ⟨v, m1, l1, h1, h⟩ := bind_ok h
    obtain ⟨w, m2, l2, h2, h⟩ := bind_ok h
    obtain ⟨m3, rfl, h⟩ := deed_ok h
    cases v with
    | num n => cases h
    | fn x t e' =>
      obtain ⟨l3, h3, rfl⟩ := log_ok h
      have le1 := evF_left h1
      have le2 := evF_left h2
      have q1 := ev_log hQ hI m a e _ _ _ (hi.kid (by simp [Tr.kids])) he (fun y hy => hc y (.inl hy)) h1
      have q2 := ev_log hQ hI m1 b e _ _ _ (hi.kid (by simp [Tr.kids])) he (fun y hy => hc y (.inr hy)) h2
      obtain ⟨s1, _⟩ := ev_sub _ _ _ _ _ _ he h1 q1
      obtain ⟨s2, _⟩ := ev_sub _ _ _ _ _ _ he h2 q2
      obtain ⟨i1, c1⟩ := hI _ _ _ s1.1
      have q3 := ev_log hQ hI m3 t _ _ _ _ (i1.kid (by simp [Tr.kids])) (show Env.sub Q (.cons x w e') from ⟨s2, s1.2⟩) (Env.Cov.cons fun y hy hf => c1 y ⟨fun z => hy z.symm, hf⟩) h3
      exact fun w hw => (List.mem_append.mp hw).elim (fun hw => (List.mem_append.mp hw).elim (q1 w) (q2 w)) (q3 w)
  | m, .ite c a b, e, u, m', L, hi, he, hc, h => by
    rw [show evF m e (.ite c a b) = _ from ev_ite] at h
    obtain ⟨v, m1, l1, h1, h⟩ := bind_ok h
    obtain ⟨m3, rfl, h⟩ := deed_ok h
    cases v with
    | fn x t e' => cases h
    | num n =>
      obtain ⟨l3, h3, rfl⟩ := log_ok h
      have le1 := evF_left h1
      have q1 := ev_log hQ hI m c e _ _ _ (hi.kid (by simp [Tr.kids])) he (fun y hy => hc y (.inl hy)) h1
      by_cases hn : n = 0
      · rw [if_pos hn] at h3
        have q3 := ev_log hQ hI m3 b e _ _ _ (hi.kid (by simp [Tr.kids])) he (fun y hy => hc y (.inr (.inr hy))) h3
        exact fun w hw => (List.mem_append.mp hw).elim (q1 w) (q3 w)
      · rw [if_neg hn] at h3
        have q3 := ev_log hQ hI m3 a e _ _ _ (hi.kid (by simp [Tr.kids])) he (fun y hy => hc y (.inr (.inl hy))) h3
        exact fun w hw => (List.mem_append.mp hw).elim (q1 w) (q3 w)
  | m, .lt x a b, e, u, m', L, hi, he, hc, h => by
    rw [show evF m e (.lt x a b) = _ from ev_lt] at h
    obtain ⟨v, m1, l1, h1, h⟩ := bind_ok h
    obtain ⟨m3, rfl, h⟩ := deed_ok h
    obtain ⟨l3, h3, rfl⟩ := log_ok h
    have le1 := evF_left h1
    have q1 := ev_log hQ hI m a e _ _ _ (hi.kid (by simp [Tr.kids])) he (fun y hy => hc y (.inl hy)) h1
    obtain ⟨s1, _⟩ := ev_sub _ _ _ _ _ _ he h1 q1
    have q3 := ev_log hQ hI m3 b _ _ _ _ (hi.kid (by simp [Tr.kids])) (show Env.sub Q (.cons x v e) from ⟨s1, he⟩) (Env.Cov.cons fun y hy hf => hc y (.inr ⟨fun z => hy z.symm, hf⟩)) h3
    exact fun w hw => (List.mem_append.mp hw).elim (q1 w) (q3 w)
termination_by m t => (m, t.size)
decreasing_by
  all_goals (simp only [Tr.size] at *; first | exact lexle (by omega) (by omega) | exact Prod.Lex.left _ _ (by omega))
def Env.names : Env → List Str
  | .nil => []
  | .cons y _ e => y :: e.names
theorem Env.names_keep {e : Env} : ∀ {ns : List Str}, (∀ y ∈ ns, ∃ v, e.look y = some v) → (e.keep ns).names = ns
  | [], _ => rfl
  | y :: r, h => by
    obtain ⟨v, hv⟩ := h y List.mem_cons_self
    show (match e.look y with | some v => Env.cons y v (e.keep r) | none => e.keep r).names = _
    rw [hv]
    show y :: (e.keep r).names = _
    rw [Env.names_keep fun z hz => h z (List.mem_cons_of_mem _ hz)]
/-- a function as it is made -/
def Made (t0 : Tr) : Val → Prop
  | .num _ => False
  | .fn x b e => t0.In (.fn x b) ∧ e.Cov (.fn x b) ∧ e.names = freeNames (.fn x b)
theorem made_kept {t0 : Tr} {x : Str} {b : Tr} {e : Env} (hi : t0.In (.fn x b)) (hc : e.Cov (.fn x b)) : Made t0 (keptV x b e) :=
  ⟨hi, fun y hy => by
    obtain ⟨v, hv⟩ := hc y hy
    exact ⟨v, by rw [Env.look_keep, if_pos (fl_mem _ _ hy), hv]⟩, Env.names_keep fun y hy => hc y (freeNames_fr hy)⟩
/-- all that is made of a closed tree -/
theorem made_all {m m' : Nat} {t : Tr} {u : Val} {L : List Val} (hc : t.closed) (h : evF m .nil t = .ok u m' L) : (∀ w ∈ L, Made t w) ∧ u.sub (Made t) ∧ (∀ w ∈ L, w.sub (Made t)) ∧ u.sub (· ∈ L) ∧ ∀ w ∈ L, w.sub (· ∈ L) := by
  have q := ev_log (Q := Made t) (t0 := t) (fun x b e hi _ hc => made_kept hi hc) (fun x b e h => ⟨h.1, h.2.1⟩) m t .nil u m' L .here trivial (fun y hy => absurd hy (hc y)) h
  obtain ⟨h1, h2⟩ := ev_sub m t .nil u m' L (Q := Made t) trivial h q
  obtain ⟨h3, h4⟩ := ev_sub m t .nil u m' L (Q := (· ∈ L)) trivial h fun _ z => z
  exact ⟨q, h1, h2, h3, h4⟩
theorem Made.fn {t0 : Tr} : ∀ {w : Val}, Made t0 w → ∃ x b e, w = .fn x b e
  | .fn x b e, _ => ⟨x, b, e, rfl⟩
end My

namespace My
open PySem L2
/-- each function's free names are of S -/
def Tr.fnsIn (S : Str → Prop) : Tr → Prop
  | .num _ => True
  | .name _ => True
  | .fn x b => (∀ y, (Tr.fn x b).fr y → S y) ∧ b.fnsIn S
  | .call f a => f.fnsIn S ∧ a.fnsIn S
  | .plus f a => f.fnsIn S ∧ a.fnsIn S
  | .less f a => f.fnsIn S ∧ a.fnsIn S
  | .ite c f a => c.fnsIn S ∧ f.fnsIn S ∧ a.fnsIn S
  | .lt _ e b => e.fnsIn S ∧ b.fnsIn S
theorem fr_all {S : Str → Prop} {N : Int → Prop} : ∀ {t : Tr}, t.all S N → ∀ y, t.fr y → S y
  | .num _, _, _, h => h.elim
  | .name x, h, y, e => by cases e; exact h
  | .fn _ b, h, y, e => fr_all h.2 y e.2
  | .call _ _, h, y, e => e.elim (fr_all h.1 y) (fr_all h.2 y)
  | .plus _ _, h, y, e => e.elim (fr_all h.1 y) (fr_all h.2 y)
  | .less _ _, h, y, e => e.elim (fr_all h.1 y) (fr_all h.2 y)
  | .ite _ _ _, h, y, e => e.elim (fr_all h.1 y) fun e => e.elim (fr_all h.2.1 y) (fr_all h.2.2 y)
  | .lt _ _ _, h, y, e => e.elim (fr_all h.2.1 y) fun e => fr_all h.2.2 y e.2
/-! ### good names -/
theorem isName_mk {l : List Nat} (h1 : 1 ≤ l.length) (h8 : l.length ≤ 8) (hl : ∀ c ∈ l, 97 ≤ c ∧ c < 123) (hr : l ∉ reserved) : isName (mkS l) = true := by
  have hf : Wd.find (mkS l) = none := by
    cases hf : Wd.find (mkS l) with
    | none => rfl
    | some t =>
      exfalso
      have e := Wd.of_find hf
      have : ∃ r ∈ reserved, t.str = mkS r := by
        cases t
        · exact ⟨[110, 117, 109], by decide, by decide +kernel⟩
        · exact ⟨[110, 97, 109, 101], by decide, by decide +kernel⟩
        · exact ⟨[102, 117, 110], by decide, by decide +kernel⟩
        · exact ⟨[99, 97, 108, 108], by decide, by decide +kernel⟩
        · exact ⟨[112, 108, 117, 115], by decide, by decide +kernel⟩
        · exact ⟨[108, 101, 115, 115], by decide, by decide +kernel⟩
        · exact ⟨[105, 102], by decide, by decide +kernel⟩
        · exact ⟨[108, 101, 116], by decide, by decide +kernel⟩
      obtain ⟨r, hm, e2⟩ := this
      exact hr (mkS_inj (e.trans e2) ▸ hm)
  unfold isName
  rw [hf, mkS_len, mkS_cps, decide_eq_true h1, decide_eq_true h8]
  simp only [Option.isNone_none, Bool.and_true, Bool.true_and, List.all_eq_true]
  intro x hx
  unfold isLet
  rw [decide_eq_true (hl x hx).1, decide_eq_true (hl x hx).2]
  rfl
theorem nameBy_isName (m c : Int) : isName (mkS (nameBy m c)) = true := by
  have hol := othersOf_len m c
  have hlet : ∀ x ∈ othersOf m c, 97 ≤ x ∧ x < 123 := by
    intro x hx
    obtain ⟨k, _, rfl⟩ := List.mem_map.mp hx
    exact lett_lt _
  unfold nameBy
  generalize (c / 208 % ((othersOf m c).length + 1 : Int)).toNat = k
  have hw := wordOf_len (othersOf m c) k (lett c)
  refine isName_mk hw.2 (by omega) ?_ ?_
  · intro x hx
    unfold wordOf at hx
    split at hx
    · rw [List.mem_singleton.mp hx]; exact lett_lt _
    · rcases List.mem_append.mp hx with hx | hx
      · rcases List.mem_append.mp hx with hx | hx
        · exact hlet x (List.mem_of_mem_take hx)
        · rw [List.mem_singleton.mp hx]; exact lett_lt _
      · exact hlet x (List.mem_of_mem_drop hx)
  · intro hm
    unfold wordOf at hm
    split at hm
    · have : ∀ r ∈ reserved, 2 ≤ r.length := by decide
      have := this _ hm
      simp at this
    · rename_i h
      exact h hm
theorem kinW_let (c : Int) : ∀ x ∈ kinWord c, 97 ≤ x ∧ x < 123 := by
  intro x hx
  obtain ⟨k, _, rfl⟩ := List.mem_map.mp hx
  exact lett_lt _
theorem kinW_len (c : Int) : (kinWord c).length = 8 := by simp [kinWord]
theorem kinC : ∀ r : Nat, r < 26 → ∀ k : Nat, k < 8 → (kinWord (r : Int)).take (k + 1) ∉ reserved := by decide +kernel
theorem kin_names (c : Int) (many : Nat) : ∀ x ∈ (kinBy c many).map mkS, isName x = true := by
  intro x hx
  obtain ⟨l, hl, rfl⟩ := List.mem_map.mp hx
  have r4 : ∀ r ∈ reserved, r.length ≤ 4 := by decide
  unfold kinBy at hl
  split at hl
  · rename_i h
    obtain ⟨k, hk, rfl⟩ := List.mem_map.mp hl
    have hk := List.mem_range.mp hk
    have h8 : ((kinWord c).take (k + 1)).length = k + 1 := by rw [List.length_take, kinW_len]; omega
    refine isName_mk (by omega) (by omega) (fun x hx => kinW_let c x (List.mem_of_mem_take hx)) ?_
    rw [kinWord_mod c]
    have h0 : 0 ≤ c % 26 := Int.emod_nonneg _ (by decide)
    have h1 : c % 26 < 26 := Int.emod_lt_of_pos _ (by decide)
    exact kinC _ (by omega) k (by omega)
  · have hl := List.mem_of_mem_take hl
    have key : ∀ y ∈ kinTurned c, y.length = 8 ∧ ∀ x ∈ y, 97 ≤ x ∧ x < 123 := by
      intro y hy
      obtain ⟨k, hk, rfl⟩ := List.mem_map.mp hy
      have hk := List.mem_range.mp hk
      refine ⟨by rw [List.length_append, List.length_drop, List.length_take, kinW_len]; omega, fun x hx => ?_⟩
      rcases List.mem_append.mp hx with hx | hx
      · exact kinW_let c x (List.mem_of_mem_drop hx)
      · exact kinW_let c x (List.mem_of_mem_take hx)
    rcases List.mem_append.mp hl with hl | hl
    · obtain ⟨k1, k2⟩ := key l hl
      exact isName_mk (by omega) (by omega) k2 fun h => by have := r4 _ h; omega
    · obtain ⟨y, hy, rfl⟩ := List.mem_map.mp hl
      obtain ⟨k1, k2⟩ := key y hy
      rw [← List.length_reverse] at k1
      exact isName_mk (by omega) (by omega) (fun x hx => k2 x (List.mem_reverse.mp hx)) fun h => by have := r4 _ h; omega
theorem all_mono {S S' : Str → Prop} {N : Int → Prop} (hs : ∀ x, S x → S' x) : ∀ {t : Tr}, t.all S N → t.all S' N
  | .num _, h => h
  | .name x, h => hs x h
  | .fn _ _, h => ⟨hs _ h.1, all_mono hs h.2⟩
  | .call _ _, h => ⟨all_mono hs h.1, all_mono hs h.2⟩
  | .plus _ _, h => ⟨all_mono hs h.1, all_mono hs h.2⟩
  | .less _ _, h => ⟨all_mono hs h.1, all_mono hs h.2⟩
  | .ite _ _ _, h => ⟨all_mono hs h.1, all_mono hs h.2.1, all_mono hs h.2.2⟩
  | .lt _ _ _, h => ⟨hs _ h.1, all_mono hs h.2.1, all_mono hs h.2.2⟩
theorem good_of {xs : List Str} (hx : ∀ x ∈ xs, isName x = true) {t : Tr} (h : t.all (· ∈ xs) N60) : Good t := all_mono hx h
theorem fr_mem {xs : List Str} {N : Int → Prop} {t : Tr} (h : t.all (· ∈ xs) N) {x : Str} (hx : t.fr x) : x ∈ xs := fr_all h x hx
theorem all_fnsIn {S : Str → Prop} {N : Int → Prop} : ∀ {t : Tr}, t.all S N → t.fnsIn S
  | .num _, _ => trivial
  | .name _, _ => trivial
  | .fn x b, h => ⟨fun y hy => fr_all h.2 y hy.2, all_fnsIn h.2⟩
  | .call _ _, h => ⟨all_fnsIn h.1, all_fnsIn h.2⟩
  | .plus _ _, h => ⟨all_fnsIn h.1, all_fnsIn h.2⟩
  | .less _ _, h => ⟨all_fnsIn h.1, all_fnsIn h.2⟩
  | .ite _ _ _, h => ⟨all_fnsIn h.1, all_fnsIn h.2.1, all_fnsIn h.2.2⟩
  | .lt _ _ _, h => ⟨all_fnsIn h.2.1, all_fnsIn h.2.2⟩
theorem fnsIn_in {S : Str → Prop} {t0 t : Tr} (h : t0.In t) (h0 : t0.fnsIn S) : t.fnsIn S := by
  induction h with
  | here => exact h0
  | kid hk hm ih =>
    rename_i t u
    cases t <;> simp only [Tr.kids, List.mem_cons, List.not_mem_nil, or_false] at hm
    · subst hm; exact ih.2
    · rcases hm with rfl | rfl
      · exact ih.1
      · exact ih.2
    · rcases hm with rfl | rfl
      · exact ih.1
      · exact ih.2
    · rcases hm with rfl | rfl
      · exact ih.1
      · exact ih.2
    · rcases hm with rfl | rfl | rfl
      · exact ih.1
      · exact ih.2.1
      · exact ih.2.2
    · rcases hm with rfl | rfl
      · exact ih.1
      · exact ih.2
theorem where_fr (x : Str) (t : Tr) : 0 ≤ whereT x t ↔ t.fr x := by
  rw [whereT_pre, ← fl_iff t x, (freeNames_ok t).mem x]
  by_cases h : some x ∈ pre (fun _ => 0) t
  · obtain ⟨A, B, _, _, h1⟩ := wh_mem h
    simp only [h, iff_true]
    omega
  · rw [wh_none h]
    simp [h]
def spClosed (K : PySem.W.Frag) : Sp := fun vs H Q _ => ∃ (a : Addr) (ns : List Int) (many : Nat), vs = [.ref a, .int many] ∧ SqL K H a (ns.map V.int) ∧ many ≤ 55 ∧
  ∀ (t : Tr) (r : V) (H' : Hp), Same H H' → At H' t r → Good t → t.closed → t.size ≤ 400 → Q r H'
def spClosedW (K : PySem.W.Frag) : Sp := fun vs H Q _ => ∃ (a : Addr) (ns : List Int) (ln : Addr) (xs : List Str), vs = [.ref a, .ref ln] ∧ SqL K H a (ns.map V.int) ∧ H ln = some (.lst (xs.map V.str)) ∧ xs.length = 6 ∧ (∀ x ∈ xs, isName x = true) ∧
  ∀ (t : Tr) (r : V) (H' : Hp), Same H H' → At H' t r → Good t → t.closed → t.size ≤ 400 → t.fnsIn (· ∈ xs) → Q r H'
end My

namespace My
open PySem L2
/-! ### two trees, cell by cell -/
theorem isi_tb {K : PySem.W.Frag} {H : Hp} {a : Addr} {xs : List V} (h : H a = some (.tup xs)) : TyX K H (.ref a) (.type "tuple") ∧ PySem.W.kitOne K (.type "tuple") (.type "bool") = some false := ⟨.base (.tup h), kit_ty (by decide +kernel)⟩
theorem isi_ts {K : PySem.W.Frag} {H : Hp} {a : Addr} {xs : List V} (h : H a = some (.tup xs)) : TyX K H (.ref a) (.type "tuple") ∧ PySem.W.kitOne K (.type "tuple") (.type "str") = some false := ⟨.base (.tup h), kit_ty (by decide +kernel)⟩
inductive Cl where
  | i (n : Int) | s (x : Str) | t (u : Tr)
def Cl.at (H : Hp) : Cl → V → Prop
  | .i n, v => v = .int n
  | .s x, v => v = .str x
  | .t u, v => At H u v
theorem Cl.at.mono {H H' : Hp} (k : KT H H') : ∀ {c : Cl} {v : V}, c.at H v → c.at H' v
  | .i _, _, h => h
  | .s _, _, h => h
  | .t _, _, h => At.mono k h
def Tr.ownC : Tr → List Cl
  | .num n => [.i n] | .name x => [.s x] | .fn x _ => [.s x] | .lt x _ _ => [.s x] | _ => []
def Tr.cls (t : Tr) : List Cl := .s t.word :: t.ownC ++ t.kids.map .t
def Cl.w : Cl → Nat
  | .t u => 8 * u.size
  | _ => 1
theorem Cl.w_pos (c : Cl) : 1 ≤ c.w := by
  cases c with
  | t u => have := u.size_pos; simp only [Cl.w]; omega
  | _ => exact Nat.le_refl _
def Cl.ok : Cl → Cl → Prop
  | .i _, .t _ => False
  | .t _, .i _ => False
  | _, _ => True
theorem cls_ok {t t' : Tr} (hl : t.cls.length = t'.cls.length) : ∀ p ∈ t.cls.zip t'.cls, p.1.ok p.2 := by
  cases t <;> cases t' <;> first
    | (simp [Tr.cls, Tr.ownC, Tr.kids] at hl; done)
    | simp [Tr.cls, Tr.ownC, Tr.kids, Cl.ok]
def wS (rs : List (Cl × Cl)) : Nat := (rs.map fun r => r.1.w).sum
theorem wS_append (a b : List (Cl × Cl)) : wS (a ++ b) = wS a + wS b := by simp [wS]
theorem wS_cons (r : Cl × Cl) (b : List (Cl × Cl)) : wS (r :: b) = r.1.w + wS b := by simp [wS]
theorem wS_nil : wS [] = 0 := rfl
theorem le_wS : ∀ (a : List (Cl × Cl)), a.length ≤ wS a
  | [] => Nat.le_refl _
  | r :: a => by rw [wS_cons, List.length_cons]; have := le_wS a; have := r.1.w_pos; omega
theorem wS_take (a : List (Cl × Cl)) (i : Nat) : wS (a.take i) ≤ wS a := by
  have : wS a = wS (a.take i) + wS (a.drop i) := by rw [← wS_append, List.take_append_drop]
  omega
theorem wS_zip {t t' : Tr} (hl : t.cls.length = t'.cls.length) : wS (t.cls.zip t'.cls) < 8 * t.size := by
  have e : wS (t.cls.zip t'.cls) = (t.cls.map Cl.w).sum := by
    have : ((t.cls.zip t'.cls).map fun r => r.1.w) = t.cls.map Cl.w := by
      have h2 := List.map_fst_zip (l₁ := t.cls) (l₂ := t'.cls) (by omega)
      calc _ = ((t.cls.zip t'.cls).map Prod.fst).map Cl.w := by rw [List.map_map]; rfl
        _ = _ := by rw [h2]
    unfold wS
    rw [this]
  rw [e]
  cases t <;> simp [Tr.cls, Tr.ownC, Tr.kids, Cl.w, Tr.size] <;> omega
theorem At.cls {H : Hp} {t : Tr} {v : V} (h : At H t v) : ∃ a xs, v = .ref a ∧ H a = some (.tup xs) ∧ Paired (Cl.at H) t.cls xs := by
  obtain ⟨a, ws, e, h1, h2⟩ := h.view
  refine ⟨a, _, e, h1, ?_⟩
  have hk : ∀ {ts : List Tr} {ws : List V}, Ats H ts ws → Paired (Cl.at H) (ts.map .t) ws := by
    intro ts ws h
    induction h with
    | nil => exact .nil
    | cons a b ih => exact .cons a ih
  have ho : Paired (Cl.at H) t.ownC t.own := ?_
  exact pr_append (R := Cl.at H) (ts := .s t.word :: t.ownC) (vs := .str t.word :: t.own) (.cons (show Cl.at H (.s t.word) (.str t.word) from rfl) ho) (hk h2)
  cases t <;> first
    | exact .nil
    | exact .cons rfl .nil
/-- a row of two cells -/
def RowG (H : Hp) (r : Cl × Cl) (a : Addr) : Prop := ∃ u v, H a = some (.tup [u, v]) ∧ r.1.at H u ∧ r.2.at H v
theorem RowG.mono {H H' : Hp} (k : KT H H') {r : Cl × Cl} {a : Addr} : RowG H r a → RowG H' r a := fun ⟨u, v, h, h1, h2⟩ => ⟨u, v, k _ _ h, h1.mono k, h2.mono k⟩
def spSameG : Sp := fun vs H Q _ => ∃ (t t' : Tr) (u v : V), vs = [u, v] ∧ At H t u ∧ At H t' v ∧ t.size ≤ 10000 ∧ ∀ b H', Same H H' → (t = t' → b = true) → Q (.bl b) H'
def Tr.isF : Tr → Bool | .fn _ _ => true | _ => false
theorem In.root {t f : Tr} (h : t.In f) : f = t ∨ ∃ k ∈ t.kids, k.In f := by
  induction h with
  | here => exact .inl rfl
  | kid h hk ih =>
    rcases ih with rfl | ⟨k, h1, h2⟩
    · exact .inr ⟨_, hk, .here⟩
    · exact .inr ⟨k, h1, h2.kid hk⟩
theorem In.of_kid {t k f : Tr} (hk : k ∈ t.kids) (h : k.In f) : t.In f := by
  induction h with
  | here => exact .kid .here hk
  | kid h hk2 ih => exact ih.kid hk2
theorem cut1 (x : V) (xs : List V) : cutV (x :: xs) (some 1) none = xs := by
  unfold cutV
  rw [show (some (1 : Int)) = some ((1 : Nat) : Int) from rfl, HT.sIx_none, HT.sIx_nat, List.length_cons, Nat.min_eq_left (by omega)]
  simp
theorem szL5 {n : Nat} (h : n ≤ 5000000) : n ≤ sizeLine := Nat.le_of_lt (szLt5 h)
theorem bang_ne {x y : V} [Decidable (x = y)] (h : x ≠ y) : (!decide (x = y)) = true := by simp [h]
theorem bang_eq {x y : V} [Decidable (x = y)] (h : x = y) : ¬ (!decide (x = y)) = true := by simp [h]
def spFns : Sp := fun vs H Q _ => ∃ (t : Tr) (u : V), vs = [u] ∧ At H t u ∧ t.size ≤ 10000 ∧ ∀ (fs : List Tr) (rs : List V) (l : Addr) (H' : Hp), Same H H' → H' l = some (.lst rs) → Ats H' fs rs →
  (∀ f, t.In f → f.isF = true → f ∈ fs) → (∀ f ∈ fs, t.In f) → fs.length ≤ t.size → Q (.ref l) H'
end My

namespace My
open PySem L2
abbrev NoA : Addr → Prop := fun _ => False
theorem dp_strs {K : PySem.W.Frag} {H : Hp} : ∀ xs : List Str, DpAll K H (xs.map V.str) (xs.map PyData.str)
  | [] => .nil
  | x :: xs => .cons (.str x) (dp_strs xs)
theorem dp_lst {K : PySem.W.Frag} {H : Hp} {l : Addr} {xs : List Str} (h : H l = some (.lst (xs.map V.str))) : Dp K H (.ref l) (.list (xs.map PyData.str)) := .lst (SqL.of h) (dp_strs xs)
theorem isName_ok {x : Str} (h : isName x = true) : PyData.strOk x = true := by
  unfold isName at h
  simp only [Bool.and_eq_true, List.all_eq_true] at h
  unfold PyData.strOk
  rw [Array.all_eq_true']
  intro c hc
  have := h.2 c (by simpa using hc)
  unfold isLet at this
  simp only [Bool.and_eq_true, decide_eq_true_eq] at this ⊢
  omega
theorem shaped_strs {xs : List Str} (hx : ∀ x ∈ xs, isName x = true) : SeqAt.shaped (.list (xs.map PyData.str)) = true := by
  have h1 : ∀ xs : List Str, PyData.depthAll (xs.map PyData.str) ≤ 1 := by
    intro xs
    induction xs with
    | nil => decide
    | cons x xs ih => simp only [List.map_cons, PyData.depthAll, PyData.depth] at *; omega
  have h2 : ∀ xs : List Str, (∀ x ∈ xs, isName x = true) → PyData.canLayAll0 (xs.map PyData.str) = true := by
    intro xs
    induction xs with
    | nil => intro _; rfl
    | cons x xs ih => intro h; simp [PyData.canLayAll0, PyData.canLay0, ih fun y hy => h y (List.mem_cons_of_mem _ hy), isName_ok (h x List.mem_cons_self)]
  unfold SeqAt.shaped
  have := h1 xs
  rw [Bool.and_eq_true]
  refine ⟨by show PyData.canLayAll0 _ = true; exact h2 xs hx, decide_eq_true ?_⟩
  simp only [PyData.depth]
  omega
theorem eqv_strs {xs : List Str} (hx : ∀ x ∈ xs, isName x = true) : PyData.eqv (.list (xs.map PyData.str)) (.list (xs.map PyData.str)) = true := SeqAt.eqv_refl _ (by
  have := shaped_strs hx
  exact SeqAt.canLay_of_shaped this)
def spKR11 (cK : Addr) : Sp := fun vs H Q _ => ∃ (x : Str) (b : Tr) (e : Env) (r : V) (lf ln : Addr) (fs : List Tr) (rs : List V) (xs : List Str), vs = [r, .ref lf, .ref ln] ∧ KVm cK NoA H (.fn x b e) r ∧ (Tr.fn x b).size ≤ 1000 ∧ Good (.fn x b) ∧ H lf = some (.lst rs) ∧ Ats H fs rs ∧
  (.fn x b) ∈ fs ∧ (∀ f ∈ fs, f.size ≤ 10000) ∧ rs.length ≤ 1000 ∧ H ln = some (.lst (xs.map V.str)) ∧ xs.Nodup ∧ xs.length ≤ 20 ∧ (∀ y, (Tr.fn x b).fr y → y ∈ xs) ∧ ∀ H', Same H H' → Q (.bl true) H'
theorem good_free {t : Tr} (h : Good t) : ∀ x ∈ freeNames t, isName x = true := fun x hx => fr_all h x (freeNames_fr hx)
theorem EnvL.mem {cK : Addr} {A : Addr → Prop} {H : Hp} : ∀ {e : Env} {ns : List Str} {hs : List V}, EnvL cK A H e ns hs → ∀ {h : V}, h ∈ hs → ∃ v, KVm cK A H v h ∧ ∀ Q : Val → Prop, e.sub Q → v.sub Q
  | .nil, ns, hs, h, r, hr => by
    obtain ⟨_, rfl⟩ := (show ns = [] ∧ hs = [] from h)
    cases hr
  | .cons y v e, ns, hs, hh, r, hr => by
    obtain ⟨ns', h, hs', rfl, rfl, h1, h2⟩ := hh
    rcases List.mem_cons.mp hr with rfl | hr
    · exact ⟨v, h1, fun Q q => q.1⟩
    · obtain ⟨u, h3, h4⟩ := EnvL.mem h2 hr
      exact ⟨u, h3, fun Q q => h4 Q q.2⟩
/-- run's value, or made's functions, or the word of the refusal -/
def spWord11 (E : Ers) (cK : Addr) : Sp := fun vs H Q _ => ∃ (way : Int) (v : V) (t : Tr) (m : Nat), vs = [.int way, v, .int m] ∧ OkIn H t v m ∧
  match evF m .nil t with
  | .ok u m' L => (way = 0 → ∀ (r : V) (H' : Hp), Same H H' → KVm cK NoA H' u r → Q r H') ∧ (way ≠ 0 → ∀ (l : Addr) (rs : List V) (H' : Hp), Same H H' → H' l = some (.lst rs) → Paired (KVm cK NoA H') L rs → Q (.ref l) H')
  | .err c => ∀ H', Same H H' → Q (.str c.word) H'
  | .dry => ∀ H', Same H H' → Q (.str "dry") H'
theorem isi_ls {K : PySem.W.Frag} {H : Hp} {a : Addr} {xs : List V} (h : H a = some (.lst xs)) : TyX K H (.ref a) (.type "list") ∧ PySem.W.kitOne K (.type "list") (.type "str") = some false := ⟨.base (.lst h), kit_ty (by decide +kernel)⟩
/-- what the laws over run and made need of the text -/
structure LTxt (K : PySem.W.Frag) (w : World) (mg : Str → Option Value) (E : Ers) (aA cM cK : Addr) : Prop extends MTxt K w mg E aA cM cK where
  meets : MeetsT K E
  kstr : PySem.W.kitOne K (.ref cK) (.type "str") = some false
theorem LTxt.at {K : PySem.W.Frag} {w : World} {mg : Str → Option Value} {E : Ers} {aA cM cK : Addr} (T : LTxt K w mg E aA cM cK) : ATxt K mg E := { toBt := T.toBt, NoNumber := T.NoNumber, NoFunction := T.NoFunction, Dry := T.Dry, meets := T.meets }
theorem fnsIn_fn {S : Str → Prop} {t : Tr} {x : Str} {b : Tr} (h : t.fnsIn S) (hi : t.In (.fn x b)) : ∀ y, (Tr.fn x b).fr y → S y := (fnsIn_in hi h).1
theorem good_in {t u : Tr} (h : t.In u) (g : Good t) : Good u := by
  induction h with
  | here => exact g
  | kid hk hm ih =>
    rename_i t u
    cases t <;> simp only [Tr.kids, List.mem_cons, List.not_mem_nil, or_false] at hm
    · subst hm; exact ih.2
    · rcases hm with rfl | rfl
      · exact ih.1
      · exact ih.2
    · rcases hm with rfl | rfl
      · exact ih.1
      · exact ih.2
    · rcases hm with rfl | rfl
      · exact ih.1
      · exact ih.2
    · rcases hm with rfl | rfl | rfl
      · exact ih.1
      · exact ih.2.1
      · exact ih.2.2
    · rcases hm with rfl | rfl
      · exact ih.2.1
      · exact ih.2.2
end My

namespace My
open PySem L2
theorem kit_own_b {K : PySem.W.Frag} {t : Value} {C : Addr} {b : Bool} (h0 : (t == Value.ref C) = false) (h1 : PySem.W.isClsIn K C = true) (h2 : PySem.W.typeIn K (.ref C) = some (.type "type")) (h3 : PySem.W.subIn K t (.ref C) = some b) : PySem.W.kitOne K t (.ref C) = some b := by
  unfold PySem.W.kitOne
  rw [if_neg (by rw [h0]; decide)]
  have h1' : (PySem.W.clsIn K C).isSome = true := h1
  show (if ((PySem.W.clsIn K C).isSome && PySem.W.typeIn K (.ref C) == some (.type "type")) = true then PySem.W.subIn K t (.ref C) else none) = some b
  rw [h1', h2]
  exact (if_pos (by rfl)).trans h3
theorem kit_blt_b {K : PySem.W.Frag} {t : Value} {T : String} {b : Bool} (h0 : (t == Value.type T) = false) (h1 : PySem.W.kitMeta T = true) (h3 : PySem.W.subIn K t (.type T) = some b) : PySem.W.kitOne K t (.type T) = some b := by
  unfold PySem.W.kitOne
  rw [if_neg (by rw [h0]; decide)]
  show (if PySem.W.kitMeta T = true then PySem.W.subIn K t (.type T) else none) = some b
  rw [if_pos h1]
  exact h3
theorem clsx_mk {K : PySem.W.Frag} {C : Addr} {fs : List Str} (pg : PySem.W.plainGet K C Str.empty = true) (hd : PySem.W.hasDictIn K C = true) (po : PySem.W.plainOver K C = true) (sa : PySem.W.findIn K (.ref C) "__setattr__" = some (some (.builtin "object.__setattr__")))
    (ha : PySem.W.findIn K (.ref C) "__class__" = some (some (.builtin "object.__class__"))) (hn : PySem.W.specialIn K (.builtin "object.__class__") "__get__" = some (some (.builtin "getset_descriptor.__get__"))) (tk : PySem.W.takesIn K (.builtin "object.__class__") = some true)
    (hm : PySem.W.mroIn K C (.type "object") = some true) (no : ∀ f ∈ fs, NoAttr K C f) (ic : PySem.W.isClsIn K C = true) (ty : PySem.W.typeIn K (.ref C) = some (.type "type")) (si : PySem.W.subIn K (.type "int") (.ref C) = some false) : ClsX K C fs :=
  ⟨⟨pg, hd, po, sa⟩, ha, hn, tk, hm, no, kit_own_b (by rfl) ic ty si⟩
theorem all_cons {α : Type} {p : α → Prop} {x : α} {xs : List α} (h : p x) (t : ∀ y ∈ xs, p y) : ∀ y ∈ x :: xs, p y := fun y hy => by
  rcases List.mem_cons.mp hy with rfl | hy
  · exact h
  · exact t y hy
theorem all_nil {α : Type} {p : α → Prop} : ∀ y ∈ ([] : List α), p y := fun y hy => by cases hy
end My

namespace My
open PySem L2
/-! ### a plain run: values by number, all names round a function kept -/
abbrev Kvs := List (Key × V)
structure KeysOk (kvs : Kvs) : Prop where
  nd : (kvs.map (·.1)).Nodup
  st : ∀ p ∈ kvs, ∃ y : Str, p.1 = Sum.inr y
theorem KeysOk.nil : KeysOk [] := ⟨by simp, fun p h => by cases h⟩
theorem KeysOk.put {kvs : Kvs} (h : KeysOk kvs) (y : Str) (r : V) : KeysOk (putK kvs (Sum.inr y) r) := by
  unfold putK
  split
  · refine ⟨?_, ?_⟩
    · rw [List.map_map]
      have : (List.map ((fun x => x.1) ∘ fun kv => if kv.1 = (Sum.inr y : Key) then (kv.1, r) else kv) kvs) = kvs.map (·.1) := by
        refine List.map_congr_left fun p _ => ?_
        show (if p.1 = Sum.inr y then (p.1, r) else p).1 = p.1
        split <;> rfl
      rw [this]
      exact h.nd
    · intro p hp
      obtain ⟨q, hq, rfl⟩ := List.mem_map.mp hp
      obtain ⟨z, hz⟩ := h.st q hq
      refine ⟨z, ?_⟩
      show (if q.1 = Sum.inr y then (q.1, r) else q).1 = _
      split <;> exact hz
  · rename_i hno
    refine ⟨?_, ?_⟩
    · rw [List.map_append, List.nodup_append]
      refine ⟨h.nd, by simp, fun a ha b hb => ?_⟩
      rw [List.map_singleton, List.mem_singleton] at hb
      subst hb
      intro e
      obtain ⟨q, hq, e2⟩ := List.mem_map.mp ha
      refine hno (List.any_eq_true.mpr ⟨q, hq, decide_eq_true (e2.trans e)⟩)
    · intro p hp
      rcases List.mem_append.mp hp with hp | hp
      · exact h.st p hp
      · exact ⟨y, by rw [List.mem_singleton.mp hp]⟩
abbrev PK := Str × Tr × Kvs
mutual
def Val.rlp (H : Hp) (kp : List PK) : Val → V → Prop
  | .num n, r => r = .int n
  | .fn x b e, r => ∃ (i : Nat) (a : Addr) (kvs : Kvs), r = .ref a ∧ H a = some (.tup [.int i]) ∧ kp[i]? = some (x, b, kvs) ∧ e.names = freeNames (.fn x b) ∧ e.rlp H kp kvs
def Env.rlp (H : Hp) (kp : List PK) : Env → Kvs → Prop
  | .nil, _ => True
  | .cons y v e, kvs => (∃ r, valV kvs (Sum.inr y) = some r ∧ v.rlp H kp r) ∧ e.rlp H kp kvs
end
mutual
theorem Val.rlp.mono {H H' : Hp} (k : KT H H') {kp more : List PK} : ∀ {v : Val} {r : V}, v.rlp H kp r → v.rlp H' (kp ++ more) r
  | .num _, _, h => h
  | .fn _ _ _, _, ⟨i, a, kvs, h1, h2, h3, h4, h5⟩ => ⟨i, a, kvs, h1, k _ _ h2, by rw [List.getElem?_append_left (List.getElem?_eq_some_iff.mp h3).1]; exact h3, h4, Env.rlp.mono k h5⟩
theorem Env.rlp.mono {H H' : Hp} (k : KT H H') {kp more : List PK} : ∀ {e : Env} {kvs : Kvs}, e.rlp H kp kvs → e.rlp H' (kp ++ more) kvs
  | .nil, _, _ => trivial
  | .cons _ _ _, _, ⟨⟨r, h1, h2⟩, h3⟩ => ⟨⟨r, h1, Val.rlp.mono k h2⟩, Env.rlp.mono k h3⟩
end
theorem Val.rlp.kt {H H' : Hp} (k : KT H H') {kp : List PK} {v : Val} {r : V} (h : v.rlp H kp r) : v.rlp H' kp r := by
  have := Val.rlp.mono k (more := []) h
  rwa [List.append_nil] at this
theorem Env.rlp.kt {H H' : Hp} (k : KT H H') {kp : List PK} {e : Env} {kvs : Kvs} (h : e.rlp H kp kvs) : e.rlp H' kp kvs := by
  have := Env.rlp.mono k (more := []) h
  rwa [List.append_nil] at this
/-- by looking up -/
def Env.lk (H : Hp) (kp : List PK) (e : Env) (kvs : Kvs) : Prop := ∀ y v, e.look y = some v → ∃ r, valV kvs (Sum.inr y) = some r ∧ v.rlp H kp r
theorem Env.lk.mono {H H' : Hp} (k : KT H H') {kp more : List PK} {e : Env} {kvs : Kvs} (h : e.lk H kp kvs) : e.lk H' (kp ++ more) kvs := fun y v hy => let ⟨r, a, b⟩ := h y v hy; ⟨r, a, b.mono k⟩
theorem Env.lk.kt {H H' : Hp} (k : KT H H') {kp : List PK} {e : Env} {kvs : Kvs} (h : e.lk H kp kvs) : e.lk H' kp kvs := fun y v hy => let ⟨r, a, b⟩ := h y v hy; ⟨r, a, b.kt k⟩
theorem Env.rlp.lk {H : Hp} {kp : List PK} : ∀ {e : Env} {kvs : Kvs}, e.rlp H kp kvs → e.lk H kp kvs
  | .nil, _, _ => fun y v h => by cases h
  | .cons z u e, kvs, ⟨h1, h2⟩ => fun y v h => by
    have h : (if y = z then some u else e.look y) = some v := h
    split at h
    · rename_i e0
      cases h
      subst e0
      exact h1
    · exact Env.rlp.lk h2 y v h
theorem Env.lk.keep {H : Hp} {kp : List PK} {e : Env} {kvs : Kvs} (h : e.lk H kp kvs) : ∀ ns : List Str, (e.keep ns).rlp H kp kvs
  | [] => trivial
  | y :: r => by
    show (match e.look y with | some v => Env.cons y v (e.keep r) | none => e.keep r).rlp H kp kvs
    cases hy : e.look y with
    | none => exact Env.lk.keep h r
    | some v => exact ⟨h y v hy, Env.lk.keep h r⟩
theorem Env.lk.cons {H : Hp} {kp : List PK} {e : Env} {kvs : Kvs} {x : Str} {v : Val} {r : V} (h : e.lk H kp kvs) (hv : v.rlp H kp r) : (Env.cons x v e).lk H kp (putK kvs (Sum.inr x) r) := fun y u hy => by
  have hy : (if y = x then some v else e.look y) = some u := hy
  rw [valV_put]
  split at hy
  · rename_i e0
    cases hy
    rw [if_pos (by rw [e0])]
    exact ⟨r, rfl, hv⟩
  · rename_i e0
    rw [if_neg (fun z => e0 (Sum.inr.inj z))]
    exact h y u hy
theorem Env.lk.nil {H : Hp} {kp : List PK} {kvs : Kvs} : Env.nil.lk H kp kvs := fun y v h => by cases h
/-- a row that waits -/
def RowP (H : Hp) (n : Nat) (kp : List PK) (i : MI) (v : V) : Prop := ∃ (p : Addr) (tv : V) (d : Addr) (kvs : Kvs), v = .ref p ∧ H p = some (.tup [.bl i.r, tv, .ref d]) ∧ At H i.t tv ∧ H d = some (.dK kvs) ∧ KeysOk kvs ∧ kvs.length ≤ n ∧ i.e.lk H kp kvs
theorem RowP.mono {H H' : Hp} (k : KD H H') {n n' : Nat} (hn : n ≤ n') {kp more : List PK} {i : MI} {v : V} : RowP H n kp i v → RowP H' n' (kp ++ more) i v := fun ⟨p, tv, d, kvs, h1, h2, h3, h4, h5, h6, h7⟩ =>
  ⟨p, tv, d, kvs, h1, k.1 _ _ h2, h3.mono k.kt, k.2 _ _ h4, h5, Nat.le_trans h6 hn, h7.mono k.kt⟩
theorem RowP.kd {H H' : Hp} (k : KD H H') {n n' : Nat} (hn : n ≤ n') {kp : List PK} {i : MI} {v : V} (h : RowP H n kp i v) : RowP H' n' kp i v := by
  have := RowP.mono k hn (more := []) h
  rwa [List.append_nil] at this
/-- a row of the made ones -/
def KpAt (H : Hp) (n : Nat) (k : PK) (v : V) : Prop := ∃ (a : Addr) (tb : V) (d : Addr), v = .ref a ∧ H a = some (.tup [.str k.1, tb, .ref d]) ∧ At H k.2.1 tb ∧ H d = some (.dK k.2.2) ∧ KeysOk k.2.2 ∧ k.2.2.length ≤ n
theorem KpAt.kd {H H' : Hp} (k : KD H H') {n n' : Nat} (hn : n ≤ n') {q : PK} {v : V} : KpAt H n q v → KpAt H' n' q v := fun ⟨a, tb, d, h1, h2, h3, h4, h5, h6⟩ => ⟨a, tb, d, h1, k.1 _ _ h2, h3.mono k.kt, k.2 _ _ h4, h5, Nat.le_trans h6 hn⟩
def LogP (H : Hp) (kp : List PK) (i : Nat) : Val → Prop
  | .num _ => False
  | .fn x b e => ∃ kvs, kp[i]? = some (x, b, kvs) ∧ e.names = freeNames (.fn x b) ∧ e.rlp H kp kvs
theorem LogP.mono {H H' : Hp} (k : KT H H') {kp more : List PK} {i : Nat} : ∀ {v : Val}, LogP H kp i v → LogP H' (kp ++ more) i v
  | .num _, h => h
  | .fn _ _ _, ⟨kvs, h1, h2, h3⟩ => ⟨kvs, by rw [List.getElem?_append_left (List.getElem?_eq_some_iff.mp h1).1]; exact h1, h2, h3.mono k⟩
theorem LogP.kt {H H' : Hp} (k : KT H H') {kp : List PK} {i : Nat} {v : Val} (h : LogP H kp i v) : LogP H' kp i v := by
  have := LogP.mono k (more := []) h
  rwa [List.append_nil] at this
/-- the three lists of a plain run -/
structure LA where
  lt : Addr
  ld : Addr
  lk : Addr
def LA.has (A : LA) (a : Addr) : Prop := a = A.lt ∨ a = A.ld ∨ a = A.lk
/-- W, F, L from their bottoms; n bounds the dicts -/
structure PSt (A : LA) (H : Hp) (n : Nat) (W : List MI) (F L : List Val) (kp : List PK) : Prop where
  td : A.lt ≠ A.ld
  tk : A.lt ≠ A.lk
  dk : A.ld ≠ A.lk
  todo : ∃ vs, H A.lt = some (.lst vs) ∧ Paired (RowP H n kp) W vs
  done : ∃ rs, H A.ld = some (.lst rs) ∧ Paired (fun v r => v.rlp H kp r) F rs
  kept : ∃ ks, H A.lk = some (.lst ks) ∧ Paired (KpAt H n) kp ks
  log : ∀ i v, L[i]? = some v → LogP H kp i v
  len : kp.length = L.length
theorem PSt.ext {A : LA} {H H' : Hp} {n n' : Nat} {W : List MI} {F L : List Val} {kp : List PK} (S : PSt A H n W F L kp) (e : Same H H') (hn : n ≤ n') : PSt A H' n' W F L kp :=
  ⟨S.td, S.tk, S.dk, let ⟨vs, h1, h2⟩ := S.todo; ⟨vs, e _ _ h1, pr_mono h2 fun _ _ h => RowP.kd (same_kd e) hn h⟩, let ⟨vs, h1, h2⟩ := S.done; ⟨vs, e _ _ h1, pr_mono h2 fun _ _ h => h.kt (same_kt e)⟩,
    let ⟨vs, h1, h2⟩ := S.kept; ⟨vs, e _ _ h1, pr_mono h2 fun _ _ h => KpAt.kd (same_kd e) hn h⟩, fun i v h => (S.log i v h).kt (same_kt e), S.len⟩
theorem PSt.setT {A : LA} {H : Hp} {n : Nat} {W W' : List MI} {F L : List Val} {kp : List PK} (S : PSt A H n W F L kp) {vs : List V} (h : Paired (RowP H n kp) W' vs) : PSt A (upd H A.lt (.lst vs)) n W' F L kp := by
  obtain ⟨vs0, h1, _⟩ := S.todo
  have k := kd_lst (o := .lst vs) h1
  exact ⟨S.td, S.tk, S.dk, ⟨vs, upd_same, pr_mono h fun _ _ h => RowP.kd k (Nat.le_refl _) h⟩, let ⟨rs, h1, h2⟩ := S.done; ⟨rs, by rw [upd_ne S.td.symm]; exact h1, pr_mono h2 fun _ _ h => h.kt k.kt⟩,
    let ⟨rs, h1, h2⟩ := S.kept; ⟨rs, by rw [upd_ne S.tk.symm]; exact h1, pr_mono h2 fun _ _ h => KpAt.kd k (Nat.le_refl _) h⟩, fun i v h => (S.log i v h).kt k.kt, S.len⟩
theorem PSt.setD {A : LA} {H : Hp} {n : Nat} {W : List MI} {F F' L : List Val} {kp : List PK} (S : PSt A H n W F L kp) {vs : List V} (h : Paired (fun v r => v.rlp H kp r) F' vs) : PSt A (upd H A.ld (.lst vs)) n W F' L kp := by
  obtain ⟨vs0, h1, _⟩ := S.done
  have k := kd_lst (o := .lst vs) h1
  exact ⟨S.td, S.tk, S.dk, let ⟨rs, h1, h2⟩ := S.todo; ⟨rs, by rw [upd_ne S.td]; exact h1, pr_mono h2 fun _ _ h => RowP.kd k (Nat.le_refl _) h⟩, ⟨vs, upd_same, pr_mono h fun _ _ h => h.kt k.kt⟩,
    let ⟨rs, h1, h2⟩ := S.kept; ⟨rs, by rw [upd_ne S.dk.symm]; exact h1, pr_mono h2 fun _ _ h => KpAt.kd k (Nat.le_refl _) h⟩, fun i v h => (S.log i v h).kt k.kt, S.len⟩
/-- one more is made -/
theorem PSt.setK {A : LA} {H : Hp} {n : Nat} {W : List MI} {F L : List Val} {kp : List PK} (S : PSt A H n W F L kp) {vs : List V} {x : Str} {b : Tr} {kvs : Kvs} {e : Env} (h : Paired (KpAt H n) (kp ++ [(x, b, kvs)]) vs) (he : e.lk H kp kvs) (hc : e.Cov (.fn x b)) :
    PSt A (upd H A.lk (.lst vs)) n W F (L ++ [keptV x b e]) (kp ++ [(x, b, kvs)]) := by
  obtain ⟨vs0, h1, _⟩ := S.kept
  have k := kd_lst (o := .lst vs) h1
  refine ⟨S.td, S.tk, S.dk, let ⟨rs, h1, h2⟩ := S.todo; ⟨rs, by rw [upd_ne S.tk]; exact h1, pr_mono h2 fun _ _ h => RowP.mono k (Nat.le_refl _) h⟩, let ⟨rs, h1, h2⟩ := S.done; ⟨rs, by rw [upd_ne S.dk]; exact h1, pr_mono h2 fun _ _ h => h.mono k.kt⟩,
    ⟨vs, upd_same, pr_mono h fun _ _ h => KpAt.kd k (Nat.le_refl _) h⟩, fun i v h => ?_, by rw [List.length_append, List.length_append, S.len]; rfl⟩
  by_cases hi : i < L.length
  · rw [List.getElem?_append_left hi] at h
    exact (S.log i v h).mono k.kt
  · have hi2 : i = L.length := by
      have := (List.getElem?_eq_some_iff.mp h).1
      rw [List.length_append, List.length_singleton] at this
      omega
    subst hi2
    rw [List.getElem?_append_right (Nat.le_refl _), Nat.sub_self] at h
    cases h
    refine ⟨kvs, by rw [← S.len, List.getElem?_append_right (Nat.le_refl _), Nat.sub_self]; rfl, Env.names_keep fun y hy => hc y (freeNames_fr hy), Env.rlp.mono k.kt (Env.lk.keep he _)⟩
theorem pr_snocL {α β : Type} {R : α → β → Prop} {xs : List α} {x : α} {ys : List β} (h : Paired R (xs ++ [x]) ys) : ∃ zs y, ys = zs ++ [y] ∧ Paired R xs zs ∧ R x y := by
  rcases List.eq_nil_or_concat ys with rfl | ⟨zs, y, e⟩
  · have := pr_len h
    simp at this
  · rw [List.concat_eq_append] at e
    subst e
    obtain ⟨us, u, e1, h1, h2⟩ := pr_snoc h
    have h3 := List.append_inj' e1 rfl
    obtain ⟨rfl, h4⟩ := h3
    cases h4
    exact ⟨zs, y, rfl, h1, h2⟩
theorem putK_le (kvs : Kvs) (k : Key) (x : V) : (putK kvs k x).length ≤ kvs.length + 1 := by
  unfold putK
  split
  · rw [List.length_map]; omega
  · rw [List.length_append]; exact Nat.le_refl _
theorem word_num {t : Tr} (h : t.word = "num") : ∃ n, t = .num n := by
  cases t with
  | num n => exact ⟨n, rfl⟩
  | _ => exact absurd h (by simp only [Tr.word]; decide +kernel)
def spBegun : Sp := fun vs H Q _ => ∃ (A : LA) (n : Nat) (W : List MI) (F L : List Val) (kp : List PK) (t : Tr) (e : Env) (tv : V) (d : Addr) (kvs : Kvs), vs = [tv, .ref d, .ref A.lt, .ref A.ld, .ref A.lk] ∧ PSt A H n W F L kp ∧ At H t tv ∧ H d = some (.dK kvs) ∧ KeysOk kvs ∧ kvs.length ≤ n ∧
  e.lk H kp kvs ∧ e.Cov t ∧ W.length ≤ 2000000 ∧ F.length ≤ 2000000 ∧ L.length ≤ 2000000 ∧ ∀ H' kp', Kp A.has H H' → PSt A H' n (lookR t e W F L).1 (lookR t e W F L).2.1 (lookR t e W F L).2.2 kp' → Q .non H'
def DoP (A : LA) (H : Hp) (n : Nat) (W : List MI) (F L : List Val) (kp : List PK) (d : Do) (Q : VK) : Prop := match d with
  | .err c => ∀ H', Kp A.has H H' → Q (.str c.word) H'
  | .val u => ∀ H', Kp A.has H H' → PSt A H' (n + 1) W (F ++ [u]) L kp → Q (.str "") H'
  | .look e b => ∀ H', Kp A.has H H' → PSt A H' (n + 1) (W ++ [⟨b, e, false⟩]) F L kp → Q (.str "") H'
def spTurned : Sp := fun vs H Q _ => ∃ (A : LA) (n : Nat) (W : List MI) (F F' L : List Val) (kp : List PK) (t : Tr) (e : Env) (tv : V) (d : Addr) (kvs : Kvs) (a : Do), vs = [tv, .ref d, .ref A.lt, .ref A.ld, .ref A.lk] ∧ PSt A H n W F L kp ∧ At H t tv ∧ H d = some (.dK kvs) ∧ KeysOk kvs ∧ kvs.length ≤ n ∧
  e.lk H kp kvs ∧ W.length ≤ 2000000 ∧ F.length ≤ 2000000 ∧ n ≤ 2000 ∧ ((t.two = true ∧ ∃ v w, F = F' ++ [v] ++ [w] ∧ a = do2 t v w) ∨ (t.one = true ∧ ∃ w, F = F' ++ [w] ∧ a = do1 t e w)) ∧ DoP A H n W F' L kp a Q
def spPlain : Sp := fun vs H Q _ => ∃ (v : V) (t : Tr) (m : Nat), vs = [v, .int m] ∧ OkIn H t v m ∧
  match evF m .nil t with
  | .ok u m' L => ∀ (p lk : Addr) (r : V) (ks : List V) (kp : List PK) (H' : Hp), Same H H' → H' p = some (.tup [.str "", r, .int ((m : Int) - m'), .ref lk]) → H' lk = some (.lst ks) → Paired (KpAt H' (m - m')) kp ks → u.rlp H' kp r → (∀ i v, L[i]? = some v → LogP H' kp i v) → kp.length = L.length → L.length ≤ 1300000 → Q (.ref p) H'
  | .err c => ∀ (p : Addr) (a b d : V) (H' : Hp), Same H H' → H' p = some (.tup [.str c.word, a, b, d]) → Q (.ref p) H'
  | .dry => ∀ (p : Addr) (a b d : V) (H' : Hp), Same H H' → H' p = some (.tup [.str "dry", a, b, d]) → Q (.ref p) H'
end My

namespace My
open PySem L2
/-! ### a tree that is worked out in its place -/
/-- the part that comes next, by its place in the tuple -/
def nx2 (a b : Tr) : Option Nat := if a.isV = false then some 1 else if b.isV = false then some 2 else none
def Tr.nxt : Tr → Option Nat
  | .num _ => none | .name _ => none | .fn _ _ => none
  | .call a b => nx2 a b | .plus a b => nx2 a b | .less a b => nx2 a b
  | .ite c _ _ => if c.isV = false then some 1 else none
  | .lt _ e _ => if e.isV = false then some 2 else none
def Tr.part : Tr → Nat → Option Tr
  | .call a _, 1 => some a | .call _ b, 2 => some b
  | .plus a _, 1 => some a | .plus _ b, 2 => some b
  | .less a _, 1 => some a | .less _ b, 2 => some b
  | .ite c _ _, 1 => some c | .lt _ e _, 2 => some e | _, _ => none
def Tr.set : Tr → Nat → Tr → Tr
  | .call _ b, 1, u => .call u b | .call a _, 2, u => .call a u
  | .plus _ b, 1, u => .plus u b | .plus a _, 2, u => .plus a u
  | .less _ b, 1, u => .less u b | .less a _, 2, u => .less a u
  | .ite _ a b, 1, u => .ite u a b | .lt x _ b, 2, u => .lt x u b | t, _, _ => t
def Sh.part : Sh → Nat → Option Sh
  | .call a _, 1 => some a | .call _ b, 2 => some b
  | .plus a _, 1 => some a | .plus _ b, 2 => some b
  | .less a _, 1 => some a | .less _ b, 2 => some b
  | .ite c _ _, 1 => some c | .lt _ e _, 2 => some e | _, _ => none
def Sh.set : Sh → Nat → Sh → Sh
  | .call _ b, 1, u => .call u b | .call a _, 2, u => .call a u
  | .plus _ b, 1, u => .plus u b | .plus a _, 2, u => .plus a u
  | .less _ b, 1, u => .less u b | .less a _, 2, u => .less a u
  | .ite _ a b, 1, u => .ite u a b | .lt x _ b, 2, u => .lt x u b | t, _, _ => t
theorem nx2_eq {a b : Tr} {i : Nat} (h : nx2 a b = some i) : (i = 1 ∧ a.isV = false) ∨ (i = 2 ∧ a.isV = true ∧ b.isV = false) := by
  unfold nx2 at h
  split at h
  · cases h; exact .inl ⟨rfl, by assumption⟩
  · rename_i h1
    split at h
    · cases h; exact .inr ⟨rfl, by simpa using h1, by assumption⟩
    · cases h
theorem nx2_none {a b : Tr} (h : nx2 a b = none) : a.isV = true ∧ b.isV = true := by
  unfold nx2 at h
  split at h
  · cases h
  · rename_i h1
    split at h
    · cases h
    · rename_i h2; exact ⟨by simpa using h1, by simpa using h2⟩
/-- the ways in which a part comes next -/
theorem nxt_cases {t : Tr} {i : Nat} (h : t.nxt = some i) :
    (∃ a b, (t = .call a b ∨ t = .plus a b ∨ t = .less a b) ∧ ((i = 1 ∧ a.isV = false) ∨ (i = 2 ∧ a.isV = true ∧ b.isV = false))) ∨ (∃ c a b, t = .ite c a b ∧ i = 1 ∧ c.isV = false) ∨ ∃ x e b, t = .lt x e b ∧ i = 2 ∧ e.isV = false := by
  cases t with
  | num _ => cases h
  | name _ => cases h
  | fn _ _ => cases h
  | call a b => exact .inl ⟨a, b, .inl rfl, nx2_eq h⟩
  | plus a b => exact .inl ⟨a, b, .inr (.inl rfl), nx2_eq h⟩
  | less a b => exact .inl ⟨a, b, .inr (.inr rfl), nx2_eq h⟩
  | ite c a b =>
    have h : (if c.isV = false then some 1 else none) = some i := h
    split at h
    · cases h; exact .inr (.inl ⟨c, a, b, rfl, rfl, by assumption⟩)
    · cases h
  | lt x e b =>
    have h : (if e.isV = false then some 2 else none) = some i := h
    split at h
    · cases h; exact .inr (.inr ⟨x, e, b, rfl, rfl, by assumption⟩)
    · cases h
theorem nxt_part {t : Tr} {i : Nat} (h : t.nxt = some i) : ∃ u, t.part i = some u ∧ u.isV = false ∧ t.set i u = t := by
  rcases nxt_cases h with ⟨a, b, ht, ⟨rfl, h1⟩ | ⟨rfl, h1, h2⟩⟩ | ⟨c, a, b, rfl, rfl, h1⟩ | ⟨x, e, b, rfl, rfl, h1⟩
  · rcases ht with rfl | rfl | rfl <;> exact ⟨a, rfl, h1, rfl⟩
  · rcases ht with rfl | rfl | rfl <;> exact ⟨b, rfl, h2, rfl⟩
  · exact ⟨c, rfl, h1, rfl⟩
  · exact ⟨e, rfl, h1, rfl⟩
theorem nxt_ctx {t : Tr} {i : Nat} (h : t.nxt = some i) : Ctx fun u => t.set i u := by
  rcases nxt_cases h with ⟨a, b, ht, ⟨rfl, h1⟩ | ⟨rfl, h1, h2⟩⟩ | ⟨c, a, b, rfl, rfl, h1⟩ | ⟨x, e, b, rfl, rfl, h1⟩
  · rcases ht with rfl | rfl | rfl
    · exact ctx_call1 b
    · exact ctx_plus1 b
    · exact ctx_less1 b
  · have := Tr.step_val.mpr h1
    rcases ht with rfl | rfl | rfl
    · exact ctx_call2 this
    · exact ctx_plus2 this
    · exact ctx_less2 this
  · exact ctx_ite a b
  · exact ctx_lt x b
theorem nxt_isV {t : Tr} {i : Nat} (h : t.nxt = some i) (u : Tr) : (t.set i u).isV = false := by
  rcases nxt_cases h with ⟨a, b, ht, ⟨rfl, h1⟩ | ⟨rfl, h1, h2⟩⟩ | ⟨c, a, b, rfl, rfl, h1⟩ | ⟨x, e, b, rfl, rfl, h1⟩
  · rcases ht with rfl | rfl | rfl <;> rfl
  · rcases ht with rfl | rfl | rfl <;> rfl
  · rfl
  · rfl
theorem nxt_dep {t : Tr} {i : Nat} (h : t.nxt = some i) (u : Tr) : u.dep + 1 ≤ (t.set i u).dep := by
  rcases nxt_cases h with ⟨a, b, ht, ⟨rfl, h1⟩ | ⟨rfl, h1, h2⟩⟩ | ⟨c, a, b, rfl, rfl, h1⟩ | ⟨x, e, b, rfl, rfl, h1⟩
  · rcases ht with rfl | rfl | rfl <;> simp only [Tr.set, Tr.dep] <;> omega
  · rcases ht with rfl | rfl | rfl <;> simp only [Tr.set, Tr.dep] <;> omega
  · simp only [Tr.set, Tr.dep]; omega
  · simp only [Tr.set, Tr.dep]; omega
theorem nxt_fr {t : Tr} {i : Nat} (h : t.nxt = some i) {u : Tr} {y : Str} (hy : u.fr y) : (t.set i u).fr y := by
  rcases nxt_cases h with ⟨a, b, ht, ⟨rfl, h1⟩ | ⟨rfl, h1, h2⟩⟩ | ⟨c, a, b, rfl, rfl, h1⟩ | ⟨x, e, b, rfl, rfl, h1⟩
  · rcases ht with rfl | rfl | rfl <;> exact .inl hy
  · rcases ht with rfl | rfl | rfl <;> exact .inr hy
  · exact .inl hy
  · exact .inl hy
/-- how far it is to the next deed -/
def ddT (d : Nat) (a : Tr) : Nat := if a.isV = true then 0 else d + 2
def Tr.far : Tr → Nat
  | .num _ => 0 | .fn _ _ => 0 | .name _ => 1
  | .call a b => 1 + ddT a.far a + ddT b.far b | .plus a b => 1 + ddT a.far a + ddT b.far b | .less a b => 1 + ddT a.far a + ddT b.far b
  | .ite c _ _ => 1 + ddT c.far c | .lt _ e _ => 1 + ddT e.far e
theorem far_isV {t : Tr} (h : t.isV = true) : t.far = 0 := by cases t <;> first | rfl | cases h
theorem nxt_far {t : Tr} {i : Nat} (h : t.nxt = some i) {u v : Tr} (hu : t.part i = some u) (hv : v.isV = true) : t.far = u.far + 2 + (t.set i v).far := by
  have k1 : ∀ {a : Tr}, a.isV = false → ddT a.far a = a.far + 2 := fun {a} h => by unfold ddT; rw [if_neg (by rw [h]; decide)]
  have k2 : ∀ {a : Tr}, a.isV = true → ddT a.far a = 0 := fun {a} h => by unfold ddT; rw [if_pos h]
  have kv := k2 hv
  rcases nxt_cases h with ⟨a, b, ht, ⟨rfl, h1⟩ | ⟨rfl, h1, h2⟩⟩ | ⟨c, a, b, rfl, rfl, h1⟩ | ⟨x, e, b, rfl, rfl, h1⟩
  · have := k1 h1
    rcases ht with rfl | rfl | rfl <;> cases hu <;> simp only [Tr.set, Tr.far] <;> omega
  · have := k1 h2
    rcases ht with rfl | rfl | rfl <;> cases hu <;> simp only [Tr.set, Tr.far] <;> omega
  · have := k1 h1
    cases hu
    simp only [Tr.set, Tr.far]; omega
  · have := k1 h1
    cases hu
    simp only [Tr.set, Tr.far]; omega
/-! ### the nodes round it -/
structure Fr where
  t : Tr
  s : Sh
  i : Nat
def plug (fr : List Fr) (u : Tr) : Tr := fr.foldr (fun f v => f.t.set f.i v) u
theorem plug_snoc (fr : List Fr) (f : Fr) (u : Tr) : plug (fr ++ [f]) u = plug fr (f.t.set f.i u) := by
  unfold plug
  rw [List.foldr_append]
  rfl
def FrOk (fr : List Fr) : Prop := ∀ f ∈ fr, f.t.nxt = some f.i
theorem FrOk.tail {f : Fr} {fr : List Fr} (h : FrOk (f :: fr)) : FrOk fr := fun g hg => h g (List.mem_cons_of_mem _ hg)
theorem plug_ctx : ∀ {fr : List Fr}, FrOk fr → Ctx (plug fr)
  | [], _ => Ctx.id
  | f :: fr, h => (nxt_ctx (h f List.mem_cons_self)).comp (plug_ctx h.tail)
theorem plug_dep : ∀ {fr : List Fr} {u : Tr}, FrOk fr → u.dep + fr.length ≤ (plug fr u).dep
  | [], u, _ => Nat.le_refl _
  | f :: fr, u, h => by
    have h1 := plug_dep (u := u) h.tail
    have h2 := nxt_dep (h f List.mem_cons_self) (plug fr u)
    show u.dep + (fr.length + 1) ≤ (f.t.set f.i (plug fr u)).dep
    omega
theorem plug_closed : ∀ {fr : List Fr} {u : Tr}, FrOk fr → (plug fr u).closed → u.closed
  | [], u, _, h => h
  | f :: fr, u, h, hc => plug_closed h.tail fun y hy => hc y (nxt_fr (h f List.mem_cons_self) hy)
theorem plug_isV {f : Fr} {fr : List Fr} {u : Tr} (h : FrOk (f :: fr)) : (plug (f :: fr) u).isV = false := nxt_isV (h f List.mem_cons_self) _
def fwt (fr : List Fr) : Nat := (fr.map fun f => (f.t.set f.i (.num 0)).far + 1).sum
theorem fwt_snoc (fr : List Fr) (f : Fr) : fwt (fr ++ [f]) = fwt fr + ((f.t.set f.i (.num 0)).far + 1) := by simp [fwt]
theorem far_enter {t u : Tr} {s : Sh} {i : Nat} {fr : List Fr} (h : t.nxt = some i) (hu : t.part i = some u) : u.far + fwt (fr ++ [⟨t, s, i⟩]) < t.far + fwt fr := by
  have := nxt_far h hu (v := .num 0) rfl
  rw [fwt_snoc]
  dsimp only
  omega
theorem far_leave {u : Tr} {f : Fr} {fr : List Fr} (h : f.t.nxt = some f.i) (hu : u.isV = true) : (f.t.set f.i u).far + fwt fr < u.far + fwt (fr ++ [f]) := by
  obtain ⟨p, hp, _, _⟩ := nxt_part h
  have h1 := nxt_far h hp (v := .num 0) rfl
  have h2 := nxt_far h hp hu
  rw [fwt_snoc]
  omega
/-! ### short trees -/
/-- what the numbers stand for -/
def sg (fs : List Tr) : Ss := fun k => match k with
  | .inl (.ofNat j) => fs[j]?.map Tr.sh
  | _ => none
theorem sg_del (fs : List Tr) (x : Str) : (sg fs).del x = sg fs := Ss.del_id rfl
theorem sh_inj : ∀ {t u : Tr}, t.sh = u.sh → t = u := by
  intro t
  induction t with
  | num n => intro u h; cases u <;> simp only [Tr.sh] at h <;> cases h; rfl
  | name x => intro u h; cases u <;> simp only [Tr.sh] at h <;> cases h; rfl
  | fn x b ih => intro u h; cases u <;> simp only [Tr.sh] at h <;> injection h; subst_vars; rename_i h1; rw [ih h1]
  | call a b i1 i2 => intro u h; cases u <;> simp only [Tr.sh] at h <;> injection h; rename_i h1 h2; rw [i1 h1, i2 h2]
  | plus a b i1 i2 => intro u h; cases u <;> simp only [Tr.sh] at h <;> injection h; rename_i h1 h2; rw [i1 h1, i2 h2]
  | less a b i1 i2 => intro u h; cases u <;> simp only [Tr.sh] at h <;> injection h; rename_i h1 h2; rw [i1 h1, i2 h2]
  | ite c a b i0 i1 i2 => intro u h; cases u <;> simp only [Tr.sh] at h <;> injection h; rename_i h0 h1 h2; rw [i0 h0, i1 h1, i2 h2]
  | lt x a b i1 i2 => intro u h; cases u <;> simp only [Tr.sh] at h <;> injection h; rename_i h0 h1 h2; subst h0; rw [i1 h1, i2 h2]
def FnL (fs : List Tr) : Prop := ∀ g ∈ fs, ∃ x b, g = .fn x b
/-- a short tree of a full one -/
def Rel (fs : List Tr) (s : Sh) (t : Tr) : Prop := s.sub (sg fs) = t.sh
/-- a name, short -/
theorem rel_name {fs : List Tr} {k : Key} {t : Tr} (h : Rel fs (.name k) t) : (∃ x, k = .inr x ∧ t = .name x) ∨ ∃ j : Nat, k = .inl (j : Int) ∧ fs[j]? = some t := by
  have h : ((sg fs) k).getD (.name k) = t.sh := h
  rcases k with (j | j) | x
  · cases e : fs[j]? with
    | none =>
      rw [show sg fs (.inl (.ofNat j)) = fs[j]?.map Tr.sh from rfl, e] at h
      cases t <;> simp only [Tr.sh, Option.map_none, Option.getD_none] at h <;> cases h
    | some g =>
      rw [show sg fs (.inl (.ofNat j)) = fs[j]?.map Tr.sh from rfl, e] at h
      exact .inr ⟨j, rfl, by rw [e, sh_inj (show g.sh = t.sh from h)]⟩
  · cases t <;> simp only [Tr.sh, sg, Option.getD_none] at h <;> cases h
  · left
    cases t <;> simp only [Tr.sh, sg, Option.getD_none] at h <;> cases h
    exact ⟨x, rfl, rfl⟩
theorem rel_ext {fs gs : List Tr} : ∀ {s : Sh} {t : Tr}, Rel fs s t → Rel (fs ++ gs) s t := by
  intro s
  induction s with
  | num n => exact fun h => h
  | name k =>
    intro t h
    rcases rel_name h with ⟨x, rfl, rfl⟩ | ⟨j, rfl, hj⟩
    · rfl
    · show ((sg (fs ++ gs)) (.inl (j : Int))).getD _ = _
      rw [show sg (fs ++ gs) (.inl (j : Int)) = (fs ++ gs)[j]?.map Tr.sh from rfl, List.getElem?_append_left (by
        have := List.getElem?_eq_some_iff.mp hj
        exact this.1), hj]
      rfl
  | fn x b ih =>
    intro t h
    have h : Sh.fn x (b.sub ((sg fs).del x)) = t.sh := h
    show Sh.fn x (b.sub ((sg (fs ++ gs)).del x)) = t.sh
    rw [sg_del] at h ⊢
    cases t <;> simp only [Tr.sh] at h <;> injection h
    rename_i h1 h2
    rw [h1, Tr.sh, show b.sub (sg (fs ++ gs)) = _ from ih h2]
  | call a b i1 i2 =>
    intro t h
    have h : Sh.call (a.sub (sg fs)) (b.sub (sg fs)) = t.sh := h
    cases t <;> simp only [Tr.sh] at h <;> injection h
    rename_i h1 h2
    show Sh.call (a.sub (sg (fs ++ gs))) (b.sub (sg (fs ++ gs))) = _
    rw [show a.sub (sg (fs ++ gs)) = _ from i1 h1, show b.sub (sg (fs ++ gs)) = _ from i2 h2]; rfl
  | plus a b i1 i2 =>
    intro t h
    have h : Sh.plus (a.sub (sg fs)) (b.sub (sg fs)) = t.sh := h
    cases t <;> simp only [Tr.sh] at h <;> injection h
    rename_i h1 h2
    show Sh.plus (a.sub (sg (fs ++ gs))) (b.sub (sg (fs ++ gs))) = _
    rw [show a.sub (sg (fs ++ gs)) = _ from i1 h1, show b.sub (sg (fs ++ gs)) = _ from i2 h2]; rfl
  | less a b i1 i2 =>
    intro t h
    have h : Sh.less (a.sub (sg fs)) (b.sub (sg fs)) = t.sh := h
    cases t <;> simp only [Tr.sh] at h <;> injection h
    rename_i h1 h2
    show Sh.less (a.sub (sg (fs ++ gs))) (b.sub (sg (fs ++ gs))) = _
    rw [show a.sub (sg (fs ++ gs)) = _ from i1 h1, show b.sub (sg (fs ++ gs)) = _ from i2 h2]; rfl
  | ite c a b i0 i1 i2 =>
    intro t h
    have h : Sh.ite (c.sub (sg fs)) (a.sub (sg fs)) (b.sub (sg fs)) = t.sh := h
    cases t <;> simp only [Tr.sh] at h <;> injection h
    rename_i h0 h1 h2
    show Sh.ite (c.sub (sg (fs ++ gs))) (a.sub (sg (fs ++ gs))) (b.sub (sg (fs ++ gs))) = _
    rw [show c.sub (sg (fs ++ gs)) = _ from i0 h0, show a.sub (sg (fs ++ gs)) = _ from i1 h1, show b.sub (sg (fs ++ gs)) = _ from i2 h2]; rfl
  | lt x a b i1 i2 =>
    intro t h
    have h : Sh.lt x (a.sub (sg fs)) (b.sub ((sg fs).del x)) = t.sh := h
    rw [sg_del] at h
    cases t <;> simp only [Tr.sh] at h <;> injection h
    rename_i h0 h1 h2
    show Sh.lt x (a.sub (sg (fs ++ gs))) (b.sub ((sg (fs ++ gs)).del x)) = _
    rw [sg_del, h0, show a.sub (sg (fs ++ gs)) = _ from i1 h1, show b.sub (sg (fs ++ gs)) = _ from i2 h2]; rfl
end My

namespace My
open PySem L2
section
variable {fs : List Tr} {s : Sh}
theorem rel_num {n : Int} (hf : FnL fs) (h : Rel fs s (.num n)) : s = .num n := by
  cases s with
  | num m => have h : Sh.num m = .num n := h; rw [h]
  | name k =>
    rcases rel_name h with ⟨x, _, e⟩ | ⟨j, _, hj⟩
    · cases e
    · obtain ⟨x, b, e⟩ := hf _ (List.mem_of_getElem? hj); cases e
  | _ => cases (show _ = Sh.num n from h)
theorem rel_nm {x : Str} (hf : FnL fs) (h : Rel fs s (.name x)) : s = .name (.inr x) := by
  cases s with
  | name k =>
    rcases rel_name h with ⟨y, rfl, e⟩ | ⟨j, _, hj⟩
    · cases e; rfl
    · obtain ⟨x, b, e⟩ := hf _ (List.mem_of_getElem? hj); cases e
  | _ => cases (show _ = Sh.name (.inr x) from h)
theorem rel_fn {x : Str} {b : Tr} (h : Rel fs s (.fn x b)) : (∃ sb, s = .fn x sb ∧ Rel fs sb b) ∨ ∃ j : Nat, s = .name (.inl (j : Int)) ∧ fs[j]? = some (.fn x b) := by
  cases s with
  | fn y sb =>
    have h : Sh.fn y (sb.sub ((sg fs).del y)) = .fn x b.sh := h
    rw [sg_del] at h
    injection h with h1 h2
    exact .inl ⟨sb, by rw [h1], h2⟩
  | name k =>
    rcases rel_name h with ⟨y, rfl, e⟩ | ⟨j, rfl, hj⟩
    · cases e
    · exact .inr ⟨j, rfl, hj⟩
  | _ => cases (show _ = Sh.fn x b.sh from h)
theorem rel_call {a b : Tr} (hf : FnL fs) (h : Rel fs s (.call a b)) : ∃ sa sb, s = .call sa sb ∧ Rel fs sa a ∧ Rel fs sb b := by
  cases s with
  | call sa sb => have h : Sh.call (sa.sub (sg fs)) (sb.sub (sg fs)) = .call a.sh b.sh := h; injection h with h1 h2; exact ⟨sa, sb, rfl, h1, h2⟩
  | name k =>
    rcases rel_name h with ⟨y, rfl, e⟩ | ⟨j, rfl, hj⟩
    · cases e
    · obtain ⟨x, b, e⟩ := hf _ (List.mem_of_getElem? hj); cases e
  | _ => cases (show _ = Sh.call a.sh b.sh from h)
theorem rel_plus {a b : Tr} (hf : FnL fs) (h : Rel fs s (.plus a b)) : ∃ sa sb, s = .plus sa sb ∧ Rel fs sa a ∧ Rel fs sb b := by
  cases s with
  | plus sa sb => have h : Sh.plus (sa.sub (sg fs)) (sb.sub (sg fs)) = .plus a.sh b.sh := h; injection h with h1 h2; exact ⟨sa, sb, rfl, h1, h2⟩
  | name k =>
    rcases rel_name h with ⟨y, rfl, e⟩ | ⟨j, rfl, hj⟩
    · cases e
    · obtain ⟨x, b, e⟩ := hf _ (List.mem_of_getElem? hj); cases e
  | _ => cases (show _ = Sh.plus a.sh b.sh from h)
theorem rel_less {a b : Tr} (hf : FnL fs) (h : Rel fs s (.less a b)) : ∃ sa sb, s = .less sa sb ∧ Rel fs sa a ∧ Rel fs sb b := by
  cases s with
  | less sa sb => have h : Sh.less (sa.sub (sg fs)) (sb.sub (sg fs)) = .less a.sh b.sh := h; injection h with h1 h2; exact ⟨sa, sb, rfl, h1, h2⟩
  | name k =>
    rcases rel_name h with ⟨y, rfl, e⟩ | ⟨j, rfl, hj⟩
    · cases e
    · obtain ⟨x, b, e⟩ := hf _ (List.mem_of_getElem? hj); cases e
  | _ => cases (show _ = Sh.less a.sh b.sh from h)
theorem rel_ite {c a b : Tr} (hf : FnL fs) (h : Rel fs s (.ite c a b)) : ∃ sc sa sb, s = .ite sc sa sb ∧ Rel fs sc c ∧ Rel fs sa a ∧ Rel fs sb b := by
  cases s with
  | ite sc sa sb => have h : Sh.ite (sc.sub (sg fs)) (sa.sub (sg fs)) (sb.sub (sg fs)) = .ite c.sh a.sh b.sh := h; injection h with h0 h1 h2; exact ⟨sc, sa, sb, rfl, h0, h1, h2⟩
  | name k =>
    rcases rel_name h with ⟨y, rfl, e⟩ | ⟨j, rfl, hj⟩
    · cases e
    · obtain ⟨x, b, e⟩ := hf _ (List.mem_of_getElem? hj); cases e
  | _ => cases (show _ = Sh.ite c.sh a.sh b.sh from h)
theorem rel_lt {x : Str} {a b : Tr} (hf : FnL fs) (h : Rel fs s (.lt x a b)) : ∃ sa sb, s = .lt x sa sb ∧ Rel fs sa a ∧ Rel fs sb b := by
  cases s with
  | lt y sa sb =>
    have h : Sh.lt y (sa.sub (sg fs)) (sb.sub ((sg fs).del y)) = .lt x a.sh b.sh := h
    rw [sg_del] at h
    injection h with h0 h1 h2
    exact ⟨sa, sb, by rw [h0], h1, h2⟩
  | name k =>
    rcases rel_name h with ⟨y, rfl, e⟩ | ⟨j, rfl, hj⟩
    · cases e
    · obtain ⟨x, b, e⟩ := hf _ (List.mem_of_getElem? hj); cases e
  | _ => cases (show _ = Sh.lt x a.sh b.sh from h)
theorem rel_mk2 {sa sb : Sh} {a b : Tr} (h1 : Rel fs sa a) (h2 : Rel fs sb b) : Rel fs (.call sa sb) (.call a b) ∧ Rel fs (.plus sa sb) (.plus a b) ∧ Rel fs (.less sa sb) (.less a b) := by
  unfold Rel at *
  simp only [Sh.sub, Tr.sh, h1, h2, and_self]
theorem rel_mki {sc sa sb : Sh} {c a b : Tr} (h0 : Rel fs sc c) (h1 : Rel fs sa a) (h2 : Rel fs sb b) : Rel fs (.ite sc sa sb) (.ite c a b) := by
  unfold Rel at *
  simp only [Sh.sub, Tr.sh, h0, h1, h2]
theorem rel_mkl {x : Str} {sa sb : Sh} {a b : Tr} (h1 : Rel fs sa a) (h2 : Rel fs sb b) : Rel fs (.lt x sa sb) (.lt x a b) := by
  unfold Rel at *
  simp only [Sh.sub, Tr.sh, sg_del, h1, h2]
theorem rel_mkf {x : Str} {sb : Sh} {b : Tr} (h2 : Rel fs sb b) : Rel fs (.fn x sb) (.fn x b) := by
  unfold Rel at *
  simp only [Sh.sub, Tr.sh, sg_del, h2]
/-- the part that comes next, short, and another in its place -/
theorem rel_part {t u : Tr} {i : Nat} (hf : FnL fs) (h : Rel fs s t) (hn : t.nxt = some i) (hu : t.part i = some u) : ∃ su, s.part i = some su ∧ Rel fs su u ∧ ∀ fs' su' u', Rel fs' s t → FnL fs' → Rel fs' su' u' → Rel fs' (s.set i su') (t.set i u') := by
  rcases nxt_cases hn with ⟨a, b, ht, ⟨rfl, h1⟩ | ⟨rfl, h1, h2⟩⟩ | ⟨c, a, b, rfl, rfl, h1⟩ | ⟨x, e, b, rfl, rfl, h1⟩
  · rcases ht with rfl | rfl | rfl <;> cases hu
    · obtain ⟨sa, sb, rfl, g1, g2⟩ := rel_call hf h
      exact ⟨sa, rfl, g1, fun fs' su' u' h' hf' hu' => by obtain ⟨_, _, e, _, g2⟩ := rel_call hf' h'; cases e; exact (rel_mk2 hu' g2).1⟩
    · obtain ⟨sa, sb, rfl, g1, g2⟩ := rel_plus hf h
      exact ⟨sa, rfl, g1, fun fs' su' u' h' hf' hu' => by obtain ⟨_, _, e, _, g2⟩ := rel_plus hf' h'; cases e; exact (rel_mk2 hu' g2).2.1⟩
    · obtain ⟨sa, sb, rfl, g1, g2⟩ := rel_less hf h
      exact ⟨sa, rfl, g1, fun fs' su' u' h' hf' hu' => by obtain ⟨_, _, e, _, g2⟩ := rel_less hf' h'; cases e; exact (rel_mk2 hu' g2).2.2⟩
  · rcases ht with rfl | rfl | rfl <;> cases hu
    · obtain ⟨sa, sb, rfl, g1, g2⟩ := rel_call hf h
      exact ⟨sb, rfl, g2, fun fs' su' u' h' hf' hu' => by obtain ⟨_, _, e, g1, _⟩ := rel_call hf' h'; cases e; exact (rel_mk2 g1 hu').1⟩
    · obtain ⟨sa, sb, rfl, g1, g2⟩ := rel_plus hf h
      exact ⟨sb, rfl, g2, fun fs' su' u' h' hf' hu' => by obtain ⟨_, _, e, g1, _⟩ := rel_plus hf' h'; cases e; exact (rel_mk2 g1 hu').2.1⟩
    · obtain ⟨sa, sb, rfl, g1, g2⟩ := rel_less hf h
      exact ⟨sb, rfl, g2, fun fs' su' u' h' hf' hu' => by obtain ⟨_, _, e, g1, _⟩ := rel_less hf' h'; cases e; exact (rel_mk2 g1 hu').2.2⟩
  · cases hu
    obtain ⟨sc, sa, sb, rfl, g0, g1, g2⟩ := rel_ite hf h
    exact ⟨sc, rfl, g0, fun fs' su' u' h' hf' hu' => by obtain ⟨_, _, _, e, _, g1, g2⟩ := rel_ite hf' h'; cases e; exact rel_mki hu' g1 g2⟩
  · cases hu
    obtain ⟨sa, sb, rfl, g1, g2⟩ := rel_lt hf h
    exact ⟨sa, rfl, g1, fun fs' su' u' h' hf' hu' => by obtain ⟨_, _, e, _, g2⟩ := rel_lt hf' h'; cases e; exact rel_mkl hu' g2⟩
end
/-- a short value as it is put in: no function of its own -/
def ShortV (s : Sh) : Prop := (∃ n, s = .num n) ∨ ∃ j : Nat, s = .name (.inl (j : Int))
/-- putting in a short value and then all the numbers -/
theorem rel_put {fs gs : List Tr} {sv : Sh} {w : Tr} {x : Str} (hv : ShortV sv) (hw : Rel (fs ++ gs) sv w) : ∀ {sb : Sh} {b : Tr}, (∀ g ∈ fs, ¬ g.fr x) → FnL fs → Rel fs sb b → Rel (fs ++ gs) (sb.sub (Ss.one (.inr x) sv)) (b.put x w) := by
  intro sb
  have key : ∀ (y : Str) (t : Sh), t.sub ((Ss.one (.inr x) sv).del y) = if y = x then t else t.sub (Ss.one (.inr x) sv) := by
    intro y t
    by_cases e : y = x
    · subst e
      rw [if_pos rfl]
      have : (Ss.one (.inr y) sv).del y = Ss.none := by
        funext k
        unfold Ss.del Ss.one Ss.none
        by_cases h : k = .inr y
        · rw [if_pos h]
        · rw [if_neg h, if_neg h]
      rw [this, Sh.sub_none]
    · rw [if_neg e, Ss.del_id]
      unfold Ss.one
      rw [if_neg (fun h => e (Sum.inr.inj h))]
  induction sb with
  | num n =>
    intro b _ _ h
    cases b <;> first | (cases (show Sh.num n = _ from h); done) | (cases (show Sh.num n = Sh.num _ from h); rfl)
  | name k =>
    intro b hx hf h
    rcases rel_name h with ⟨y, rfl, rfl⟩ | ⟨j, rfl, hj⟩
    · rw [put_name]
      show Rel (fs ++ gs) ((Ss.one (.inr x) sv (.inr y)).getD (.name (.inr y))) _
      unfold Ss.one
      by_cases e : y = x
      · rw [if_pos e, if_pos (by rw [e])]; exact hw
      · rw [if_neg e, if_neg (fun h => e (Sum.inr.inj h))]; exact rel_ext h
    · rw [Tr.put_id (hx _ (List.mem_of_getElem? hj))]
      show Rel (fs ++ gs) ((Ss.one (.inr x) sv (.inl (j : Int))).getD (.name (.inl (j : Int)))) _
      unfold Ss.one
      rw [if_neg (by intro e; cases e)]
      exact rel_ext h
  | fn y sb ih =>
    intro b hx hf h
    have h0 := h
    have h : Sh.fn y (sb.sub ((sg fs).del y)) = b.sh := h
    rw [sg_del] at h
    cases b <;> simp only [Tr.sh] at h <;> injection h
    rename_i y' b' h1 h2
    subst h1
    rw [put_fn]
    show Rel (fs ++ gs) (.fn y (sb.sub ((Ss.one (.inr x) sv).del y))) _
    rw [key]
    by_cases e : y = x
    · rw [if_pos e, if_pos e]; exact rel_mkf (rel_ext h2)
    · rw [if_neg e, if_neg e]; exact rel_mkf (ih hx hf h2)
  | call a c i1 i2 =>
    intro b hx hf h
    cases b <;> first | (obtain ⟨_, _, e, g1, g2⟩ := rel_call hf h; cases e; rw [put_call]; exact (rel_mk2 (i1 hx hf g1) (i2 hx hf g2)).1) | (cases (show Sh.call _ _ = _ from h); done)
  | plus a c i1 i2 =>
    intro b hx hf h
    cases b <;> first | (obtain ⟨_, _, e, g1, g2⟩ := rel_plus hf h; cases e; rw [put_plus]; exact (rel_mk2 (i1 hx hf g1) (i2 hx hf g2)).2.1) | (cases (show Sh.plus _ _ = _ from h); done)
  | less a c i1 i2 =>
    intro b hx hf h
    cases b <;> first | (obtain ⟨_, _, e, g1, g2⟩ := rel_less hf h; cases e; rw [put_less]; exact (rel_mk2 (i1 hx hf g1) (i2 hx hf g2)).2.2) | (cases (show Sh.less _ _ = _ from h); done)
  | ite c a d i0 i1 i2 =>
    intro b hx hf h
    cases b <;> first | (obtain ⟨_, _, _, e, g0, g1, g2⟩ := rel_ite hf h; cases e; rw [put_ite]; exact rel_mki (i0 hx hf g0) (i1 hx hf g1) (i2 hx hf g2)) | (cases (show Sh.ite _ _ _ = _ from h); done)
  | lt y a c i1 i2 =>
    intro b hx hf h
    cases b <;> first | (obtain ⟨_, _, e, g1, g2⟩ := rel_lt hf h; cases e; skip) | (cases (show Sh.lt _ _ _ = _ from h); done)
    rw [put_lt]
    show Rel (fs ++ gs) (.lt y (a.sub (Ss.one (.inr x) sv)) (c.sub ((Ss.one (.inr x) sv).del y))) _
    rw [key]
    by_cases e : y = x
    · rw [if_pos e, if_pos e]; exact rel_mkl (i1 hx hf g1) (rel_ext g2)
    · rw [if_neg e, if_neg e]; exact rel_mkl (i1 hx hf g1) (i2 hx hf g2)
theorem dep_sub (s : Ss) : ∀ t : Sh, t.dep ≤ (t.sub s).dep := by
  intro t
  induction t generalizing s with
  | num n => exact Nat.le_refl _
  | name k => exact Sh.dep_pos _
  | fn x b ih => have := ih (s.del x); simp only [Sh.sub, Sh.dep]; omega
  | call a b i1 i2 => have := i1 s; have := i2 s; simp only [Sh.sub, Sh.dep]; omega
  | plus a b i1 i2 => have := i1 s; have := i2 s; simp only [Sh.sub, Sh.dep]; omega
  | less a b i1 i2 => have := i1 s; have := i2 s; simp only [Sh.sub, Sh.dep]; omega
  | ite c a b i0 i1 i2 => have := i0 s; have := i1 s; have := i2 s; simp only [Sh.sub, Sh.dep]; omega
  | lt x a b i1 i2 => have := i1 s; have := i2 (s.del x); simp only [Sh.sub, Sh.dep]; omega
theorem rel_dep {fs : List Tr} {s : Sh} {t : Tr} (h : Rel fs s t) : s.dep ≤ t.dep := by
  have h1 := dep_sub (sg fs) s
  rw [show s.sub (sg fs) = t.sh from h, t.dep_sh] at h1
  exact h1
end My

namespace My
open PySem L2
/-! ### the object that works a tree out in its place -/
structure WA where
  aW : Addr
  dx : Addr
  lr : Addr
  fd : Addr
  sd : Addr
def WA.has (W : WA) (a : Addr) : Prop := a = W.aW ∨ a = W.lr ∨ a = W.fd ∨ a = W.sd
def workN : List Str := ["full", "short", "around", "fulls", "shorts"]
def workF (W : WA) (f s : V) : List (Str × V) := [("full", f), ("short", s), ("around", .ref W.lr), ("fulls", .ref W.fd), ("shorts", .ref W.sd)]
theorem workF_full (W : WA) (f s : V) : (workF W f s).lookup ("full" : Str) = some f := rfl
theorem workF_short (W : WA) (f s : V) : (workF W f s).lookup ("short" : Str) = some s := rfl
theorem workF_around (W : WA) (f s : V) : (workF W f s).lookup ("around" : Str) = some (.ref W.lr) := rfl
theorem workF_fulls (W : WA) (f s : V) : (workF W f s).lookup ("fulls" : Str) = some (.ref W.fd) := rfl
theorem workF_shorts (W : WA) (f s : V) : (workF W f s).lookup ("shorts" : Str) = some (.ref W.sd) := rfl
theorem workF_putf (W : WA) (f s g : V) : putF ("full" : Str) g (workF W f s) = workF W g s := rfl
theorem workF_puts (W : WA) (f s g : V) : putF ("short" : Str) g (workF W f s) = workF W f g := rfl
theorem workF_no {W : WA} {a b : V} {m : Str} (h : workN.contains m = false) : (workF W a b).lookup m = none := by
  have key : ∀ (fs : List (Str × V)), (fs.map (·.1)).contains m = false → fs.lookup m = none := by
    intro fs
    induction fs with
    | nil => intro _; rfl
    | cons p r ih =>
      intro h
      rw [List.map_cons, List.contains_cons, Bool.or_eq_false_iff] at h
      rw [List.lookup_cons, h.1]
      exact ih h.2
  exact key _ h
/-- all but these stays, and all tuples -/
structure KU (A : Addr → Prop) (H H' : Hp) : Prop where
  kt : KT H H'
  kp : ∀ a o, ¬ A a → H a = some o → H' a = some o
theorem KU.refl (A : Addr → Prop) (H : Hp) : KU A H H := ⟨KT.refl H, fun _ _ _ h => h⟩
theorem KU.trans {A : Addr → Prop} {H H1 H2 : Hp} (a : KU A H H1) (b : KU A H1 H2) : KU A H H2 := ⟨a.kt.trans b.kt, fun c o n h => b.kp c o n (a.kp c o n h)⟩
theorem KU.same {A : Addr → Prop} {H H' : Hp} (e : Same H H') : KU A H H' := ⟨same_kt e, fun a o _ h => e a o h⟩
theorem KU.out {A : Addr → Prop} {H0 H H' : Hp} (k : KU A H H') (e : Same H0 H) (h : ∀ a, A a → H0 a = none) : Same H0 H' := fun a o ho => k.kp a o (fun ha => by rw [h a ha] at ho; cases ho) (e a o ho)
theorem KU.upd {A : Addr → Prop} {H : Hp} {l : Addr} {u o : HO} (ha : A l) (h : H l = some u) (ht : ∀ xs, u ≠ .tup xs) : KU A H (upd H l o) :=
  ⟨fun b xs q => by rw [upd_ne (ne_of q h (fun e => ht xs e.symm))]; exact q, fun a u n q => by rw [upd_ne (fun e : a = l => n (by rw [e]; exact ha))]; exact q⟩
def FrAt (H : Hp) (f : Fr) (v : V) : Prop := ∃ (p : Addr) (tv sv : V), v = .ref p ∧ H p = some (.tup [tv, sv, .int f.i]) ∧ At H f.t tv ∧ AtS H f.s sv
theorem FrAt.kt {H H' : Hp} (k : KT H H') {f : Fr} {v : V} : FrAt H f v → FrAt H' f v := fun ⟨p, tv, sv, e, h1, h2, h3⟩ => ⟨p, tv, sv, e, k _ _ h1, h2.mono k, h3.mono k⟩
/-- the numbers' trees in a dict -/
def NumD (H : Hp) (d : Addr) (R : Nat → V → Prop) (n : Nat) : Prop := ∃ kvs : List (Key × V), H d = some (.dK kvs) ∧ kvs.length = n ∧ (∀ k, (∀ j : Nat, j < n → k ≠ .inl (j : Int)) → valV kvs k = none) ∧ ∀ j : Nat, j < n → ∃ r, valV kvs (.inl (j : Int)) = some r ∧ R j r
def RF (H : Hp) (fs : List Tr) (j : Nat) (r : V) : Prop := ∃ t, fs[j]? = some t ∧ At H t r
def RS (H : Hp) (ss : List Sh) (j : Nat) (r : V) : Prop := ∃ t, ss[j]? = some t ∧ AtS H t r
structure WorkAt (cW : Addr) (W : WA) (H : Hp) (F : Tr) (S : Sh) (fr : List Fr) (fs : List Tr) (ss : List Sh) : Prop where
  ins : ∃ fv sv, H W.aW = some (.ins cW W.dx (workF W fv sv)) ∧ At H F fv ∧ AtS H S sv
  own : H W.dx = some (.own W.aW)
  nfs : W.fd ≠ W.sd
  ar : ∃ vs, H W.lr = some (.lst vs) ∧ Paired (FrAt H) fr vs
  fu : NumD H W.fd (RF H fs) fs.length
  sh : NumD H W.sd (RS H ss) fs.length
structure WOk (F : Tr) (S : Sh) (fr : List Fr) (fs : List Tr) (ss : List Sh) : Prop where
  rel : Rel fs S F
  fok : FrOk fr
  frl : ∀ f ∈ fr, Rel fs f.s f.t
  fn : FnL fs
  len : ss.length = fs.length
  sh : ∀ (j : Nat) (x : Str) (b : Tr), fs[j]? = some (.fn x b) → ∃ sb, ss[j]? = some (.fn x sb) ∧ Rel fs sb b
section
variable {cW : Addr} {W : WA} {H H' : Hp} {F : Tr} {S : Sh} {fr : List Fr} {fs : List Tr} {ss : List Sh}
theorem NumD.mono {d : Addr} {n : Nat} {R R' : Nat → V → Prop} (h : NumD H d R n) (e : H' d = H d) (hr : ∀ j r, R j r → R' j r) : NumD H' d R' n := by
  obtain ⟨kvs, h1, h2, h3, h4⟩ := h
  exact ⟨kvs, by rw [e]; exact h1, h2, h3, fun j hj => let ⟨r, a, b⟩ := h4 j hj; ⟨r, a, hr j r b⟩⟩
theorem RF.kt (k : KT H H') {j : Nat} {r : V} : RF H fs j r → RF H' fs j r := fun ⟨t, a, b⟩ => ⟨t, a, b.mono k⟩
theorem RS.kt (k : KT H H') {j : Nat} {r : V} : RS H ss j r → RS H' ss j r := fun ⟨t, a, b⟩ => ⟨t, a, b.mono k⟩
theorem WorkAt.same (h : WorkAt cW W H F S fr fs ss) (e : Same H H') : WorkAt cW W H' F S fr fs ss := by
  obtain ⟨fv, sv, i1, i2, i3⟩ := h.ins
  obtain ⟨vs, a1, a2⟩ := h.ar
  have k := same_kt e
  have he : ∀ {a : Addr} {o : HO}, H a = some o → H' a = H a := fun h => (e _ _ h).trans h.symm
  refine ⟨⟨fv, sv, e _ _ i1, i2.mono k, i3.mono k⟩, e _ _ h.own, h.nfs, ⟨vs, e _ _ a1, pr_mono a2 fun _ _ h => h.kt k⟩, ?_, ?_⟩
  · obtain ⟨kvs, h1, _⟩ := id h.fu
    exact h.fu.mono (he h1) fun j r => RF.kt k
  · obtain ⟨kvs, h1, _⟩ := id h.sh
    exact h.sh.mono (he h1) fun j r => RS.kt k
/-- other trees in the place -/
theorem WorkAt.setW (h : WorkAt cW W H F S fr fs ss) {F' : Tr} {S' : Sh} {fv sv : V} (h1 : At H F' fv) (h2 : AtS H S' sv) : KU W.has H (upd H W.aW (.ins cW W.dx (workF W fv sv))) ∧ WorkAt cW W (upd H W.aW (.ins cW W.dx (workF W fv sv))) F' S' fr fs ss := by
  obtain ⟨fv0, sv0, i1, i2, i3⟩ := h.ins
  have k : KU W.has H (upd H W.aW (.ins cW W.dx (workF W fv sv))) := .upd (.inl rfl) i1 (fun xs e => by cases e)
  obtain ⟨vs, a1, a2⟩ := h.ar
  obtain ⟨kvs, f1, _⟩ := id h.fu
  obtain ⟨kvs2, s1, _⟩ := id h.sh
  exact ⟨k, ⟨fv, sv, upd_same, h1.mono k.kt, h2.mono k.kt⟩, by rw [upd_ne (ne_of h.own i1 (by intro z; cases z))]; exact h.own, h.nfs, ⟨vs, by rw [upd_ne (ne_of a1 i1 (by intro z; cases z))]; exact a1, pr_mono a2 fun _ _ h => h.kt k.kt⟩,
    h.fu.mono (upd_ne (ne_of f1 i1 (by intro z; cases z))) fun j r => RF.kt k.kt, h.sh.mono (upd_ne (ne_of s1 i1 (by intro z; cases z))) fun j r => RS.kt k.kt⟩
theorem WorkAt.setR (h : WorkAt cW W H F S fr fs ss) {fr' : List Fr} {vs : List V} (hp : Paired (FrAt H) fr' vs) : KU W.has H (upd H W.lr (.lst vs)) ∧ WorkAt cW W (upd H W.lr (.lst vs)) F S fr' fs ss := by
  obtain ⟨fv0, sv0, i1, i2, i3⟩ := h.ins
  obtain ⟨vs0, a1, a2⟩ := h.ar
  have k : KU W.has H (upd H W.lr (.lst vs)) := .upd (.inr (.inl rfl)) a1 (fun xs e => by cases e)
  obtain ⟨kvs, f1, _⟩ := id h.fu
  obtain ⟨kvs2, s1, _⟩ := id h.sh
  exact ⟨k, ⟨fv0, sv0, by rw [upd_ne (ne_of i1 a1 (by intro z; cases z))]; exact i1, i2.mono k.kt, i3.mono k.kt⟩, by rw [upd_ne (ne_of h.own a1 (by intro z; cases z))]; exact h.own, h.nfs, ⟨vs, upd_same, pr_mono hp fun _ _ h => h.kt k.kt⟩,
    h.fu.mono (upd_ne (ne_of f1 a1 (by intro z; cases z))) fun j r => RF.kt k.kt, h.sh.mono (upd_ne (ne_of s1 a1 (by intro z; cases z))) fun j r => RS.kt k.kt⟩
theorem NumD.put {d : Addr} {n : Nat} {R R' : Nat → V → Prop} {kvs : List (Key × V)} {r : V} (hd : H d = some (.dK kvs)) (h : NumD H d R n) (hr : ∀ j r, j < n → R j r → R' j r) (hn : R' n r) : NumD (upd H d (.dK (putK kvs (.inl (n : Int)) r))) d R' (n + 1) := by
  obtain ⟨kvs', h1, h2, h3, h4⟩ := h
  rw [hd] at h1
  cases h1
  have hnone : valV kvs (.inl (n : Int)) = none := h3 _ fun j hj e => by
    have := Sum.inl.inj e
    omega
  refine ⟨_, upd_same, ?_, fun k hk => ?_, fun j hj => ?_⟩
  · rw [putK_new _ hnone, List.length_append, h2]; rfl
  · rw [valV_put, if_neg (hk n (by omega))]
    exact h3 k fun j hj => hk j (by omega)
  · rw [valV_put]
    by_cases e : j = n
    · subst e; exact ⟨r, by rw [if_pos rfl], hn⟩
    · obtain ⟨r', a, b⟩ := h4 j (by omega)
      exact ⟨r', by rw [if_neg (fun z => e (by have := Sum.inl.inj z; omega))]; exact a, hr j r' (by omega) b⟩
/-- one number more -/
theorem WorkAt.num (h : WorkAt cW W H F S fr fs ss) {g : Tr} {sx : Sh} {gv sv : V} (hl : ss.length = fs.length) (hg : At H g gv) (hs : AtS H sx sv) {kvs kvs2 : List (Key × V)} (h1 : H W.fd = some (.dK kvs)) (h2 : H W.sd = some (.dK kvs2)) :
    KU W.has H (upd (upd H W.fd (.dK (putK kvs (.inl (fs.length : Int)) gv))) W.sd (.dK (putK kvs2 (.inl (fs.length : Int)) sv))) ∧ WorkAt cW W (upd (upd H W.fd (.dK (putK kvs (.inl (fs.length : Int)) gv))) W.sd (.dK (putK kvs2 (.inl (fs.length : Int)) sv))) F S fr (fs ++ [g]) (ss ++ [sx]) := by
  obtain ⟨fv0, sv0, i1, i2, i3⟩ := h.ins
  obtain ⟨vs0, a1, a2⟩ := h.ar
  have k1 : KU W.has H (upd H W.fd (.dK (putK kvs (.inl (fs.length : Int)) gv))) := .upd (.inr (.inr (.inl rfl))) h1 (fun xs e => by cases e)
  have d1 := NumD.put (R' := RF (upd H W.fd (.dK (putK kvs (.inl (fs.length : Int)) gv))) (fs ++ [g])) (r := gv) h1 h.fu (fun j r hj ⟨t, a, b⟩ => ⟨t, by rw [List.getElem?_append_left hj]; exact a, b.mono k1.kt⟩) ⟨g, by simp, hg.mono k1.kt⟩
  have i1' : upd H W.fd (.dK (putK kvs (.inl (fs.length : Int)) gv)) W.aW = _ := (upd_ne (ne_of i1 h1 (by intro z; cases z))).trans i1
  have o1' : upd H W.fd (.dK (putK kvs (.inl (fs.length : Int)) gv)) W.dx = _ := (upd_ne (ne_of h.own h1 (by intro z; cases z))).trans h.own
  have a1' : upd H W.fd (.dK (putK kvs (.inl (fs.length : Int)) gv)) W.lr = _ := (upd_ne (ne_of a1 h1 (by intro z; cases z))).trans a1
  have h2' : upd H W.fd (.dK (putK kvs (.inl (fs.length : Int)) gv)) W.sd = _ := (upd_ne h.nfs.symm).trans h2
  have s2 : NumD (upd H W.fd (.dK (putK kvs (.inl (fs.length : Int)) gv))) W.sd (RS (upd H W.fd (.dK (putK kvs (.inl (fs.length : Int)) gv))) ss) fs.length := h.sh.mono (upd_ne h.nfs.symm) fun j r => RS.kt k1.kt
  have hs' := hs.mono k1.kt
  have i2' := i2.mono k1.kt
  have i3' := i3.mono k1.kt
  have a2' : Paired (FrAt (upd H W.fd (.dK (putK kvs (.inl (fs.length : Int)) gv)))) fr vs0 := pr_mono a2 fun _ _ h => h.kt k1.kt
  generalize upd H W.fd (.dK (putK kvs (.inl (fs.length : Int)) gv)) = H1 at *
  have k2 : KU W.has H1 (upd H1 W.sd (.dK (putK kvs2 (.inl (fs.length : Int)) sv))) := .upd (.inr (.inr (.inr rfl))) h2' (fun xs e => by cases e)
  have d2 := NumD.put (R' := RS (upd H1 W.sd (.dK (putK kvs2 (.inl (fs.length : Int)) sv))) (ss ++ [sx])) (r := sv) h2' s2 (fun j r hj ⟨t, a, b⟩ => ⟨t, by rw [List.getElem?_append_left (by omega)]; exact a, b.mono k2.kt⟩) ⟨sx, by rw [← hl]; simp, hs'.mono k2.kt⟩
  refine ⟨k1.trans k2, ⟨fv0, sv0, by rw [upd_ne (ne_of i1' h2' (by intro z; cases z))]; exact i1', i2'.mono k2.kt, i3'.mono k2.kt⟩, by rw [upd_ne (ne_of o1' h2' (by intro z; cases z))]; exact o1', h.nfs, ⟨vs0, by rw [upd_ne (ne_of a1' h2' (by intro z; cases z))]; exact a1', pr_mono a2' fun _ _ h => h.kt k2.kt⟩, ?_, ?_⟩
  · rw [List.length_append]
    exact d1.mono (upd_ne h.nfs) fun j r => RF.kt k2.kt
  · rw [List.length_append]
    exact d2
theorem WOk.num (h : WOk F S fr fs ss) {x : Str} {b : Tr} {sb : Sh} (hs : Rel fs sb b) : WOk F S fr (fs ++ [.fn x b]) (ss ++ [.fn x sb]) := by
  refine ⟨rel_ext h.rel, h.fok, fun f hf => rel_ext (h.frl f hf), fun g hg => ?_, by rw [List.length_append, List.length_append, h.len]; rfl, fun j y c hj => ?_⟩
  · rcases List.mem_append.mp hg with hg | hg
    · exact h.fn g hg
    · exact ⟨x, b, List.mem_singleton.mp hg⟩
  · by_cases hjl : j < fs.length
    · rw [List.getElem?_append_left hjl] at hj
      obtain ⟨sc, e1, e2⟩ := h.sh j y c hj
      exact ⟨sc, by rw [List.getElem?_append_left (by rw [h.len]; exact hjl)]; exact e1, rel_ext e2⟩
    · have hjl' : j < (fs ++ [Tr.fn x b]).length := (List.getElem?_eq_some_iff.mp hj).1
      rw [List.length_append, List.length_singleton] at hjl'
      have : j = fs.length := by omega
      subst this
      rw [List.getElem?_append_right (Nat.le_refl _), Nat.sub_self] at hj
      cases hj
      exact ⟨sb, by rw [List.getElem?_append_right (by rw [h.len]; exact Nat.le_refl _), h.len, Nat.sub_self]; rfl, rel_ext hs⟩
/-- the numbers' trees as putting in looks at them -/
theorem NumD.dict (h : NumD H W.fd (RF H fs) fs.length) (hl : fs.length ≤ 100000) : DictS H W.fd (sg fs) := by
  obtain ⟨kvs, h1, h2, h3, h4⟩ := h
  refine ⟨kvs, h1, by omega, fun k => ?_⟩
  rcases k with (j | j) | x
  · by_cases hj : j < fs.length
    · obtain ⟨r, a, t, e, b⟩ := h4 j hj
      exact .inr ⟨r, t.sh, a, by show fs[j]?.map Tr.sh = _; rw [e]; rfl, at_sh.mpr b⟩
    · refine .inl ⟨h3 _ fun i hi e => ?_, ?_⟩
      · have h5 : Int.ofNat j = Int.ofNat i := Sum.inl.inj e
        have h6 : j = i := Int.ofNat.inj h5
        omega
      · show fs[j]?.map Tr.sh = _
        rw [List.getElem?_eq_none (by omega)]; rfl
  · refine .inl ⟨h3 _ fun i hi e => ?_, rfl⟩
    have h5 : Int.negSucc j = Int.ofNat i := Sum.inl.inj e
    cases h5
  · exact .inl ⟨h3 _ fun i hi e => (by cases e), rfl⟩
end
/-! ### parts in the heap -/
theorem At.part {H : Hp} {t u : Tr} {i : Nat} {v : V} (h : At H t v) (hu : t.part i = some u) : ∃ (a : Addr) (ws : List V) (uv : V), v = .ref a ∧ H a = some (.tup ws) ∧ ws.length ≤ 4 ∧ ws[i]? = some uv ∧ At H u uv ∧
    ∀ (H' : Hp) (p : Addr) (u' : Tr) (uv' : V), KT H H' → At H' u' uv' → H' p = some (.tup (ws.take i ++ [uv'] ++ ws.drop (i + 1))) → At H' (t.set i u') (.ref p) := by
  match t, i, hu, h with
  | .call _ _, 1, rfl, ⟨a, u1, u2, e, h, h1, h2⟩ => exact ⟨a, _, u1, e, h, by simp, rfl, h1, fun H' p u' uv' k g hp => ⟨p, uv', u2, rfl, hp, g, h2.mono k⟩⟩
  | .call _ _, 2, rfl, ⟨a, u1, u2, e, h, h1, h2⟩ => exact ⟨a, _, u2, e, h, by simp, rfl, h2, fun H' p u' uv' k g hp => ⟨p, u1, uv', rfl, hp, h1.mono k, g⟩⟩
  | .plus _ _, 1, rfl, ⟨a, u1, u2, e, h, h1, h2⟩ => exact ⟨a, _, u1, e, h, by simp, rfl, h1, fun H' p u' uv' k g hp => ⟨p, uv', u2, rfl, hp, g, h2.mono k⟩⟩
  | .plus _ _, 2, rfl, ⟨a, u1, u2, e, h, h1, h2⟩ => exact ⟨a, _, u2, e, h, by simp, rfl, h2, fun H' p u' uv' k g hp => ⟨p, u1, uv', rfl, hp, h1.mono k, g⟩⟩
  | .less _ _, 1, rfl, ⟨a, u1, u2, e, h, h1, h2⟩ => exact ⟨a, _, u1, e, h, by simp, rfl, h1, fun H' p u' uv' k g hp => ⟨p, uv', u2, rfl, hp, g, h2.mono k⟩⟩
  | .less _ _, 2, rfl, ⟨a, u1, u2, e, h, h1, h2⟩ => exact ⟨a, _, u2, e, h, by simp, rfl, h2, fun H' p u' uv' k g hp => ⟨p, u1, uv', rfl, hp, h1.mono k, g⟩⟩
  | .ite _ _ _, 1, rfl, ⟨a, u1, u2, u3, e, h, h1, h2, h3⟩ => exact ⟨a, _, u1, e, h, by simp, rfl, h1, fun H' p u' uv' k g hp => ⟨p, uv', u2, u3, rfl, hp, g, h2.mono k, h3.mono k⟩⟩
  | .lt _ _ _, 2, rfl, ⟨a, u1, u2, e, h, h1, h2⟩ => exact ⟨a, _, u1, e, h, by simp, rfl, h1, fun H' p u' uv' k g hp => ⟨p, uv', u2, rfl, hp, g, h2.mono k⟩⟩
theorem AtS.part {H : Hp} {t u : Sh} {i : Nat} {v : V} (h : AtS H t v) (hu : t.part i = some u) : ∃ (a : Addr) (ws : List V) (uv : V), v = .ref a ∧ H a = some (.tup ws) ∧ ws.length ≤ 4 ∧ ws[i]? = some uv ∧ AtS H u uv ∧
    ∀ (H' : Hp) (p : Addr) (u' : Sh) (uv' : V), KT H H' → AtS H' u' uv' → H' p = some (.tup (ws.take i ++ [uv'] ++ ws.drop (i + 1))) → AtS H' (t.set i u') (.ref p) := by
  match t, i, hu, h with
  | .call _ _, 1, rfl, ⟨a, u1, u2, e, h, h1, h2⟩ => exact ⟨a, _, u1, e, h, by simp, rfl, h1, fun H' p u' uv' k g hp => ⟨p, uv', u2, rfl, hp, g, h2.mono k⟩⟩
  | .call _ _, 2, rfl, ⟨a, u1, u2, e, h, h1, h2⟩ => exact ⟨a, _, u2, e, h, by simp, rfl, h2, fun H' p u' uv' k g hp => ⟨p, u1, uv', rfl, hp, h1.mono k, g⟩⟩
  | .plus _ _, 1, rfl, ⟨a, u1, u2, e, h, h1, h2⟩ => exact ⟨a, _, u1, e, h, by simp, rfl, h1, fun H' p u' uv' k g hp => ⟨p, uv', u2, rfl, hp, g, h2.mono k⟩⟩
  | .plus _ _, 2, rfl, ⟨a, u1, u2, e, h, h1, h2⟩ => exact ⟨a, _, u2, e, h, by simp, rfl, h2, fun H' p u' uv' k g hp => ⟨p, u1, uv', rfl, hp, h1.mono k, g⟩⟩
  | .less _ _, 1, rfl, ⟨a, u1, u2, e, h, h1, h2⟩ => exact ⟨a, _, u1, e, h, by simp, rfl, h1, fun H' p u' uv' k g hp => ⟨p, uv', u2, rfl, hp, g, h2.mono k⟩⟩
  | .less _ _, 2, rfl, ⟨a, u1, u2, e, h, h1, h2⟩ => exact ⟨a, _, u2, e, h, by simp, rfl, h2, fun H' p u' uv' k g hp => ⟨p, u1, uv', rfl, hp, h1.mono k, g⟩⟩
  | .ite _ _ _, 1, rfl, ⟨a, u1, u2, u3, e, h, h1, h2, h3⟩ => exact ⟨a, _, u1, e, h, by simp, rfl, h1, fun H' p u' uv' k g hp => ⟨p, uv', u2, u3, rfl, hp, g, h2.mono k, h3.mono k⟩⟩
  | .lt _ _ _, 2, rfl, ⟨a, u1, u2, e, h, h1, h2⟩ => exact ⟨a, _, u1, e, h, by simp, rfl, h1, fun H' p u' uv' k g hp => ⟨p, uv', u2, rfl, hp, g, h2.mono k⟩⟩
theorem part_pos {t u : Tr} {i : Nat} (hu : t.part i = some u) : 1 ≤ i := by
  match t, i, hu with
  | .call _ _, 1, _ => exact Nat.le_refl _
  | .call _ _, 2, _ => omega
  | .plus _ _, 1, _ => exact Nat.le_refl _
  | .plus _ _, 2, _ => omega
  | .less _ _, 1, _ => exact Nat.le_refl _
  | .less _ _, 2, _ => omega
  | .ite _ _ _, 1, _ => exact Nat.le_refl _
  | .lt _ _ _, 2, _ => omega
theorem isV_in (t : Tr) : inV (.str t.word) [.str "num", .str "fun"] = t.isV := by
  cases t with
  | num _ => exact (by decide +kernel : inV (.str "num") [.str "num", .str "fun"] = true)
  | name _ => exact (by decide +kernel : inV (.str "name") [.str "num", .str "fun"] = false)
  | fn _ _ => exact (by decide +kernel : inV (.str "fun") [.str "num", .str "fun"] = true)
  | call _ _ => exact (by decide +kernel : inV (.str "call") [.str "num", .str "fun"] = false)
  | plus _ _ => exact (by decide +kernel : inV (.str "plus") [.str "num", .str "fun"] = false)
  | less _ _ => exact (by decide +kernel : inV (.str "less") [.str "num", .str "fun"] = false)
  | ite _ _ _ => exact (by decide +kernel : inV (.str "if") [.str "num", .str "fun"] = false)
  | lt _ _ _ => exact (by decide +kernel : inV (.str "let") [.str "num", .str "fun"] = false)
theorem isV_cases {t : Tr} (h : t.isV = true) : (∃ n, t = .num n) ∨ ∃ x b, t = .fn x b := by
  cases t with
  | num n => exact .inl ⟨n, rfl⟩
  | fn x b => exact .inr ⟨x, b, rfl⟩
  | _ => cases h
theorem cut_lo (xs : List V) (j : Nat) : cutV xs (some (j : Int)) none = xs.drop j := by
  unfold cutV
  rw [HT.sIx_nat, HT.sIx_none]
  by_cases h : j ≤ xs.length
  · rw [Nat.min_eq_left h]
    exact List.take_of_length_le (by rw [List.length_drop]; exact Nat.le_refl _)
  · rw [Nat.min_eq_right (by omega), List.drop_length, List.drop_eq_nil_of_le (by omega), List.take_nil]
/-! ### what it promises -/
structure WTxt (K : PySem.W.Frag) (w : World) (mg : Str → Option Value) (E : Ers) (aA aV cW : Addr) : Prop extends Bt mg where
  AHEAD : mg "AHEAD" = some (.ref aA)
  ahead : ∀ p ∈ aheadL, ∃ a, RdK K w aA p.1 (.ref a) ∧ SqK K a p.2
  VALUES : mg "VALUES" = some (.ref aV)
  values : SqK K aV [.str "num", .str "fun"]
  cWork : mg "Work" = some (.ref cW)
  W_ : ClsX K cW workN
  NotClosed : ErrC K mg "NotClosed" E.closed
  NoNumber : ErrC K mg "NoNumber" E.number
  NoFunction : ErrC K mg "NoFunction" E.function
  Dry : ErrC K mg "Dry" E.dry
def spPlace : Sp := fun vs H Q _ => ∃ (t : Tr) (v : V), vs = [v] ∧ At H t v ∧ t.isV = false ∧ ∀ H', Same H H' → Q (match t.nxt with | none => .non | some i => .int (i : Int)) H'
def spWithPart : Sp := fun vs H Q _ => ∃ (a : Addr) (ws : List V) (i : Nat) (pv : V), vs = [.ref a, .int (i : Int), pv] ∧ H a = some (.tup ws) ∧ ws.length ≤ 4 ∧ i < ws.length ∧ 1 ≤ i ∧ ∀ (p : Addr) (H' : Hp), Same H H' → H' p = some (.tup (ws.take i ++ [pv] ++ ws.drop (i + 1))) → Q (.ref p) H'
def spNumP (E : Ers) : Sp := fun vs H Q X => ∃ (t : Tr) (v : V), vs = [v] ∧ At H t v ∧ match t with
  | .num n => Q (.int n) H
  | _ => X (.ref E.number) none H
section
variable (cW : Addr)
def spInitW : Sp := fun vs H Q _ => ∃ (a dx : Addr) (tv : V), vs = [.ref a, tv] ∧ H a = some (.ins cW dx []) ∧
  ∀ (lr fd sd : Addr) (H' : Hp), H lr = none → H fd = none → H sd = none → fd ≠ sd → (∀ b o, b ≠ a → H b = some o → H' b = some o) → H' a = some (.ins cW dx (workF ⟨a, dx, lr, fd, sd⟩ tv tv)) → H' lr = some (.lst []) → H' fd = some (.dK []) → H' sd = some (.dK []) → Q .non H'
def spEnter : Sp := fun vs H Q _ => ∃ (W : WA) (F u : Tr) (S su : Sh) (fr : List Fr) (fs : List Tr) (ss : List Sh) (i : Nat), vs = [.ref W.aW, .int (i : Int)] ∧ WorkAt cW W H F S fr fs ss ∧ F.part i = some u ∧ S.part i = some su ∧ fr.length ≤ 2000000 ∧
  ∀ H', KU W.has H H' → WorkAt cW W H' u su (fr ++ [⟨F, S, i⟩]) fs ss → Q .non H'
def spLeave : Sp := fun vs H Q _ => ∃ (W : WA) (F p : Tr) (S sp : Sh) (fr : List Fr) (f : Fr) (fs : List Tr) (ss : List Sh), vs = [.ref W.aW] ∧ WorkAt cW W H F S (fr ++ [f]) fs ss ∧ f.t.part f.i = some p ∧ f.s.part f.i = some sp ∧ f.i ≤ 2 ∧
  ∀ H', KU W.has H H' → WorkAt cW W H' (f.t.set f.i F) (f.s.set f.i S) fr fs ss → Q .non H'
def spShortV : Sp := fun vs H Q _ => ∃ (W : WA) (F w : Tr) (S sw : Sh) (fr : List Fr) (fs : List Tr) (ss : List Sh) (wv sv : V), vs = [.ref W.aW, wv, sv] ∧ WorkAt cW W H F S fr fs ss ∧ WOk F S fr fs ss ∧ At H w wv ∧ AtS H sw sv ∧ Rel fs sw w ∧ w.isV = true ∧ fs.length ≤ 90000 ∧
  ∀ (r : V) (s' : Sh) (fs' : List Tr) (ss' : List Sh) (H' : Hp), KU W.has H H' → WorkAt cW W H' F S fr fs' ss' → WOk F S fr fs' ss' → ShortV s' → Rel fs' s' w → AtS H' s' r → (∃ gs, fs' = fs ++ gs ∧ ∀ g ∈ gs, g = w) → fs'.length ≤ fs.length + 1 → Q r H'
def spPutIn : Sp := fun vs H Q _ => ∃ (W : WA) (F b w : Tr) (S sb : Sh) (fr : List Fr) (fs : List Tr) (ss : List Sh) (x : Str) (sv : V), vs = [.ref W.aW, .str x, sv] ∧ WorkAt cW W H F S fr fs ss ∧ WOk F S fr fs ss ∧ F.part 2 = some w ∧ w.isV = true ∧ AtS H sb sv ∧ Rel fs sb b ∧ fs.length ≤ 90000 ∧
  (∀ g ∈ fs, g.closed) ∧ (∃ sw, S.part 2 = some sw ∧ Rel fs sw w) ∧ b.dep ≤ 1000000 ∧ (b.put x w).dep ≤ 1000000 ∧
  ∀ (S' : Sh) (fs' : List Tr) (ss' : List Sh) (H' : Hp), KU W.has H H' → WorkAt cW W H' (b.put x w) S' fr fs' ss' → WOk (b.put x w) S' fr fs' ss' → (w.closed → ∀ g ∈ fs', g.closed) → fs'.length ≤ fs.length + 1 → Q .non H'
def DeedQ (E : Ers) (W : WA) (H : Hp) (F : Tr) (fr : List Fr) (fs : List Tr) (Q : VK) (X : XK) : Prop := match F.step with
  | .to F' => ∀ (S' : Sh) (fs' : List Tr) (ss' : List Sh) (H' : Hp), KU W.has H H' → WorkAt cW W H' F' S' fr fs' ss' → WOk F' S' fr fs' ss' → (F.closed → ∀ g ∈ fs', g.closed) → fs'.length ≤ fs.length + 1 → Q .non H'
  | .err c => ∀ H', KU W.has H H' → X (.ref (E.cls c)) none H'
  | .val => True
/-- one deed of one kind (k), of a node whose parts are values -/
def spDeedW (E : Ers) (k : Tr → Prop) : Sp := fun vs H Q X => ∃ (W : WA) (F : Tr) (S : Sh) (fr : List Fr) (fs : List Tr) (ss : List Sh), vs = [.ref W.aW] ∧ WorkAt cW W H F S fr fs ss ∧ WOk F S fr fs ss ∧ F.isV = false ∧ F.nxt = none ∧ k F ∧ fs.length ≤ 90000 ∧ (∀ g ∈ fs, g.closed) ∧ F.dep ≤ 1000000 ∧ (∀ F', F.step = .to F' → F'.dep ≤ 1000000) ∧ DeedQ cW E W H F fr fs Q X
def spSeek : Sp := fun vs H Q _ => ∃ (W : WA) (F : Tr) (S : Sh) (fr : List Fr) (fs : List Tr) (ss : List Sh), vs = [.ref W.aW] ∧ WorkAt cW W H F S fr fs ss ∧ WOk F S fr fs ss ∧ (plug fr F).dep ≤ 1000000 ∧
  (∀ (F' : Tr) (S' : Sh) (fr' : List Fr) (H' : Hp), KU W.has H H' → WorkAt cW W H' F' S' fr' fs ss → WOk F' S' fr' fs ss → plug fr' F' = plug fr F → F'.isV = false → F'.nxt = none → Q (.bl true) H') ∧
  ∀ (S' : Sh) (H' : Hp), KU W.has H H' → WorkAt cW W H' (plug fr F) S' [] fs ss → WOk (plug fr F) S' [] fs ss → (plug fr F).isV = true → Q (.bl false) H'
def spWholeW : Sp := fun vs H Q _ => ∃ (W : WA) (F : Tr) (S : Sh) (fr : List Fr) (fs : List Tr) (ss : List Sh), vs = [.ref W.aW] ∧ WorkAt cW W H F S fr fs ss ∧ FrOk fr ∧ ∀ (r : V) (H' : Hp), Same H H' → At H' (plug fr F) r → Q r H'
end
end My

namespace My
open PySem L2
/-! ### the deeds, one kind at a time -/
theorem nxt_two {a b : Tr} (h : nx2 a b = none) : a.step = .val ∧ b.step = .val ∧ a.isV = true ∧ b.isV = true := by
  obtain ⟨h1, h2⟩ := nx2_none h
  exact ⟨Tr.step_val.mpr h1, Tr.step_val.mpr h2, h1, h2⟩
theorem step_calln {n : Int} {b : Tr} (hb : b.isV = true) : (Tr.call (.num n) b).step = .err .function := by
  have := Tr.step_val.mpr hb
  simp only [Tr.step, this]
theorem step_callf {x : Str} {t b : Tr} (hb : b.isV = true) : (Tr.call (.fn x t) b).step = .to (t.put x b) := by
  have := Tr.step_val.mpr hb
  simp only [Tr.step, this]
def rkS (f : Int → Int → Int) : Tr → Tr → St1
  | .num m, .num n => .to (.num (f m n))
  | _, _ => .err .number
def itS (a b : Tr) : Tr → St1
  | .num n => .to (if n = 0 then b else a)
  | _ => .err .number
theorem step_plus {a b : Tr} (h : nx2 a b = none) : (Tr.plus a b).step = rkS (fun m n => m + n) a b := by
  obtain ⟨h1, h2, h3, h4⟩ := nxt_two h
  simp only [Tr.step, h1, h2]
  cases a <;> cases b <;> rfl
theorem step_less {a b : Tr} (h : nx2 a b = none) : (Tr.less a b).step = rkS (fun m n => m - n) a b := by
  obtain ⟨h1, h2, h3, h4⟩ := nxt_two h
  simp only [Tr.step, h1, h2]
  cases a <;> cases b <;> rfl
theorem step_ite {c a b : Tr} (h : c.isV = true) : (Tr.ite c a b).step = itS a b c := by
  have := Tr.step_val.mpr h
  simp only [Tr.step, this]
  cases c <;> rfl
theorem step_lt {x : Str} {e b : Tr} (h : e.isV = true) : (Tr.lt x e b).step = .to (b.put x e) := by
  have := Tr.step_val.mpr h
  simp only [Tr.step, this]
theorem nxt_ite {c a b : Tr} (h : (Tr.ite c a b).nxt = none) : c.isV = true := by
  have h : (if c.isV = false then some 1 else none) = none := h
  cases hc : c.isV with
  | true => rfl
  | false => rw [if_pos hc] at h; cases h
theorem nxt_lt {x : Str} {e b : Tr} (h : (Tr.lt x e b).nxt = none) : e.isV = true := by
  have h : (if e.isV = false then some 2 else none) = none := h
  cases hc : e.isV with
  | true => rfl
  | false => rw [if_pos hc] at h; cases h
def isCall (t : Tr) : Prop := ∃ a b, t = .call a b
def isIte (t : Tr) : Prop := ∃ c a b, t = .ite c a b
def isRk (t : Tr) : Prop := ∃ a b, t = .plus a b ∨ t = .less a b
def spReckonW : Sp := spReckon
section
variable {cW : Addr} {R : Ers} {W : WA} {H H' : Hp} {F : Tr} {fr : List Fr} {fs : List Tr} {Q : VK} {X : XK}
theorem DeedQ.mono (q : DeedQ cW R W H F fr fs Q X) (k : KU W.has H H') : DeedQ cW R W H' F fr fs Q X := by
  revert q
  unfold DeedQ
  cases F.step with
  | val => exact fun _ => trivial
  | to F' => exact fun q S' fs' ss' H'' k' => q S' fs' ss' H'' (k.trans k')
  | err c => exact fun q H'' k' => q H'' (k.trans k')
theorem DeedQ.to (q : DeedQ cW R W H F fr fs Q X) {F' : Tr} (h : F.step = .to F') : ∀ (S' : Sh) (fs' : List Tr) (ss' : List Sh) (H' : Hp), KU W.has H H' → WorkAt cW W H' F' S' fr fs' ss' → WOk F' S' fr fs' ss' → (F.closed → ∀ g ∈ fs', g.closed) → fs'.length ≤ fs.length + 1 → Q .non H' := by
  unfold DeedQ at q
  rw [h] at q
  exact q
theorem DeedQ.er (q : DeedQ cW R W H F fr fs Q X) {c : Er} (h : F.step = .err c) : ∀ H', KU W.has H H' → X (.ref (R.cls c)) none H' := by
  unfold DeedQ at q
  rw [h] at q
  exact q
end
end My

namespace My
open PySem L2
/-- a loop whose test does something -/
theorem whileS_ {c : TT} {tb : TS} {D : Ends} {σ : L2.St} {H : Hp} (W : Nat → L2.St → Hp → Prop) (m : Nat) (w0 : W m σ H)
    (h : ∀ m σ H, W m σ H → ∀ Qb : Bool → Hp → Prop, (∀ H1, (∀ N : L2.St → Hp → Prop, (∀ m' σ' H', m' < m → W m' σ' H' → N σ' H') → tb { D with nx := N, ct := N, bk := D.nx } σ H1) → Qb true H1) → (∀ H1, D.nx σ H1 → Qb false H1) → c σ H Qb) :
    tWhile c tb D σ H := by
  refine ⟨W, ⟨m, w0⟩, fun m σ H w => h m σ H w _ (fun H1 q => ?_) fun H1 q => q⟩
  exact ⟨fun σ' H' => ∃ m', m' < m ∧ W m' σ' H', fun _ _ n => n, q _ fun m' _ _ l w' => ⟨m', l, w'⟩⟩
theorem work_new {cW : Addr} {H H1 H3 : Hp} {x dx lr fd sd : Addr} {t : Tr} {v : V} (e1 : Same H H1) (ht : At H t v) (hx : H1 x = none) (hdx : H1 dx = none) (hne : dx ≠ x) (h1 : upd (upd H1 dx (.own x)) x (.ins cW dx []) lr = none) (h2 : upd (upd H1 dx (.own x)) x (.ins cW dx []) fd = none)
    (h3 : upd (upd H1 dx (.own x)) x (.ins cW dx []) sd = none) (nfs : fd ≠ sd) (kp : ∀ b o, b ≠ x → upd (upd H1 dx (.own x)) x (.ins cW dx []) b = some o → H3 b = some o) (hins : H3 x = some (.ins cW dx (workF ⟨x, dx, lr, fd, sd⟩ v v)))
    (g1 : H3 lr = some (.lst [])) (g2 : H3 fd = some (.dK [])) (g3 : H3 sd = some (.dK [])) : WorkAt cW ⟨x, dx, lr, fd, sd⟩ H3 t t.sh [] [] [] ∧ Same H H3 ∧ ∀ a, WA.has ⟨x, dx, lr, fd, sd⟩ a → H a = none := by
  have e12 : Same H1 (upd (upd H1 dx (.own x)) x (.ins cW dx [])) := (same_new hdx).trans (same_new (by rw [upd_ne hne.symm]; exact hx))
  have e13 : Same H H3 := fun b o hb => by
    have hb1 := e1 _ _ hb
    exact kp b o (ne_of_none hb1 hx) (e12 _ _ hb1)
  refine ⟨⟨⟨v, v, hins, ht.mono (same_kt e13), at_sh.mpr (ht.mono (same_kt e13))⟩, kp dx _ hne (by rw [upd_ne hne, upd_same]), nfs, ⟨[], g1, .nil⟩, ⟨[], g2, rfl, fun _ _ => rfl, fun j hj => absurd hj (Nat.not_lt_zero _)⟩, ⟨[], g3, rfl, fun _ _ => rfl, fun j hj => absurd hj (Nat.not_lt_zero _)⟩⟩, e13, ?_⟩
  rintro a (rfl | rfl | rfl | rfl)
  · exact e1.free hx
  · exact (e1.trans e12).free h1
  · exact (e1.trans e12).free h2
  · exact (e1.trans e12).free h3
theorem sub_sgnil (s : Sh) : s.sub (sg []) = s := by
  have : sg [] = Ss.none := by
    funext k
    rcases k with (j | j) | x <;> rfl
  rw [this, Sh.sub_none]
theorem wok_new (t : Tr) : WOk t t.sh [] [] [] := ⟨sub_sgnil _, (fun f hf => by cases hf), (fun f hf => by cases hf), (fun g hg => by cases hg), rfl, (fun j x b h => by cases h)⟩
theorem WorkAt.other {cW : Addr} {W : WA} {H : Hp} {F : Tr} {S : Sh} {fr : List Fr} {fs : List Tr} {ss : List Sh} (h : WorkAt cW W H F S fr fs ss) {l : Addr} {xs ys : List V} (hl : H l = some (.lst xs)) (hne : l ≠ W.lr) : WorkAt cW W (upd H l (.lst ys)) F S fr fs ss := by
  obtain ⟨fv0, sv0, i1, i2, i3⟩ := h.ins
  obtain ⟨vs0, a1, a2⟩ := h.ar
  have k : KT H (upd H l (.lst ys)) := kt_lst hl
  obtain ⟨kvs, f1, _⟩ := id h.fu
  obtain ⟨kvs2, s1, _⟩ := id h.sh
  exact ⟨⟨fv0, sv0, by rw [upd_ne (ne_of i1 hl (by intro z; cases z))]; exact i1, i2.mono k, i3.mono k⟩, by rw [upd_ne (ne_of h.own hl (by intro z; cases z))]; exact h.own, h.nfs, ⟨vs0, by rw [upd_ne hne.symm]; exact a1, pr_mono a2 fun _ _ h => h.kt k⟩,
    h.fu.mono (upd_ne (ne_of f1 hl (by intro z; cases z))) fun j r => RF.kt k, h.sh.mono (upd_ne (ne_of s1 hl (by intro z; cases z))) fun j r => RS.kt k⟩
/-- a step, wherever it is done -/
theorem plug_to {fr : List Fr} {F G : Tr} (h : FrOk fr) (hs : F.step = .to G) : (plug fr F).step = .to (plug fr G) := (plug_ctx h).to _ _ hs
theorem plug_er {fr : List Fr} {F : Tr} {c : Er} (h : FrOk fr) (hs : F.step = .err c) : (plug fr F).step = .err c := (plug_ctx h).err _ _ hs
theorem step_nv {F : Tr} (h : F.isV = false) : (∃ G, F.step = .to G) ∨ ∃ c, F.step = .err c := by
  cases hs : F.step with
  | val => rw [Tr.step_val.mp hs] at h; cases h
  | to G => exact .inl ⟨G, rfl⟩
  | err c => exact .inr ⟨c, rfl⟩
theorem plug_nv {fr : List Fr} {F : Tr} (h : FrOk fr) (hv : F.isV = false) : (plug fr F).isV = false := by
  cases fr with
  | nil => exact hv
  | cons f fr => exact plug_isV h
def spStep (E : Ers) : Sp := fun vs H Q X => ∃ (v : V) (t : Tr), vs = [v] ∧ At H t v ∧ t.dep ≤ 500000 ∧ (∀ t', t.step = .to t' → t'.dep ≤ 1000000) ∧
  match t.step with
  | .val => ∀ H', Same H H' → Q .non H'
  | .to t' => ∀ (r : V) (H' : Hp), Same H H' → At H' t' r → Q r H'
  | .err c => ∀ H', Same H H' → X (.ref (E.cls c)) none H'
/-- a work under way -/
structure Way (m : Nat) (t : Tr) (k : Nat) (T : Tr) (fs : List Tr) : Prop where
  work : work m t = work (m - k) T
  closed : T.closed
  bo : Bo 400 T
  dep : T.dep ≤ 400 + 400 * k
  le : k ≤ m
  most : m ≤ 1000
  fle : fs.length ≤ k
  fcl : ∀ g ∈ fs, g.closed
theorem Way.start {H : Hp} {t : Tr} {v : V} {m : Nat} (h : OkIn H t v m) : Way m t 0 t [] := ⟨by rw [Nat.sub_zero], h.closed, bo_dep (by have := t.dep_size; have := h.size; omega), by have := t.dep_size; have := h.size; omega, Nat.zero_le _, h.most, Nat.le_refl _, (fun g hg => by cases hg)⟩
theorem Way.dep' {m k : Nat} {t T : Tr} {fs : List Tr} (w : Way m t k T fs) : T.dep ≤ 500000 := by have := w.dep; have := w.le; have := w.most; omega
theorem Way.next {m k : Nat} {t T T' : Tr} {fs fs' : List Tr} (w : Way m t k T fs) (hk : k < m) (hs : T.step = .to T') (hf : fs'.length ≤ fs.length + 1) (hc : ∀ g ∈ fs', g.closed) : Way m t (k + 1) T' fs' := by
  have h1 := step_dep w.closed w.bo hs
  refine ⟨?_, (step_closed w.closed).2 T' hs, h1.1, by have := w.dep; omega, by omega, w.most, by have := w.fle; omega, hc⟩
  rw [w.work, show m - k = (m - (k + 1)) + 1 by omega, work_to hs]
theorem Way.todep {m k : Nat} {t T T' : Tr} {fs : List Tr} (w : Way m t k T fs) (hs : T.step = .to T') : T'.dep ≤ 1000000 := by
  have h1 := step_dep w.closed w.bo hs
  have := w.dep'
  omega
end My

namespace My
open PySem L2 L2H
open PyProof.Rows (envOfC)
/-! ### a def that is handed the exception which an except suite holds -/
structure FnE (P : Program) (w : World) (K : PySem.W.Frag) (mg : Str → Option Value) (base : Heap) (k : Nat) (f : Addr) (fd : FuncData) (ps : List Str) (sp : Addr × Obj → Sp) : Prop where
  len : ∀ p vs H Q E, sp p vs H Q E → vs.length = ps.length
  run : ∀ (A : Around) (outer : List PySem.Env) (s : Shared) (H : Hp) (args : Args) (us : List Value) (vs : List V) (Q : VK) (E : XK) (p : Addr × Obj),
    RoomH k A → PinOk outer H s p → Env0 P w K mg base A outer s H → BindsTo s fd args (ps.zip us) → Vals vs us → sp p vs H Q E → codeAny (model P w) A (.call (.ref f) args) (CR CX0 outer P w H s Q E) s
theorem fnE_of {P : Program} {w : World} {K : PySem.W.Frag} {mg : Str → Option Value} {base : Heap} {k : Nat} {x : Str} {st : Stmt} {f : Addr} {fd : FuncData} {N ps : List Str} {sp : Addr × Obj → Sp} (F : Fun K x x st f fd) (S : FnScope N ps (defScope st))
    (len : ∀ p vs H Q E, sp p vs H Q E → vs.length = ps.length)
    (hbody : ∀ (cdv : Value) (A : Around) (outer : List PySem.Env) (s : Shared) (H : Hp) (vs : List V) (Q : VK) (E : XK) (p : Addr × Obj), sp p vs H Q E →
      ∃ t, PSs (cxH CX0 P w K mg base N x (defScope st) f cdv A outer s H E p) (defBody st) t ∧ t { nx := fun _ H' => Q .non H', rt := Q } (L2.start N vs) H) : FnE P w K mg base (k + 1) f fd ps sp := by
  obtain ⟨oc, od, kV, doc, pm, an, cdv, ct, osl, rfl, lk, hcd⟩ := F.ex
  refine ⟨len, ?_⟩
  intro A outer s H args us vs Q E p hr hpin e0 hb r hsp
  have inK : K.In s.heap := e0.mod.kin.keeps fun b o e => (e0.bs b o e).1
  have nl : s.heap.NoLimit := e0.mod.nolimit.keeps fun b o e => (e0.bs b o e).1
  have kinds : ∀ y ∈ ps.zip us, (defScope st).names.lookup y.1 = some .local ∨ ((defScope st).names.lookup y.1 = some .cell ∧ ((cellsFrom (s.heap.objs.size + 1) (defScope st).names []).lookup y.1).isSome = true) := by
    rintro ⟨n, v⟩ hy
    exact (S.par n (List.of_mem_zip hy).1).imp id fun q => ⟨q, PySem.W.cellsFrom_some _ _ _ (.inl q)⟩
  refine codeAny_call_function hr.depth (inK _ _ lk) rfl S.co S.gen rfl (PySem.W.codeRec_of inK hcd) (hb _ _ _ _ ?_)
  refine wpAny_newFunctionEnv_cells S.kind kinds fun env he s1 z => ?_
  subst he
  obtain ⟨t, ht, hq⟩ := hbody cdv A outer s H vs Q E p hsp
  have I1 := inv_startH (CX := CX0) (E := E) (qual := x) (f := f) (cd := cdv) S hpin e0 (len _ _ _ _ _ hsp) r z
  refine ⟨nl.keeps z.toInCall.keep, codeAny_func (wpAny_mono (ht.run [] s1 _ H _ I1 hq) ?_ fun _ _ h => h)⟩
  intro fl s' hs
  match fl, hs with
  | .ret u, ⟨v, σ', H', J, rv, q⟩ => exact ⟨v, H', J.os, J.bare, J.base, J.hok, rv, q⟩
  | .next, ⟨σ', H', J, q⟩ => exact ⟨.non, H', J.os, J.bare, J.base, J.hok, rfl, q⟩
  | .brk, ⟨_, _, _, q⟩ => exact q.elim
  | .cont, ⟨_, _, _, q⟩ => exact q.elim
/-- such a def at the module's name -/
structure DfE (P : Program) (w : World) (K : PySem.W.Frag) (mg : Str → Option Value) (base : Heap) (k : Nat) (x : Str) (ps : List Str) (sp : Addr × Obj → Sp) : Prop where
  ex : ∃ (f : Addr) (fd : FuncData), FnE P w K mg base k f fd ps sp ∧ mg x = some (.ref f) ∧ PySem.W.keepIn K (.ref f) = true ∧ Binds K fd ps []
theorem FunAt.dfE {P : Program} {w : World} {K : PySem.W.Frag} {mg : Str → Option Value} {base : Heap} {x : Str} {st : Stmt} {N ps : List Str} {k : Nat} {sp : Addr × Obj → Sp} (F : FunAt K mg x st) (S : FnScope N ps (defScope st)) (hb : BindAll x st ps) (len : ∀ p vs H Q E, sp p vs H Q E → vs.length = ps.length)
    (hbody : ∀ (f : Addr) (cdv : Value) (A : Around) (outer : List PySem.Env) (s : Shared) (H : Hp) (vs : List V) (Q : VK) (E : XK) (p : Addr × Obj), sp p vs H Q E →
      ∃ t, PSs (cxH CX0 P w K mg base N x (defScope st) f cdv A outer s H E p) (defBody st) t ∧ t { nx := fun _ H' => Q .non H', rt := Q } (L2.start N vs) H) : DfE P w K mg base (k + 1) x ps sp := by
  obtain ⟨f, fd, h, m⟩ := F
  exact ⟨f, fd, fnE_of h S len (hbody f), m, h.kp, h.binds hb⟩
/-- its call within the suite -/
def tCallEx (pn : List (Addr × Obj)) (sp : Addr × Obj → Sp) (t : TA) : TE := fun σ H Q => t σ H fun vs H1 => ∃ p ∈ pn, sp p vs H1 Q E0
theorem pe_callEx {X : Cx} {j : Nat} {x : Str} {ps : List Str} {sp : Addr × Obj → Sp} {p0 pos : Pos} {e : Expr} {es : List Expr} {t : TA} (D : DfE X.prog X.w X.K X.mg X.base j x ps sp) (hr : RoomH j X.A) (hg : Gl X x) (ha : PA X (e :: es) t) (hdb : (x == ("__debug__" : Str)) = false := by decide)
    (he : starEach (e :: es) X.env = (false, eval e X.env) :: starEach es X.env := by rfl) (hpl : (backTo pos (starEach es X.env)).any (·.1) = false := by rfl) : PE X (.Call (.Name x p0) (e :: es) [] pos) (tCallEx X.pn sp t) := by
  obtain ⟨f, fd, F, m, kp, b⟩ := D.ex
  constructor
  intro pins s σ H Q I h
  refine wpAny_Call_Name_kw (ld_glob I hg m ?_ hdb)
  refine PySem.W.callWith_K (h₀ := X.base) I.ok.mod.kin kp (thn (ha.run pos pins s σ H _ I h) ?_) he hpl
  rintro us s1 ⟨vs, H1, I1, r, p, hp, q⟩
  refine ⟨I1.kIn, ?_⟩
  have hn : us.length = ps.length := by rw [← r.length]; exact F.len _ _ _ _ _ q
  have bb := b s1 us I1.kIn (by rw [List.append_nil]; exact hn)
  rw [List.append_nil] at bb
  have hpin := I1.pin p (List.mem_append_left _ hp)
  refine wpAny_call (codeAny_mono (F.run X.A X.stack s1 H1 ⟨us, []⟩ us vs Q E0 p hr ⟨hpin.1, hpin.2.1, fun hm => (List.mem_cons.mp (I1.stkSub p.1 hm)).elim hpin.2.2.1 hpin.2.2.2.1, hpin.2.2.2.2⟩ I1.env0 bb r q) ?_)
  intro r' s' hq
  match r', hq with
  | .error _, hq => exact hq.elim
  | .ok (.ret u), hq => exact I1.after hq
  | .ok .next, hq => exact False.elim hq
  | .ok .brk, hq => exact False.elim hq
  | .ok .cont, hq => exact False.elim hq
/-- what is promised by the exception's place, class and dict -/
def spOf (spz : Addr → Value → Option Addr → Sp) : Addr × Obj → Sp := fun p vs H Q E => ∃ (cls : Value) (d : Option Addr), Zc cls d p.2 ∧ (∃ vs, p.2.data = .fields vs) ∧ spz p.1 cls d vs H Q E
def tCallEz (spz : Addr → Value → Option Addr → Sp) (a : Addr) (cls : Value) (d : Option Addr) (t : TA) : TE := fun σ H Q => t σ H fun vs H1 => spz a cls d vs H1 Q E0
theorem room_suite {X : Cx} {a : Addr} {pn : List (Addr × Obj)} {j : Nat} (hr : Room j X.A) : RoomH j (X.suite a pn).A := ⟨hr.dp, hr.un⟩
theorem pe_callEz {X : Cx} {j : Nat} {x : Str} {ps : List Str} {spz : Addr → Value → Option Addr → Sp} {a : Addr} {cls : Value} {d : Option Addr} {oe : Obj} {pn : List (Addr × Obj)} {p0 pos : Pos} {e : Expr} {es : List Expr} {t : TA} (D : DfE X.prog X.w X.K X.mg X.base j x ps (spOf spz)) (hr : Room j X.A)
    (hz : Zc cls d oe) (hf : ∃ vs, oe.data = .fields vs) (hg : Gl (X.suite a ((a, oe) :: pn)) x) (ha : PA (X.suite a ((a, oe) :: pn)) (e :: es) t) (mono : ∀ σ H (Q Q' : List V → Hp → Prop), (∀ vs H1, Q vs H1 → Q' vs H1) → t σ H Q → t σ H Q') (hdb : (x == ("__debug__" : Str)) = false := by decide)
    (he : starEach (e :: es) X.env = (false, eval e X.env) :: starEach es X.env := by rfl) (hpl : (backTo pos (starEach es X.env)).any (·.1) = false := by rfl) : PE (X.suite a ((a, oe) :: pn)) (.Call (.Name x p0) (e :: es) [] pos) (tCallEz spz a cls d t) := by
  have h := pe_callEx (X := X.suite a ((a, oe) :: pn)) (p0 := p0) (pos := pos) (t := t) D (room_suite hr) hg ha hdb he hpl
  constructor
  intro pins s σ H Q I q
  refine h.run pins s σ H Q I ?_
  unfold tCallEx
  exact mono σ H _ _ (fun vs H1 q1 => ⟨(a, oe), List.mem_cons_self, cls, d, hz, hf, q1⟩) q
/-- isinstance of the exception that is handed on -/
theorem call_isPin {X : Cx} {a D : Addr} {oe : Obj} (C : ExcC X.K D) (hp : (a, oe) ∈ X.pn) (hz : Zc (.ref D) none oe) (hf : ∃ vs, oe.data = .fields vs) : CallR X (.builtin "isinstance") (rIsE X.K D a) := by
  intro pins s σ H xs us Q I r h
  obtain ⟨c, cv, b, rfl, hcv, e, q⟩ := h
  obtain ⟨u1, u2, rfl, r1, r2⟩ := vals2 r
  cases (show u1 = Value.ref a from r1)
  rw [hcv _ r2]
  obtain ⟨hget, _⟩ := I.pin (a, oe) (List.mem_append.mpr (.inl hp))
  obtain ⟨vs, hv⟩ := hf
  have J : PySem.W.InstAt s.heap a oe D none := by
    obtain ⟨oc, od, oda, osl⟩ := oe
    obtain ⟨g1, g2⟩ := hz
    cases g1
    cases g2
    cases (show oda = _ from hv)
    exact ⟨hget, rfl, rfl, trivial⟩
  refine PySem.W.kia_one (PySem.W.handS_kitx_exc C.hg C.hk C.hs C.hd C.ha C.hn C.ht C.hm) I.kIn J e (fun z => by cases z) ?_
  exact fun tk => ⟨.bl b, H, I.tok tk, rfl, q⟩
theorem vals_refs : ∀ {as : List Addr} {us : List Value}, Vals (as.map V.ref) us → us = as.map Value.ref
  | [], _, .nil => rfl
  | a :: as, _, .cons r t => by
    rw [vals_refs t, show _ = Value.ref a from r]
    rfl
def rIsPT (K : PySem.W.Frag) (D a : Addr) : List V → Hp → VK → Prop := fun xs H Q => ∃ (tp : Addr) (cs : List Addr) (b : Bool), xs = [.ref a, .ref tp] ∧ H tp = some (.tup (cs.map V.ref)) ∧ PySem.W.kitAny K (.ref D) (cs.map Value.ref) = some b ∧ Q (.bl b) H
theorem call_isPinT {X : Cx} {a D : Addr} {oe : Obj} (C : ExcC X.K D) (hp : (a, oe) ∈ X.pn) (hz : Zc (.ref D) none oe) (hf : ∃ vs, oe.data = .fields vs) : CallR X (.builtin "isinstance") (rIsPT X.K D a) := by
  intro pins s σ H xs us Q I r h
  obtain ⟨tp, cs, b, rfl, hT, e, q⟩ := h
  obtain ⟨u1, u2, rfl, r1, r2⟩ := vals2 r
  cases (show u1 = Value.ref a from r1)
  cases (show u2 = Value.ref tp from r2)
  obtain ⟨hget, _⟩ := I.pin (a, oe) (List.mem_append.mpr (.inl hp))
  obtain ⟨vs, hv⟩ := hf
  have J : PySem.W.InstAt s.heap a oe D none := by
    obtain ⟨oc, od, oda, osl⟩ := oe
    obtain ⟨g1, g2⟩ := hz
    cases g1
    cases g2
    cases (show oda = _ from hv)
    exact ⟨hget, rfl, rfl, trivial⟩
  obtain ⟨_, its, rv, o, h1, h2, n, h3⟩ := (show ObjOk X.prog X.w H s.heap tp (.tup (cs.map V.ref)) from I.hok tp _ hT)
  have e3 := vals_refs rv
  subst e3
  obtain ⟨oc, od, dt, sl⟩ := o
  simp only at h2 h3
  subst h2 h3
  refine PySem.W.kia_tup (PySem.W.handS_kitx_exc C.hg C.hk C.hs C.hd C.ha C.hn C.ht C.hm) I.kIn J h1 e (fun z => by cases z) ?_
  exact fun tk => ⟨.bl b, H, I.tok tk, rfl, q⟩
/-- how the classes of refusals are told apart by isinstance -/
structure IsT (K : PySem.W.Frag) (E : Ers) (D : Addr) (n f d : Bool) : Prop where
  ex : ExcC K D
  nn : PySem.W.kitOne K (.ref D) (.ref E.number) = some n
  ff : PySem.W.kitOne K (.ref D) (.ref E.function) = some f
  dd : PySem.W.kitOne K (.ref D) (.ref E.dry) = some d
  tc : PySem.W.kitAny K (.ref D) [.ref E.tree, .ref E.closed] = some false
  mt : PySem.W.kitAny K (.ref D) [.ref E.most, .ref E.text] = some false
  ve : PySem.W.kitOne K (.ref D) (.type "ValueError") = some true
def spWordsZ (E : Ers) : Addr → Value → Option Addr → Sp := fun a cls d vs H Q _ => ∃ (D : Addr) (z : Str), vs = [.ref a] ∧ cls = .ref D ∧ d = none ∧ ((D = E.number ∧ z = "number") ∨ (D = E.function ∧ z = "function") ∨ (D = E.dry ∧ z = "dry")) ∧ ∀ H', Same H H' → Q (.str z) H'
end My

namespace My
open PySem L2
open PySem.Spec PyProof.Rows
open PySem.W (exm_cls)
/-! ### except (A, B, ..) as e -/
section
variable {M : Model} {h : Heap}
theorem for_looks {β : Type} {f : Value → β → Sem (ForInStep β)} {b0 : β} : ∀ {cs : List Value}, (∀ c ∈ cs, PySem.W.Looks M h (f c b0) (.yield b0)) → PySem.W.Looks M h (forIn cs b0 f) b0
  | [], _ => by rw [List.forIn_nil]; exact .now
  | c :: cs, hs => by
    rw [List.forIn_cons]
    exact (hs c List.mem_cons_self).andThen (for_looks fun c hc => hs c (List.mem_cons_of_mem _ hc))
theorem for_any {β : Type} {f : Value → β → Sem (ForInStep β)} {g : Value → Bool} {b0 b1 : β} : ∀ {cs : List Value}, (∀ c ∈ cs, PySem.W.Looks M h (f c b0) (if g c = true then .done b1 else .yield b0)) → PySem.W.Looks M h (forIn cs b0 f) (if cs.any g = true then b1 else b0)
  | [], _ => by rw [List.forIn_nil]; exact .now
  | c :: cs, hs => by
    rw [List.forIn_cons]
    refine (hs c List.mem_cons_self).andThen ?_
    rw [List.any_cons]
    cases g c with
    | true => exact .now
    | false => exact for_any fun c hc => hs c (List.mem_cons_of_mem _ hc)
theorem any_each {K : PySem.W.Frag} {cls : Value} : ∀ {cs : List Value} {b : Bool}, PySem.W.exmAny K cls cs = some b → ∃ g : Value → Bool, (∀ c ∈ cs, PySem.W.exmOne K cls c = some (g c)) ∧ b = cs.any g := by
  intro cs b e
  refine ⟨fun c => (PySem.W.exmOne K cls c).getD false, ?_⟩
  induction cs generalizing b with
  | nil => exact ⟨fun c hc => (by cases hc), (Option.some.inj e).symm⟩
  | cons c cs ih =>
    obtain ⟨b1, d1, x1, y1, z1⟩ := PySem.W.exmAny_cons e
    obtain ⟨i1, i2⟩ := ih y1
    refine ⟨fun z hz => ?_, ?_⟩
    · rcases List.mem_cons.mp hz with rfl | hz
      · show _ = some ((PySem.W.exmOne K cls z).getD false)
        rw [x1]; rfl
      · exact i1 z hz
    · rw [z1, i2, List.any_cons, x1]; rfl
theorem exm_tupN {K : PySem.W.Frag} {cs : List Value} {cls : Value} {tp e : Addr} {b : Bool} (X : K.In h) (LT : PySem.W.Looks M h (typeOf (.ref e)) cls) (hp : h.get? tp = some { cls := .type "tuple", data := .seq cs.toArray }) (hx : PySem.W.exmAny K cls cs = some b) :
    PySem.W.Looks M h (excMatches (.ref e) (.ref tp)) b := by
  obtain ⟨g, hg, rfl⟩ := any_each hx
  have L0 : PySem.W.Looks M h (isInstance (.ref tp) (.type "tuple")) true := ((PySem.W.Looks.ld hp).andThen .now).andThen (PySem.W.Looks.of_pure isSubtype_tuple_tuple)
  unfold excMatches
  intro A Q E s k q
  refine wpAny_bind (L0 A _ E s k ?_)
  dsimp only
  rw [if_pos rfl]
  refine wpAny_bind (wpAny_seqItems (k _ _ hp) rfl (wpAny_bind (wpAny_pure ?_)))
  rw [Option.getD_some, List.toList_toArray]
  refine wpAny_bind (for_looks (M := M) (h := h) (fun c hc => ?_) A _ E s k ?_)
  · have h1 := (exm_cls (M := M) X (hg c hc)).1
    exact h1.andThen (by rw [if_neg (by decide)]; exact .now)
  refine wpAny_bind (LT A _ E s k ?_)
  refine wpAny_bind (for_any (M := M) (h := h) (g := g) (b1 := (some true, ())) (fun c hc => ?_) A _ E s k ?_)
  · refine (exm_cls (M := M) X (hg c hc)).2.andThen ?_
    cases g c with
    | true => rw [if_pos rfl, if_pos rfl]; exact .now
    | false => rw [if_neg (by decide), if_neg (by decide)]; exact .now
  cases hb : cs.any g with
  | true => rw [hb] at q; exact wpAny_pure q
  | false => rw [hb] at q; exact wpAny_pure q
end
theorem fly_grow {B : Heap} {l : List PySem.Env} {e : Addr} {Z : Obj → Prop} {h h' : Heap} (R : HandSPX.FlyingZ B l e Z h) (k : ∀ b o, h.get? b = some o → h'.get? b = some o) : HandSPX.FlyingZ B l e Z h' := by
  obtain ⟨r1, r2, r3, oe, vs, T, oT, ts, g1, g2, g3, g4, g5, g6, g7, g8, g9⟩ := R
  exact ⟨fun b o q => k _ _ (r1 b o q), r2, r3.of_keeps fun b o q _ => ⟨o, k b o q, rfl⟩, oe, vs, T, oT, ts, k _ _ g1, g2, g3, g4, g5, g6, k _ _ g7, g8, g9⟩
/-- the names of a tuple of classes -/
inductive TN (X : Cx) : List Expr → List Value → Prop
  | nil : TN X [] []
  | cons {x : Str} {c : Value} {p : Pos} {es : List Expr} {cs : List Value} (h : Names X x c) (r : TN X es cs) : TN X (.Name x p :: es) (c :: cs)
theorem TN.suite {X : Cx} {a : Addr} {pn : List (Addr × Obj)} {es : List Expr} {cs : List Value} (T : TN X es cs) : TN (X.suite a pn) es cs := by
  induction T with
  | nil => exact .nil
  | cons h _ ih => exact .cons h ih
theorem tn_run {Y : Cx} {es : List Expr} {cs : List Value} (T : TN Y es cs) {pos : Pos} {pins : List (Addr × Obj)} {σ : L2.St} {H : Hp} {s : Shared} {E : Value → Shared → Prop} (I : Inv Y pins σ H s) : ∀ {Q : List Value → Shared → Prop}, Q cs s →
    wpAny (model Y.prog Y.w) Y.A (spliced (backTo pos (starEach es Y.env))) Q E s := by
  induction T with
  | nil => exact fun q => wpAny_items_nil q
  | cons h _ ih =>
    intro Q q
    refine wpAny_items_cons ?_
    obtain ⟨hg, hd, hm | ⟨hm, hv, hn⟩⟩ := h
    · exact ld_glob I hg hm (ih q) hd
    · exact ld_blt I hg hm hv (ih q) hn hd
def wAsT (K : PySem.W.Frag) (cs : List Value) (i : Nat) (ts : Addr → Value → Option Addr → TS) (Wout : WX) (D : Ends) : WX := fun cls d σ H =>
  ∃ b, PySem.W.exmAny K cls cs = some b ∧ (b = false → Wout cls d σ H) ∧
    (b = true → ∀ a, H a = none → ts a cls d ⟨fun σ' H' => D.nx (σ'.set i none) H', D.rt, fun σ' H' => D.bk (σ'.set i none) H', fun σ' H' => D.ct (σ'.set i none) H'⟩ (σ.set i (some (.ref a))) H)
section
variable {X : Cx} {n : Str} {es : List Expr} {cs : List Value} {i : Nat} {body suite : List Stmt} {b₀ : Stmt} {kk : Nat} {tpos pos pos' : Pos} {tb : WX → TS} {ts : Addr → Value → Option Addr → TS} {Wout : WX}
theorem ps_try_asT (hs : X.stack = X.env :: X.outer) (hf : X.env.frame = some X.env.locals) (hN : X.N.Nodup) (hi : X.N[i]? = some n) (hln : X.env.kindOf n = some .local) (hc : TN X es cs) (hcl : cs.length ≤ sizeLine) (tk : Takes X Wout)
    (hb : ∀ (W : WX) (pn : List (Addr × Obj)) (xe : Value → Shared → Prop), Takes (X.tr pn xe) W → PassesOwn (model X.prog X.w) X.A X.env xe → PSs (X.tr pn xe) body (tb W))
    (hsu : ∀ (a : Addr) (oe : Obj) (cls : Value) (d : Option Addr) (pn : List (Addr × Obj)), Zc cls d oe → (∃ vs, oe.data = .fields vs) → PSs (X.suite a ((a, oe) :: pn)) (b₀ :: suite) (ts a cls d)) :
    PS X (.Try body [.ExceptHandler (some (.Tuple es kk tpos)) (some n) (b₀ :: suite) pos'] [] [] pos) (fun D => tb (wAsT X.K cs i ts Wout D) D) := by
  constructor
  intro pins s σ H D I h
  have ok := I.ok
  have frm : X.A.frames = some (X.env :: X.outer) := by rw [ok.frames, hs]
  refine wpAny_Try_except (wpAny_mono ((hb (wAsT X.K cs i ts Wout D) (X.pn ++ pins) _ (fun u s' xx => ?_) PassesOwn.looking).run [] s σ H D (I.toTry _) h) (fun f s1 hsp => ?_) (fun e s1 he => he))
  rotate_left
  · cases f with
    | next =>
      obtain ⟨τ, H', J', q⟩ := hsp
      exact wpAny_execs_nil ⟨τ, H', J'.ofTry ok, q⟩
    | brk =>
      obtain ⟨τ, H', J', q⟩ := hsp
      exact ⟨τ, H', J'.ofTry ok, q⟩
    | cont =>
      obtain ⟨τ, H', J', q⟩ := hsp
      exact ⟨τ, H', J'.ofTry ok, q⟩
    | ret u =>
      obtain ⟨v, τ, H', J', r, q⟩ := hsp
      exact ⟨v, τ, H', J'.ofTry ok, r, q⟩
  obtain ⟨a, B, sI, pins', τ, G, cls, d, rfl, J0, nb, up, sky, na, os, ag, b, hany, hno, hyes⟩ := xx
  have J := J0.ofTry ok
  refine Sky.land Zc.steady frm hf (by rw [← hs]; exact sky) fun g1 fl1 up1 => ?_
  have I1 : Inv X pins τ G { s' with heap := g1 } := J.landed nb fl1.1 (up.trans up1) os ag
  obtain ⟨o1, v1, get1, z1, dat1⟩ := fl1.there
  have away : ∀ {g : Heap} {o : Obj} {v : Array Value}, g.FunFrames B (X.env :: X.outer) → g.get? a = some o → o.data = .fields v → a ∉ frs (X.env :: X.outer) := by
    intro g o v ff e1 e2 hm
    obtain ⟨_, o', e3, e4⟩ := ff.mem hm
    rw [e1] at e3
    cases e3
    exact e4 _ e2
  have far := away fl1.2.2.1 get1 dat1
  have nL : a ≠ X.env.locals := fun e => far (List.mem_filterMap.mpr ⟨X.env, List.mem_cons_self, by rw [hf, e]⟩)
  have nF : a ∉ X.fs := fun hm => by
    obtain ⟨e, he, hq⟩ := List.mem_filterMap.mp hm
    exact far (List.mem_filterMap.mpr ⟨e, List.mem_cons_of_mem _ he, hq⟩)
  refine wpAny_handleBy_cons (codeAny_handlers_test (wpAny_Tuple ?_)) (fun e => by cases e)
  refine tn_run (Y := X.suite a ((a, o1) :: (X.pn ++ pins))) hc.suite (I1.suite get1 dat1 na nL nF) ⟨hcl, ?_⟩
  have grow : ∀ b o, g1.get? b = some o → (g1.push { cls := .type "tuple", data := .seq cs.toArray }).get? b = some o := fun _ _ e => Heap.get?_push_of_some _ e
  have newt : (g1.push { cls := .type "tuple", data := .seq cs.toArray }).get? g1.objs.size = some { cls := .type "tuple", data := .seq cs.toArray } := Heap.get?_push_size g1 rfl
  show wpAny _ _ (excMatches (.ref a) (.ref g1.objs.size)) _ _ { s' with heap := g1.push { cls := .type "tuple", data := .seq cs.toArray } }
  generalize g1.push { cls := .type "tuple", data := .seq cs.toArray } = g2 at grow newt ⊢
  generalize g1.objs.size = tp at newt ⊢
  have fl2 := fly_grow fl1 grow
  have up2 := (up.trans up1).trans (Heap.UpToSlots.of_keeps grow)
  have I2 : Inv X pins τ G { s' with heap := g2 } := J.landed nb fl2.1 up2 os ag
  have isC : PySem.W.Looks (model X.prog X.w) g2 (typeOf (.ref a)) cls := fun _ _ _ _ k q => wpAny_typeOf_ref (k _ _ (grow _ _ get1)) (by rw [z1.1]; exact q)
  refine (exm_tupN (M := model X.prog X.w) I2.kIn isC newt hany).here ?_
  cases b with
  | false =>
    refine wpAny_handleBy_nil ?_
    obtain ⟨_, _, _, o, v, T, oT, l, e1, _, e3, e4, _⟩ := id fl2
    unfold PySem.passOn
    refine wpAny_bind (wpAny_field e1 e3 e4 ?_)
    rw [if_neg (by simp)]
    have last : wpAny (model X.prog X.w) X.A (setFlight (.ref a) X.env.frame) (fun _ s4 => wpAny (model X.prog X.w) X.A (throw (.ref a) : Sem Flow) (SP X pins D) X.xe s4) X.xe { s' with heap := g2 } := by
      rw [hf]
      exact HandSPX.setFlight_upZ fl2 fun g3 held up3 => wpAny_throw (tk _ _ ⟨a, B, sI, pins, τ, G, cls, d, rfl, J, nb, up2.trans up3, .inr (.inr (by rw [hs]; exact held)), na, os, ag, hno rfl⟩)
    first
      | exact wpAny_bind last
      | exact wpAny_bind (wpAny_pure (wpAny_bind last))
  | true =>
    refine codeAny_handlers_suite_as (HandSPX.lands_againZ fl2 fun g4 fl4 up4 => ?_)
    have I4 : Inv X pins τ G { s' with heap := g4 } := J.landed nb fl4.1 (up2.trans up4) os ag
    obtain ⟨o4, v4, get4, z4, dat4⟩ := fl4.there
    refine store_ok (X := X.suite a ((a, o4) :: (X.pn ++ pins))) (v := .ref a) (I4.suite get4 dat4 na nL nF) hN hi (.inl hln) rfl (fun s5 S5 => ?_) (.inr hln)
    refine wpAny_mono ((hsu a o4 cls d (X.pn ++ pins) z4 ⟨_, dat4⟩).run [] s5 _ G _ S5 (hyes rfl a na)) (fun f s6 hsp => ?_) fun _ _ z => z.elim
    have gone : ∀ {τ6 : L2.St} {G6 : Hp} {Q : Shared → Prop}, Inv (X.suite a ((a, o4) :: (X.pn ++ pins))) [] τ6 G6 s6 → (∀ s7, Inv X pins (τ6.set i none) G6 s7 → Q s7) →
        wpAny (model X.prog X.w) X.A (do bindName X.env n .none; unbindBehindTheSuite X.env n pos') (fun _ s7 => Q s7) X.xe s6 := fun S6 hq => gone_ok (S6.unsuite ok) hN hi hln hq
    cases f with
    | next =>
      obtain ⟨_, _, S6, q6⟩ := hsp
      exact gone S6 fun s7 J7 => ⟨_, _, J7, q6⟩
    | brk =>
      obtain ⟨_, _, S6, q6⟩ := hsp
      exact gone S6 fun s7 J7 => ⟨_, _, J7, q6⟩
    | cont =>
      obtain ⟨_, _, S6, q6⟩ := hsp
      exact gone S6 fun s7 J7 => ⟨_, _, J7, q6⟩
    | ret u =>
      obtain ⟨_, _, _, S6, r6, q6⟩ := hsp
      exact gone S6 fun s7 J7 => ⟨_, _, _, J7, r6, q6⟩
end
end My

namespace My
open PySem L2
open Tr in
/-! ### the counting tree of k08 -/
def bodyT : Tr := .ite (.name "x") (.call (.call (.name "f") (.name "f")) (.less (.name "x") (.num 1))) (.num 9)
def innT : Tr := .fn "x" bodyT
def loopT : Tr := .fn "f" innT
def countT (n : Nat) : Tr := .lt "g" loopT (.call (.call (.name "g") (.name "g")) (.num n))
def loopV : Val := .fn "f" innT .nil
def innV : Val := .fn "x" bodyT (.cons "f" loopV .nil)
theorem keep_loop {e : Env} : e.keep (freeNames loopT) = .nil := by
  rw [show freeNames loopT = [] by decide +kernel]; rfl
theorem keep_inn {e : Env} {v : Val} : (Env.cons "f" v e).keep (freeNames innT) = .cons "f" v .nil := by
  rw [show freeNames innT = [("f" : Str)] by decide +kernel]
  unfold Env.keep
  rw [show (Env.cons "f" v e).look "f" = some v by unfold Env.look; rw [if_pos rfl]]
  rfl
def envC (k : Int) : Env := .cons "x" (.num k) (.cons "f" loopV .nil)
theorem look_x (k : Int) : (envC k).look "x" = some (.num k) := by unfold envC Env.look; rw [if_pos rfl]
theorem look_f (k : Int) : (envC k).look "f" = some loopV := by
  unfold envC Env.look
  rw [if_neg (by decide +kernel)]
  unfold Env.look
  rw [if_pos rfl]
theorem ff_run {m : Nat} (k : Int) : evF m (envC k) (.call (.name "f") (.name "f")) = deed m fun m' => .ok innV m' [innV] := by
  unfold evF
  have hf : ∀ m, ev freeNames m (envC k) (.name "f") = .ok loopV m [] := fun m => by rw [ev_name, look_f]
  rw [ev_call, hf]
  show ((ev freeNames m (envC k) (.name "f")).bind _) = _
  rw [hf]
  show deed m _ = _
  cases m with
  | zero => rfl
  | succ m =>
    show (ev freeNames m (.cons "f" loopV .nil) innT).log ([] ++ []) = _
    unfold innT
    rw [ev_fn]
    show Rv.ok (.fn "x" bodyT ((Env.cons "f" loopV .nil).keep (freeNames innT))) m _ = _
    rw [keep_inn]
    rfl
theorem body_run : ∀ (n m : Nat), evF (4 * n + 1 + m) (envC n) bodyT = .ok (.num 9) m (List.replicate n innV) ∧ evF (4 * n) (envC n) bodyT = .dry
  | 0, m => by
    constructor
    · unfold evF bodyT
      rw [ev_ite, ev_name, look_x, show 4 * 0 + 1 + m = m + 1 by omega]
      show (ev freeNames m (envC 0) (if ((0 : Nat) : Int) = 0 then .num 9 else _)).log [] = _
      rw [if_pos (show ((0 : Nat) : Int) = 0 from rfl), ev_num]
      rfl
    · unfold evF bodyT
      rw [ev_ite, ev_name, look_x]
      rfl
  | n + 1, m => by
    have step : ∀ k, evF (k + 4) (envC ((n + 1 : Nat) : Int)) bodyT = (evF k (envC n) bodyT).log [innV] := by
      intro k
      unfold evF
      conv => lhs; unfold bodyT
      rw [ev_ite, ev_name, look_x]
      show (ev freeNames (k + 3) (envC ((n + 1 : Nat) : Int)) (if ((n + 1 : Nat) : Int) = 0 then _ else _)).log [] = _
      rw [if_neg (by omega), ev_call]
      have h1 := ff_run (m := k + 3) ((n + 1 : Nat) : Int)
      unfold evF at h1
      rw [h1]
      show (((ev freeNames (k + 2) (envC ((n + 1 : Nat) : Int)) (.less (.name "x") (.num 1))).bind _)).log [] = _
      rw [ev_less, ev_name, look_x]
      show (((ev freeNames (k + 2) (envC ((n + 1 : Nat) : Int)) (.num 1)).bind _).bind _).log [] = _
      rw [ev_num]
      show (((ev freeNames k (.cons "x" (.num (((n + 1 : Nat) : Int) - 1)) (.cons "f" loopV .nil)) bodyT).log ([innV] ++ ([] ++ [])))).log [] = _
      rw [show ((n + 1 : Nat) : Int) - 1 = (n : Int) by omega]
      show ((ev freeNames k (envC n) bodyT).log [innV]).log [] = _
      cases ev freeNames k (envC n) bodyT <;> rfl
    obtain ⟨h1, h2⟩ := body_run n m
    constructor
    · rw [show 4 * (n + 1) + 1 + m = (4 * n + 1 + m) + 4 by omega, step, h1]
      rfl
    · rw [show 4 * (n + 1) = 4 * n + 4 by omega, step, h2]
      rfl
theorem count_ev (n k : Nat) : evF (k + 3) .nil (countT n) = (evF k (envC n) bodyT).log [loopV, innV] := by
  unfold evF countT
  rw [ev_lt]
  conv => lhs; unfold loopT
  rw [ev_fn]
  show (ev freeNames (k + 2) (.cons "g" (.fn "f" innT (Env.nil.keep (freeNames loopT))) .nil) _).log [.fn "f" innT (Env.nil.keep (freeNames loopT))] = _
  rw [keep_loop]
  show (ev freeNames (k + 2) (.cons "g" loopV .nil) _).log [loopV] = _
  have hg : (Env.cons "g" loopV .nil).look "g" = some loopV := by unfold Env.look; rw [if_pos rfl]
  have hn : ∀ m, ev freeNames m (.cons "g" loopV .nil) (.name "g") = .ok loopV m [] := fun m => by rw [ev_name, hg]
  rw [ev_call, ev_call, hn]
  show ((((ev freeNames (k + 2) (.cons "g" loopV .nil) (.name "g")).bind _)).bind _).log [loopV] = _
  rw [hn]
  show (((ev freeNames (k + 1) (.cons "f" loopV .nil) innT).log ([] ++ [])).bind _).log [loopV] = _
  conv => lhs; unfold innT
  rw [ev_fn]
  show (((Rv.ok (.fn "x" bodyT ((Env.cons "f" loopV .nil).keep (freeNames innT))) (k + 1) [.fn "x" bodyT ((Env.cons "f" loopV .nil).keep (freeNames innT))]).log ([] ++ [])).bind _).log [loopV] = _
  rw [keep_inn]
  show ((ev freeNames (k + 1) _ (.num n)).bind _).log [loopV] = _
  rw [ev_num]
  show ((ev freeNames k (envC n) bodyT).log ([innV] ++ [])).log [loopV] = _
  cases ev freeNames k (envC n) bodyT <;> rfl
theorem count_ok (n : Nat) : evF (4 * n + 4) .nil (countT n) = .ok (.num 9) 0 (loopV :: innV :: List.replicate n innV) := by
  rw [show 4 * n + 4 = (4 * n + 1 + 0) + 3 by omega, count_ev, (body_run n 0).1]
  rfl
theorem count_dry (n : Nat) : evF (4 * n + 3) .nil (countT n) = .dry := by
  rw [count_ev, (body_run n 0).2]
  rfl
theorem count_closed (n : Nat) : (countT n).closed := by
  intro x hx
  simp only [countT, loopT, innT, bodyT, Tr.fr] at hx
  grind
theorem count_good (n : Nat) (h : n < 1000) : Good (countT n) := by
  have hx : isName (Str.ofString "x") = true := by decide +kernel
  have hf : isName (Str.ofString "f") = true := by decide +kernel
  have hg : isName (Str.ofString "g") = true := by decide +kernel
  refine ⟨hg, ⟨hf, hx, hx, ⟨⟨hf, hf⟩, hx, by decide, by decide⟩, by decide, by decide⟩, ⟨hg, hg⟩, ?_, ?_⟩ <;> omega
theorem count_size (n : Nat) : (countT n).size ≤ 400 := by
  simp [countT, loopT, innT, bodyT, Tr.size]
/-- the tree that k08 takes where no name is free -/
def closedT : Tr := .fn "x" (.call (.num 1) (.num 2))
theorem closedT_ok : closedT.closed ∧ Good closedT ∧ closedT.size ≤ 400 ∧ closedT.step = .val := by
  refine ⟨fun x hx => ?_, ⟨by decide +kernel, ⟨by decide, by decide⟩, by decide, by decide⟩, by decide, rfl⟩
  simp only [closedT, Tr.fr] at hx
  grind
/-! ### what is refused before any deed -/
def RefAt (H : Hp) (tv mv : V) : Nat → Prop
  | 0 => ∃ n b, Wks H [tv] n b ∧ (400 < n ∨ b = true)
  | 1 => ∃ t, At H t tv ∧ Good t ∧ t.size ≤ 400 ∧ ¬ t.closed
  | _ => ∃ t, At H t tv ∧ Good t ∧ t.size ≤ 400 ∧ t.closed ∧ BadM H mv
def Ers.ref (E : Ers) : Nat → Addr
  | 0 => E.tree
  | 1 => E.closed
  | _ => E.most
def refW : Nat → Str
  | 0 => "tree"
  | 1 => "closed"
  | _ => "most"
def spBadS (E : Ers) : Sp := fun vs H Q X => ∃ (tv mv : V) (k : Nat), vs = [tv, mv] ∧ RefAt H tv mv k ∧ ∀ H', Same H H' → X (.ref (E.ref k)) none H'
theorem bad_start {E : Ers} {H : Hp} {tv mv : V} {k : Nat} {Q : VK} {X : XK} (h : RefAt H tv mv k) (q : ∀ H', Same H H' → X (.ref (E.ref k)) none H') : spStart E [tv, mv] H Q X := by
  refine ⟨tv, mv, rfl, ?_⟩
  match k, h with
  | 0, ⟨n, b, h1, h2⟩ => exact .inl ⟨n, b, h1, h2, q⟩
  | 1, ⟨t, h1, h2, h3, h4⟩ => exact .inr ⟨t, h1, h2, h3, .inl ⟨h4, q⟩⟩
  | k + 2, ⟨t, h1, h2, h3, h4, h5⟩ => exact .inr ⟨t, h1, h2, h3, .inr (.inl ⟨h4, h5, q⟩)⟩
def spAskB (E : Ers) : Sp := fun vs H Q X => ∃ (way : Int) (tv mv : V) (k : Nat), vs = [.int way, tv, mv] ∧ RefAt H tv mv k ∧ ∀ H', Same H H' → X (.ref (E.ref k)) none H'
def spWordB : Sp := fun vs H Q _ => ∃ (way : Int) (tv mv : V) (k : Nat), vs = [.int way, tv, mv] ∧ RefAt H tv mv k ∧ ∀ H', Same H H' → Q (.str (refW k)) H'
def spBasedB : Sp := fun vs H Q _ => ∃ (way : Int) (tv mv : V) (k : Nat), vs = [.int way, tv, mv] ∧ RefAt H tv mv k ∧ ∀ H', Same H H' → Q (.bl true) H'
def spAskG (E : Ers) (cK : Addr) : Sp := fun vs H Q X => ∃ (way : Int) (v : V) (t : Tr) (m : Nat), vs = [.int way, v, .int m] ∧ OkIn H t v m ∧ (way = 0 → spWorked E [v, .int m] H Q X) ∧ (way = 1 → spSteps E [v, .int m] H Q X) ∧
  (way = 2 → spRun E (KVm cK NoA) [v, .int m] H Q X) ∧ (way ≠ 0 → way ≠ 1 → way ≠ 2 → spMade E cK [v, .int m] H Q X)
def spWordG : Sp := fun vs H Q _ => ∃ (way : Int) (v : V) (t : Tr) (m : Nat), vs = [.int way, v, .int m] ∧ OkIn H t v m ∧
  (((∃ u m' L, evF m .nil t = .ok u m' L) ∧ ∀ H', Same H H' → Q (.str "") H') ∨ (evF m .nil t = .dry ∧ ∀ H', Same H H' → Q (.str "dry") H'))
/-! ### isinstance of what a suite holds, of any class -/
def rIsEa (K : PySem.W.Frag) (a : Addr) (cls : Value) (d : Option Addr) : List V → Hp → VK → Prop := fun xs H Q => ∃ D : Addr, cls = .ref D ∧ d = none ∧ ExcC K D ∧ rIsE K D a xs H Q
theorem call_isEa {X : Cx} {a : Addr} {cls : Value} {d : Option Addr} {oe : Obj} {pn : List (Addr × Obj)} (hz : Zc cls d oe) (hf : ∃ vs, oe.data = .fields vs) : CallR (X.suite a ((a, oe) :: pn)) (.builtin "isinstance") (rIsEa X.K a cls d) := by
  intro pins s σ H xs us Q I r h
  obtain ⟨D, rfl, rfl, C, q⟩ := h
  exact call_isE C hz hf pins s σ H xs us Q I r q
def rIsEaT (K : PySem.W.Frag) (a : Addr) (cls : Value) (d : Option Addr) : List V → Hp → VK → Prop := fun xs H Q => ∃ D : Addr, cls = .ref D ∧ d = none ∧ ExcC K D ∧ rIsPT K D a xs H Q
theorem call_isEaT {X : Cx} {a : Addr} {cls : Value} {d : Option Addr} {oe : Obj} {pn : List (Addr × Obj)} (hz : Zc cls d oe) (hf : ∃ vs, oe.data = .fields vs) : CallR (X.suite a ((a, oe) :: pn)) (.builtin "isinstance") (rIsEaT X.K a cls d) := by
  intro pins s σ H xs us Q I r h
  obtain ⟨D, rfl, rfl, C, q⟩ := h
  exact call_isPinT (X := X.suite a ((a, oe) :: pn)) C List.mem_cons_self hz hf pins s σ H xs us Q I r q
end My

namespace My
open PySem L2
def dataOf : Tr → PyData
  | .num n => .tuple [.str "num", .int n]
  | .name x => .tuple [.str "name", .str x]
  | .fn x b => .tuple [.str "fun", .str x, dataOf b]
  | .call f b => .tuple [.str "call", dataOf f, dataOf b]
  | .plus f b => .tuple [.str "plus", dataOf f, dataOf b]
  | .less f b => .tuple [.str "less", dataOf f, dataOf b]
  | .ite c f b => .tuple [.str "if", dataOf c, dataOf f, dataOf b]
  | .lt x f b => .tuple [.str "let", .str x, dataOf f, dataOf b]
theorem dp_of {K : PySem.W.Frag} {H : Hp} : ∀ {t : Tr} {v : V}, At H t v → Dp K H v (dataOf t)
  | .num n, _, ⟨a, rfl, h⟩ => .tup (SqT.of h) (.cons (.str _) (.cons (.int _) .nil))
  | .name x, _, ⟨a, rfl, h⟩ => .tup (SqT.of h) (.cons (.str _) (.cons (.str _) .nil))
  | .fn x b, _, ⟨a, u, rfl, h, h1⟩ => .tup (SqT.of h) (.cons (.str _) (.cons (.str _) (.cons (dp_of h1) .nil)))
  | .call f b, _, ⟨a, u, u', rfl, h, h1, h2⟩ => .tup (SqT.of h) (.cons (.str _) (.cons (dp_of h1) (.cons (dp_of h2) .nil)))
  | .plus f b, _, ⟨a, u, u', rfl, h, h1, h2⟩ => .tup (SqT.of h) (.cons (.str _) (.cons (dp_of h1) (.cons (dp_of h2) .nil)))
  | .less f b, _, ⟨a, u, u', rfl, h, h1, h2⟩ => .tup (SqT.of h) (.cons (.str _) (.cons (dp_of h1) (.cons (dp_of h2) .nil)))
  | .ite c f b, _, ⟨a, u, u', u'', rfl, h, h1, h2, h3⟩ => .tup (SqT.of h) (.cons (.str _) (.cons (dp_of h1) (.cons (dp_of h2) (.cons (dp_of h3) .nil))))
  | .lt x f b, _, ⟨a, u, u', rfl, h, h1, h2⟩ => .tup (SqT.of h) (.cons (.str _) (.cons (.str _) (.cons (dp_of h1) (.cons (dp_of h2) .nil))))
theorem strOk_name {x : Str} (h : isName x = true) : PyData.strOk x = true := by
  unfold isName at h
  simp only [Bool.and_eq_true, List.all_eq_true] at h
  show x.cps.all (· < 0x110000) = true
  rw [← Array.all_toList, List.all_eq_true]
  intro c hc
  have := h.2 c hc
  unfold isLet at this
  simp only [Bool.and_eq_true, decide_eq_true_eq] at this
  exact decide_eq_true (by omega)
theorem lay_of : ∀ {t : Tr}, Good t → (dataOf t).canLay0 = true
  | .num n, g => by show (PyData.strOk "num" && (true && true)) = true; decide +kernel
  | .name x, g => by show (PyData.strOk "name" && (PyData.strOk x && true)) = true; rw [strOk_name g]; decide +kernel
  | .fn x b, g => by show (PyData.strOk "fun" && (PyData.strOk x && ((dataOf b).canLay0 && true))) = true; rw [strOk_name g.1, lay_of g.2]; decide +kernel
  | .call f b, g => by show (PyData.strOk "call" && ((dataOf f).canLay0 && ((dataOf b).canLay0 && true))) = true; rw [lay_of g.1, lay_of g.2]; decide +kernel
  | .plus f b, g => by show (PyData.strOk "plus" && ((dataOf f).canLay0 && ((dataOf b).canLay0 && true))) = true; rw [lay_of g.1, lay_of g.2]; decide +kernel
  | .less f b, g => by show (PyData.strOk "less" && ((dataOf f).canLay0 && ((dataOf b).canLay0 && true))) = true; rw [lay_of g.1, lay_of g.2]; decide +kernel
  | .ite c f b, g => by show (PyData.strOk "if" && ((dataOf c).canLay0 && ((dataOf f).canLay0 && ((dataOf b).canLay0 && true)))) = true; rw [lay_of g.1, lay_of g.2.1, lay_of g.2.2]; decide +kernel
  | .lt x f b, g => by show (PyData.strOk "let" && (PyData.strOk x && ((dataOf f).canLay0 && ((dataOf b).canLay0 && true)))) = true; rw [strOk_name g.1, lay_of g.2.1, lay_of g.2.2]; decide +kernel
theorem depth_of : ∀ t : Tr, (dataOf t).depth ≤ t.size
  | .num n => by simp [dataOf, PyData.depth, PyData.depthAll, Tr.size]
  | .name x => by simp [dataOf, PyData.depth, PyData.depthAll, Tr.size]
  | .fn x b => by have := depth_of b; simp [dataOf, PyData.depth, PyData.depthAll, Tr.size]; omega
  | .call f b => by have := depth_of f; have := depth_of b; simp [dataOf, PyData.depth, PyData.depthAll, Tr.size]; omega
  | .plus f b => by have := depth_of f; have := depth_of b; simp [dataOf, PyData.depth, PyData.depthAll, Tr.size]; omega
  | .less f b => by have := depth_of f; have := depth_of b; simp [dataOf, PyData.depth, PyData.depthAll, Tr.size]; omega
  | .ite c f b => by have := depth_of c; have := depth_of f; have := depth_of b; simp [dataOf, PyData.depth, PyData.depthAll, Tr.size]; omega
  | .lt x f b => by have := depth_of f; have := depth_of b; simp [dataOf, PyData.depth, PyData.depthAll, Tr.size]; omega
theorem shp_of {t : Tr} (h : Good t) (hs : t.size ≤ 60) : SeqAt.shaped (dataOf t) = true := by
  unfold SeqAt.shaped
  have := depth_of t
  rw [Bool.and_eq_true]
  exact ⟨lay_of h, decide_eq_true (by omega)⟩
/-- trees as data are the same -/
theorem eq_tree {K : PySem.W.Frag} {H : Hp} {t : Tr} {u v : V} {Q : VK} (h1 : At H t u) (h2 : At H t v) (hg : Good t) (hs : t.size ≤ 60) (q : Q (.bl true) H) : rEqD K u v H Q := by
  refine ⟨dataOf t, dataOf t, dp_of h1, dp_of h2, shp_of hg hs, shp_of hg hs, ?_⟩
  rw [show PyData.eqv (dataOf t) (dataOf t) = true from SeqAt.eqv_refl _ (lay_of hg)]
  exact q
/-- a tree and a count in a tuple -/
theorem eq_pair {K : PySem.W.Frag} {H : Hp} {t : Tr} {u v : V} {p q : Addr} {n : Int} {Q : VK} (h1 : At H t u) (h2 : At H t v) (hg : Good t) (hs : t.size ≤ 60) (hp : H p = some (.tup [u, .int n])) (hq : H q = some (.tup [v, .int n])) (k : Q (.bl true) H) : rEqD K (.ref p) (.ref q) H Q := by
  have d1 : Dp K H (.ref p) (.tuple [dataOf t, .int n]) := .tup (SqT.of hp) (.cons (dp_of h1) (.cons (.int _) .nil))
  have d2 : Dp K H (.ref q) (.tuple [dataOf t, .int n]) := .tup (SqT.of hq) (.cons (dp_of h2) (.cons (.int _) .nil))
  have lay : (PyData.tuple [dataOf t, .int n]).canLay0 = true := by
    show ((dataOf t).canLay0 && (true && true)) = true
    rw [lay_of hg]; rfl
  have shp : SeqAt.shaped (.tuple [dataOf t, .int n]) = true := by
    unfold SeqAt.shaped
    have := depth_of t
    rw [Bool.and_eq_true]
    exact ⟨lay, decide_eq_true (by simp only [PyData.depth, PyData.depthAll]; omega)⟩
  refine ⟨_, _, d1, d2, shp, shp, ?_⟩
  rw [SeqAt.eqv_refl _ lay]
  exact k
/-- a list of one tree -/
theorem eq_lone {K : PySem.W.Frag} {H : Hp} {t : Tr} {u v : V} {p q : Addr} {Q : VK} (h1 : At H t u) (h2 : At H t v) (hg : Good t) (hs : t.size ≤ 60) (hp : H p = some (.lst [u])) (hq : H q = some (.lst [v])) (k : Q (.bl true) H) : rEqD K (.ref p) (.ref q) H Q := by
  have d1 : Dp K H (.ref p) (.list [dataOf t]) := .lst (SqL.of hp) (.cons (dp_of h1) .nil)
  have d2 : Dp K H (.ref q) (.list [dataOf t]) := .lst (SqL.of hq) (.cons (dp_of h2) .nil)
  have lay : (PyData.list [dataOf t]).canLay0 = true := by
    show ((dataOf t).canLay0 && true) = true
    rw [lay_of hg]; rfl
  have shp : SeqAt.shaped (.list [dataOf t]) = true := by
    unfold SeqAt.shaped
    have := depth_of t
    rw [Bool.and_eq_true]
    exact ⟨lay, decide_eq_true (by simp only [PyData.depth, PyData.depthAll]; omega)⟩
  refine ⟨_, _, d1, d2, shp, shp, ?_⟩
  rw [SeqAt.eqv_refl _ lay]
  exact k
/-- two whole numbers in a tuple -/
theorem eq_nums {K : PySem.W.Frag} {H : Hp} {m n : Int} {p q : Addr} {Q : VK} (hp : H p = some (.tup [.int m, .int n])) (hq : H q = some (.tup [.int m, .int n])) (k : Q (.bl true) H) : rEqD K (.ref p) (.ref q) H Q := by
  have d1 : Dp K H (.ref p) (.tuple [.int m, .int n]) := .tup (SqT.of hp) (.cons (.int _) (.cons (.int _) .nil))
  have d2 : Dp K H (.ref q) (.tuple [.int m, .int n]) := .tup (SqT.of hq) (.cons (.int _) (.cons (.int _) .nil))
  have lay : (PyData.tuple [.int m, .int n]).canLay0 = true := rfl
  have shp : SeqAt.shaped (.tuple [.int m, .int n]) = true := by
    unfold SeqAt.shaped
    rw [Bool.and_eq_true]
    exact ⟨lay, decide_eq_true (by simp only [PyData.depth, PyData.depthAll]; omega)⟩
  refine ⟨_, _, d1, d2, shp, shp, ?_⟩
  rw [SeqAt.eqv_refl _ lay]
  exact k
/-! ### the trees of k08 in which a name is free -/
def openX (c : Int) : Str := mkS (List.replicate (1 + c / 26 % 8).toNat [lett c]).flatten
def openT (i : Nat) (x : Str) : Tr := match i with
  | 0 => .name x
  | 1 => .fn "other" (.name x)
  | 2 => .plus (.num 0) (.name x)
  | 3 => .lt x (.name x) (.num 0)
  | 4 => .ite (.num 0) (.name x) (.num 0)
  | _ => .call (.fn x (.name x)) (.fn "other" (.less (.num 0) (.name x)))
theorem openX_ok (c : Int) : isName (openX c) = true ∧ openX c ≠ "other" := by
  have all : ∀ n < 8, ∀ k < 26, isName (mkS (List.replicate (n + 1) [97 + k]).flatten) = true ∧ mkS (List.replicate (n + 1) [97 + k]).flatten ≠ "other" := by decide +kernel
  unfold openX lett
  rw [show (1 + c / 26 % 8).toNat = (c / 26 % 8).toNat + 1 by omega]
  exact all _ (by omega) _ (by omega)
theorem openT_ok {i : Nat} {x : Str} (hx : isName x = true) (ho : x ≠ "other") : Good (openT i x) ∧ (openT i x).size ≤ 60 ∧ ¬ (openT i x).closed := by
  have hot : isName (Str.ofString "other") = true := by decide +kernel
  have h0 : N60 0 := ⟨by decide, by decide⟩
  unfold openT
  split
  · exact ⟨hx, by simp [Tr.size], fun h => h x rfl⟩
  · exact ⟨⟨hot, hx⟩, by simp [Tr.size], fun h => h x ⟨fun e => ho e.symm, rfl⟩⟩
  · exact ⟨⟨h0, hx⟩, by simp [Tr.size], fun h => h x (.inr rfl)⟩
  · exact ⟨⟨hx, hx, h0⟩, by simp [Tr.size], fun h => h x (.inl rfl)⟩
  · exact ⟨⟨h0, hx, h0⟩, by simp [Tr.size], fun h => h x (.inr (.inl rfl))⟩
  · exact ⟨⟨⟨hx, hx⟩, hot, h0, hx⟩, by simp [Tr.size], fun h => h x (.inr ⟨fun e => ho e.symm, .inr rfl⟩)⟩
/-- a step of them -/
def openS (i : Nat) (x : Str) : St1 := match i with
  | 0 => .err .closed
  | 1 => .val
  | 2 => .err .closed
  | 3 => .err .closed
  | 4 => .to (.num 0)
  | _ => .to (.fn "other" (.less (.num 0) (.name x)))
theorem openT_step : ∀ {i : Nat} {x : Str}, (openT i x).step = openS i x
  | 0, x => rfl
  | 1, x => rfl
  | 2, x => rfl
  | 3, x => rfl
  | 4, x => rfl
  | n + 5, x => by
    show (Tr.call (.fn x (.name x)) (.fn "other" (.less (.num 0) (.name x)))).step = .to (.fn "other" (.less (.num 0) (.name x)))
    simp [Tr.step, Tr.put, Tr.sub, Sb.one]
end My

namespace K08
open PySem L2 My
open PyProof.Rows (envOfC)
local macro_rules | `(tactic| walk_at "rd") => `(tactic| simp only [My.ife, My.tFor_eq, My.cx_K, My.cx_w, My.rRdK, My.rNeSelf, rIsi, tAsg, tDrop, tChain, tThenZ, kTyp, My.rInK, My.rMulS, iStr, sFld, sFldAug, tFld, tMe, tMkD, tCallE, tDZ, rDZ, tRevT, rAdd, sTail, tThen, kTup, tDisp, tPairs, tDIn, tDNotIn, V.ty.injEq, rAll, rU, tRet, tRetN, tIfS, tVar, tC, tOp, tUn, rI0, rI, rEq, rNe, CDiv, CMul, CPow, My.tTup_eq, My.tLst_eq, My.tDNewK_eq, My.tRevL_eq, My.tRevS, tM1, tM0, My.sz0, My.sz1, My.sz2, My.sz3, My.sz4, My.sz5, My.sz8, tCons, tNil, My.tCallD, tCB, gName, gTup, gCons, gNil, gSub, tTest, tB, tAnd, tOr, tNot, tIf, tAndV, tOrV, tNotV, rSetL, rSlS, rIxL, rIxT, rIxS, My.rSlT_eq, My.rSlL_eq, rIn, rCat, tLc_eq, iList, iTup, iRng1, iRng2, iRng3, wipe, List.map_cons, List.map_nil, tSl, tPart, tNoPart, tBM, tBM0, rAppend, My.rPopL, rExtend, My.rExtendT, tNext, tBreak, tCont, My.scal_ii, My.scal_ss, My.scal_bb, My.scal_is, My.scal_si, ipI, rListD, sDPut, tDGet, tDGet2, tAug, List.getElem?_cons_zero, List.getElem?_cons_succ, List.set_cons_zero, List.set_cons_succ, Option.some.injEq, exists_eq_left', exists_eq_left, V.int.injEq, V.ref.injEq, V.str.injEq, V.bl.injEq, exists_and_left, true_and, and_true, List.cons.injEq, exists_const, Bool.false_eq_true, ↓reduceIte, reduceCtorEq, false_and, and_assoc, decide_true, decide_false])
local macro_rules | `(tactic| walk_at "st") => `(tactic| (refine My.seq_ fun R hR => ?_))
local macro_rules | `(tactic| walk_at "sd") => `(tactic| repeat (first | refine ⟨by decide, ?_⟩ | refine ⟨.inl (by decide), ?_⟩))

def topS (i : Nat) : Stmt := PySem.Challenge.pw_closuremill_k08_what_is_looked_at_first.main.body.getD i (.Pass ⟨0, 0, 0, 0⟩)
abbrev s__place_ahead : Stmt := topS 41
abbrev N__place_ahead : List Str := ["node", "at"]
theorem sc__place_ahead : FnScope N__place_ahead ["node"] (defScope s__place_ahead) := ⟨rfl, rfl, rfl, by decide +kernel, rfl, by decide +kernel, by decide +kernel⟩
theorem bd__place_ahead : BindAll "_place_ahead" s__place_ahead ["node"] := fun _ _ _ _ _ _ us hl => match us, hl with | [_], _ => rfl
theorem st__place_ahead (v0 : V) : start N__place_ahead [v0] = [some v0, none] := rfl
abbrev s__with_part : Stmt := topS 42
abbrev N__with_part : List Str := ["node", "at", "part"]
theorem sc__with_part : FnScope N__with_part ["node", "at", "part"] (defScope s__with_part) := ⟨rfl, rfl, rfl, by decide +kernel, rfl, by decide +kernel, by decide +kernel⟩
theorem bd__with_part : BindAll "_with_part" s__with_part ["node", "at", "part"] := fun _ _ _ _ _ _ us hl => match us, hl with | [_, _, _], _ => rfl
theorem st__with_part (v0 v1 v2 : V) : start N__with_part [v0, v1, v2] = [some v0, some v1, some v2] := rfl
abbrev s_number_putting : Stmt := topS 43
abbrev N_number_putting : List Str := ["value"]
theorem sc_number_putting : FnScope N_number_putting ["value"] (defScope s_number_putting) := ⟨rfl, rfl, rfl, by decide +kernel, rfl, by decide +kernel, by decide +kernel⟩
theorem bd_number_putting : BindAll "_number" s_number_putting ["value"] := fun _ _ _ _ _ _ us hl => match us, hl with | [_], _ => rfl
theorem st_number_putting (v0 : V) : start N_number_putting [v0] = [some v0] := rfl
abbrev s_Work___init__ : Stmt := inClass (topS 34) 0
abbrev N_Work___init__ : List Str := ["self", "tree"]
theorem sc_Work___init__ : FnScope N_Work___init__ ["self", "tree"] (defScope s_Work___init__) := ⟨rfl, rfl, rfl, by decide +kernel, rfl, by decide +kernel, by decide +kernel⟩
theorem bd_Work___init__ : BindQ "__init__" "Work.__init__" s_Work___init__ ["self", "tree"] := fun _ _ _ _ _ _ us hl => match us, hl with | [_, _], _ => rfl
theorem st_Work___init__ (v0 v1 : V) : start N_Work___init__ [v0, v1] = [some v0, some v1] := rfl
abbrev s_Work__enter : Stmt := inClass (topS 34) 4
abbrev N_Work__enter : List Str := ["self", "at"]
theorem sc_Work__enter : FnScope N_Work__enter ["self", "at"] (defScope s_Work__enter) := ⟨rfl, rfl, rfl, by decide +kernel, rfl, by decide +kernel, by decide +kernel⟩
theorem bd_Work__enter : BindQ "_enter" "Work._enter" s_Work__enter ["self", "at"] := fun _ _ _ _ _ _ us hl => match us, hl with | [_, _], _ => rfl
theorem st_Work__enter (v0 v1 : V) : start N_Work__enter [v0, v1] = [some v0, some v1] := rfl
abbrev s_Work__leave : Stmt := inClass (topS 34) 5
abbrev N_Work__leave : List Str := ["self", "full", "short", "at"]
theorem sc_Work__leave : FnScope N_Work__leave ["self"] (defScope s_Work__leave) := ⟨rfl, rfl, rfl, by decide +kernel, rfl, by decide +kernel, by decide +kernel⟩
theorem bd_Work__leave : BindQ "_leave" "Work._leave" s_Work__leave ["self"] := fun _ _ _ _ _ _ us hl => match us, hl with | [_], _ => rfl
theorem st_Work__leave (v0 : V) : start N_Work__leave [v0] = [some v0, none, none, none] := rfl
section
variable {P : Program} {w : World} {K : PySem.W.Frag} {mg : Str → Option Value} {base : Heap} {R : Ers} {aA aV cW : Addr}
theorem df_place (T : WTxt K w mg R aA aV cW) (F : FunAt K mg "_place_ahead" s__place_ahead) : Df P w K mg base 1 "_place_ahead" ["node"] spPlace := by
  refine F.df sc__place_ahead bd__place_ahead (fun vs H Q E h => ?_) (fun f cdv A outer s H vs Q E hr h => ?_)
  · obtain ⟨_, _, rfl, _⟩ := h; rfl
  obtain ⟨t, v, rfl, ht, hv, q⟩ := h
  have nd := sc__place_ahead.nd
  refine ⟨_, (pss_cons (ps_for PassesOwn.never rfl (pi_tup (pe_ix ix_kd (pe_gref (by rfl) T.AHEAD) (pe_ix ix_tup (pv 0) pe_int (fun _ _ => rfl)) (fun _ _ => rfl))) (pg_name (i := 1) nd rfl (Or.inl rfl))
    (pss_one (ps_if (pt_cmpR op_notIn_seq (pe_ix ix_tup (pe_ix ix_tup (pv 0) (pv 1) (fun _ _ => rfl)) pe_int (fun _ _ => rfl)) (pe_gref (by rfl) T.VALUES) rfl)
        (pss_one (ps_ret (pv 1)))
        pss_nil)))
  (pss_one (ps_ret pe_non))), ?_⟩
  rw [st__place_ahead]
  refine seq_ fun R1 hR => ?_
  walk_at "rd"
  obtain ⟨a, ws, rfl, ha, hws⟩ := ht.view
  have hgo : ∀ (as : List (Nat × Tr)), (t.word, as.map fun p => V.int (p.1 : Int)) ∈ aheadL → (∀ p ∈ as, ∃ u, atI (V.str t.word :: t.own ++ ws) (p.1 : Int) = some u ∧ At H p.2 u) → ((∀ p ∈ as, p.2.isV = true) → t.nxt = none) → (∀ (i : Nat) (p : Nat × Tr), as[i]? = some p → (∀ j q, j < i → as[j]? = some q → q.2.isV = true) → p.2.isV = false → t.nxt = some p.1) →
      ∃ x, RdK K w aA t.word x ∧ ∃ a1, x = .ref a1 ∧ (∃ xs, SqT K H a1 xs) ∧ ForGo (Itt K a1) (gName 1) (tIfS (tTest (tOp (rIn K true) (tOp (rIxT K) (tOp (rIxT K) (tVar 0) (tVar 1)) (tC (V.int 0))) (tC (V.ref aV)))) (tRet (tVar 1)) tNext) { nx := R1, rt := Q } [some (V.ref a), none] H := by
    intro as has hat hn0 hn1
    obtain ⟨ad, hra, hsq⟩ := T.ahead _ has
    refine ⟨_, hra, ad, rfl, ⟨_, hsq.at H⟩, ?_⟩
    refine forT (xs := as.map fun p => V.int (p.1 : Int)) (fun i σ H' => ∃ o, σ = [some (V.ref a), o] ∧ H' = H ∧ ∀ j q, j < i → as[j]? = some q → q.2.isV = true) ⟨none, rfl, rfl, fun j q hj => absurd hj (Nat.not_lt_zero _)⟩ ?_ ?_ ?_
    · rintro i σ H' hi ⟨o, rfl, rfl, _⟩
      exact hsq.at _
    · rintro i y σ H' hi ⟨o, rfl, rfl, hb⟩ N hN
      rw [List.getElem?_map] at hi
      obtain ⟨⟨c, u⟩, hi1, rfl⟩ : ∃ z, as[i]? = some z ∧ V.int (z.1 : Int) = y := by
        cases h : as[i]? with
        | none => rw [h] at hi; cases hi
        | some z => rw [h] at hi; exact ⟨z, rfl, Option.some.inj hi⟩
      obtain ⟨uv, hu1, hu2⟩ := hat (c, u) (List.mem_of_getElem? hi1)
      obtain ⟨b, us, rfl, hb1, _⟩ := hu2.view
      walk_at "rd"
      refine ⟨_, SqT.of ha, _, hu1, b, rfl, _, SqT.of hb1, _, at0 _ _, _, .inr (T.values.at H'), rfl, rfl, ?_⟩
      rw [isV_in]
      cases hv2 : u.isV with
      | false =>
        rw [if_pos (by rfl)]
        have := q H' (Same.refl _)
        rw [hn1 i _ hi1 hb hv2] at this
        exact this
      | true =>
        rw [if_neg (by decide)]
        refine hN _ _ ⟨_, rfl, rfl, fun j z hj hz => ?_⟩
        by_cases e : j = i
        · subst e; rw [hi1] at hz; cases hz; exact hv2
        · exact hb j z (by omega) hz
    · rintro σ H' ⟨o, rfl, rfl, hb⟩
      show R1 _ _
      rw [hR]
      walk_at "rd"
      have := q H' (Same.refl _)
      rw [hn0 fun p hp => by
        obtain ⟨j, hj, e⟩ := List.mem_iff_getElem.mp hp
        exact hb j p (by rw [List.length_map]; exact hj) (by rw [← e]; exact List.getElem?_eq_getElem hj)] at this
      exact this
  refine ⟨a, rfl, _, SqT.of ha, _, at0 _ _, _, rfl, ?_⟩
  have h2 : ∀ {x y : Tr} {u v : V}, t.own = [] → ws = [u, v] → At H x u → At H y v → t.nxt = nx2 x y → (t.word, [V.int 1, V.int 2]) ∈ aheadL → _ := fun {x y u v} ho hw hx hy hn hm => hgo [(1, x), (2, y)] hm (fun p hp => by
      rw [ho, hw]
      rcases List.mem_cons.mp hp with rfl | hp
      · exact ⟨_, at1 _ _ _, hx⟩
      · rw [List.mem_singleton.mp hp]; exact ⟨_, at2 _ _ _ _, hy⟩)
    (fun h => by rw [hn]; unfold nx2; rw [if_neg (by rw [h (1, x) (by simp)]; decide), if_neg (by rw [h (2, y) (by simp)]; decide)])
    (fun i p hi hb hp => by
      rw [hn]; unfold nx2
      match i, hi with
      | 0, hi => cases hi; rw [if_pos hp]
      | 1, hi => cases hi; rw [if_neg (by rw [hb 0 (1, x) (by omega) rfl]; decide), if_pos hp])
  cases t with
  | num _ => cases hv
  | fn _ _ => cases hv
  | name x => exact hgo [] (by simp [aheadL, Tr.word]) (fun p hp => by cases hp) (fun _ => rfl) fun i p hi => by cases hi
  | call x y => cases hws with | cons g1 hw1 => cases hw1 with | cons g2 hw2 => cases hw2; exact h2 rfl rfl g1 g2 rfl (by simp [aheadL, Tr.word])
  | plus x y => cases hws with | cons g1 hw1 => cases hw1 with | cons g2 hw2 => cases hw2; exact h2 rfl rfl g1 g2 rfl (by simp [aheadL, Tr.word])
  | less x y => cases hws with | cons g1 hw1 => cases hw1 with | cons g2 hw2 => cases hw2; exact h2 rfl rfl g1 g2 rfl (by simp [aheadL, Tr.word])
  | ite c x y =>
    cases hws with
    | cons g1 hw1 =>
      exact hgo [(1, c)] (by simp [aheadL, Tr.word]) (fun p hp => by rw [List.mem_singleton.mp hp]; exact ⟨_, at1 _ _ _, g1⟩) (fun h => if_neg (by rw [h (1, c) (by simp)]; decide)) fun i p hi hb hp => by
        match i, hi with
        | 0, hi => cases hi; exact if_pos hp
  | lt x c y =>
    cases hws with
    | cons g1 hw1 =>
      exact hgo [(2, c)] (by simp [aheadL, Tr.word]) (fun p hp => by rw [List.mem_singleton.mp hp]; exact ⟨_, at2 _ _ _ _, g1⟩) (fun h => if_neg (by rw [h (2, c) (by simp)]; decide)) fun i p hi hb hp => by
        match i, hi with
        | 0, hi => cases hi; exact if_pos hp
theorem df_withpart (T : WTxt K w mg R aA aV cW) (F : FunAt K mg "_with_part" s__with_part) : Df P w K mg base 1 "_with_part" ["node", "at", "part"] spWithPart := by
  refine F.df sc__with_part bd__with_part (fun vs H Q E h => ?_) (fun f cdv A outer s H vs Q E hr h => ?_)
  · obtain ⟨_, _, _, _, rfl, _⟩ := h; rfl
  obtain ⟨a, ws, i, pw, rfl, ha, hl, hi, hi1, q⟩ := h
  have nd := sc__with_part.nd
  refine ⟨_, (pss_one (ps_ret (pe_op op_catT (pe_op op_catT (pe_slice sl_tup (pv 0) po_none (po_some (pv 1))) (pe_tup (pa_cons (pv 2) pa_nil))) (pe_slice sl_tup (pv 0) (po_some (pe_op op_add (pv 1) pe_int)) po_none)))), ?_⟩
  rw [st__with_part]
  walk_at "rd"
  have hc : cutV ws none (some (i : Int)) = ws.take i := My.cut_hi ws i
  have hd : cutV ws (some ((i : Int) + 1)) none = ws.drop (i + 1) := My.cut_lo ws (i + 1)
  refine ⟨ws, SqT.of ha, fun h => ?_, ?_⟩
  · have h2 := h.2
    rw [HT.sIx_nat] at h2
    omega
  rw [hc]
  refine new_ fun p1 H1 hp1 k1 a1 => new_ fun p2 H2 hp2 k2 a2 => ?_
  refine ⟨p1, p2, _, _, rfl, rfl, SqT.of (k2 _ _ a1), SqT.of a2, ?_, ?_, fun h => absurd h (by simp), fun _ p3 hp3 => ?_⟩
  · intro h0
    have := congrArg List.length h0
    rw [List.length_take, List.length_nil] at this
    omega
  · rw [List.length_take, List.length_singleton]; exact szL (by omega)
  have k3 := same_new (o := .tup (List.take i ws ++ [pw])) hp3
  have a3 : upd H2 p3 (.tup (List.take i ws ++ [pw])) p3 = _ := upd_same
  generalize upd H2 p3 (.tup (List.take i ws ++ [pw])) = H3 at k3 a3 ⊢
  refine ⟨ws, SqT.of (k3 _ _ (k2 _ _ (k1 _ _ ha))), fun h => ?_, ?_⟩
  · have h1 := h.1
    rw [show (i : Int) + 1 = ((i + 1 : Nat) : Int) by omega, HT.sIx_nat] at h1
    omega
  rw [hd]
  refine new_ fun p4 H4 hp4 k4 a4 => ?_
  have k04 := k1.trans (k2.trans (k3.trans k4))
  refine ⟨p3, p4, _, _, rfl, rfl, SqT.of (k4 _ _ a3), SqT.of a4, by simp, ?_, fun h => ?_, fun _ p5 hp5 => q p5 _ (k04.trans (same_new hp5)) upd_same⟩
  · rw [List.length_append, List.length_take, List.length_singleton, List.length_drop]; exact szL (by omega)
  · refine q p3 H4 k04 ?_
    rw [h, List.append_nil]
    exact k4 _ _ a3
theorem df_numP (T : WTxt K w mg R aA aV cW) (F : FunQ K mg "number_putting" "_number" s_number_putting) : DfX P w K mg base 1 "number_putting" ["value"] (spNumP R) := by
  refine F.dfX sc_number_putting bd_number_putting (fun vs H Q E h => ?_) (fun f cdv A outer s H vs Q E hr h => ?_)
  · obtain ⟨_, _, rfl, _⟩ := h; rfl
  obtain ⟨t, v, rfl, ht, q⟩ := h
  have nd := sc_number_putting.nd
  refine ⟨_, (pss_cons (ps_if (pt_cmpR op_ne (pe_ix ix_tup (pv 0) pe_int (fun _ _ => rfl)) pe_str (nomark _))
    (pss_one (ps_raise rfl (takes_of rfl rfl rfl rfl) (pmk_own PySem.F.excBase_ValueError T.NoNumber.inn T.NoNumber.c_ T.NoNumber.k T.NoNumber.r rfl)))
    pss_nil)
  (pss_one (ps_ret (pe_ix ix_tup (pv 0) pe_int (fun _ _ => rfl))))), ?_⟩
  rw [st_number_putting]
  obtain ⟨a, ws, rfl, ha, hws⟩ := ht.view
  refine ifq_ fun R1 A B hR hA hB => ?_
  walk_at "rd"
  refine ⟨_, SqT.of ha, _, at0 _ _, rfl, ?_⟩
  by_cases wn : t.word = "num"
  · obtain ⟨n, rfl⟩ : ∃ n, t = .num n := by cases t <;> first | exact ⟨_, rfl⟩ | (simp only [Tr.word] at wn; exact absurd wn (by decide +kernel))
    cases hws
    rw [if_neg (by simp [wn]), hB]; clear hA hB
    walk_at "rd"
    rw [hR]
    walk_at "rd"
    exact ⟨_, SqT.of ha, _, at1 _ _ _, q⟩
  · have hn : ∀ n, t ≠ .num n := fun n e => wn (by rw [e]; rfl)
    rw [if_pos (by simp [wn]), hA]
    have q : E (.ref R.number) none H := by cases t <;> first | exact q | exact absurd rfl (hn _)
    exact q
theorem df_initW (T : WTxt K w mg R aA aV cW) (F : FunI K mg "Work" cW "Work.__init__" s_Work___init__) : MkD P w K mg base 1 "Work" cW (spInitW cW) := by
  refine F.mkd sc_Work___init__ bd_Work___init__ (fun vs H Q E h => ?_) (fun f cdv A outer s H vs Q E hr h => ?_)
  · obtain ⟨_, _, _, rfl, _⟩ := h; rfl
  obtain ⟨a, dx, tv, rfl, ha, q⟩ := h
  have nd := sc_Work___init__.nd
  refine ⟨_, (pss_cons (ps_fld (pv 0) (pv 1) rfl)
  (pss_cons (ps_fld (pv 0) (pv 1) rfl)
  (pss_cons (ps_fld (pv 0) (pe_lst pa_nil) rfl)
  (pss_cons (ps_fld (pv 0) pe_dnewK rfl)
  (pss_one (ps_fld (pv 0) pe_dnewK rfl)))))), ?_⟩
  rw [st_Work___init__]
  refine seq_ fun R1 hR1 => ?_
  walk_at "rd"
  refine ⟨_, _, _, ha, T.W_.cl, T.W_.na "full", (show 0 < 1000 by decide), ?_⟩
  rw [hR1]; clear hR1
  refine seq_ fun R1 hR1 => ?_
  walk_at "rd"
  refine ⟨_, _, _, upd_same, T.W_.cl, T.W_.na "short", (show 1 < 1000 by decide), ?_⟩
  rw [hR1, upd_upd]; clear hR1
  have h1 : ∀ b o, b ≠ a → H b = some o → upd H a (.ins cW dx (putF "short" tv (putF "full" tv []))) b = some o := fun b o hb h => by rw [upd_ne hb]; exact h
  have ha1 : upd H a (.ins cW dx (putF "short" tv (putF "full" tv []))) a = some (.ins cW dx (putF "short" tv (putF "full" tv []))) := upd_same
  have hn : ∀ b, upd H a (.ins cW dx (putF "short" tv (putF "full" tv []))) b = none → H b = none := fun b h => by
    by_cases hb : b = a
    · rw [hb, upd_same] at h; cases h
    · rwa [upd_ne hb] at h
  generalize upd H a (.ins cW dx (putF "short" tv (putF "full" tv []))) = H1 at *
  refine seq_ fun R1 hR1 => ?_
  walk_at "rd"
  refine new_ fun lr H2 hlr e2 h2 => ⟨_, _, _, e2 _ _ ha1, T.W_.cl, T.W_.na "around", (show 2 < 1000 by decide), ?_⟩
  rw [hR1]; clear hR1
  generalize hfs : putF "around" (.ref lr) (putF "short" tv (putF "full" tv [])) = fs
  have k2 : ∀ b o, b ≠ a → H b = some o → upd H2 a (.ins cW dx fs) b = some o := fun b o hb h => by rw [upd_ne hb]; exact e2 _ _ (h1 b o hb h)
  have ha2 : upd H2 a (.ins cW dx fs) a = some (.ins cW dx fs) := upd_same
  have hlra : lr ≠ a := (ne_of_none ha1 hlr).symm
  have hlr2 : upd H2 a (.ins cW dx fs) lr = some (.lst []) := by rw [upd_ne hlra]; exact h2
  generalize upd H2 a (.ins cW dx fs) = H3 at *
  refine seq_ fun R1 hR1 => ?_
  walk_at "rd"
  refine new_ fun fd H4 hfd e4 h4 => ⟨_, _, _, e4 _ _ ha2, T.W_.cl, T.W_.na "fulls", by rw [← hfs]; exact (show 3 < 1000 by decide), ?_⟩
  rw [hR1]; clear hR1
  generalize hgs : putF "fulls" (.ref fd) fs = gs
  have k4 : ∀ b o, b ≠ a → H b = some o → upd H4 a (.ins cW dx gs) b = some o := fun b o hb h => by rw [upd_ne hb]; exact e4 _ _ (k2 b o hb h)
  have ha4 : upd H4 a (.ins cW dx gs) a = some (.ins cW dx gs) := upd_same
  have hfda : fd ≠ a := (ne_of_none ha2 hfd).symm
  have hlr4 : upd H4 a (.ins cW dx gs) lr = some (.lst []) := by rw [upd_ne hlra]; exact e4 _ _ hlr2
  have hfd4 : upd H4 a (.ins cW dx gs) fd = some (.dK []) := by rw [upd_ne hfda]; exact h4
  have hfd0 : H fd = none := by
    cases e : H fd with
    | none => rfl
    | some o => rw [k2 fd o hfda e] at hfd; cases hfd
  generalize upd H4 a (.ins cW dx gs) = H5 at *
  walk_at "rd"
  refine new_ fun sd H6 hsd e6 h6 => ⟨_, _, _, e6 _ _ ha4, T.W_.cl, T.W_.na "shorts", by rw [← hgs, ← hfs]; exact (show 4 < 1000 by decide), ?_⟩
  have hsda : sd ≠ a := (ne_of_none ha4 hsd).symm
  have hsd0 : H sd = none := by
    cases e : H sd with
    | none => rfl
    | some o => rw [k4 sd o hsda e] at hsd; cases hsd
  refine q lr fd sd _ (hn _ hlr) hfd0 hsd0 (ne_of_none hfd4 hsd) (fun b o hb h => by rw [upd_ne hb]; exact e6 _ _ (k4 b o hb h)) ?_ (by rw [upd_ne hlra]; exact e6 _ _ hlr4) (by rw [upd_ne hfda]; exact e6 _ _ hfd4) (by rw [upd_ne hsda]; exact h6)
  rw [upd_same, ← hgs, ← hfs]
  rfl
theorem df_enter (T : WTxt K w mg R aA aV cW) (F : FunM K cW "_enter" "Work._enter" s_Work__enter) : Mt CX0 P w K mg base 1 cW "_enter" (spEnter cW) := by
  refine F.mt sc_Work__enter bd_Work__enter (fun vs H Q E h => ?_) (fun f cdv A outer s H vs Q E hr h => ?_)
  · obtain ⟨_, _, _, _, _, _, _, _, _, rfl, _⟩ := h; rfl
  obtain ⟨W, Fo, u, S, su, fr, fs, ss, i, rfl, hW, hu, hs, hl, q⟩ := h
  have nd := sc_Work__enter.nd
  refine ⟨_, (pss_cons (ps_expr (pe_bm PySem.F.plainAttrs_list PySem.F.slot_list_append PySem.F.type_list_append mt_append (pe_fld (pv 0) rfl) (pa_cons (pe_tup (pa_cons (pe_fld (pv 0) rfl) (pa_cons (pe_fld (pv 0) rfl) (pa_cons (pv 1) pa_nil)))) pa_nil)))
  (pss_cons (ps_fld (pv 0) (pe_ix ix_tup (pe_fld (pv 0) rfl) (pv 1) (fun _ _ => rfl)) rfl)
  (pss_one (ps_fld (pv 0) (pe_ix ix_tup (pe_fld (pv 0) rfl) (pv 1) (fun _ _ => rfl)) rfl)))), ?_⟩
  rw [st_Work__enter]
  refine seq_ fun R1 hR1 => ?_
  walk_at "rd"
  obtain ⟨fv, sv, hi1, hi2, hi3⟩ := hW.ins
  obtain ⟨vs, ha1, ha2⟩ := hW.ar
  have hlen := pr_len ha2
  refine ⟨_, _, _, hi1, T.W_.cl, T.W_.na "around", _, workF_around _ _ _, .inl ⟨rfl, _, SqL.of ha1⟩, _, _, _, hi1, T.W_.cl, T.W_.na "full", _, workF_full _ _ _, _, _, _, hi1, T.W_.cl, T.W_.na "short", _, workF_short _ _ _, new_ fun p H1 hp e1 h1 => ⟨_, rfl, _, e1 _ _ ha1, by rw [sizeLine_eq]; omega, ?_⟩⟩
  rw [hR1]; clear hR1
  have hW1 := hW.same e1
  have k1 := same_kt e1
  obtain ⟨k2, hW2⟩ := hW1.setR (fr' := fr ++ [⟨Fo, S, i⟩]) (vs := vs ++ [.ref p]) (pr_append (pr_mono ha2 fun _ _ h => h.kt k1) (.cons ⟨p, fv, sv, rfl, h1, hi2.mono k1, hi3.mono k1⟩ .nil))
  have hi12 : upd H1 W.lr (.lst (vs ++ [.ref p])) W.aW = some (.ins cW W.dx (workF W fv sv)) := (upd_ne (ne_of hi1 ha1 (by intro z; cases z))).trans (e1 _ _ hi1)
  have k12 := (KU.same (A := W.has) e1).trans k2
  generalize upd H1 W.lr (.lst (vs ++ [.ref p])) = H2 at *
  obtain ⟨fa, fws, fu, rfl, hfa, hfl, hfu, hfuA, _⟩ := hi2.part hu
  obtain ⟨sa, sws, su1, rfl, hsa, hsl, hsu, hsuA, _⟩ := hi3.part hs
  refine seq_ fun R1 hR1 => ?_
  walk_at "rd"
  refine ⟨_, _, _, hi12, T.W_.cl, T.W_.na "full", _, workF_full _ _ _, fa, rfl, _, SqT.of (k12.kt _ _ hfa), _, atI_nat hfu, _, _, _, hi12, T.W_.cl, T.W_.na "full", (show 5 < 1000 by decide), ?_⟩
  rw [hR1]; clear hR1
  rw [workF_putf]
  obtain ⟨k3, hW3⟩ := hW2.setW (F' := u) (S' := S) (hfuA.mono k12.kt) (hi3.mono k12.kt)
  have hi13 : upd H2 W.aW (.ins cW W.dx (workF W fu (.ref sa))) W.aW = _ := upd_same
  have k13 := k12.trans k3
  walk_at "rd"
  refine ⟨_, _, _, hi13, T.W_.cl, T.W_.na "short", _, workF_short _ _ _, sa, rfl, _, SqT.of (k13.kt _ _ hsa), _, atI_nat hsu, _, _, _, hi13, T.W_.cl, T.W_.na "short", (show 5 < 1000 by decide), ?_⟩
  rw [workF_puts]
  obtain ⟨k4, hW4⟩ := hW3.setW (F' := u) (S' := su) (hfuA.mono k13.kt) (hsuA.mono k13.kt)
  exact q _ (k13.trans k4) hW4
theorem df_leave (T : WTxt K w mg R aA aV cW) (F : FunM K cW "_leave" "Work._leave" s_Work__leave) (D__with_part : Df P w K mg base 1 "_with_part" ["node", "at", "part"] spWithPart) : Mt CX0 P w K mg base 2 cW "_leave" (spLeave cW) := by
  refine F.mt sc_Work__leave bd_Work__leave (fun vs H Q E h => ?_) (fun f cdv A outer s H vs Q E hr h => ?_)
  · obtain ⟨_, _, _, _, _, _, _, _, _, rfl, _⟩ := h; rfl
  obtain ⟨W, Fo, p, S, sp, fr, fr1, fs, ss, rfl, hW, hp, hs, hi, q⟩ := h
  have nd := sc_Work__leave.nd
  refine ⟨_, (pss_cons (ps_asg (pe_bm0 PySem.F.plainAttrs_list PySem.F.slot_list_pop PySem.F.type_list_pop mt_popL (pe_fld (pv 0) rfl)) (pg_tup rfl (pgs_cons (pg_name (i := 1) nd rfl (Or.inl rfl)) (pgs_cons (pg_name (i := 2) nd rfl (Or.inl rfl)) (pgs_cons (pg_name (i := 3) nd rfl (Or.inl rfl)) pgs_nil)))))
  (pss_cons (ps_fld (pv 0) (pe_callD D__with_part hr (by decide) rfl (pa_cons (pv 1) (pa_cons (pv 3) (pa_cons (pe_fld (pv 0) rfl) pa_nil)))) rfl)
  (pss_one (ps_fld (pv 0) (pe_callD D__with_part hr (by decide) rfl (pa_cons (pv 2) (pa_cons (pv 3) (pa_cons (pe_fld (pv 0) rfl) pa_nil)))) rfl)))), ?_⟩
  rw [st_Work__leave]
  refine seq_ fun R1 hR1 => ?_
  walk_at "rd"
  obtain ⟨fv, sv, hi1, hi2, hi3⟩ := hW.ins
  obtain ⟨vs0, ha1, ha2⟩ := hW.ar
  rcases List.eq_nil_or_concat vs0 with e0 | ⟨vs, v, e0⟩
  · subst e0
    have := pr_len ha2
    simp at this
  rw [List.concat_eq_append] at e0
  subst e0
  obtain ⟨fr', f', e1, hvs, hv⟩ := pr_snoc ha2
  obtain ⟨rfl, e3⟩ := List.append_inj' e1 rfl
  obtain rfl : fr1 = f' := by simpa using e3
  obtain ⟨fp, tv0, sv0, rfl, hfp, htv, hsv⟩ := hv
  refine ⟨_, _, _, hi1, T.W_.cl, T.W_.na "around", _, workF_around _ _ _, .inl ⟨rfl, _, SqL.of ha1⟩, _, rfl, _, _, ha1, ?_⟩
  obtain ⟨k1, hW1⟩ := hW.setR (fr' := fr) (vs := vs) hvs
  have hi11 : upd H W.lr (.lst vs) W.aW = some (.ins cW W.dx (workF W fv sv)) := (upd_ne (ne_of hi1 ha1 (by intro z; cases z))).trans hi1
  generalize upd H W.lr (.lst vs) = H1 at *
  refine ⟨fp, rfl, _, SqT.of (k1.kt _ _ hfp), rfl, _, _, rfl, _, _, rfl, _, _, rfl, rfl, ?_⟩
  rw [hR1]; clear hR1
  obtain ⟨fa, fws, fu, rfl, hfa, hfl, hfu, hfuA, hfset⟩ := htv.part hp
  obtain ⟨sa, sws, su1, rfl, hsa, hsl, hsu, hsuA, hsset⟩ := hsv.part hs
  refine seq_ fun R1 hR1 => ?_
  walk_at "rd"
  refine ⟨_, _, _, hi11, T.W_.cl, T.W_.na "full", _, workF_full _ _ _, fa, fws, fr1.i, fv, rfl, k1.kt _ _ hfa, hfl, (List.getElem?_eq_some_iff.mp hfu).1, part_pos hp, fun p2 H2 e2 h2 => ⟨_, _, _, e2 _ _ hi11, T.W_.cl, T.W_.na "full", (show 5 < 1000 by decide), ?_⟩⟩
  rw [hR1, workF_putf]; clear hR1
  have k12 := k1.trans (.same e2)
  have hW2 := hW1.same e2
  have hF2 : At H2 (fr1.t.set fr1.i Fo) (.ref p2) := hfset H2 p2 Fo fv k12.kt (hi2.mono k12.kt) h2
  obtain ⟨k3, hW3⟩ := hW2.setW (F' := fr1.t.set fr1.i Fo) (S' := S) hF2 (hi3.mono k12.kt)
  have hi13 : upd H2 W.aW (.ins cW W.dx (workF W (.ref p2) sv)) W.aW = _ := upd_same
  have k13 := k12.trans k3
  generalize upd H2 W.aW (.ins cW W.dx (workF W (.ref p2) sv)) = H3 at *
  walk_at "rd"
  refine ⟨_, _, _, hi13, T.W_.cl, T.W_.na "short", _, workF_short _ _ _, sa, sws, fr1.i, sv, rfl, k13.kt _ _ hsa, hsl, (List.getElem?_eq_some_iff.mp hsu).1, part_pos hp, fun p4 H4 e4 h4 => ⟨_, _, _, e4 _ _ hi13, T.W_.cl, T.W_.na "short", (show 5 < 1000 by decide), ?_⟩⟩
  rw [workF_puts]
  have k14 := k13.trans (.same e4)
  have hW4 := hW3.same e4
  obtain ⟨k5, hW5⟩ := hW4.setW (F' := fr1.t.set fr1.i Fo) (S' := fr1.s.set fr1.i S) (hF2.mono (k3.kt.trans (same_kt e4))) (hsset H4 p4 S sv k14.kt (hi3.mono k14.kt) h4)
  exact q _ (k14.trans k5) hW5
end

end K08

namespace K08
open PySem L2 My
open PyProof.Rows (envOfC)
local macro_rules | `(tactic| walk_at "rd") => `(tactic| simp only [My.ife, My.tFor_eq, My.cx_K, My.cx_w, My.rRdK, My.rNeSelf, rIsi, tAsg, tDrop, tChain, tThenZ, kTyp, My.rInK, My.rMulS, iStr, sFld, sFldAug, tFld, tMe, tMkD, tCallE, tDZ, rDZ, tRevT, rAdd, sTail, tThen, kTup, tDisp, tPairs, tDIn, tDNotIn, V.ty.injEq, rAll, rU, tRet, tRetN, tIfS, tVar, tC, tOp, tUn, rI0, rI, rEq, rNe, CDiv, CMul, CPow, My.tTup_eq, My.tLst_eq, My.tDNewK_eq, My.tRevL_eq, My.tRevS, tM1, tM0, My.sz0, My.sz1, My.sz2, My.sz3, My.sz4, My.sz5, My.sz8, tCons, tNil, My.tCallD, tCB, gName, gTup, gCons, gNil, gSub, tTest, tB, tAnd, tOr, tNot, tIf, tAndV, tOrV, tNotV, rSetL, rSlS, rIxL, rIxT, rIxS, My.rSlT_eq, My.rSlL_eq, rIn, rCat, tLc_eq, iList, iTup, iRng1, iRng2, iRng3, wipe, List.map_cons, List.map_nil, tSl, tPart, tNoPart, tBM, tBM0, rAppend, My.rPopL, rExtend, My.rExtendT, tNext, tBreak, tCont, My.scal_ii, My.scal_ss, My.scal_bb, My.scal_is, My.scal_si, ipI, rListD, sDPut, tDGet, tDGet2, tAug, List.getElem?_cons_zero, List.getElem?_cons_succ, List.set_cons_zero, List.set_cons_succ, Option.some.injEq, exists_eq_left', exists_eq_left, V.int.injEq, V.ref.injEq, V.str.injEq, V.bl.injEq, exists_and_left, true_and, and_true, List.cons.injEq, exists_const, Bool.false_eq_true, ↓reduceIte, reduceCtorEq, false_and, and_assoc, decide_true, decide_false])
local macro_rules | `(tactic| walk_at "st") => `(tactic| (refine My.seq_ fun R hR => ?_))
local macro_rules | `(tactic| walk_at "sd") => `(tactic| repeat (first | refine ⟨by decide, ?_⟩ | refine ⟨.inl (by decide), ?_⟩))

abbrev s_Work__short_value : Stmt := inClass (topS 34) 10
abbrev N_Work__short_value : List Str := ["self", "full", "short", "number"]
theorem sc_Work__short_value : FnScope N_Work__short_value ["self", "full", "short"] (defScope s_Work__short_value) := ⟨rfl, rfl, rfl, by decide +kernel, rfl, by decide +kernel, by decide +kernel⟩
theorem bd_Work__short_value : BindQ "_short_value" "Work._short_value" s_Work__short_value ["self", "full", "short"] := fun _ _ _ _ _ _ us hl => match us, hl with | [_, _, _], _ => rfl
theorem st_Work__short_value (v0 v1 v2 : V) : start N_Work__short_value [v0, v1, v2] = [some v0, some v1, some v2, none] := rfl
abbrev s_Work__put_in : Stmt := inClass (topS 34) 9
abbrev N_Work__put_in : List Str := ["self", "name", "body"]
theorem sc_Work__put_in : FnScope N_Work__put_in ["self", "name", "body"] (defScope s_Work__put_in) := ⟨rfl, rfl, rfl, by decide +kernel, rfl, by decide +kernel, by decide +kernel⟩
theorem bd_Work__put_in : BindQ "_put_in" "Work._put_in" s_Work__put_in ["self", "name", "body"] := fun _ _ _ _ _ _ us hl => match us, hl with | [_, _, _], _ => rfl
theorem st_Work__put_in (v0 v1 v2 : V) : start N_Work__put_in [v0, v1, v2] = [some v0, some v1, some v2] := rfl
section
variable {P : Program} {w : World} {K : PySem.W.Frag} {mg : Str → Option Value} {base : Heap} {R : Ers} {aA aV cW : Addr}
theorem df_shortv (T : WTxt K w mg R aA aV cW) (F : FunM K cW "_short_value" "Work._short_value" s_Work__short_value) : Mt CX0 P w K mg base 1 cW "_short_value" (spShortV cW) := by
  refine F.mt sc_Work__short_value bd_Work__short_value (fun vs H Q E h => ?_) (fun f cdv A outer s H vs Q E hr h => ?_)
  · obtain ⟨_, _, _, _, _, _, _, _, _, _, rfl, _⟩ := h; rfl
  obtain ⟨W, Fo, wt, S, sw, fr, fs, ss, wv, sv, rfl, hW, hO, hw, hs, hrel, hisv, hlen, q⟩ := h
  have nd := sc_Work__short_value.nd
  have hu := hu_of hr
  refine ⟨_, (pss_cons (ps_if (pt_cmpR op_ne (pe_ix ix_tup (pv 2) pe_int (fun _ _ => rfl)) pe_str (nomark _))
    (pss_one (ps_ret (pv 2)))
    pss_nil)
  (pss_cons (ps_set (i := 3) nd rfl (Or.inl rfl) (pe_callB call_lenD (by rfl) T.len PySem.boot_len (pa_cons (pe_fld (pv 0) rfl) pa_nil)))
  (pss_cons (ps_dput hu (pe_fld (pv 0) rfl) (pv 3) (pv 1) rfl)
  (pss_cons (ps_dput hu (pe_fld (pv 0) rfl) (pv 3) (pv 2) rfl)
  (pss_one (ps_ret (pe_tup (pa_cons pe_str (pa_cons (pv 3) pa_nil))))))))), ?_⟩
  rw [st_Work__short_value]
  refine ifq_ fun R1 A B hR hA hB => ?_
  walk_at "rd"
  obtain ⟨sa, sws, rfl, hsa, hsws⟩ := hs.view
  refine ⟨sa, rfl, _, SqT.of hsa, _, at0 _ _, rfl, ?_⟩
  by_cases wf : sw.word = "fun"
  · rw [if_neg (by simp [wf]), hB]; clear hA hB
    obtain ⟨x, b, rfl⟩ : ∃ x b, wt = .fn x b := by
      rcases isV_cases hisv with ⟨n, rfl⟩ | h
      · rw [rel_num hO.fn hrel] at wf
        exact absurd wf (by simp only [Sh.word]; decide +kernel)
      · exact h
    obtain ⟨sb, rfl, hsb⟩ : ∃ sb, sw = .fn x sb ∧ Rel fs sb b := by
      rcases rel_fn hrel with h | ⟨j, rfl, _⟩
      · exact h
      · exact absurd wf (by simp only [Sh.word]; decide +kernel)
    walk_at "rd"
    rw [hR]; clear hR
    obtain ⟨fv, sv, hi1, hi2, hi3⟩ := hW.ins
    obtain ⟨kvs, hf1, hf2, _⟩ := id hW.fu
    obtain ⟨kvs2, hs1, hs2, _⟩ := id hW.sh
    refine seq_ fun R1 hR => ?_
    walk_at "rd"
    refine ⟨_, _, _, hi1, T.W_.cl, T.W_.na "fulls", _, workF_fulls _ _ _, _, rfl, kvs, hf1, ?_⟩
    rw [hf2, hR]; clear hR
    refine seq_ fun R1 hR => ?_
    walk_at "rd"
    refine ⟨_, _, _, hi1, T.W_.cl, T.W_.na "fulls", _, workF_fulls _ _ _, _, rfl, _, DPut.k (k := Sum.inl (fs.length : Int)) hf1 (szLt (by omega)), ?_⟩
    rw [hR]; clear hR
    have hi1' : upd H W.fd (.dK (putK kvs (.inl (fs.length : Int)) wv)) W.aW = _ := (upd_ne (ne_of hi1 hf1 (by intro z; cases z))).trans hi1
    have hs1' : upd H W.fd (.dK (putK kvs (.inl (fs.length : Int)) wv)) W.sd = _ := (upd_ne hW.nfs.symm).trans hs1
    obtain ⟨k1, hW1⟩ := hW.num hO.len hw hs hf1 hs1
    refine seq_ fun R1 hR => ?_
    walk_at "rd"
    refine ⟨_, _, _, hi1', T.W_.cl, T.W_.na "shorts", _, workF_shorts _ _ _, _, rfl, _, DPut.k (k := Sum.inl (fs.length : Int)) hs1' (szLt (by omega)), ?_⟩
    rw [hR]; clear hR
    generalize upd (upd H W.fd (.dK (putK kvs (.inl (fs.length : Int)) wv))) W.sd (.dK (putK kvs2 (.inl (fs.length : Int)) (.ref sa))) = H1 at k1 hW1 ⊢
    walk_at "rd"
    refine new_ fun p H2 hp e2 h2 => ?_
    refine q _ (.name (.inl (fs.length : Int))) (fs ++ [.fn x b]) (ss ++ [.fn x sb]) H2 (k1.trans (.same e2)) (hW1.same e2) (hO.num hsb) (.inr ⟨_, rfl⟩) ?_ ⟨p, rfl, h2⟩ ⟨[.fn x b], rfl, fun g hg => List.mem_singleton.mp hg⟩ (by rw [List.length_append, List.length_singleton]; exact Nat.le_refl _)
    show ((sg (fs ++ [.fn x b])) (.inl (fs.length : Int))).getD _ = _
    rw [show sg (fs ++ [.fn x b]) (.inl (fs.length : Int)) = (fs ++ [Tr.fn x b])[fs.length]?.map Tr.sh from rfl, List.getElem?_append_right (Nat.le_refl _), Nat.sub_self]
    rfl
  · rw [if_pos (by simp [wf]), hA]; clear hA hB hR
    walk_at "rd"
    refine q _ sw fs ss H (KU.refl _ _) hW hO ?_ hrel hs ⟨[], by simp, fun g hg => by cases hg⟩ (by omega)
    rcases isV_cases hisv with ⟨n, rfl⟩ | ⟨x, b, rfl⟩
    · exact .inl ⟨n, rel_num hO.fn hrel⟩
    · rcases rel_fn hrel with ⟨sb, rfl, _⟩ | ⟨j, rfl, _⟩
      · exact absurd rfl wf
      · exact .inr ⟨j, rfl⟩
theorem df_putin (T : WTxt K w mg R aA aV cW) (F : FunM K cW "_put_in" "Work._put_in" s_Work__put_in) (D_put_all : Df P w K mg base 3 "put_all" ["tree", "values"] spPutAll) (D_put : Df P w K mg base 4 "put" ["tree", "name", "value"] spPutS) (M_Work__short_value : Mt CX0 P w K mg base 1 cW "_short_value" (spShortV cW)) : Mt CX0 P w K mg base 5 cW "_put_in" (spPutIn cW) := by
  refine F.mt sc_Work__put_in bd_Work__put_in (fun vs H Q E h => ?_) (fun f cdv A outer s H vs Q E hr h => ?_)
  · obtain ⟨_, _, _, _, _, _, _, _, _, _, _, rfl, _⟩ := h; rfl
  obtain ⟨W, Fo, b, wt, S, sb, fr, fs, ss, x, sv, rfl, hW, hO, hp, hisv, hs, hrel, hlen, hcl, ⟨sw, hsp, hrw⟩, hbd, hpd, q⟩ := h
  have nd := sc_Work__put_in.nd
  refine ⟨_, (pss_cons (ps_fld (pv 0) (pe_callD D_put hr (by decide) rfl (pa_cons (pv 2) (pa_cons (pv 1) (pa_cons (pe_me (E := E0) M_Work__short_value hr (by decide) pass0 (pv 0) (pa_cons (pe_ix ix_tup (pe_fld (pv 0) rfl) pe_int (fun _ _ => rfl)) (pa_cons (pe_ix ix_tup (pe_fld (pv 0) rfl) pe_int (fun _ _ => rfl)) pa_nil))) pa_nil)))) rfl)
  (pss_one (ps_fld (pv 0) (pe_callD D_put_all hr (by decide) rfl (pa_cons (pe_fld (pv 0) rfl) (pa_cons (pe_fld (pv 0) rfl) pa_nil))) rfl))), ?_⟩
  rw [st_Work__put_in]
  refine seq_ fun R1 hR => ?_
  walk_at "rd"
  obtain ⟨fv, sv1, hi1, hi2, hi3⟩ := hW.ins
  obtain ⟨fa, fws, fu, rfl, hfa, hfl, hfu, hfuA, _⟩ := hi2.part hp
  obtain ⟨sa, sws, su1, rfl, hsa, hsl, hsu, hsuA, _⟩ := hi3.part hsp
  refine ⟨_, _, hi1, workF_no (by decide +kernel), _, _, _, hi1, T.W_.cl, T.W_.na "full", _, workF_full _ _ _, fa, rfl, _, SqT.of hfa, _, atI_nat (j := 2) hfu, _, _, _, hi1, T.W_.cl, T.W_.na "short", _, workF_short _ _ _, sa, rfl, _, SqT.of hsa, _, atI_nat (j := 2) hsu, ?_⟩
  refine ⟨W, Fo, wt, S, sw, fr, fs, ss, _, _, rfl, hW, hO, hfuA, hsuA, hrw, hisv, hlen, fun r s' fs' ss' H1 k1 hW1 hO1 hsv' hrs hrA ⟨gs, hgs1, hgs2⟩ hlen' => ?_⟩
  have hb' : Rel fs' sb b := by rw [hgs1]; exact rel_ext hrel
  have hx : ∀ g ∈ fs, ¬ g.fr x := fun g hg => hcl g hg x
  have hput : Rel fs' (sb.sub (Ss.one (.inr x) s')) (b.put x wt) := by
    rw [hgs1]
    exact rel_put hsv' (by rw [← hgs1]; exact hrs) hx hO.fn hrel
  refine ⟨sb, s', .inr x, _, _, rfl, hs.mono k1.kt, hrA, Nat.le_trans (rel_dep hrel) hbd, fun r2 H2 e2 h2 => ?_⟩
  have hW2 := hW1.same e2
  obtain ⟨fv2, sv2, hi21, hi22, hi23⟩ := hW2.ins
  refine ⟨_, _, _, hi21, T.W_.cl, T.W_.na "short", (show 5 < 1000 by decide), ?_⟩
  rw [hR, workF_puts]; clear hR
  obtain ⟨k3, hW3⟩ := hW2.setW (F' := Fo) (S' := sb.sub (Ss.one (.inr x) s')) hi22 h2
  have hi31 : upd H2 W.aW (.ins cW W.dx (workF W fv2 r2)) W.aW = _ := upd_same
  have h3 := h2.mono k3.kt
  generalize upd H2 W.aW (.ins cW W.dx (workF W fv2 r2)) = H3 at *
  walk_at "rd"
  refine ⟨_, _, _, hi31, T.W_.cl, T.W_.na "short", _, workF_short _ _ _, _, _, _, hi31, T.W_.cl, T.W_.na "fulls", _, workF_fulls _ _ _, ?_⟩
  refine ⟨sb.sub (Ss.one (.inr x) s'), sg fs', _, W.fd, rfl, h3, hW3.fu.dict (by omega), Nat.le_trans (rel_dep hput) hpd, fun r4 H4 e4 h4 => ?_⟩
  have hi41 := e4 _ _ hi31
  refine ⟨_, _, _, hi41, T.W_.cl, T.W_.na "full", (show 5 < 1000 by decide), ?_⟩
  rw [workF_putf]
  have hW4 := hW3.same e4
  obtain ⟨k5, hW5⟩ := hW4.setW (F' := b.put x wt) (S' := sb.sub (Ss.one (.inr x) s')) (at_sh.mp (by rw [← show (sb.sub (Ss.one (.inr x) s')).sub (sg fs') = (b.put x wt).sh from hput]; exact h4)) (h3.mono (same_kt e4))
  refine q _ fs' ss' _ (((((k1.trans (.same e2)).trans k3).trans (.same e4))).trans k5) hW5 ⟨hput, hO1.fok, hO1.frl, hO1.fn, hO1.len, hO1.sh⟩ (fun hwc g hg => ?_) hlen'
  rw [hgs1] at hg
  rcases List.mem_append.mp hg with hg | hg
  · exact hcl g hg
  · rw [hgs2 g hg]; exact hwc
end

end K08

namespace K08
open PySem L2 My
open PyProof.Rows (envOfC)
local macro_rules | `(tactic| walk_at "rd") => `(tactic| simp only [My.ife, My.tFor_eq, My.cx_K, My.cx_w, My.rRdK, My.rNeSelf, rIsi, tAsg, tDrop, tChain, tThenZ, kTyp, My.rInK, My.rMulS, iStr, sFld, sFldAug, tFld, tMe, tMkD, tCallE, tDZ, rDZ, tRevT, rAdd, sTail, tThen, kTup, tDisp, tPairs, tDIn, tDNotIn, V.ty.injEq, rAll, rU, tRet, tRetN, tIfS, tVar, tC, tOp, tUn, rI0, rI, rEq, rNe, CDiv, CMul, CPow, My.tTup_eq, My.tLst_eq, My.tDNewK_eq, My.tRevL_eq, My.tRevS, tM1, tM0, My.sz0, My.sz1, My.sz2, My.sz3, My.sz4, My.sz5, My.sz8, tCons, tNil, My.tCallD, tCB, gName, gTup, gCons, gNil, gSub, tTest, tB, tAnd, tOr, tNot, tIf, tAndV, tOrV, tNotV, rSetL, rSlS, rIxL, rIxT, rIxS, My.rSlT_eq, My.rSlL_eq, rIn, rCat, tLc_eq, iList, iTup, iRng1, iRng2, iRng3, wipe, List.map_cons, List.map_nil, tSl, tPart, tNoPart, tBM, tBM0, rAppend, My.rPopL, rExtend, My.rExtendT, tNext, tBreak, tCont, My.scal_ii, My.scal_ss, My.scal_bb, My.scal_is, My.scal_si, ipI, rListD, sDPut, tDGet, tDGet2, tAug, List.getElem?_cons_zero, List.getElem?_cons_succ, List.set_cons_zero, List.set_cons_succ, Option.some.injEq, exists_eq_left', exists_eq_left, V.int.injEq, V.ref.injEq, V.str.injEq, V.bl.injEq, exists_and_left, true_and, and_true, List.cons.injEq, exists_const, Bool.false_eq_true, ↓reduceIte, reduceCtorEq, false_and, and_assoc, decide_true, decide_false])
local macro_rules | `(tactic| walk_at "st") => `(tactic| (refine My.seq_ fun R hR => ?_))
local macro_rules | `(tactic| walk_at "sd") => `(tactic| repeat (first | refine ⟨by decide, ?_⟩ | refine ⟨.inl (by decide), ?_⟩))

abbrev s_Work__do_call : Stmt := inClass (topS 34) 6
abbrev N_Work__do_call : List Str := ["self", "function"]
theorem sc_Work__do_call : FnScope N_Work__do_call ["self"] (defScope s_Work__do_call) := ⟨rfl, rfl, rfl, by decide +kernel, rfl, by decide +kernel, by decide +kernel⟩
theorem bd_Work__do_call : BindQ "_do_call" "Work._do_call" s_Work__do_call ["self"] := fun _ _ _ _ _ _ us hl => match us, hl with | [_], _ => rfl
theorem st_Work__do_call (v0 : V) : start N_Work__do_call [v0] = [some v0, none] := rfl
abbrev s_Work__do_choice : Stmt := inClass (topS 34) 7
abbrev N_Work__do_choice : List Str := ["self", "at"]
theorem sc_Work__do_choice : FnScope N_Work__do_choice ["self"] (defScope s_Work__do_choice) := ⟨rfl, rfl, rfl, by decide +kernel, rfl, by decide +kernel, by decide +kernel⟩
theorem bd_Work__do_choice : BindQ "_do_choice" "Work._do_choice" s_Work__do_choice ["self"] := fun _ _ _ _ _ _ us hl => match us, hl with | [_], _ => rfl
theorem st_Work__do_choice (v0 : V) : start N_Work__do_choice [v0] = [some v0, none] := rfl
abbrev s_Work__do_reckoning : Stmt := inClass (topS 34) 8
abbrev N_Work__do_reckoning : List Str := ["self", "word", "first", "second"]
theorem sc_Work__do_reckoning : FnScope N_Work__do_reckoning ["self"] (defScope s_Work__do_reckoning) := ⟨rfl, rfl, rfl, by decide +kernel, rfl, by decide +kernel, by decide +kernel⟩
theorem bd_Work__do_reckoning : BindQ "_do_reckoning" "Work._do_reckoning" s_Work__do_reckoning ["self"] := fun _ _ _ _ _ _ us hl => match us, hl with | [_], _ => rfl
theorem st_Work__do_reckoning (v0 : V) : start N_Work__do_reckoning [v0] = [some v0, none, none, none] := rfl
abbrev s_Work_do_deed : Stmt := inClass (topS 34) 2
abbrev N_Work_do_deed : List Str := ["self", "word"]
theorem sc_Work_do_deed : FnScope N_Work_do_deed ["self"] (defScope s_Work_do_deed) := ⟨rfl, rfl, rfl, by decide +kernel, rfl, by decide +kernel, by decide +kernel⟩
theorem bd_Work_do_deed : BindQ "do_deed" "Work.do_deed" s_Work_do_deed ["self"] := fun _ _ _ _ _ _ us hl => match us, hl with | [_], _ => rfl
theorem st_Work_do_deed (v0 : V) : start N_Work_do_deed [v0] = [some v0, none] := rfl
section
variable {P : Program} {w : World} {K : PySem.W.Frag} {mg : Str → Option Value} {base : Heap} {R : Ers} {aA aV cW : Addr}
theorem df_wcall (T : WTxt K w mg R aA aV cW) (F : FunM K cW "_do_call" "Work._do_call" s_Work__do_call) (M_Work__put_in : Mt CX0 P w K mg base 5 cW "_put_in" (spPutIn cW)) : Mt (L2.CX P w) P w K mg base 6 cW "_do_call" (spDeedW cW R isCall) := by
  refine F.mtX sc_Work__do_call bd_Work__do_call (fun vs H Q E h => ?_) (fun f cdv A outer s H vs Q E hr h => ?_)
  · obtain ⟨_, _, _, _, _, _, rfl, _⟩ := h; rfl
  obtain ⟨W, Fo, S, fr, fs, ss, rfl, hW, hO, hnv, hnx, ⟨a, b, rfl⟩, hlen, hcl, hd0, hd1, q⟩ := h
  have nd := sc_Work__do_call.nd
  have hu := hu_of hr
  refine ⟨_, (pss_cons (ps_if (pt_cmpR op_eq (pe_ix ix_tup (pe_ix ix_tup (pe_fld (pv 0) rfl) pe_int (fun _ _ => rfl)) pe_int (fun _ _ => rfl)) pe_str (nomark _))
    (pss_one (ps_raise rfl (takes_of rfl rfl rfl rfl) (pmk_own PySem.F.excBase_ValueError T.NoFunction.inn T.NoFunction.c_ T.NoFunction.k T.NoFunction.r rfl)))
    pss_nil)
  (pss_cons (ps_set (i := 1) nd rfl (Or.inl rfl) (pe_ix ix_tup (pe_fld (pv 0) rfl) pe_int (fun _ _ => rfl)))
  (pss_cons (ps_if (pt_cmpR op_eq (pe_ix ix_tup (pv 1) pe_int (fun _ _ => rfl)) pe_str (nomark _))
    (pss_one (ps_set (i := 1) nd rfl (Or.inl rfl) (pe_dget hu (pe_fld (pv 0) rfl) (pe_ix ix_tup (pv 1) pe_int (fun _ _ => rfl)) (fun _ _ => rfl))))
    pss_nil)
  (pss_one (ps_expr (pe_me (E := E0) M_Work__put_in hr (by decide) pass0 (pv 0) (pa_cons (pe_ix ix_tup (pv 1) pe_int (fun _ _ => rfl)) (pa_cons (pe_ix ix_tup (pv 1) pe_int (fun _ _ => rfl)) pa_nil)))))))), ?_⟩
  rw [st_Work__do_call]
  obtain ⟨fv, sv1, hi1, hi2, hi3⟩ := hW.ins
  obtain ⟨sa, sb, rfl, hra, hrb⟩ := rel_call hO.fn hO.rel
  obtain ⟨ha0, hb0, hav, hbv⟩ := nxt_two hnx
  obtain ⟨fa, u1, u2, rfl, hfa, hfA, hfB⟩ := hi2
  obtain ⟨sA, v1, v2, rfl, hsA, hsa, hsb⟩ := hi3
  obtain ⟨aa, aws, rfl, haa, haws⟩ := hfA.view
  refine ifq_ fun R1 A B hR hA hB => ?_
  walk_at "rd"
  refine ⟨_, _, _, hi1, T.W_.cl, T.W_.na "full", _, workF_full _ _ _, fa, rfl, _, SqT.of hfa, _, at1 _ _ _, aa, rfl, _, SqT.of haa, _, at0 _ _, rfl, ?_⟩
  rcases isV_cases hav with ⟨n, rfl⟩ | ⟨x, t, rfl⟩
  · rw [if_pos (by rfl), hA]
    exact q.er (step_calln hbv) H (KU.refl _ _)
  rw [if_neg (fun h => by have h := V.str.inj h; revert h; simp only [Tr.word]; decide +kernel), hB]; clear hA hB
  walk_at "rd"
  rw [hR]; clear hR
  refine seq_ fun R1 hR => ?_
  walk_at "rd"
  refine ⟨_, _, _, hi1, T.W_.cl, T.W_.na "short", _, workF_short _ _ _, sA, rfl, _, SqT.of hsA, _, at1 _ _ _, ?_⟩
  rw [hR]; clear hR
  have hst := step_callf (x := x) (t := t) hbv
  refine ifq_ fun R1 A B hR hA hB => ?_
  have hgo : ∀ (gv : V) (st : Sh), AtS H (.fn x st) gv → Rel fs st t → R1 [some (V.ref W.aW), some gv] H := by
    rintro gv st ⟨ga, gb, rfl, hga, hgb⟩ hrt
    rw [hR]
    walk_at "rd"
    refine ⟨_, _, hi1, workF_no (by decide +kernel), _, SqT.of hga, _, at1 _ _ _, _, SqT.of hga, _, at2 _ _ _ _, ?_⟩
    refine ⟨W, _, t, b, _, st, fr, fs, ss, x, gb, rfl, hW, hO, rfl, hbv, hgb, hrt, hlen, hcl, ⟨sb, rfl, hrb⟩, ?_, hd1 _ hst, fun S' fs' ss' H' k' hW' hO' hcl' hl' => q.to hst S' fs' ss' H' k' hW' hO' (fun hc => hcl' fun y hy => hc y (.inr hy)) hl'⟩
    simp only [Tr.dep] at hd0
    omega
  walk_at "rd"
  rcases rel_fn hra with ⟨st, rfl, hst2⟩ | ⟨j, rfl, hj⟩
  · obtain ⟨ga, gb, rfl, hga, hgb⟩ := hsa
    refine ⟨ga, rfl, _, SqT.of hga, _, at0 _ _, rfl, ?_⟩
    rw [if_neg (by decide +kernel), hB]
    walk_at "rd"
    exact hgo _ st ⟨ga, gb, rfl, hga, hgb⟩ hst2
  · obtain ⟨ga, rfl, hga⟩ := hsa
    refine ⟨ga, rfl, _, SqT.of hga, _, at0 _ _, rfl, ?_⟩
    rw [if_pos rfl, hA]
    obtain ⟨kvs, hk1, hk2, hk3, hk4⟩ := hW.sh
    have hjl : j < fs.length := (List.getElem?_eq_some_iff.mp hj).1
    obtain ⟨r, hr1, sx, hr2, hr3⟩ := hk4 j hjl
    obtain ⟨st, hst3, hst2⟩ := hO.sh j x t hj
    rw [hst3] at hr2
    cases hr2
    walk_at "rd"
    refine ⟨_, _, _, hi1, T.W_.cl, T.W_.na "shorts", _, workF_shorts _ _ _, _, SqT.of hga, _, at1 _ _ _, _, rfl, r, by rw [← hr1]; exact DGet.k (k := Sum.inl (j : Int)) hk1, ?_⟩
    exact hgo r st hr3 hst2
theorem df_wchoice (T : WTxt K w mg R aA aV cW) (F : FunM K cW "_do_choice" "Work._do_choice" s_Work__do_choice) (D_number_putting : DfX P w K mg base 1 "number_putting" ["value"] (spNumP R)) : Mt (L2.CX P w) P w K mg base 2 cW "_do_choice" (spDeedW cW R isIte) := by
  refine F.mtX sc_Work__do_choice bd_Work__do_choice (fun vs H Q E h => ?_) (fun f cdv A outer s H vs Q E hr h => ?_)
  · obtain ⟨_, _, _, _, _, _, rfl, _⟩ := h; rfl
  obtain ⟨W, Fo, S, fr, fs, ss, rfl, hW, hO, hnv, hnx, ⟨c, a, b, rfl⟩, hlen, hcl, hd0, hd1, q⟩ := h
  have nd := sc_Work__do_choice.nd
  refine ⟨_, (pss_cons (ps_set (i := 1) nd rfl (Or.inl rfl) (pe_ifExp (pt_cmpR op_eq (pe_callXP (E := E) D_number_putting hr (by decide) rfl (passes_call (takes_of rfl rfl rfl rfl) fun _ _ _ _ h => h) (pa_cons (pe_ix ix_tup (pe_fld (pv 0) rfl) pe_int (fun _ _ => rfl)) pa_nil)) pe_int (nomark _)) pe_int pe_int))
  (pss_cons (ps_fld (pv 0) (pe_ix ix_tup (pe_fld (pv 0) rfl) (pv 1) (fun _ _ => rfl)) rfl)
  (pss_one (ps_fld (pv 0) (pe_ix ix_tup (pe_fld (pv 0) rfl) (pv 1) (fun _ _ => rfl)) rfl)))), ?_⟩
  rw [st_Work__do_choice]
  obtain ⟨fv, sv1, hi1, hi2, hi3⟩ := hW.ins
  obtain ⟨sc, sa, sb, rfl, hrc, hra, hrb⟩ := rel_ite hO.fn hO.rel
  have hcv := nxt_ite hnx
  obtain ⟨fa, u0, u1, u2, rfl, hfa, hfC, hfA, hfB⟩ := hi2
  obtain ⟨sA, v0, v1, v2, rfl, hsA, hsc, hsa, hsb⟩ := hi3
  refine seq_ fun R1 hR => ?_
  walk_at "rd"
  refine ⟨_, _, _, hi1, T.W_.cl, T.W_.na "full", _, workF_full _ _ _, fa, rfl, _, SqT.of hfa, _, at1 _ _ _, c, u0, rfl, hfC, ?_⟩
  have hst := step_ite (a := a) (b := b) hcv
  rcases isV_cases hcv with ⟨n, rfl⟩ | ⟨x, t, rfl⟩
  rotate_left
  · exact q.er hst H (KU.refl _ _)
  dsimp only
  have hgo : ∀ (i : Int) (u v : V) (t : Tr) (s : Sh), atI [V.str "if", u0, u1, u2] i = some u → atI [V.str "if", v0, v1, v2] i = some v → At H t u → AtS H s v → Rel fs s t → (Tr.ite (.num n) a b).step = .to t → (∀ y, t.fr y → (Tr.ite (.num n) a b).fr y) → R1 [some (V.ref W.aW), some (V.int i)] H := by
    intro i u v t s hu hv ht hs hrel hstt hfr
    rw [hR]
    refine seq_ fun R1 hR => ?_
    walk_at "rd"
    refine ⟨_, _, _, hi1, T.W_.cl, T.W_.na "full", _, workF_full _ _ _, fa, rfl, _, SqT.of hfa, _, hu, _, _, _, hi1, T.W_.cl, T.W_.na "full", (show 5 < 1000 by decide), ?_⟩
    rw [hR, workF_putf]; clear hR
    obtain ⟨k1, hW1⟩ := hW.setW (F' := t) (S' := .ite sc sa sb) ht ⟨sA, v0, v1, v2, rfl, hsA, hsc, hsa, hsb⟩
    have hi11 : upd H W.aW (.ins cW W.dx (workF W u (.ref sA))) W.aW = _ := upd_same
    generalize upd H W.aW (.ins cW W.dx (workF W u (.ref sA))) = H1 at *
    walk_at "rd"
    refine ⟨_, _, _, hi11, T.W_.cl, T.W_.na "short", _, workF_short _ _ _, sA, rfl, _, SqT.of (k1.kt _ _ hsA), _, hv, _, _, _, hi11, T.W_.cl, T.W_.na "short", (show 5 < 1000 by decide), ?_⟩
    rw [workF_puts]
    obtain ⟨k2, hW2⟩ := hW1.setW (F' := t) (S' := s) (ht.mono k1.kt) (hs.mono k1.kt)
    exact q.to hstt s fs ss _ (k1.trans k2) hW2 ⟨hrel, hO.fok, hO.frl, hO.fn, hO.len, hO.sh⟩ (fun _ => hcl) (by omega)
  refine ⟨rfl, ?_⟩
  by_cases h0 : n = 0
  · rw [if_pos (by rw [h0])]
    exact hgo 3 _ _ b sb (atI_nat (j := 3) rfl) (atI_nat (j := 3) rfl) hfB hsb hrb (by rw [hst]; show St1.to (if n = 0 then b else a) = _; rw [if_pos h0]) fun y hy => .inr (.inr hy)
  · rw [if_neg (by simpa using h0)]
    exact hgo 2 _ _ a sa (at2 _ _ _ _) (at2 _ _ _ _) hfA hsa hra (by rw [hst]; show St1.to (if n = 0 then b else a) = _; rw [if_neg h0]) fun y hy => .inr (.inl hy)
theorem df_wreckon (T : WTxt K w mg R aA aV cW) (F : FunM K cW "_do_reckoning" "Work._do_reckoning" s_Work__do_reckoning) (D_number_putting : DfX P w K mg base 1 "number_putting" ["value"] (spNumP R)) (D_reckoned : Df P w K mg base 1 "reckoned" ["word", "first", "second"] spReckon) : Mt (L2.CX P w) P w K mg base 2 cW "_do_reckoning" (spDeedW cW R isRk) := by
  refine F.mtX sc_Work__do_reckoning bd_Work__do_reckoning (fun vs H Q E h => ?_) (fun f cdv A outer s H vs Q E hr h => ?_)
  · obtain ⟨_, _, _, _, _, _, rfl, _⟩ := h; rfl
  obtain ⟨W, Fo, S, fr, fs, ss, rfl, hW, hO, hnv, hnx, ⟨a, b, hab⟩, hlen, hcl, hd0, hd1, q⟩ := h
  have nd := sc_Work__do_reckoning.nd
  refine ⟨_, (pss_cons (ps_asg (pe_fld (pv 0) rfl) (pg_tup rfl (pgs_cons (pg_name (i := 1) nd rfl (Or.inl rfl)) (pgs_cons (pg_name (i := 2) nd rfl (Or.inl rfl)) (pgs_cons (pg_name (i := 3) nd rfl (Or.inl rfl)) pgs_nil)))))
  (pss_cons (ps_fld (pv 0) (pe_tup (pa_cons pe_str (pa_cons (pe_callD D_reckoned hr (by decide) rfl (pa_cons (pv 1) (pa_cons (pe_callXP (E := E) D_number_putting hr (by decide) rfl (passes_call (takes_of rfl rfl rfl rfl) fun _ _ _ _ h => h) (pa_cons (pv 2) pa_nil)) (pa_cons (pe_callXP (E := E) D_number_putting hr (by decide) rfl (passes_call (takes_of rfl rfl rfl rfl) fun _ _ _ _ h => h) (pa_cons (pv 3) pa_nil)) pa_nil)))) pa_nil))) rfl)
  (pss_one (ps_fld (pv 0) (pe_fld (pv 0) rfl) rfl)))), ?_⟩
  rw [st_Work__do_reckoning]
  obtain ⟨fv, sv1, hi1, hi2, hi3⟩ := hW.ins
  have hnx2 : nx2 a b = none := by rcases hab with rfl | rfl <;> exact hnx
  obtain ⟨ha0, hb0, hav, hbv⟩ := nxt_two hnx2
  obtain ⟨fa, u1, u2, rfl, hfa, hfA, hfB⟩ : ∃ fa u1 u2, fv = .ref fa ∧ H fa = some (.tup [.str Fo.word, u1, u2]) ∧ At H a u1 ∧ At H b u2 := by rcases hab with rfl | rfl <;> exact hi2
  refine seq_ fun R1 hR => ?_
  walk_at "rd"
  refine ⟨_, _, _, hi1, T.W_.cl, T.W_.na "full", _, workF_full _ _ _, fa, rfl, _, SqT.of hfa, rfl, _, _, rfl, _, _, rfl, _, _, rfl, rfl, ?_⟩
  rw [hR]; clear hR
  refine seq_ fun R1 hR => ?_
  walk_at "rd"
  have hst : Fo.step = rkS (fun m n => if Fo.word = "plus" then m + n else m - n) a b := by
    rcases hab with rfl | rfl
    · rw [step_plus hnx2, show (fun m n : Int => if (Tr.plus a b).word = "plus" then m + n else m - n) = fun m n => m + n from funext fun m => funext fun n => if_pos rfl]
    · rw [step_less hnx2, show (fun m n : Int => if (Tr.less a b).word = "plus" then m + n else m - n) = fun m n => m - n from funext fun m => funext fun n => if_neg (by simp only [Tr.word]; decide +kernel)]
  refine ⟨a, u1, rfl, hfA, ?_⟩
  rcases isV_cases hav with ⟨m, rfl⟩ | ⟨x, t, rfl⟩
  rotate_left
  · exact q.er hst H (KU.refl _ _)
  dsimp only
  refine ⟨b, u2, rfl, hfB, ?_⟩
  rcases isV_cases hbv with ⟨n, rfl⟩ | ⟨x, t, rfl⟩
  rotate_left
  · exact q.er hst H (KU.refl _ _)
  dsimp only
  refine ⟨_, _, _, rfl, new_ fun p H1 hp k1 a1 => ?_⟩
  have hi11 := k1 _ _ hi1
  refine ⟨_, _, _, hi11, T.W_.cl, T.W_.na "full", (show 5 < 1000 by decide), ?_⟩
  rw [hR, workF_putf]; clear hR
  have hW1 := hW.same k1
  obtain ⟨k2, hW2⟩ := hW1.setW (F' := .num (if Fo.word = "plus" then m + n else m - n)) (S' := S) ⟨p, rfl, a1⟩ (hi3.mono (same_kt k1))
  have hi12 : upd H1 W.aW (.ins cW W.dx (workF W (.ref p) sv1)) W.aW = _ := upd_same
  have a2 := k2.kt _ _ a1
  generalize upd H1 W.aW (.ins cW W.dx (workF W (.ref p) sv1)) = H2 at *
  walk_at "rd"
  refine ⟨_, _, _, hi12, T.W_.cl, T.W_.na "full", _, workF_full _ _ _, _, _, _, hi12, T.W_.cl, T.W_.na "short", (show 5 < 1000 by decide), ?_⟩
  rw [workF_puts]
  obtain ⟨k3, hW3⟩ := hW2.setW (F' := .num (if Fo.word = "plus" then m + n else m - n)) (S' := .num (if Fo.word = "plus" then m + n else m - n)) ⟨p, rfl, a2⟩ ⟨p, rfl, a2⟩
  exact q.to hst _ fs ss _ (((KU.same k1).trans k2).trans k3) hW3 ⟨rfl, hO.fok, hO.frl, hO.fn, hO.len, hO.sh⟩ (fun _ => hcl) (by omega)
theorem df_wdeed (T : WTxt K w mg R aA aV cW) (F : FunM K cW "do_deed" "Work.do_deed" s_Work_do_deed) (M_Work__put_in : Mt CX0 P w K mg base 5 cW "_put_in" (spPutIn cW)) (M_Work__do_call : Mt (L2.CX P w) P w K mg base 6 cW "_do_call" (spDeedW cW R isCall))
    (M_Work__do_choice : Mt (L2.CX P w) P w K mg base 2 cW "_do_choice" (spDeedW cW R isIte)) (M_Work__do_reckoning : Mt (L2.CX P w) P w K mg base 2 cW "_do_reckoning" (spDeedW cW R isRk)) : Mt (L2.CX P w) P w K mg base 7 cW "do_deed" (spDeedW cW R fun _ => True) := by
  refine F.mtX sc_Work_do_deed bd_Work_do_deed (fun vs H Q E h => ?_) (fun f cdv A outer s H vs Q E hr h => ?_)
  · obtain ⟨_, _, _, _, _, _, rfl, _⟩ := h; rfl
  obtain ⟨W, Fo, S, fr, fs, ss, rfl, hW, hO, hnv, hnx, _, hlen, hcl, hd0, hd1, q⟩ := h
  have nd := sc_Work_do_deed.nd
  refine ⟨_, (pss_cons (ps_set (i := 1) nd rfl (Or.inl rfl) (pe_ix ix_tup (pe_fld (pv 0) rfl) pe_int (fun _ _ => rfl)))
  (pss_cons (ps_if (pt_cmpR op_eq (pv 1) pe_str (nomark _))
    (pss_one (ps_raise rfl (takes_of rfl rfl rfl rfl) (pmk_own PySem.F.excBase_ValueError T.NotClosed.inn T.NotClosed.c_ T.NotClosed.k T.NotClosed.r rfl)))
    pss_nil)
  (pss_one (ps_if (pt_cmpR op_eq (pv 1) pe_str (nomark _))
    (pss_one (ps_expr (pe_me0 (E := E) M_Work__do_call hr (by decide) (passes_call (takes_of rfl rfl rfl rfl) fun _ _ _ _ h => h) (pv 0))))
    (pss_one (ps_if (pt_cmpR op_eq (pv 1) pe_str (nomark _))
        (pss_one (ps_expr (pe_me (E := E0) M_Work__put_in hr (by decide) pass0 (pv 0) (pa_cons (pe_ix ix_tup (pe_fld (pv 0) rfl) pe_int (fun _ _ => rfl)) (pa_cons (pe_ix ix_tup (pe_fld (pv 0) rfl) pe_int (fun _ _ => rfl)) pa_nil)))))
        (pss_one (ps_if (pt_cmpR op_eq (pv 1) pe_str (nomark _))
            (pss_one (ps_expr (pe_me0 (E := E) M_Work__do_choice hr (by decide) (passes_call (takes_of rfl rfl rfl rfl) fun _ _ _ _ h => h) (pv 0))))
            (pss_one (ps_expr (pe_me0 (E := E) M_Work__do_reckoning hr (by decide) (passes_call (takes_of rfl rfl rfl rfl) fun _ _ _ _ h => h) (pv 0)))))))))))), ?_⟩
  rw [st_Work_do_deed]
  obtain ⟨fv, sv1, hi1, hi2, hi3⟩ := hW.ins
  refine seq_ fun R1 hR => ?_
  walk_at "rd"
  obtain ⟨fa, ws, rfl, hfa, hws⟩ := hi2.view
  refine ⟨_, _, _, hi1, T.W_.cl, T.W_.na "full", _, workF_full _ _ _, fa, rfl, _, SqT.of hfa, _, at0 _ _, ?_⟩
  rw [hR]; clear hR
  refine ifq_ fun R1 A B hR hA hB => ?_
  walk_at "rd"
  have wne : ∀ {u z : Str}, u ≠ z → ¬ V.str u = V.str z := fun h e => h (V.str.inj e)
  by_cases wn : Fo.word = "name"
  · rw [if_pos wn, hA]
    obtain ⟨x, rfl⟩ : ∃ k, Fo = .name k := by cases Fo <;> first | exact ⟨_, rfl⟩ | (simp only [Tr.word] at wn; exact absurd wn (by decide +kernel))
    exact q.er rfl H (KU.refl _ _)
  rw [if_neg wn, hB]; clear hA hB
  walk_at "rd"
  rw [hR]; clear hR
  refine ifs_ fun A B hA hB => ?_
  walk_at "rd"
  by_cases wc : Fo.word = "call"
  · rw [if_pos wc, hA]
    obtain ⟨a, b, rfl⟩ : ∃ a b, Fo = .call a b := by cases Fo <;> first | exact ⟨_, _, rfl⟩ | (simp only [Tr.word] at wc; exact absurd wc (by decide +kernel))
    walk_at "rd"
    exact ⟨_, _, hi1, workF_no (by decide +kernel), W, _, S, fr, fs, ss, rfl, hW, hO, hnv, hnx, ⟨a, b, rfl⟩, hlen, hcl, hd0, hd1, q⟩
  rw [if_neg wc, hB]; clear hA hB
  refine ifs_ fun A B hA hB => ?_
  walk_at "rd"
  by_cases wl : Fo.word = "let"
  · rw [if_pos wl, hA]
    obtain ⟨x, c, b, rfl⟩ := word_let wl
    obtain ⟨sc, sb, rfl, hrc, hrb⟩ := rel_lt hO.fn hO.rel
    obtain ⟨sA, v0, v1, rfl, hsA, hsc, hsb⟩ := hi3
    have hcv := nxt_lt hnx
    have hst := step_lt (x := x) (b := b) hcv
    walk_at "rd"
    refine ⟨_, _, hi1, workF_no (by decide +kernel), _, _, _, hi1, T.W_.cl, T.W_.na "short", _, workF_short _ _ _, sA, rfl, _, SqT.of hsA, _, at1 _ _ _, _, _, _, hi1, T.W_.cl, T.W_.na "short", _, workF_short _ _ _, sA, rfl, _, SqT.of hsA, _, atI_nat (j := 3) rfl, ?_⟩
    refine ⟨W, _, b, c, _, sb, fr, fs, ss, x, v1, rfl, hW, hO, rfl, hcv, hsb, hrb, hlen, hcl, ⟨sc, rfl, hrc⟩, ?_, hd1 _ hst, fun S' fs' ss' H' k' hW' hO' hcl' hl' => q.to hst S' fs' ss' H' k' hW' hO' (fun hc => hcl' fun y hy => hc y (.inl hy)) hl'⟩
    simp only [Tr.dep] at hd0
    omega
  rw [if_neg wl, hB]; clear hA hB
  refine ifs_ fun A B hA hB => ?_
  walk_at "rd"
  by_cases wi : Fo.word = "if"
  · rw [if_pos wi, hA]
    obtain ⟨c, a, b, rfl⟩ : ∃ c a b, Fo = .ite c a b := by cases Fo <;> first | exact ⟨_, _, _, rfl⟩ | (simp only [Tr.word] at wi; exact absurd wi (by decide +kernel))
    walk_at "rd"
    exact ⟨_, _, hi1, workF_no (by decide +kernel), W, _, S, fr, fs, ss, rfl, hW, hO, hnv, hnx, ⟨c, a, b, rfl⟩, hlen, hcl, hd0, hd1, q⟩
  rw [if_neg wi, hB]; clear hA hB
  have hk : isRk Fo := by
    cases Fo with
    | num _ => cases hnv
    | fn _ _ => cases hnv
    | name _ => exact absurd rfl wn
    | call _ _ => exact absurd rfl wc
    | lt _ _ _ => exact absurd rfl wl
    | ite _ _ _ => exact absurd rfl wi
    | plus a b => exact ⟨a, b, .inl rfl⟩
    | less a b => exact ⟨a, b, .inr rfl⟩
  walk_at "rd"
  exact ⟨_, _, hi1, workF_no (by decide +kernel), W, _, S, fr, fs, ss, rfl, hW, hO, hnv, hnx, hk, hlen, hcl, hd0, hd1, q⟩
end

end K08

namespace K08
open PySem L2 My
open PyProof.Rows (envOfC)
local macro_rules | `(tactic| walk_at "rd") => `(tactic| simp only [My.ife, My.tFor_eq, My.cx_K, My.cx_w, My.rRdK, My.rNeSelf, rIsi, tAsg, tDrop, tChain, tThenZ, kTyp, My.rInK, My.rMulS, iStr, sFld, sFldAug, tFld, tMe, tMkD, tCallE, tDZ, rDZ, tRevT, rAdd, sTail, tThen, kTup, tDisp, tPairs, tDIn, tDNotIn, V.ty.injEq, rAll, rU, tRet, tRetN, tIfS, tVar, tC, tOp, tUn, rI0, rI, rEq, rNe, CDiv, CMul, CPow, My.tTup_eq, My.tLst_eq, My.tDNewK_eq, My.tRevL_eq, My.tRevS, tM1, tM0, My.sz0, My.sz1, My.sz2, My.sz3, My.sz4, My.sz5, My.sz8, tCons, tNil, My.tCallD, tCB, gName, gTup, gCons, gNil, gSub, tTest, tB, tAnd, tOr, tNot, tIf, tAndV, tOrV, tNotV, rSetL, rSlS, rIxL, rIxT, rIxS, My.rSlT_eq, My.rSlL_eq, rIn, rCat, tLc_eq, iList, iTup, iRng1, iRng2, iRng3, wipe, List.map_cons, List.map_nil, tSl, tPart, tNoPart, tBM, tBM0, rAppend, My.rPopL, rExtend, My.rExtendT, tNext, tBreak, tCont, My.scal_ii, My.scal_ss, My.scal_bb, My.scal_is, My.scal_si, ipI, rListD, sDPut, tDGet, tDGet2, tAug, List.getElem?_cons_zero, List.getElem?_cons_succ, List.set_cons_zero, List.set_cons_succ, Option.some.injEq, exists_eq_left', exists_eq_left, V.int.injEq, V.ref.injEq, V.str.injEq, V.bl.injEq, exists_and_left, true_and, and_true, List.cons.injEq, exists_const, Bool.false_eq_true, ↓reduceIte, reduceCtorEq, false_and, and_assoc, decide_true, decide_false])
local macro_rules | `(tactic| walk_at "st") => `(tactic| (refine My.seq_ fun R hR => ?_))
local macro_rules | `(tactic| walk_at "sd") => `(tactic| repeat (first | refine ⟨by decide, ?_⟩ | refine ⟨.inl (by decide), ?_⟩))

abbrev s_Work_seek : Stmt := inClass (topS 34) 1
abbrev N_Work_seek : List Str := ["self", "at"]
theorem sc_Work_seek : FnScope N_Work_seek ["self"] (defScope s_Work_seek) := ⟨rfl, rfl, rfl, by decide +kernel, rfl, by decide +kernel, by decide +kernel⟩
theorem bd_Work_seek : BindQ "seek" "Work.seek" s_Work_seek ["self"] := fun _ _ _ _ _ _ us hl => match us, hl with | [_], _ => rfl
theorem st_Work_seek (v0 : V) : start N_Work_seek [v0] = [some v0, none] := rfl
section
variable {P : Program} {w : World} {K : PySem.W.Frag} {mg : Str → Option Value} {base : Heap} {R : Ers} {aA aV cW : Addr}
theorem df_seek (T : WTxt K w mg R aA aV cW) (F : FunM K cW "seek" "Work.seek" s_Work_seek) (D__place_ahead : Df P w K mg base 1 "_place_ahead" ["node"] spPlace) (M_Work__enter : Mt CX0 P w K mg base 1 cW "_enter" (spEnter cW)) (M_Work__leave : Mt CX0 P w K mg base 2 cW "_leave" (spLeave cW)) : Mt CX0 P w K mg base 3 cW "seek" (spSeek cW) := by
  refine F.mt sc_Work_seek bd_Work_seek (fun vs H Q E h => ?_) (fun f cdv A outer s H vs Q E hr h => ?_)
  · obtain ⟨_, _, _, _, _, _, rfl, _⟩ := h; rfl
  obtain ⟨W, Fo, S, fr, fs, ss, rfl, hW, hO, hdp, q1, q2⟩ := h
  have nd := sc_Work_seek.nd
  refine ⟨_, (pss_cons (ps_while PassesOwn.never (PW.pt (pw_or (pt_cmpR op_gt (pe_callB call_len_seq (by rfl) T.len PySem.boot_len (pa_cons (pe_fld (pv 0) rfl) pa_nil)) pe_int (nomark _)) (pw_or1 (pt_cmpR op_notIn_seq (pe_ix ix_tup (pe_fld (pv 0) rfl) pe_int (fun _ _ => rfl)) (pe_gref (by rfl) T.VALUES) rfl))))
    (pss_one (ps_if (pt_cmpR op_in_seq (pe_ix ix_tup (pe_fld (pv 0) rfl) pe_int (fun _ _ => rfl)) (pe_gref (by rfl) T.VALUES) rfl)
        (pss_one (ps_expr (pe_me0 (E := E0) M_Work__leave hr (by decide) pass0 (pv 0))))
        (pss_cons (ps_set (i := 1) nd rfl (Or.inl rfl) (pe_callD D__place_ahead hr (by decide) rfl (pa_cons (pe_fld (pv 0) rfl) pa_nil)))
          (pss_cons (ps_if (pt_cmpR op_isN (pv 1) pe_non (nomark _))
            (pss_one (ps_ret pe_bl))
            pss_nil)
          (pss_one (ps_expr (pe_me (E := E0) M_Work__enter hr (by decide) pass0 (pv 0) (pa_cons (pv 1) pa_nil)))))))))
  (pss_one (ps_ret pe_bl))), ?_⟩
  rw [st_Work_seek]
  refine seq_ fun R1 hR => ?_
  refine whileF_ (fun k σ H' => ∃ (F' : Tr) (S' : Sh) (fr' : List Fr) (o : Option V), σ = [some (.ref W.aW), o] ∧ KU W.has H H' ∧ WorkAt cW W H' F' S' fr' fs ss ∧ WOk F' S' fr' fs ss ∧ plug fr' F' = plug fr Fo ∧ k = F'.far + fwt fr') (Fo.far + fwt fr) ⟨Fo, S, fr, none, rfl, KU.refl _ _, hW, hO, rfl, rfl⟩ ?_
  rintro k σ H1 ⟨F1, S1, fr1, o, rfl, k1, hW1, hO1, hpl, rfl⟩
  obtain ⟨fv, sv, hi1, hi2, hi3⟩ := hW1.ins
  obtain ⟨vs, ha1, ha2⟩ := hW1.ar
  have hal := pr_len ha2
  obtain ⟨fa, ws, rfl, hfa, hws⟩ := hi2.view
  refine ⟨!(fr1.isEmpty && F1.isV), fun Qt hQ => ?_, fun h0 => ?_, fun h0 N hN => ?_⟩
  · walk_at "rd"
    refine ⟨_, _, _, hi1, T.W_.cl, T.W_.na "around", _, workF_around _ _ _, _, rfl, _, .inl (SqL.of ha1), ?_⟩
    cases fr1 with
    | cons f r =>
      rw [if_pos (by rw [← hal, List.length_cons]; omega)]
      exact hQ
    | nil =>
      rw [if_neg (by rw [← hal]; decide)]
      refine ⟨_, _, _, hi1, T.W_.cl, T.W_.na "full", _, workF_full _ _ _, fa, rfl, _, SqT.of hfa, _, at0 _ _, _, .inr (T.values.at H1), rfl, rfl, ?_⟩
      rw [isV_in]
      exact hQ
  · have h0 : (fr1.isEmpty && F1.isV) = true := by simpa using h0
    rw [Bool.and_eq_true] at h0
    obtain rfl : fr1 = [] := List.isEmpty_iff.mp h0.1
    have e : F1 = plug fr Fo := hpl
    show R1 _ _
    rw [hR]
    walk_at "rd"
    exact q2 S1 H1 k1 (by rw [← e]; exact hW1) (by rw [← e]; exact hO1) (by rw [← e]; exact h0.2)
  · refine ifs_ fun A B hA hB => ?_
    walk_at "rd"
    refine ⟨_, _, _, hi1, T.W_.cl, T.W_.na "full", _, workF_full _ _ _, fa, rfl, _, SqT.of hfa, _, at0 _ _, _, .inr (T.values.at H1), rfl, rfl, ?_⟩
    rw [isV_in]
    cases hv : F1.isV with
    | true =>
      rw [if_pos rfl, hA]; clear hA hB
      rcases List.eq_nil_or_concat fr1 with e0 | ⟨fr2, f1, e0⟩
      · subst e0
        rw [hv] at h0
        cases h0
      rw [List.concat_eq_append] at e0
      subst e0
      have hfn := hO1.fok f1 (by simp)
      obtain ⟨p, hp, _, _⟩ := nxt_part hfn
      obtain ⟨sp, hsp, _, hset⟩ := rel_part hO1.fn (hO1.frl f1 (by simp)) hfn hp
      have hi2' : f1.i ≤ 2 := by
        rcases nxt_cases hfn with ⟨a, b, _, ⟨h, _⟩ | ⟨h, _⟩⟩ | ⟨c, a, b, _, h, _⟩ | ⟨x, e, b, _, h, _⟩ <;> omega
      walk_at "rd"
      refine ⟨_, _, hi1, workF_no (by decide +kernel), W, F1, p, S1, sp, fr2, f1, fs, ss, rfl, hW1, hp, hsp, hi2', fun H2 k2 hW2 => hN _ _ _ (far_leave hfn hv) ⟨_, _, _, _, rfl, k1.trans k2, hW2, ⟨hset fs S1 F1 (hO1.frl f1 (by simp)) hO1.fn hO1.rel, fun g hg => hO1.fok g (List.mem_append_left _ hg), fun g hg => hO1.frl g (List.mem_append_left _ hg), hO1.fn, hO1.len, hO1.sh⟩, ?_, rfl⟩⟩
      rw [← hpl, plug_snoc]
    | false =>
      rw [if_neg (by decide), hB]; clear hA hB
      refine seq_ fun R2 hR2 => ?_
      walk_at "rd"
      refine ⟨_, _, _, hi1, T.W_.cl, T.W_.na "full", _, workF_full _ _ _, F1, _, rfl, hi2, hv, fun H2 e2 => ?_⟩
      rw [hR2]; clear hR2
      have k2 := k1.trans (.same e2)
      have hW2 := hW1.same e2
      obtain ⟨fv2, sv2, hi21, _, _⟩ := hW2.ins
      cases hn : F1.nxt with
      | none =>
        dsimp only
        refine ifq_ fun R2 A B hR2 hA hB => ?_
        walk_at "rd"
        rw [hA]
        walk_at "rd"
        exact q1 F1 S1 fr1 H2 k2 hW2 hO1 hpl hv hn
      | some i =>
        dsimp only
        refine ifq_ fun R2 A B hR2 hA hB => ?_
        walk_at "rd"
        rw [hB]; clear hA hB
        walk_at "rd"
        rw [hR2]; clear hR2
        walk_at "rd"
        obtain ⟨u, hu, huv, hset0⟩ := nxt_part hn
        obtain ⟨su, hsu, hru, _⟩ := rel_part hO1.fn hO1.rel hn hu
        have hpd := plug_dep (u := F1) hO1.fok
        rw [hpl] at hpd
        refine ⟨_, _, hi21, workF_no (by decide +kernel), W, F1, u, S1, su, fr1, fs, ss, i, rfl, hW2, hu, hsu, by omega, fun H3 k3 hW3 => hN _ _ _ (far_enter hn hu) ⟨_, _, _, _, rfl, k2.trans k3, hW3, ⟨hru, fun g hg => ?_, fun g hg => ?_, hO1.fn, hO1.len, hO1.sh⟩, ?_, rfl⟩⟩
        · rcases List.mem_append.mp hg with hg | hg
          · exact hO1.fok g hg
          · rw [List.mem_singleton.mp hg]; exact hn
        · rcases List.mem_append.mp hg with hg | hg
          · exact hO1.frl g hg
          · rw [List.mem_singleton.mp hg]; exact hO1.rel
        · rw [plug_snoc]
          dsimp only
          rw [hset0, hpl]
end

abbrev s_Work_whole : Stmt := inClass (topS 34) 3
abbrev N_Work_whole : List Str := ["self", "tree", "full", "_", "at"]
theorem sc_Work_whole : FnScope N_Work_whole ["self"] (defScope s_Work_whole) := ⟨rfl, rfl, rfl, by decide +kernel, rfl, by decide +kernel, by decide +kernel⟩
theorem bd_Work_whole : BindQ "whole" "Work.whole" s_Work_whole ["self"] := fun _ _ _ _ _ _ us hl => match us, hl with | [_], _ => rfl
theorem st_Work_whole (v0 : V) : start N_Work_whole [v0] = [some v0, none, none, none, none] := rfl
section
variable {P : Program} {w : World} {K : PySem.W.Frag} {mg : Str → Option Value} {base : Heap} {R : Ers} {aA aV cW : Addr}
theorem df_wwhole (T : WTxt K w mg R aA aV cW) (F : FunM K cW "whole" "Work.whole" s_Work_whole) (D__with_part : Df P w K mg base 1 "_with_part" ["node", "at", "part"] spWithPart) : Mt CX0 P w K mg base 2 cW "whole" (spWholeW cW) := by
  refine F.mt sc_Work_whole bd_Work_whole (fun vs H Q E h => ?_) (fun f cdv A outer s H vs Q E hr h => ?_)
  · obtain ⟨_, _, _, _, _, _, rfl, _⟩ := h; rfl
  obtain ⟨W, Fo, S, fr, fs, ss, rfl, hW, hok, q⟩ := h
  have nd := sc_Work_whole.nd
  refine ⟨_, (pss_cons (ps_set (i := 1) nd rfl (Or.inl rfl) (pe_fld (pv 0) rfl))
  (pss_cons (ps_for PassesOwn.never rfl (pi_list (pe_revL (pe_fld (pv 0) rfl))) (pg_tup rfl (pgs_cons (pg_name (i := 2) nd rfl (Or.inl rfl)) (pgs_cons (pg_name (i := 3) nd rfl (Or.inl rfl)) (pgs_cons (pg_name (i := 4) nd rfl (Or.inl rfl)) pgs_nil))))
    (pss_one (ps_set (i := 1) nd rfl (Or.inl rfl) (pe_callD D__with_part hr (by decide) rfl (pa_cons (pv 2) (pa_cons (pv 4) (pa_cons (pv 1) pa_nil)))))))
  (pss_one (ps_ret (pv 1))))), ?_⟩
  rw [st_Work_whole]
  obtain ⟨fv, sv, hi1, hi2, hi3⟩ := hW.ins
  obtain ⟨vs, ha1, ha2⟩ := hW.ar
  have hal := pr_len ha2
  refine seq_ fun R1 hR => ?_
  walk_at "rd"
  refine ⟨_, _, _, hi1, T.W_.cl, T.W_.na "full", _, workF_full _ _ _, ?_⟩
  rw [hR]; clear hR
  refine seq_ fun R1 hR => ?_
  walk_at "rd"
  refine ⟨_, _, _, hi1, T.W_.cl, T.W_.na "around", _, workF_around _ _ _, _, rfl, _, SqL.of ha1, new_ fun p H2 hp e2 a2 => ⟨⟨_, SqL.of a2⟩, ?_⟩⟩
  refine forL (xs := vs.reverse) (fun i σ H' => ∃ (tv : V) (o2 o3 o4 : Option V), σ = [some (.ref W.aW), some tv, o2, o3, o4] ∧ Same H2 H' ∧ At H' (plug (fr.drop (fr.length - i)) Fo) tv) ⟨fv, none, none, none, rfl, Same.refl _, by rw [Nat.sub_zero, List.drop_length]; exact hi2.mono (same_kt e2)⟩ (fun i σ H' _ ⟨_, _, _, _, _, e, _⟩ => SqL.of (e _ _ a2)) ?_ ?_
  · rintro i y σ H' hi ⟨tv, o2, o3, o4, rfl, e3, htv⟩ N hN
    have hil : i < vs.length := by
      have := (List.getElem?_eq_some_iff.mp hi).1
      rwa [List.length_reverse] at this
    rw [List.getElem?_reverse hil] at hi
    obtain ⟨f, hf, hfa⟩ := pr_right ha2 hi
    obtain ⟨fp, tv0, sv0, rfl, hfp, hft, hfs⟩ := hfa.kt (same_kt (e2.trans e3))
    have hfm := List.mem_of_getElem? hf
    obtain ⟨pt, hpt, _, _⟩ := nxt_part (hok f hfm)
    obtain ⟨fa, fws, fu, rfl, hfa, hfl, hfu, hfuA, hset⟩ := hft.part hpt
    refine ⟨fp, _, rfl, SqT.of hfp, rfl, ?_⟩
    walk_at "rd"
    refine ⟨fa, fws, f.i, tv, rfl, hfa, hfl, (List.getElem?_eq_some_iff.mp hfu).1, part_pos hpt, fun p5 H5 e5 h5 => hN _ _ ⟨_, _, _, _, rfl, e3.trans e5, ?_⟩⟩
    have hj : fr.length - 1 - i < fr.length := by omega
    have hfj : fr[fr.length - 1 - i] = f := by
      rw [show vs.length - 1 - i = fr.length - 1 - i by omega, List.getElem?_eq_getElem hj] at hf
      exact Option.some.inj hf
    rw [show fr.length - (i + 1) = fr.length - 1 - i by omega, List.drop_eq_getElem_cons hj, hfj, show fr.length - 1 - i + 1 = fr.length - i by omega]
    exact hset H5 p5 _ tv (same_kt e5) (htv.mono (same_kt e5)) h5
  · rintro σ H' ⟨tv, o2, o3, o4, rfl, e3, htv⟩
    show R1 _ _
    rw [hR]
    walk_at "rd"
    rw [List.length_reverse, ← hal, Nat.sub_self, List.drop_zero] at htv
    exact q tv H' (e2.trans e3) htv
end

abbrev s_worked : Stmt := topS 38
abbrev N_worked : List Str := ["tree", "most", "work", "deeds"]
theorem sc_worked : FnScope N_worked ["tree", "most"] (defScope s_worked) := ⟨rfl, rfl, rfl, by decide +kernel, rfl, by decide +kernel, by decide +kernel⟩
theorem bd_worked : BindAll "worked" s_worked ["tree", "most"] := fun _ _ _ _ _ _ us hl => match us, hl with | [_, _], _ => rfl
theorem st_worked (v0 v1 : V) : start N_worked [v0, v1] = [some v0, some v1, none, none] := rfl
section
variable {P : Program} {w : World} {K : PySem.W.Frag} {mg : Str → Option Value} {base : Heap} {R : Ers} {aA aV cW : Addr}
theorem df_worked (T : WTxt K w mg R aA aV cW) (F : FunAt K mg "worked" s_worked) (D_need_start : DfX P w K mg base 4 "need_start" ["tree", "most"] (spStart R)) (D_need_deed : DfX P w K mg base 1 "need_deed" ["done", "most"] (spLeft R)) (K_Work : MkD P w K mg base 1 "Work" cW (spInitW cW))
    (M_Work_seek : Mt CX0 P w K mg base 3 cW "seek" (spSeek cW)) (M_Work_do_deed : Mt (L2.CX P w) P w K mg base 7 cW "do_deed" (spDeedW cW R fun _ => True)) : DfX P w K mg base 8 "worked" ["tree", "most"] (spWorked R) := by
  refine F.dfX sc_worked bd_worked (fun vs H Q E h => ?_) (fun f cdv A outer s H vs Q E hr h => ?_)
  · obtain ⟨_, _, _, rfl, _⟩ := h; rfl
  obtain ⟨v, t, m, rfl, hok, q⟩ := h
  have nd := sc_worked.nd
  refine ⟨_, (pss_cons (ps_expr (pe_callXP (E := E) D_need_start hr (by decide) rfl (passes_call (takes_of rfl rfl rfl rfl) fun _ _ _ _ h => h) (pa_cons (pv 0) (pa_cons (pv 1) pa_nil))))
  (pss_cons (ps_set (i := 2) nd rfl (Or.inl rfl) (pe_mkD K_Work hr (by decide) rfl (pa_cons (pv 0) pa_nil)))
  (pss_cons (ps_set (i := 3) nd rfl (Or.inl rfl) pe_int)
  (pss_cons (ps_while (passes_of rfl) (pt_val (pe_me0 (E := E0) M_Work_seek hr (by decide) pass0 (pv 2)))
    (pss_cons (ps_expr (pe_callXP (E := E) D_need_deed hr (by decide) rfl (passes_call (takes_of rfl rfl rfl rfl) fun _ _ _ _ h => h) (pa_cons (pv 3) (pa_cons (pv 1) pa_nil))))
      (pss_cons (ps_expr (pe_me0 (E := E) M_Work_do_deed hr (by decide) (passes_call (takes_of rfl rfl rfl rfl) fun _ _ _ _ h => h) (pv 2)))
      (pss_one (ps_aug (i := 3) nd rfl (Or.inl rfl) pe_int ip_add)))))
  (pss_one (ps_ret (pe_tup (pa_cons (pe_fld (pv 2) rfl) (pa_cons (pv 3) pa_nil))))))))), ?_⟩
  rw [st_worked]
  refine seq_ fun R1 hR1 => ?_
  walk_at "rd"
  refine ⟨v, .int m, rfl, .inr ⟨t, hok.at_, hok.good, hok.size, .inr (.inr ⟨hok.closed, ⟨m, rfl, hok.most⟩, fun H1 e1 => ?_⟩)⟩⟩
  rw [hR1]; clear hR1
  refine seq_ fun R1 hR1 => ?_
  walk_at "rd"
  intro x dx hx hdx hne
  refine ⟨x, dx, v, rfl, upd_same, fun lr fd sd H3 hk hf hw nfs kp hins h1 h2 h3 => ⟨rfl, ?_⟩⟩
  obtain ⟨hW, e3, hn⟩ := work_new e1 hok.at_ hx hdx hne hk hf hw nfs kp hins h1 h2 h3
  rw [hR1]; clear hR1
  obtain ⟨W, hWd⟩ : ∃ W : WA, W = ⟨x, dx, lr, fd, sd⟩ := ⟨_, rfl⟩
  rw [← hWd] at hW hn
  have hxW : x = W.aW := by rw [hWd]
  clear hWd hk hf hw kp hins h1 h2 h3 hx hdx hne
  subst hxW
  refine seq_ fun R1 hR1 => ?_
  walk_at "rd"
  rw [hR1]; clear hR1
  refine seq_ fun R1 hR1 => ?_
  refine whileS_ (fun km σ H' => ∃ (kk : Nat) (F : Tr) (S : Sh) (fr : List Fr) (fs : List Tr) (ss : List Sh), σ = [some v, some (.int m), some (.ref W.aW), some (.int (kk : Int))] ∧ KU W.has H3 H' ∧ WorkAt cW W H' F S fr fs ss ∧ WOk F S fr fs ss ∧ Way m t kk (plug fr F) fs ∧ km = m - kk) m ⟨0, t, t.sh, [], [], [], rfl, KU.refl _ _, hW, wok_new t, Way.start hok, rfl⟩ ?_
  rintro km σ H4 ⟨kk, F, S, fr, fs, ss, rfl, k4, hW4, hO4, hway, rfl⟩ Qb ht hf
  obtain ⟨fv, sv, hi1, _, _⟩ := hW4.ins
  have hkm := hway.le
  have hm := hok.most
  have hfl := hway.fle
  walk_at "rd"
  refine ⟨_, _, hi1, workF_no (by decide +kernel), W, F, S, fr, fs, ss, rfl, hW4, hO4, by have := hway.dep'; omega, fun F5 S5 fr5 H5 k5 hW5 hO5 hpl hv hn5 => ?_, fun S5 H5 k5 hW5 hO5 hv => ?_⟩
  · refine ⟨true, rfl, ht H5 fun N hN => ?_⟩
    have hway5 : Way m t kk (plug fr5 F5) fs := by rw [hpl]; exact hway
    have hnv := plug_nv hO5.fok hv
    have e5 : Same H H5 := (k4.trans k5).out e3 hn
    refine seq_ fun R2 hR2 => ?_
    walk_at "rd"
    refine ⟨kk, m, rfl, fun hlt => ?_, fun hle => ?_⟩
    · rw [hR2]; clear hR2
      refine seq_ fun R2 hR2 => ?_
      walk_at "rd"
      obtain ⟨fv5, sv5, hi51, _, _⟩ := hW5.ins
      have hpd := plug_dep (u := F5) hO5.fok
      have hd5 := hway5.dep'
      refine ⟨_, _, hi51, workF_no (by decide +kernel), W, F5, S5, fr5, fs, ss, rfl, hW5, hO5, hv, hn5, trivial, by omega, hway.fcl, by omega, fun G hG => ?_, ?_⟩
      · have h6 := hway5.todep (plug_to hO5.fok hG)
        have := plug_dep (u := G) hO5.fok
        omega
      · unfold DeedQ
        rcases step_nv hv with ⟨G, hG⟩ | ⟨c, hc⟩
        · rw [hG]
          intro S6 fs6 ss6 H6 k6 hW6 hO6 hcl6 hl6
          rw [hR2]; clear hR2
          walk_at "rd"
          exact hN (m - (kk + 1)) _ _ (by omega) ⟨kk + 1, G, S6, fr5, fs6, ss6, rfl, (k4.trans k5).trans k6, hW6, hO6, hway5.next hlt (plug_to hO5.fok hG) hl6 (hcl6 (plug_closed hO5.fok hway5.closed)), rfl⟩
        · rw [hc]
          intro H6 k6
          have hw := hway5.work
          rw [show m - kk = (m - kk - 1) + 1 by omega, work_err (plug_er hO5.fok hc)] at hw
          rw [hw] at q
          exact q H6 (((k4.trans k5).trans k6).out e3 hn)
    · have hw := hway5.work
      have hdry : work (m - kk) (plug fr5 F5) = .dry := by
        rw [show m - kk = 0 by omega]
        rcases step_nv hnv with ⟨G, hG⟩ | ⟨c, hc⟩
        · exact work_to0 hG
        · exact work_err0 hc
      rw [hdry] at hw
      rw [hw] at q
      exact q H5 e5
  · refine ⟨false, rfl, hf H5 ?_⟩
    have hw := hway.work
    rw [work_val (Tr.step_val.mpr hv)] at hw
    rw [hw] at q
    show R1 _ _
    rw [hR1]
    walk_at "rd"
    obtain ⟨fv5, sv5, hi51, hi52, _⟩ := hW5.ins
    have e5 : Same H H5 := (k4.trans k5).out e3 hn
    refine ⟨_, _, _, hi51, T.W_.cl, T.W_.na "full", _, workF_full _ _ _, new_ fun p H6 hp e6 a6 => q fv5 p H6 (e5.trans e6) (hi52.mono (same_kt e6)) ?_⟩
    rw [a6, show (m : Int) - ((m - kk : Nat) : Int) = (kk : Int) by omega]
end

abbrev s_step : Stmt := topS 37
abbrev N_step : List Str := ["tree", "work"]
theorem sc_step : FnScope N_step ["tree"] (defScope s_step) := ⟨rfl, rfl, rfl, by decide +kernel, rfl, by decide +kernel, by decide +kernel⟩
theorem bd_step : BindAll "step" s_step ["tree"] := fun _ _ _ _ _ _ us hl => match us, hl with | [_], _ => rfl
theorem st_step (v0 : V) : start N_step [v0] = [some v0, none] := rfl
section
variable {P : Program} {w : World} {K : PySem.W.Frag} {mg : Str → Option Value} {base : Heap} {R : Ers} {aA aV cW : Addr}
theorem df_step (T : WTxt K w mg R aA aV cW) (F : FunAt K mg "step" s_step) (K_Work : MkD P w K mg base 1 "Work" cW (spInitW cW))
    (M_Work_seek : Mt CX0 P w K mg base 3 cW "seek" (spSeek cW)) (M_Work_do_deed : Mt (L2.CX P w) P w K mg base 7 cW "do_deed" (spDeedW cW R fun _ => True)) (M_Work_whole : Mt CX0 P w K mg base 2 cW "whole" (spWholeW cW)) : DfX P w K mg base 8 "step" ["tree"] (spStep R) := by
  refine F.dfX sc_step bd_step (fun vs H Q E h => ?_) (fun f cdv A outer s H vs Q E hr h => ?_)
  · obtain ⟨_, _, rfl, _⟩ := h; rfl
  obtain ⟨v, t, rfl, htv, hd0, hd1, q⟩ := h
  have nd := sc_step.nd
  refine ⟨_, (pss_cons (ps_set (i := 1) nd rfl (Or.inl rfl) (pe_mkD K_Work hr (by decide) rfl (pa_cons (pv 0) pa_nil)))
  (pss_cons (ps_if (pt_not (pt_val (pe_me0 (E := E0) M_Work_seek hr (by decide) pass0 (pv 1))))
    (pss_one (ps_ret pe_non))
    pss_nil)
  (pss_cons (ps_expr (pe_me0 (E := E) M_Work_do_deed hr (by decide) (passes_call (takes_of rfl rfl rfl rfl) fun _ _ _ _ h => h) (pv 1)))
  (pss_one (ps_ret (pe_me0 (E := E0) M_Work_whole hr (by decide) pass0 (pv 1))))))), ?_⟩
  rw [st_step]
  refine seq_ fun R1 hR1 => ?_
  walk_at "rd"
  intro x dx hx hdx hne
  refine ⟨x, dx, v, rfl, upd_same, fun lr fd sd H3 hk hf hw nfs kp hins h1 h2 h3 => ⟨rfl, ?_⟩⟩
  obtain ⟨hW, e3, hn⟩ := work_new (Same.refl H) htv hx hdx hne hk hf hw nfs kp hins h1 h2 h3
  rw [hR1]; clear hR1
  obtain ⟨W, hWd⟩ : ∃ W : WA, W = ⟨x, dx, lr, fd, sd⟩ := ⟨_, rfl⟩
  rw [← hWd] at hW hn
  have hxW : x = W.aW := by rw [hWd]
  clear hWd hk hf hw kp hins h1 h2 h3 hx hdx hne
  subst hxW
  obtain ⟨fv, sv, hi1, _, _⟩ := hW.ins
  refine ifq_ fun R1 A1 B1 hR1 hA hB => ?_
  walk_at "rd"
  refine ⟨_, _, hi1, workF_no (by decide +kernel), W, t, t.sh, [], [], [], rfl, hW, wok_new t, by show t.dep ≤ _; omega, fun F5 S5 fr5 H5 k5 hW5 hO5 hpl hv hn5 => ⟨true, rfl, ?_⟩, fun S5 H5 k5 hW5 hO5 hv => ⟨false, rfl, ?_⟩⟩
  · have hpl : plug fr5 F5 = t := hpl
    rw [if_neg (by decide), hB]; clear hA hB
    walk_at "rd"
    rw [hR1]; clear hR1
    refine seq_ fun R1 hR1 => ?_
    walk_at "rd"
    obtain ⟨fv5, sv5, hi51, _, _⟩ := hW5.ins
    have hpd := plug_dep (u := F5) hO5.fok
    rw [hpl] at hpd
    refine ⟨_, _, hi51, workF_no (by decide +kernel), W, F5, S5, fr5, [], [], rfl, hW5, hO5, hv, hn5, trivial, Nat.zero_le _, (fun g hg => by cases hg), by omega, fun G hG => ?_, ?_⟩
    · have h6 := plug_to hO5.fok hG
      rw [hpl] at h6
      have h7 := hd1 _ h6
      have := plug_dep (u := G) hO5.fok
      omega
    · unfold DeedQ
      rcases step_nv hv with ⟨G, hG⟩ | ⟨c, hc⟩
      · rw [hG]
        intro S6 fs6 ss6 H6 k6 hW6 hO6 hcl6 hl6
        rw [hR1]; clear hR1
        walk_at "rd"
        obtain ⟨fv6, sv6, hi61, _, _⟩ := hW6.ins
        have hst := plug_to hO5.fok hG
        rw [hpl] at hst
        rw [hst] at q
        exact ⟨_, _, hi61, workF_no (by decide +kernel), W, G, S6, fr5, fs6, ss6, rfl, hW6, hO6.fok, fun r H7 e7 h7 => q r H7 (((k5.trans k6).out e3 hn).trans e7) h7⟩
      · rw [hc]
        intro H6 k6
        have hst := plug_er hO5.fok hc
        rw [hpl] at hst
        rw [hst] at q
        exact q H6 ((k5.trans k6).out e3 hn)
  · have hv : t.isV = true := hv
    rw [if_pos (show (!false) = true from rfl), hA]
    walk_at "rd"
    rw [Tr.step_val.mpr hv] at q
    exact q H5 (k5.out e3 hn)
end

abbrev s_steps : Stmt := topS 39
abbrev N_steps : List Str := ["tree", "most", "work", "trees"]
theorem sc_steps : FnScope N_steps ["tree", "most"] (defScope s_steps) := ⟨rfl, rfl, rfl, by decide +kernel, rfl, by decide +kernel, by decide +kernel⟩
theorem bd_steps : BindAll "steps" s_steps ["tree", "most"] := fun _ _ _ _ _ _ us hl => match us, hl with | [_, _], _ => rfl
theorem st_steps (v0 v1 : V) : start N_steps [v0, v1] = [some v0, some v1, none, none] := rfl
section
variable {P : Program} {w : World} {K : PySem.W.Frag} {mg : Str → Option Value} {base : Heap} {R : Ers} {aA aV cW : Addr}
theorem df_steps (T : WTxt K w mg R aA aV cW) (F : FunAt K mg "steps" s_steps) (D_need_start : DfX P w K mg base 4 "need_start" ["tree", "most"] (spStart R)) (D_need_deed : DfX P w K mg base 1 "need_deed" ["done", "most"] (spLeft R)) (K_Work : MkD P w K mg base 1 "Work" cW (spInitW cW))
    (M_Work_seek : Mt CX0 P w K mg base 3 cW "seek" (spSeek cW)) (M_Work_do_deed : Mt (L2.CX P w) P w K mg base 7 cW "do_deed" (spDeedW cW R fun _ => True)) (M_Work_whole : Mt CX0 P w K mg base 2 cW "whole" (spWholeW cW)) : DfX P w K mg base 8 "steps" ["tree", "most"] (spSteps R) := by
  refine F.dfX sc_steps bd_steps (fun vs H Q E h => ?_) (fun f cdv A outer s H vs Q E hr h => ?_)
  · obtain ⟨_, _, _, rfl, _⟩ := h; rfl
  obtain ⟨v, t, m, rfl, hok, q⟩ := h
  have nd := sc_steps.nd
  refine ⟨_, (pss_cons (ps_expr (pe_callXP (E := E) D_need_start hr (by decide) rfl (passes_call (takes_of rfl rfl rfl rfl) fun _ _ _ _ h => h) (pa_cons (pv 0) (pa_cons (pv 1) pa_nil))))
  (pss_cons (ps_set (i := 2) nd rfl (Or.inl rfl) (pe_mkD K_Work hr (by decide) rfl (pa_cons (pv 0) pa_nil)))
  (pss_cons (ps_set (i := 3) nd rfl (Or.inl rfl) (pe_lst (pa_cons (pv 0) pa_nil)))
  (pss_cons (ps_while (passes_of rfl) (pt_val (pe_me0 (E := E0) M_Work_seek hr (by decide) pass0 (pv 2)))
    (pss_cons (ps_expr (pe_callXP (E := E) D_need_deed hr (by decide) rfl (passes_call (takes_of rfl rfl rfl rfl) fun _ _ _ _ h => h) (pa_cons (pe_op op_sub (pe_callB call_len_seq (by rfl) T.len PySem.boot_len (pa_cons (pv 3) pa_nil)) pe_int) (pa_cons (pv 1) pa_nil))))
      (pss_cons (ps_expr (pe_me0 (E := E) M_Work_do_deed hr (by decide) (passes_call (takes_of rfl rfl rfl rfl) fun _ _ _ _ h => h) (pv 2)))
      (pss_one (ps_expr (pe_bm PySem.F.plainAttrs_list PySem.F.slot_list_append PySem.F.type_list_append mt_append (pv 3) (pa_cons (pe_me0 (E := E0) M_Work_whole hr (by decide) pass0 (pv 2)) pa_nil)))))))
  (pss_one (ps_ret (pv 3))))))), ?_⟩
  rw [st_steps]
  refine seq_ fun R1 hR1 => ?_
  walk_at "rd"
  refine ⟨v, .int m, rfl, .inr ⟨t, hok.at_, hok.good, hok.size, .inr (.inr ⟨hok.closed, ⟨m, rfl, hok.most⟩, fun H1 e1 => ?_⟩)⟩⟩
  rw [hR1]; clear hR1
  refine seq_ fun R1 hR1 => ?_
  walk_at "rd"
  intro x dx hx hdx hne
  refine ⟨x, dx, v, rfl, upd_same, fun lr fd sd H3 hk hf hw nfs kp hins h1 h2 h3 => ⟨rfl, ?_⟩⟩
  obtain ⟨hW, e3, hn⟩ := work_new e1 hok.at_ hx hdx hne hk hf hw nfs kp hins h1 h2 h3
  rw [hR1]; clear hR1
  obtain ⟨W, hWd⟩ : ∃ W : WA, W = ⟨x, dx, lr, fd, sd⟩ := ⟨_, rfl⟩
  rw [← hWd] at hW hn
  have hxW : x = W.aW := by rw [hWd]
  clear hWd hk hf hw kp hins h1 h2 h3 hx hdx hne
  subst hxW
  refine seq_ fun R1 hR1 => ?_
  walk_at "rd"
  refine new_ fun lt H4 hlt e4 a4 => ?_
  rw [hR1]; clear hR1
  have hW4 := hW.same e4
  have hlt0 : H lt = none := e3.free hlt
  obtain ⟨vs0, har, _⟩ := hW.ar
  have hltr : lt ≠ W.lr := fun e => by rw [e, har] at hlt; cases hlt
  have hnl : ∀ a, (fun a => W.has a ∨ a = lt) a → H a = none := fun a h => h.elim (hn a) fun e => by rw [e]; exact hlt0
  have hno : ¬ W.has lt := by
    rintro (e | e | e | e)
    · obtain ⟨_, _, i, _, _⟩ := hW.ins; rw [e, i] at hlt; cases hlt
    · exact hltr e
    · obtain ⟨_, i, _⟩ := hW.fu; rw [e, i] at hlt; cases hlt
    · obtain ⟨_, i, _⟩ := hW.sh; rw [e, i] at hlt; cases hlt
  refine seq_ fun R1 hR1 => ?_
  refine whileS_ (fun km σ H' => ∃ (kk : Nat) (F : Tr) (S : Sh) (fr : List Fr) (fs : List Tr) (ss : List Sh) (pre : List Tr) (rs : List V), σ = [some v, some (.int m), some (.ref W.aW), some (.ref lt)] ∧ Same H H' ∧ WorkAt cW W H' F S fr fs ss ∧ WOk F S fr fs ss ∧ Way m t kk (plug fr F) fs ∧ H' lt = some (.lst rs) ∧ Ats H' (pre ++ [plug fr F]) rs ∧ path m t = pre ++ path (m - kk) (plug fr F) ∧ pre.length = kk ∧ km = m - kk) m
    ⟨0, t, t.sh, [], [], [], [], [v], rfl, e3.trans e4, hW4, wok_new t, Way.start hok, a4, .cons (hok.at_.mono (same_kt (e3.trans e4))) .nil, rfl, rfl, rfl⟩ ?_
  rintro km σ H4 ⟨kk, F, S, fr, fs, ss, pre, rs, rfl, e04, hW4, hO4, hway, hl4, hrs4, hpath, hpre, rfl⟩ Qb ht hf
  obtain ⟨fv, sv, hi1, _, _⟩ := hW4.ins
  have hkm := hway.le
  have hm := hok.most
  have hfl := hway.fle
  have hrl := pr_len hrs4
  rw [List.length_append, List.length_singleton] at hrl
  walk_at "rd"
  refine ⟨_, _, hi1, workF_no (by decide +kernel), W, F, S, fr, fs, ss, rfl, hW4, hO4, by have := hway.dep'; omega, fun F5 S5 fr5 H5 k5 hW5 hO5 hpl hv hn5 => ?_, fun S5 H5 k5 hW5 hO5 hv => ?_⟩
  · refine ⟨true, rfl, ht H5 fun N hN => ?_⟩
    have hway5 : Way m t kk (plug fr5 F5) fs := by rw [hpl]; exact hway
    have hnv := plug_nv hO5.fok hv
    have e5 : Same H H5 := k5.out e04 hn
    have hl5 := k5.kp _ _ hno hl4
    refine seq_ fun R2 hR2 => ?_
    walk_at "rd"
    refine ⟨_, .inl (SqL.of hl5), ?_⟩
    refine ⟨kk, m, ?_, fun hlt => ?_, fun hle => ?_⟩
    · rw [← hrl, hpre, show ((kk + 1 : Nat) : Int) - 1 = (kk : Int) by omega]
    · rw [hR2]; clear hR2
      refine seq_ fun R2 hR2 => ?_
      walk_at "rd"
      obtain ⟨fv5, sv5, hi51, _, _⟩ := hW5.ins
      have hpd := plug_dep (u := F5) hO5.fok
      have hd5 := hway5.dep'
      refine ⟨_, _, hi51, workF_no (by decide +kernel), W, F5, S5, fr5, fs, ss, rfl, hW5, hO5, hv, hn5, trivial, by omega, hway.fcl, by omega, fun G hG => ?_, ?_⟩
      · have h6 := hway5.todep (plug_to hO5.fok hG)
        have := plug_dep (u := G) hO5.fok
        omega
      · unfold DeedQ
        rcases step_nv hv with ⟨G, hG⟩ | ⟨c, hc⟩
        · rw [hG]
          intro S6 fs6 ss6 H6 k6 hW6 hO6 hcl6 hl6
          rw [hR2]; clear hR2
          have hl61 := k6.kp _ _ hno hl5
          obtain ⟨fv6, sv6, hi61, _, _⟩ := hW6.ins
          walk_at "rd"
          refine ⟨.inl ⟨rfl, _, SqL.of hl61⟩, _, _, hi61, workF_no (by decide +kernel), W, G, S6, fr5, fs6, ss6, rfl, hW6, hO6.fok, fun r H7 e7 h7 => ⟨_, e7 _ _ hl61, szLt5 (by omega), ?_⟩⟩
          have hl7 := e7 _ _ hl61
          have kt7 : KT H7 (upd H7 lt (.lst (rs ++ [r]))) := kt_lst hl7
          have e07 : Same H H7 := ((k5.trans k6).out e04 hn).trans e7
          have hstep := plug_to hO5.fok hG
          refine hN (m - (kk + 1)) _ _ (by omega) ⟨kk + 1, G, S6, fr5, fs6, ss6, pre ++ [plug fr5 F5], rs ++ [r], rfl, same_mut e07 hlt0, (hW6.same e7).other hl7 hltr, hO6, hway5.next hlt hstep hl6 (hcl6 (plug_closed hO5.fok hway5.closed)), upd_same, ?_, ?_, by rw [List.length_append, hpre]; rfl, rfl⟩
          · refine Ats.append ?_ (.cons (h7.mono kt7) .nil)
            rw [hpl]
            exact Ats.mono (((k5.trans k6).kt.trans (same_kt e7)).trans kt7) hrs4
          · rw [hpath, ← hpl, show m - kk = (m - (kk + 1)) + 1 by omega, path, hstep, List.append_assoc]
            rfl
        · rw [hc]
          intro H6 k6
          have hw := hway5.work
          rw [show m - kk = (m - kk - 1) + 1 by omega, work_err (plug_er hO5.fok hc)] at hw
          rw [hw] at q
          exact q H6 ((k5.trans k6).out e04 hn)
    · have hw := hway5.work
      have hdry : work (m - kk) (plug fr5 F5) = .dry := by
        rw [show m - kk = 0 by omega]
        rcases step_nv hnv with ⟨G, hG⟩ | ⟨c, hc⟩
        · exact work_to0 hG
        · exact work_err0 hc
      rw [hdry] at hw
      rw [hw] at q
      exact q H5 e5
  · refine ⟨false, rfl, hf H5 ?_⟩
    have hw := hway.work
    rw [work_val (Tr.step_val.mpr hv)] at hw
    rw [hw] at q
    show R1 _ _
    rw [hR1]
    walk_at "rd"
    refine q rs lt H5 (k5.out e04 hn) ?_ (k5.kp _ _ hno hl4)
    have hp1 : path (m - kk) (plug fr F) = [plug fr F] := by
      cases hmk : m - kk with
      | zero => rfl
      | succ n => rw [path, Tr.step_val.mpr hv]
    rw [hpath, hp1]
    exact Ats.mono k5.kt hrs4
end

end K08

namespace K08
open PySem L2 My
open PyProof.Rows (envOfC)
local macro_rules | `(tactic| walk_at "rd") => `(tactic| simp only [My.ife, My.tFor_eq, My.cx_K, My.cx_w, My.rRdK, My.rNeSelf, rIsi, tAsg, tDrop, tChain, tThenZ, kTyp, My.rInK, My.rMulS, iStr, sFld, sFldAug, tFld, tMe, tMkD, tCallE, tDZ, rDZ, tRevT, rAdd, sTail, tThen, kTup, tDisp, tPairs, tDIn, tDNotIn, V.ty.injEq, rAll, rU, tRet, tRetN, tIfS, tVar, tC, tOp, tUn, rI0, rI, rEq, rNe, CDiv, CMul, CPow, My.tTup_eq, My.tLst_eq, My.tDNewK_eq, My.tRevL_eq, My.tRevS, tM1, tM0, My.sz0, My.sz1, My.sz2, My.sz3, My.sz4, My.sz5, My.sz8, tCons, tNil, My.tCallD, tCB, gName, gTup, gCons, gNil, gSub, tTest, tB, tAnd, tOr, tNot, tIf, tAndV, tOrV, tNotV, rSetL, rSlS, rIxL, rIxT, rIxS, My.rSlT_eq, My.rSlL_eq, rIn, rCat, tLc_eq, iList, iTup, iRng1, iRng2, iRng3, wipe, List.map_cons, List.map_nil, tSl, tPart, tNoPart, tBM, tBM0, rAppend, My.rPopL, rExtend, My.rExtendT, tNext, tBreak, tCont, My.scal_ii, My.scal_ss, My.scal_bb, My.scal_is, My.scal_si, ipI, rListD, sDPut, tDGet, tDGet2, tAug, List.getElem?_cons_zero, List.getElem?_cons_succ, List.set_cons_zero, List.set_cons_succ, Option.some.injEq, exists_eq_left', exists_eq_left, V.int.injEq, V.ref.injEq, V.str.injEq, V.bl.injEq, exists_and_left, true_and, and_true, List.cons.injEq, exists_const, Bool.false_eq_true, ↓reduceIte, reduceCtorEq, false_and, and_assoc, decide_true, decide_false])
local macro_rules | `(tactic| walk_at "st") => `(tactic| (refine My.seq_ fun R hR => ?_))
local macro_rules | `(tactic| walk_at "sd") => `(tactic| repeat (first | refine ⟨by decide, ?_⟩ | refine ⟨.inl (by decide), ?_⟩))

abbrev s_need_deed : Stmt := topS 30
abbrev N_need_deed : List Str := ["done", "most"]
theorem sc_need_deed : FnScope N_need_deed ["done", "most"] (defScope s_need_deed) := ⟨rfl, rfl, rfl, by decide +kernel, rfl, by decide +kernel, by decide +kernel⟩
theorem bd_need_deed : BindAll "need_deed" s_need_deed ["done", "most"] := fun _ _ _ _ _ _ us hl => match us, hl with | [_, _], _ => rfl
theorem st_need_deed (v0 v1 : V) : start N_need_deed [v0, v1] = [some v0, some v1] := rfl
abbrev s_reckoned : Stmt := topS 31
abbrev N_reckoned : List Str := ["word", "first", "second"]
theorem sc_reckoned : FnScope N_reckoned ["word", "first", "second"] (defScope s_reckoned) := ⟨rfl, rfl, rfl, by decide +kernel, rfl, by decide +kernel, by decide +kernel⟩
theorem bd_reckoned : BindAll "reckoned" s_reckoned ["word", "first", "second"] := fun _ _ _ _ _ _ us hl => match us, hl with | [_, _, _], _ => rfl
theorem st_reckoned (v0 v1 v2 : V) : start N_reckoned [v0, v1, v2] = [some v0, some v1, some v2] := rfl
abbrev s_number_machine : Stmt := topS 50
abbrev N_number_machine : List Str := ["value"]
theorem sc_number_machine : FnScope N_number_machine ["value"] (defScope s_number_machine) := ⟨rfl, rfl, rfl, by decide +kernel, rfl, by decide +kernel, by decide +kernel⟩
theorem bd_number_machine : BindAll "_number" s_number_machine ["value"] := fun _ _ _ _ _ _ us hl => match us, hl with | [_], _ => rfl
theorem st_number_machine (v0 : V) : start N_number_machine [v0] = [some v0] := rfl
abbrev s_Kept___init__ : Stmt := inClass (topS 46) 0
abbrev N_Kept___init__ : List Str := ["self", "name", "body", "names", "held"]
theorem sc_Kept___init__ : FnScope N_Kept___init__ ["self", "name", "body", "names", "held"] (defScope s_Kept___init__) := ⟨rfl, rfl, rfl, by decide +kernel, rfl, by decide +kernel, by decide +kernel⟩
theorem bd_Kept___init__ : BindQ "__init__" "Kept.__init__" s_Kept___init__ ["self", "name", "body", "names", "held"] := fun _ _ _ _ _ _ us hl => match us, hl with | [_, _, _, _, _], _ => rfl
theorem st_Kept___init__ (v0 v1 v2 v3 v4 : V) : start N_Kept___init__ [v0, v1, v2, v3, v4] = [some v0, some v1, some v2, some v3, some v4] := rfl
abbrev s_Machine___init__ : Stmt := inClass (topS 47) 0
abbrev N_Machine___init__ : List Str := ["self", "most"]
theorem sc_Machine___init__ : FnScope N_Machine___init__ ["self", "most"] (defScope s_Machine___init__) := ⟨rfl, rfl, rfl, by decide +kernel, rfl, by decide +kernel, by decide +kernel⟩
theorem bd_Machine___init__ : BindQ "__init__" "Machine.__init__" s_Machine___init__ ["self", "most"] := fun _ _ _ _ _ _ us hl => match us, hl with | [_, _], _ => rfl
theorem st_Machine___init__ (v0 v1 : V) : start N_Machine___init__ [v0, v1] = [some v0, some v1] := rfl
abbrev s_Machine__look_later : Stmt := inClass (topS 47) 2
abbrev N_Machine__look_later : List Str := ["self", "node", "around"]
theorem sc_Machine__look_later : FnScope N_Machine__look_later ["self", "node", "around"] (defScope s_Machine__look_later) := ⟨rfl, rfl, rfl, by decide +kernel, rfl, by decide +kernel, by decide +kernel⟩
theorem bd_Machine__look_later : BindQ "_look_later" "Machine._look_later" s_Machine__look_later ["self", "node", "around"] := fun _ _ _ _ _ _ us hl => match us, hl with | [_, _, _], _ => rfl
theorem st_Machine__look_later (v0 v1 v2 : V) : start N_Machine__look_later [v0, v1, v2] = [some v0, some v1, some v2] := rfl
abbrev s_Machine__keep : Stmt := inClass (topS 47) 4
abbrev N_Machine__keep : List Str := ["self", "node", "around", "names", "kept", "name"]
theorem sc_Machine__keep : FnScope N_Machine__keep ["self", "node", "around"] (defScope s_Machine__keep) := ⟨rfl, rfl, rfl, by decide +kernel, rfl, by decide +kernel, by decide +kernel⟩
theorem bd_Machine__keep : BindQ "_keep" "Machine._keep" s_Machine__keep ["self", "node", "around"] := fun _ _ _ _ _ _ us hl => match us, hl with | [_, _, _], _ => rfl
theorem st_Machine__keep (v0 v1 v2 : V) : start N_Machine__keep [v0, v1, v2] = [some v0, some v1, some v2, none, none, none] := rfl
abbrev s_Machine__look : Stmt := inClass (topS 47) 3
abbrev N_Machine__look : List Str := ["self", "node", "around", "word", "at"]
theorem sc_Machine__look : FnScope N_Machine__look ["self", "node", "around"] (defScope s_Machine__look) := ⟨rfl, rfl, rfl, by decide +kernel, rfl, by decide +kernel, by decide +kernel⟩
theorem bd_Machine__look : BindQ "_look" "Machine._look" s_Machine__look ["self", "node", "around"] := fun _ _ _ _ _ _ us hl => match us, hl with | [_, _, _], _ => rfl
theorem st_Machine__look (v0 v1 v2 : V) : start N_Machine__look [v0, v1, v2] = [some v0, some v1, some v2, none, none] := rfl
abbrev s_Machine__do_call : Stmt := inClass (topS 47) 6
abbrev N_Machine__do_call : List Str := ["self", "kept", "value", "around"]
theorem sc_Machine__do_call : FnScope N_Machine__do_call ["self", "kept", "value"] (defScope s_Machine__do_call) := ⟨rfl, rfl, rfl, by decide +kernel, rfl, by decide +kernel, by decide +kernel⟩
theorem bd_Machine__do_call : BindQ "_do_call" "Machine._do_call" s_Machine__do_call ["self", "kept", "value"] := fun _ _ _ _ _ _ us hl => match us, hl with | [_, _, _], _ => rfl
theorem st_Machine__do_call (v0 v1 v2 : V) : start N_Machine__do_call [v0, v1, v2] = [some v0, some v1, some v2, none] := rfl
abbrev s_Machine__do_deed : Stmt := inClass (topS 47) 5
abbrev N_Machine__do_deed : List Str := ["self", "node", "around", "word", "last"]
theorem sc_Machine__do_deed : FnScope N_Machine__do_deed ["self", "node", "around"] (defScope s_Machine__do_deed) := ⟨rfl, rfl, rfl, by decide +kernel, rfl, by decide +kernel, by decide +kernel⟩
theorem bd_Machine__do_deed : BindQ "_do_deed" "Machine._do_deed" s_Machine__do_deed ["self", "node", "around"] := fun _ _ _ _ _ _ us hl => match us, hl with | [_, _, _], _ => rfl
theorem st_Machine__do_deed (v0 v1 v2 : V) : start N_Machine__do_deed [v0, v1, v2] = [some v0, some v1, some v2, none, none] := rfl
abbrev s_Machine_work_out : Stmt := inClass (topS 47) 1
abbrev N_Machine_work_out : List Str := ["self", "tree", "node", "around", "ready"]
theorem sc_Machine_work_out : FnScope N_Machine_work_out ["self", "tree"] (defScope s_Machine_work_out) := ⟨rfl, rfl, rfl, by decide +kernel, rfl, by decide +kernel, by decide +kernel⟩
theorem bd_Machine_work_out : BindQ "work_out" "Machine.work_out" s_Machine_work_out ["self", "tree"] := fun _ _ _ _ _ _ us hl => match us, hl with | [_, _], _ => rfl
theorem st_Machine_work_out (v0 v1 : V) : start N_Machine_work_out [v0, v1] = [some v0, some v1, none, none, none] := rfl
section
variable {P : Program} {w : World} {K : PySem.W.Frag} {mg : Str → Option Value} {base : Heap} {R : Ers} {aA cM cK : Addr}
theorem df_left (T : MTxt K w mg R aA cM cK) (F : FunAt K mg "need_deed" s_need_deed) : DfX P w K mg base 1 "need_deed" ["done", "most"] (spLeft R) := by
  refine F.dfX sc_need_deed bd_need_deed (fun vs H Q E h => ?_) (fun f cdv A outer s H vs Q E hr h => ?_)
  · obtain ⟨_, _, rfl, _⟩ := h; rfl
  obtain ⟨a, b, rfl, q1, q2⟩ := h
  have nd := sc_need_deed.nd
  refine ⟨_, (pss_one (ps_if (pt_cmpR op_ge (pv 0) (pv 1) (nomark _))
    (pss_one (ps_raise rfl (takes_of rfl rfl rfl rfl) (pmk_own PySem.F.excBase_ValueError T.Dry.inn T.Dry.c_ T.Dry.k T.Dry.r rfl)))
    pss_nil)), ?_⟩
  rw [st_need_deed]
  walk_at "rd"
  by_cases h : b ≤ a
  · rw [if_pos (by omega)]; exact q2 h
  · rw [if_neg (by omega)]; exact q1 (by omega)
theorem df_reckon (F : FunAt K mg "reckoned" s_reckoned) : Df P w K mg base 1 "reckoned" ["word", "first", "second"] spReckon := by
  refine F.df sc_reckoned bd_reckoned (fun vs H Q E h => ?_) (fun f cdv A outer s H vs Q E hr h => ?_)
  · obtain ⟨_, _, _, rfl, _⟩ := h; rfl
  obtain ⟨z, a, b, rfl, q⟩ := h
  have nd := sc_reckoned.nd
  refine ⟨_, (pss_one (ps_ret (pe_ifExp (pt_cmpR op_eq (pv 0) pe_str (nomark _)) (pe_op op_add (pv 1) (pv 2)) (pe_op op_sub (pv 1) (pv 2))))), ?_⟩
  rw [st_reckoned]
  walk_at "rd"
  by_cases h : z = "plus"
  · rw [if_pos h] at q ⊢; exact q
  · rw [if_neg h] at q ⊢; exact q
theorem df_numM (T : MTxt K w mg R aA cM cK) (F : FunQ K mg "number_machine" "_number" s_number_machine) : DfX P w K mg base 1 "number_machine" ["value"] (spNumM cK R) := by
  refine F.dfX sc_number_machine bd_number_machine (fun vs H Q E h => ?_) (fun f cdv A outer s H vs Q E hr h => ?_)
  · obtain ⟨_, _, _, rfl, _⟩ := h; rfl
  obtain ⟨A0, v, r, rfl, hv, q⟩ := h
  have nd := sc_number_machine.nd
  refine ⟨_, (pss_cons (ps_if (pt_val (pe_callB call_isi (by rfl) T.isinstance (by decide +kernel) (pa_cons (pv 0) (pa_cons (pe_gref (by rfl) T.cKept) pa_nil))))
    (pss_one (ps_raise rfl (takes_of rfl rfl rfl rfl) (pmk_own PySem.F.excBase_ValueError T.NoNumber.inn T.NoNumber.c_ T.NoNumber.k T.NoNumber.r rfl)))
    pss_nil)
  (pss_one (ps_ret (pv 0)))), ?_⟩
  rw [st_number_machine]
  refine ifq_ fun R A B hR hA hB => ?_
  walk_at "rd"
  cases v with
  | num n =>
    obtain ⟨rfl, h1⟩ := hv.isI T.K_
    refine isi_own h1 ?_
    rw [if_neg (by decide), hB]
    walk_at "rd"
    rw [hR]
    walk_at "rd"
    exact q
  | fn x b e =>
    refine isi_own (hv.isK T.K_) ?_
    rw [if_pos rfl, hA]
    exact q
theorem df_initK (T : MTxt K w mg R aA cM cK) (F : FunI K mg "Kept" cK "Kept.__init__" s_Kept___init__) : MkD P w K mg base 1 "Kept" cK (spInitK cK) := by
  refine F.mkd sc_Kept___init__ bd_Kept___init__ (fun vs H Q E h => ?_) (fun f cdv A outer s H vs Q E hr h => ?_)
  · obtain ⟨_, _, _, _, _, _, rfl, _⟩ := h; rfl
  obtain ⟨a, dx, ln, lh, x, b, rfl, ha, q⟩ := h
  have nd := sc_Kept___init__.nd
  refine ⟨_, (pss_cons (ps_fld (pv 0) (pv 1) rfl)
  (pss_cons (ps_fld (pv 0) (pv 2) rfl)
  (pss_cons (ps_fld (pv 0) (pv 3) rfl)
  (pss_one (ps_fld (pv 0) (pv 4) rfl))))), ?_⟩
  rw [st_Kept___init__]
  refine seq_ fun R1 hR1 => ?_
  walk_at "rd"
  refine ⟨_, _, _, ha, T.K_.cl, T.K_.na "name", (show 0 < 1000 by decide), ?_⟩
  rw [hR1]; clear hR1
  refine seq_ fun R1 hR1 => ?_
  walk_at "rd"
  refine ⟨_, _, _, upd_same, T.K_.cl, T.K_.na "body", (show 1 < 1000 by decide), ?_⟩
  rw [hR1, upd_upd]; clear hR1
  refine seq_ fun R1 hR1 => ?_
  walk_at "rd"
  refine ⟨_, _, _, upd_same, T.K_.cl, T.K_.na "names", (show 2 < 1000 by decide), ?_⟩
  rw [hR1, upd_upd]; clear hR1
  walk_at "rd"
  refine ⟨_, _, _, upd_same, T.K_.cl, T.K_.na "held", (show 3 < 1000 by decide), ?_⟩
  rw [upd_upd]
  exact q
theorem df_initM (T : MTxt K w mg R aA cM cK) (F : FunI K mg "Machine" cM "Machine.__init__" s_Machine___init__) : MkD P w K mg base 1 "Machine" cM (spInitM cM) := by
  refine F.mkd sc_Machine___init__ bd_Machine___init__ (fun vs H Q E h => ?_) (fun f cdv A outer s H vs Q E hr h => ?_)
  · obtain ⟨_, _, _, rfl, _⟩ := h; rfl
  obtain ⟨a, dx, most, rfl, ha, q⟩ := h
  have nd := sc_Machine___init__.nd
  refine ⟨_, (pss_cons (ps_fld (pv 0) (pv 1) rfl)
  (pss_cons (ps_fld (pv 0) pe_int rfl)
  (pss_cons (ps_fld (pv 0) (pe_lst pa_nil) rfl)
  (pss_cons (ps_fld (pv 0) (pe_lst pa_nil) rfl)
  (pss_one (ps_fld (pv 0) (pe_lst pa_nil) rfl)))))), ?_⟩
  rw [st_Machine___init__]
  refine seq_ fun R1 hR1 => ?_
  walk_at "rd"
  refine ⟨_, _, _, ha, T.M_.cl, T.M_.na "most", (show 0 < 1000 by decide), ?_⟩
  rw [hR1]; clear hR1
  refine seq_ fun R1 hR1 => ?_
  walk_at "rd"
  refine ⟨_, _, _, upd_same, T.M_.cl, T.M_.na "deeds", (show 1 < 1000 by decide), ?_⟩
  rw [hR1, upd_upd]; clear hR1
  have h1 : ∀ b o, b ≠ a → H b = some o → upd H a (.ins cM dx (putF "deeds" (.int 0) (putF "most" (.int most) []))) b = some o := fun b o hb h => by rw [upd_ne hb]; exact h
  have ha1 : upd H a (.ins cM dx (putF "deeds" (.int 0) (putF "most" (.int most) []))) a = some (.ins cM dx (putF "deeds" (.int 0) (putF "most" (.int most) []))) := upd_same
  have hn : ∀ b, upd H a (.ins cM dx (putF "deeds" (.int 0) (putF "most" (.int most) []))) b = none → H b = none := fun b h => by
    by_cases hb : b = a
    · rw [hb, upd_same] at h; cases h
    · rwa [upd_ne hb] at h
  generalize upd H a (.ins cM dx (putF "deeds" (.int 0) (putF "most" (.int most) []))) = H1 at *
  refine seq_ fun R1 hR1 => ?_
  walk_at "rd"
  refine new_ fun lk H2 hlk e2 h2 => ⟨_, _, _, e2 _ _ ha1, T.M_.cl, T.M_.na "kepts", (show 2 < 1000 by decide), ?_⟩
  rw [hR1]; clear hR1
  generalize hfs : putF "kepts" (.ref lk) (putF "deeds" (.int 0) (putF "most" (.int most) [])) = fs
  have k2 : ∀ b o, b ≠ a → H b = some o → upd H2 a (.ins cM dx fs) b = some o := fun b o hb h => by rw [upd_ne hb]; exact e2 _ _ (h1 b o hb h)
  have ha2 : upd H2 a (.ins cM dx fs) a = some (.ins cM dx fs) := upd_same
  have hlka : lk ≠ a := (ne_of_none ha1 hlk).symm
  have hlk2 : upd H2 a (.ins cM dx fs) lk = some (.lst []) := by rw [upd_ne hlka]; exact h2
  generalize upd H2 a (.ins cM dx fs) = H3 at *
  refine seq_ fun R1 hR1 => ?_
  walk_at "rd"
  refine new_ fun lf H4 hlf e4 h4 => ⟨_, _, _, e4 _ _ ha2, T.M_.cl, T.M_.na "found", by rw [← hfs]; exact (show 3 < 1000 by decide), ?_⟩
  rw [hR1]; clear hR1
  generalize hgs : putF "found" (.ref lf) fs = gs
  have k4 : ∀ b o, b ≠ a → H b = some o → upd H4 a (.ins cM dx gs) b = some o := fun b o hb h => by rw [upd_ne hb]; exact e4 _ _ (k2 b o hb h)
  have ha4 : upd H4 a (.ins cM dx gs) a = some (.ins cM dx gs) := upd_same
  have hlfa : lf ≠ a := (ne_of_none ha2 hlf).symm
  have hlfk : lk ≠ lf := ne_of_none hlk2 hlf
  have hlk4 : upd H4 a (.ins cM dx gs) lk = some (.lst []) := by rw [upd_ne hlka]; exact e4 _ _ hlk2
  have hlf4 : upd H4 a (.ins cM dx gs) lf = some (.lst []) := by rw [upd_ne hlfa]; exact h4
  have hlf0 : H lf = none := by
    cases e : H lf with
    | none => rfl
    | some o => rw [k2 lf o hlfa e] at hlf; cases hlf
  generalize upd H4 a (.ins cM dx gs) = H5 at *
  walk_at "rd"
  refine new_ fun lw H6 hlw e6 h6 => ⟨_, _, _, e6 _ _ ha4, T.M_.cl, T.M_.na "waiting", by rw [← hgs, ← hfs]; exact (show 4 < 1000 by decide), ?_⟩
  have hlwa : lw ≠ a := (ne_of_none ha4 hlw).symm
  have hlw0 : H lw = none := by
    cases e : H lw with
    | none => rfl
    | some o => rw [k4 lw o hlwa e] at hlw; cases hlw
  refine q lk lf lw _ (hn _ hlk) hlf0 hlw0 hlfk (ne_of_none hlk4 hlw) (ne_of_none hlf4 hlw) (fun b o hb h => by rw [upd_ne hb]; exact e6 _ _ (k4 b o hb h)) ?_ (by rw [upd_ne hlka]; exact e6 _ _ hlk4) (by rw [upd_ne hlfa]; exact e6 _ _ hlf4) (by rw [upd_ne hlwa]; exact h6)
  rw [upd_same, ← hgs, ← hfs]
  rfl
theorem df_later (T : MTxt K w mg R aA cM cK) (F : FunM K cM "_look_later" "Machine._look_later" s_Machine__look_later) : Mt CX0 P w K mg base 1 cM "_look_later" (spLater cM cK) := by
  refine F.mt sc_Machine__look_later bd_Machine__look_later (fun vs H Q E h => ?_) (fun f cdv A outer s H vs Q E hr h => ?_)
  · obtain ⟨_, _, _, _, _, _, _, _, _, _, _, rfl, _⟩ := h; rfl
  obtain ⟨M, most, deeds, n, W, Fd, L, t, e, tv, d, rfl, S, ht, hd, hW, q⟩ := h
  have nd := sc_Machine__look_later.nd
  refine ⟨_, (pss_one (ps_expr (pe_bm PySem.F.plainAttrs_list PySem.F.slot_list_append PySem.F.type_list_append mt_append (pe_fld (pv 0) rfl) (pa_cons (pe_tup (pa_cons (pv 1) (pa_cons (pv 2) (pa_cons pe_bl pa_nil)))) pa_nil)))), ?_⟩
  rw [st_Machine__look_later]
  walk_at "rd"
  obtain ⟨ws, hw, pw⟩ := S.ws
  refine ⟨_, _, _, S.ins, T.M_.cl, T.M_.na "waiting", _, machF_waiting _ _ _, .inl ⟨rfl, _, SqL.of hw⟩, new_ fun p H1 hp e1 h1 => ⟨_, rfl, _, e1 _ _ hw, ?_, ?_⟩⟩
  · rw [← pr_len pw, sizeLine_eq]; omega
  have S1 := S.ext e1
  obtain ⟨k, mk⟩ := S1.setW (vs := ws ++ [.ref p]) (W' := W ++ [⟨t, e, false⟩])
  refine q _ ((Kp.same e1).trans k) (mk (pr_append (pr_mono pw fun _ _ h => h.mono ((Kp.same e1).trans k) (Nat.le_refl _)) (.cons ⟨p, tv, d, rfl, k.kd.1 _ _ h1, ht.mono ((same_kt e1).trans k.kd.kt), hd.mono ((Kp.same e1).trans k) (Nat.le_refl _)⟩ .nil)))
theorem df_keep (T : MTxt K w mg R aA cM cK) (F : FunM K cM "_keep" "Machine._keep" s_Machine__keep) (D_free : Df P w K mg base 3 "free" ["tree"] spFree) (K_Kept : MkD P w K mg base 1 "Kept" cK (spInitK cK)) : Mt CX0 P w K mg base 4 cM "_keep" (spKeep cM cK) := by
  refine F.mt sc_Machine__keep bd_Machine__keep (fun vs H Q E h => ?_) (fun f cdv A outer s H vs Q E hr h => ?_)
  · obtain ⟨_, _, _, _, _, _, _, _, _, _, _, _, rfl, _⟩ := h; rfl
  obtain ⟨M, most, deeds, n, W, Fd, L, x, b, e, tv, d, rfl, S, ht, hd, hc, hz, hF, hL, q⟩ := h
  have nd := sc_Machine__keep.nd
  have hu := hu_of hr
  refine ⟨_, (pss_cons (ps_set (i := 3) nd rfl (Or.inl rfl) (pe_callD D_free hr (by decide) rfl (pa_cons (pv 1) pa_nil)))
  (pss_cons (ps_set (i := 4) nd rfl (Or.inl rfl) (pe_mkD K_Kept hr (by decide) rfl (pa_cons (pe_ix ix_tup (pv 1) pe_int (fun _ _ => rfl)) (pa_cons (pe_ix ix_tup (pv 1) pe_int (fun _ _ => rfl)) (pa_cons (pv 3) (pa_cons (pe_lc (own := [("name", 5)]) (g := gName 5) rfl nd (pi_list (pv 3)) (blkOk_by (N := N_Machine__keep) (sc := defScope s_Machine__keep) (by decide +kernel)) (fun _ _ _ _ _ => (pg_name (i := 5) nd rfl (Or.inl rfl))) (fun _ _ _ _ _ => pts_nil) (fun _ _ _ _ _ => (pe_dget hu (pv 2) (pv 5) (fun _ _ => rfl)))) pa_nil))))))
  (pss_cons (ps_expr (pe_bm PySem.F.plainAttrs_list PySem.F.slot_list_append PySem.F.type_list_append mt_append (pe_fld (pv 0) rfl) (pa_cons (pv 4) pa_nil)))
  (pss_one (ps_expr (pe_bm PySem.F.plainAttrs_list PySem.F.slot_list_append PySem.F.type_list_append mt_append (pe_fld (pv 0) rfl) (pa_cons (pv 4) pa_nil))))))), ?_⟩
  rw [st_Machine__keep]
  refine seq_ fun R1 hR1 => ?_
  walk_at "rd"
  refine ⟨.fn x b, tv, rfl, ht, by omega, fun ln H1 hln e1 h1 => ?_⟩
  rw [hR1]; clear hR1
  refine seq_ fun R1 hR1 => ?_
  walk_at "rd"
  obtain ⟨kvs, hdk, hkl, hkv⟩ := hd
  obtain ⟨ta, tb, rfl, hta, htb⟩ := ht
  have hta1 := e1 _ _ hta
  have hdk1 := e1 _ _ hdk
  refine ⟨ta, rfl, _, SqT.of hta1, _, at1 _ _ _, ta, rfl, _, SqT.of hta1, _, at2 _ _ _ _, ⟨_, SqL.of h1⟩, ?_⟩
  have hlen : ((freeNames (.fn x b)).map V.str).length ≤ 100000 := by
    rw [List.length_map]
    have := freeNames_len (.fn x b)
    omega
  refine lcL (fun i acc _ => acc = ((freeNames (.fn x b)).take i).map fun y => (valV kvs (.inr y)).getD .non) (fun _ _ _ _ _ h => h) (SqL.of h1) hlen (fun _ => rfl) rfl ?_ ?_
  · intro i y acc H2 hi hl e2 p Qy hy Qn hn
    walk_at "rd"
    rw [List.getElem?_map] at hi
    obtain ⟨z, hz1, rfl⟩ : ∃ z, (freeNames (.fn x b))[i]? = some z ∧ V.str z = y := by
      cases h : (freeNames (.fn x b))[i]? with
      | none => rw [h] at hi; cases hi
      | some z => rw [h] at hi; exact ⟨z, rfl, Option.some.inj hi⟩
    obtain ⟨v, hv⟩ := hc z (freeNames_fr (List.mem_of_getElem? hz1))
    obtain ⟨r, hr1, hr2⟩ := hkv z v hv
    refine ⟨r, by rw [← hr1]; exact DGet.k (k := Sum.inr z) (e2 _ _ hdk1), hy _ _ (Same.refl _) ?_⟩
    show _ = ((freeNames (.fn x b)).take (i + 1)).map _
    rw [p, List.take_succ, hz1, List.map_append]
    simp [hr1]
  intro lh hs H2 hlh e2 h2 p
  rw [List.length_map, List.take_length] at p
  intro ka dx hka hdx hne
  have e12 := e1.trans e2
  have hln0 := hln
  have hlh0 : H lh = none := e1.free hlh
  have hka0 : H ka = none := e12.free hka
  refine ⟨ka, dx, ln, lh, x, tb, rfl, upd_same, rfl, ?_⟩
  rw [hR1, upd_upd]; clear hR1
  have e3 : Same H2 (upd (upd H2 dx (.own ka)) ka (.ins cK dx (keptF x tb ln lh))) := (same_new hdx).trans (same_new (by rw [upd_ne hne.symm]; exact hka))
  have h3 : upd (upd H2 dx (.own ka)) ka (.ins cK dx (keptF x tb ln lh)) ka = some (.ins cK dx (keptF x tb ln lh)) := upd_same
  generalize upd (upd H2 dx (.own ka)) ka (.ins cK dx (keptF x tb ln lh)) = H3 at *
  have e13 := e12.trans e3
  have S3 := S.ext e13
  have hval : KVm cK M.has H3 (keptV x b e) (.ref ka) := by
    refine ⟨ka, dx, ln, lh, tb, freeNames (.fn x b), hs, rfl, S.new hka0, S.new hln0, S.new hlh0, h3, htb.mono (same_kt e13), (e2.trans e3) _ _ h1, e3 _ _ h2, rfl, ?_⟩
    rw [p]
    exact EnvL.keep fun z hz => by
      obtain ⟨v, hv⟩ := hc z (freeNames_fr hz)
      obtain ⟨r, hr1, hr2⟩ := hkv z v hv
      exact ⟨v, r, hv, hr1, hr2.mono (Kp.same e13)⟩
  refine seq_ fun R1 hR1 => ?_
  walk_at "rd"
  obtain ⟨ks, hks, pks⟩ := S3.ks
  refine ⟨_, _, _, S3.ins, T.M_.cl, T.M_.na "kepts", _, machF_kepts _ _ _, .inl ⟨rfl, _, SqL.of hks⟩, _, rfl, _, hks, by rw [← pr_len pks, sizeLine_eq]; omega, ?_⟩
  rw [hR1]; clear hR1
  obtain ⟨k4, m4⟩ := S3.setK (vs := ks ++ [.ref ka]) (L' := L ++ [keptV x b e])
  have S4 := m4 (pr_append (pr_mono pks fun _ _ h => h.mono k4) (.cons (hval.mono k4) .nil))
  have hval4 := hval.mono k4
  generalize upd H3 M.lk (.lst (ks ++ [.ref ka])) = H4 at *
  walk_at "rd"
  obtain ⟨fs, hfs, pfs⟩ := S4.fs
  refine ⟨_, _, _, S4.ins, T.M_.cl, T.M_.na "found", _, machF_found _ _ _, .inl ⟨rfl, _, SqL.of hfs⟩, _, rfl, _, hfs, by rw [← pr_len pfs, sizeLine_eq]; omega, ?_⟩
  obtain ⟨k5, m5⟩ := S4.setF (vs := fs ++ [.ref ka]) (F' := Fd ++ [keptV x b e])
  have S5 := m5 (pr_append (pr_mono pfs fun _ _ h => h.mono k5) (.cons (hval4.mono k5) .nil))
  exact q _ (((Kp.same e13).trans k4).trans k5) S5
theorem df_look (T : MTxt K w mg R aA cM cK) (F : FunM K cM "_look" "Machine._look" s_Machine__look) (M_Machine__keep : Mt CX0 P w K mg base 4 cM "_keep" (spKeep cM cK)) (M_Machine__look_later : Mt CX0 P w K mg base 1 cM "_look_later" (spLater cM cK)) : Mt CX0 P w K mg base 5 cM "_look" (spLook cM cK) := by
  refine F.mt sc_Machine__look bd_Machine__look (fun vs H Q E h => ?_) (fun f cdv A outer s H vs Q E hr h => ?_)
  · obtain ⟨_, _, _, _, _, _, _, _, _, _, _, rfl, _⟩ := h; rfl
  obtain ⟨M, most, deeds, n, W, Fd, L, t, e, tv, d, rfl, S, ht, hd, hc, hz, hWl, hFl, hLl, q⟩ := h
  have nd := sc_Machine__look.nd
  have hu := hu_of hr
  refine ⟨_, (pss_cons (ps_set (i := 3) nd rfl (Or.inl rfl) (pe_ix ix_tup (pv 1) pe_int (fun _ _ => rfl)))
  (pss_one (ps_if (pt_cmpR op_eq (pv 3) pe_str (nomark _))
    (pss_one (ps_expr (pe_bm PySem.F.plainAttrs_list PySem.F.slot_list_append PySem.F.type_list_append mt_append (pe_fld (pv 0) rfl) (pa_cons (pe_ix ix_tup (pv 1) pe_int (fun _ _ => rfl)) pa_nil))))
    (pss_one (ps_if (pt_cmpR op_eq (pv 3) pe_str (nomark _))
        (pss_one (ps_expr (pe_bm PySem.F.plainAttrs_list PySem.F.slot_list_append PySem.F.type_list_append mt_append (pe_fld (pv 0) rfl) (pa_cons (pe_dget hu (pv 2) (pe_ix ix_tup (pv 1) pe_int (fun _ _ => rfl)) (fun _ _ => rfl)) pa_nil))))
        (pss_one (ps_if (pt_cmpR op_eq (pv 3) pe_str (nomark _))
            (pss_one (ps_expr (pe_me (E := E0) M_Machine__keep hr (by decide) pass0 (pv 0) (pa_cons (pv 1) (pa_cons (pv 2) pa_nil)))))
            (pss_cons (ps_expr (pe_bm PySem.F.plainAttrs_list PySem.F.slot_list_append PySem.F.type_list_append mt_append (pe_fld (pv 0) rfl) (pa_cons (pe_tup (pa_cons (pv 1) (pa_cons (pv 2) (pa_cons pe_bl pa_nil)))) pa_nil)))
              (pss_one (ps_for PassesOwn.never rfl (pi_tup (pe_revT (pe_ix ix_kd (pe_gref (by rfl) T.AHEAD) (pv 3) (fun _ _ => rfl)))) (pg_name (i := 4) nd rfl (Or.inl rfl))
                (pss_one (ps_expr (pe_me (E := E0) M_Machine__look_later hr (by decide) pass0 (pv 0) (pa_cons (pe_ix ix_tup (pv 1) (pv 4) (fun _ _ => rfl)) (pa_cons (pv 2) pa_nil))))))))))))))), ?_⟩
  rw [st_Machine__look]
  refine seq_ fun R1 hR1 => ?_
  walk_at "rd"
  obtain ⟨ta, ws, rfl, hta, hws⟩ := ht.view
  refine ⟨ta, rfl, _, SqT.of hta, _, at0 _ _, ?_⟩
  rw [hR1]; clear hR1
  have hput : ∀ (v : Val) (r : V) (Q' : Hp → Prop), KVm cK M.has H v r → (∀ H', Kp M.has H H' → MachAt cM cK M H' most deeds n W (Fd ++ [v]) L → Q' H') →
      ∃ fs, H M.lf = some (.lst fs) ∧ fs.length < sizeLine ∧ Q' (upd H M.lf (.lst (fs ++ [r]))) := by
    intro v r Q' hv hQ
    obtain ⟨fs, hfs, pfs⟩ := S.fs
    obtain ⟨k, m⟩ := S.setF (vs := fs ++ [r]) (F' := Fd ++ [v])
    exact ⟨fs, hfs, by rw [← pr_len pfs, sizeLine_eq]; omega, hQ _ k (m (pr_append (pr_mono pfs fun _ _ h => h.mono k) (.cons (hv.mono k) .nil)))⟩
  refine ifs_ fun A B hA hB => ?_
  walk_at "rd"
  by_cases wn : t.word = "num"
  · rw [if_pos (by rw [wn]), hA]; clear hA hB
    obtain ⟨k, rfl⟩ : ∃ k, t = .num k := by cases t <;> first | exact ⟨_, rfl⟩ | (simp only [Tr.word] at wn; exact absurd wn (by decide +kernel))
    cases hws
    walk_at "rd"
    obtain ⟨fs, hfs, hlf, hq⟩ := hput (.num k) (.int k) (fun H' => Q .non H') rfl fun H' k2 S2 => q H' k2 S2
    exact ⟨_, _, _, S.ins, T.M_.cl, T.M_.na "found", _, machF_found _ _ _, .inl ⟨rfl, _, SqL.of hfs⟩, _, SqT.of hta, _, at1 _ _ _, _, rfl, _, hfs, hlf, hq⟩
  rw [if_neg (by simp [wn]), hB]; clear hA hB
  refine ifs_ fun A B hA hB => ?_
  walk_at "rd"
  by_cases wm : t.word = "name"
  · rw [if_pos (by rw [wm]), hA]; clear hA hB
    obtain ⟨x, rfl⟩ : ∃ k, t = .name k := by cases t <;> first | exact ⟨_, rfl⟩ | (simp only [Tr.word] at wm; exact absurd wm (by decide +kernel))
    cases hws
    obtain ⟨v, hv⟩ := hc x rfl
    obtain ⟨kvs, hdk, hkl, hkv⟩ := hd
    obtain ⟨r, hr1, hr2⟩ := hkv x v hv
    walk_at "rd"
    obtain ⟨fs, hfs, hlf, hq⟩ := hput v r (fun H' => Q .non H') hr2 fun H' k2 S2 => q H' k2 (by simp only [lookR, hv, Option.getD_some]; exact S2)
    exact ⟨_, _, _, S.ins, T.M_.cl, T.M_.na "found", _, machF_found _ _ _, .inl ⟨rfl, _, SqL.of hfs⟩, _, SqT.of hta, _, at1 _ _ _, r, by rw [← hr1]; exact DGet.k (k := Sum.inr x) hdk, _, rfl, _, hfs, hlf, hq⟩
  rw [if_neg (by simp [wm]), hB]; clear hA hB
  refine ifs_ fun A B hA hB => ?_
  walk_at "rd"
  by_cases wf : t.word = "fun"
  · rw [if_pos (by rw [wf]), hA]; clear hA hB
    obtain ⟨x, b, rfl⟩ := word_fun wf
    walk_at "rd"
    exact ⟨_, _, S.ins, machF_no (by decide +kernel), M, most, deeds, n, W, Fd, L, x, b, e, .ref ta, d, rfl, S, ht, hd, hc, hz, hFl, hLl, fun H' k2 S2 => q H' k2 S2⟩
  rw [if_neg (by simp [wf]), hB]; clear hA hB hput
  refine seq_ fun R1 hR1 => ?_
  walk_at "rd"
  obtain ⟨vs, hvs, pvs⟩ := S.ws
  refine ⟨_, _, _, S.ins, T.M_.cl, T.M_.na "waiting", _, machF_waiting _ _ _, .inl ⟨rfl, _, SqL.of hvs⟩, new_ fun p H1 hp e1 h1 => ⟨_, rfl, _, e1 _ _ hvs, by rw [← pr_len pvs, sizeLine_eq]; omega, ?_⟩⟩
  rw [hR1]; clear hR1
  have S1 := S.ext e1
  obtain ⟨k2, m2⟩ := S1.setW (vs := vs ++ [.ref p]) (W' := W ++ [⟨t, e, true⟩])
  have k12 := (Kp.same e1).trans k2
  have S2 := m2 (pr_append (pr_mono pvs fun _ _ h => h.mono k12 (Nat.le_refl _)) (.cons ⟨p, .ref ta, d, rfl, k2.kd.1 _ _ h1, ht.mono k12.kd.kt, hd.mono k12 (Nat.le_refl _)⟩ .nil))
  have ht2 := ht.mono k12.kd.kt
  have hd2 := hd.mono k12 (Nat.le_refl _)
  have hta2 := k12.kd.1 _ _ hta
  generalize upd H1 M.lw (.lst (vs ++ [.ref p])) = H2 at *
  walk_at "rd"
  have hgo : ∀ (as : List (Int × Tr)), (t.word, as.map fun p => V.int p.1) ∈ aheadL → (∀ p ∈ as, ∃ u, atI (V.str t.word :: t.own ++ ws) p.1 = some u ∧ At H2 p.2 u) → as.length ≤ 3 →
      lookR t e W Fd L = (W ++ [⟨t, e, true⟩] ++ as.reverse.map (fun p => ⟨p.2, e, false⟩), Fd, L) → ∃ x, RdK K w aA t.word x ∧ ∃ a, x = .ref a ∧ ∃ x : List V, SqT K H2 a x ∧ ∀ p, H2 p = none → (∃ xs, SqT K (upd H2 p (.tup x.reverse)) p xs) ∧
        ForGo (Itt K p) (gName 4) (tDrop (tMe cM "_look_later" (spLater cM cK) E0 (tVar 0) (tCons (tOp (rIxT K) (tVar 1) (tVar 4)) (tCons (tVar 2) tNil)))) { nx := fun x H' => Q V.non H', rt := Q }
          [some (V.ref M.aM), some (V.ref ta), some (V.ref d), some (V.str t.word), none] (upd H2 p (.tup x.reverse)) := by
    intro as has hat hal hlr
    obtain ⟨a, hra, hsq⟩ := T.ahead _ has
    refine ⟨_, hra, a, rfl, _, hsq.at H2, fun p3 hp3 => ⟨⟨_, SqT.of upd_same⟩, ?_⟩⟩
    have e3 := same_new (o := .tup (as.map fun p => V.int p.1).reverse) hp3
    have h3 := upd_same (H := H2) (a := p3) (o := .tup (as.map fun p => V.int p.1).reverse)
    generalize upd H2 p3 (.tup (as.map fun p => V.int p.1).reverse) = H3 at *
    have k13 := k12.trans (Kp.same e3)
    refine forT (xs := (as.map fun p => V.int p.1).reverse) (fun i σ H' => ∃ o4 : Option V, σ = [some (V.ref M.aM), some (V.ref ta), some (V.ref d), some (V.str t.word), o4] ∧ Kp M.has H3 H' ∧
      MachAt cM cK M H' most deeds n (W ++ [⟨t, e, true⟩] ++ (as.reverse.take i).map (fun p => ⟨p.2, e, false⟩)) Fd L) ⟨none, rfl, Kp.refl _ _, by simpa using S2.ext e3⟩ ?_ ?_ ?_
    · rintro i σ H' hi ⟨o4, rfl, k, S'⟩
      exact SqT.of (k.kd.1 _ _ h3)
    · rintro i y σ H' hi ⟨o4, rfl, k, S'⟩ N hN
      walk_at "rd"
      rw [← List.map_reverse, List.getElem?_map] at hi
      obtain ⟨⟨c, u⟩, hi1, rfl⟩ : ∃ z, as.reverse[i]? = some z ∧ V.int z.1 = y := by
        cases h : as.reverse[i]? with
        | none => rw [h] at hi; cases hi
        | some z => rw [h] at hi; exact ⟨z, rfl, Option.some.inj hi⟩
      obtain ⟨uv, hu1, hu2⟩ := hat (c, u) (List.mem_reverse.mp (List.mem_of_getElem? hi1))
      have kk := (Kp.same e3).trans k
      refine ⟨_, _, S'.ins, machF_no (by decide +kernel), _, _, rfl, SqT.of (kk.kd.1 _ _ hta2), uv, hu1, M, most, deeds, n, _, Fd, L, u, e, uv, d, rfl, S', hu2.mono kk.kd.kt, hd2.mono kk (Nat.le_refl _), ?_, fun H4 k4 S4 => hN _ _ ⟨_, rfl, k.trans k4, ?_⟩⟩
      · simp only [List.length_append, List.length_map, List.length_take, List.length_reverse, List.length_singleton]; omega
      · rw [List.take_succ, hi1, List.map_append]
        rw [List.append_assoc] at S4
        exact S4
    · rintro σ H' ⟨o4, rfl, k, S'⟩
      rw [List.length_reverse, List.length_map, ← List.length_reverse (as := as), List.take_length] at S'
      exact q H' (k13.trans k) (by rw [hlr]; exact S')
  have hws2 := pr_mono hws fun _ _ h => h.mono k12.kd.kt
  cases t with
  | num _ => exact absurd rfl wn
  | name _ => exact absurd rfl wm
  | fn _ _ => exact absurd rfl wf
  | call a b =>
    cases hws2 with
    | cons h1 hw1 =>
      cases hw1 with
      | cons h2 hw2 =>
        cases hw2
        exact hgo [(1, a), (2, b)] (by simp [aheadL, Tr.word]) (fun p hp => by
          rcases List.mem_cons.mp hp with rfl | hp
          · exact ⟨_, at1 _ _ _, h1⟩
          · rw [List.mem_singleton.mp hp]; exact ⟨_, at2 _ _ _ _, h2⟩) (by simp) (by simp [lookR])
  | plus a b =>
    cases hws2 with
    | cons h1 hw1 =>
      cases hw1 with
      | cons h2 hw2 =>
        cases hw2
        exact hgo [(1, a), (2, b)] (by simp [aheadL, Tr.word]) (fun p hp => by
          rcases List.mem_cons.mp hp with rfl | hp
          · exact ⟨_, at1 _ _ _, h1⟩
          · rw [List.mem_singleton.mp hp]; exact ⟨_, at2 _ _ _ _, h2⟩) (by simp) (by simp [lookR])
  | less a b =>
    cases hws2 with
    | cons h1 hw1 =>
      cases hw1 with
      | cons h2 hw2 =>
        cases hw2
        exact hgo [(1, a), (2, b)] (by simp [aheadL, Tr.word]) (fun p hp => by
          rcases List.mem_cons.mp hp with rfl | hp
          · exact ⟨_, at1 _ _ _, h1⟩
          · rw [List.mem_singleton.mp hp]; exact ⟨_, at2 _ _ _ _, h2⟩) (by simp) (by simp [lookR])
  | ite c a b =>
    cases hws2 with
    | cons h1 hw1 =>
      exact hgo [(1, c)] (by simp [aheadL, Tr.word]) (fun p hp => by rw [List.mem_singleton.mp hp]; exact ⟨_, at1 _ _ _, h1⟩) (by simp) (by simp [lookR])
  | lt x a b =>
    cases hws2 with
    | cons h1 hw1 =>
      exact hgo [(2, a)] (by simp [aheadL, Tr.word]) (fun p hp => by rw [List.mem_singleton.mp hp]; exact ⟨_, at2 _ _ _ _, h1⟩) (by simp) (by simp [lookR])
theorem df_call (T : MTxt K w mg R aA cM cK) (F : FunM K cM "_do_call" "Machine._do_call" s_Machine__do_call) (M_Machine__look_later : Mt CX0 P w K mg base 1 cM "_look_later" (spLater cM cK)) : Mt (L2.CX P w) P w K mg base 2 cM "_do_call" (spCall cM cK R) := by
  refine F.mtX sc_Machine__do_call bd_Machine__do_call (fun vs H Q E h => ?_) (fun f cdv A outer s H vs Q E hr h => ?_)
  · obtain ⟨_, _, _, _, _, _, _, _, _, _, _, rfl, _⟩ := h; rfl
  obtain ⟨M, most, deeds, n, W, Fd, L, v, y, rv, ry, rfl, S, hv, hy, hn1, hn2, hWl, hok, hsz, q⟩ := h
  have nd := sc_Machine__do_call.nd
  have hu := hu_of hr
  refine ⟨_, (pss_cons (ps_if (pt_not (pt_val (pe_callB call_isi (by rfl) T.isinstance (by decide +kernel) (pa_cons (pv 1) (pa_cons (pe_gref (by rfl) T.cKept) pa_nil)))))
    (pss_one (ps_raise rfl (takes_of rfl rfl rfl rfl) (pmk_own PySem.F.excBase_ValueError T.NoFunction.inn T.NoFunction.c_ T.NoFunction.k T.NoFunction.r rfl)))
    pss_nil)
  (pss_cons (ps_set (i := 3) nd rfl (Or.inl rfl) (pe_dictZip (by rfl) T.dict (by rfl) T.zip (pa_cons (pe_fld (pv 1) rfl) (pa_cons (pe_fld (pv 1) rfl) pa_nil)) rfl))
  (pss_cons (ps_dput hu (pv 3) (pe_fld (pv 1) rfl) (pv 2) rfl)
  (pss_one (ps_expr (pe_me (E := E0) M_Machine__look_later hr (by decide) pass0 (pv 0) (pa_cons (pe_fld (pv 1) rfl) (pa_cons (pv 3) pa_nil)))))))), ?_⟩
  rw [st_Machine__do_call]
  refine ifq_ fun R1 A B hR1 hA hB => ?_
  walk_at "rd"
  cases v with
  | num k =>
    obtain ⟨rfl, h1⟩ := hv.isI T.K_
    refine isi_own h1 ?_
    rw [if_pos (by decide), hA]
    exact q H (Kp.refl _ _)
  | fn x b e =>
    refine isi_own (hv.isK T.K_) ?_
    rw [if_neg (by decide), hB]; clear hA hB
    obtain ⟨a, dx, ln, lh, tb, ns, hs, rfl, na, nn, nh, ha, hb, hln, hlh, hns, hel⟩ := hv
    walk_at "rd"
    rw [hR1]; clear hR1
    refine seq_ fun R1 hR1 => ?_
    walk_at "rd"
    have hsz' := hsz x b e rfl
    have hnl := freeNames_len (.fn x b)
    have hnd := freeNames_nodup (.fn x b)
    rw [← hns] at hnl hnd
    refine ⟨_, _, _, ha, T.K_.cl, T.K_.na "names", _, keptF_names _ _ _ _, _, _, _, ha, T.K_.cl, T.K_.na "held", _, keptF_held _ _ _ _, ln, rfl, lh, rfl, ns.map Sum.inr, ?_, hs, SqL.of hlh, by rw [List.length_map]; exact hel.len, fun d hd => ?_⟩
    · rw [List.map_map]; exact SqL.of hln
    rw [hR1]; clear hR1
    have hml := length_mergeK ((ns.map Sum.inr).zip hs : List (Key × V)) []
    rw [List.length_zip, List.length_map, List.length_nil] at hml
    have hd1 := upd_same (H := H) (a := d) (o := .dK (mergeK [] ((ns.map Sum.inr).zip hs)))
    refine seq_ fun R1 hR1 => ?_
    walk_at "rd"
    refine ⟨_, _, _, by rw [upd_ne (ne_of_none ha hd)]; exact ha, T.K_.cl, T.K_.na "name", _, keptF_name _ _ _ _, _, DPut.k (k := Sum.inr x) hd1 (szLt (by omega)), ?_⟩
    rw [hR1, upd_upd]; clear hR1
    have e2 : Same H (upd H d (.dK (putK (mergeK [] ((ns.map Sum.inr).zip hs)) (Sum.inr x) ry))) := same_new hd
    have hd2 := upd_same (H := H) (a := d) (o := .dK (putK (mergeK [] ((ns.map Sum.inr).zip hs)) (Sum.inr x) ry))
    generalize upd H d (.dK (putK (mergeK [] ((ns.map Sum.inr).zip hs)) (Sum.inr x) ry)) = H2 at *
    have hel2 := EnvL.mono (Kp.same e2) hel
    have hE : EnvD cK M.has H2 (n + 1) (.cons x y e) d := ⟨_, hd2, by have := length_putK (mergeK [] ((ns.map Sum.inr).zip hs)) (Sum.inr x : Key) ry; omega, fun z u hz => by
      have hz : (if z = x then some y else e.look z) = some u := hz
      rw [valV_put]
      by_cases hzx : z = x
      · subst hzx
        rw [if_pos rfl] at hz ⊢
        cases hz
        exact ⟨ry, rfl, hy.mono (Kp.same e2)⟩
      · rw [if_neg hzx] at hz
        rw [if_neg fun e => hzx (Sum.inr.inj e)]
        exact EnvL.dict hel2 hnd hz⟩
    walk_at "rd"
    have S2 := (S.ext e2).more (Nat.le_succ n)
    exact ⟨_, _, S2.ins, machF_no (by decide +kernel), _, _, _, e2 _ _ ha, T.K_.cl, T.K_.na "body", _, keptF_body _ _ _ _, M, most, deeds, n + 1, W, Fd, L, b, .cons x y e, tb, d, rfl, S2, hb.mono (same_kt e2), hE, hWl, fun H3 k3 S3 => q H3 ((Kp.same e2).trans k3) S3⟩
theorem df_deed (T : MTxt K w mg R aA cM cK) (F : FunM K cM "_do_deed" "Machine._do_deed" s_Machine__do_deed) (M_Machine__do_call : Mt (L2.CX P w) P w K mg base 2 cM "_do_call" (spCall cM cK R)) (M_Machine__look_later : Mt CX0 P w K mg base 1 cM "_look_later" (spLater cM cK))
    (D_number_machine : DfX P w K mg base 1 "number_machine" ["value"] (spNumM cK R)) (D_reckoned : Df P w K mg base 1 "reckoned" ["word", "first", "second"] spReckon) : Mt (L2.CX P w) P w K mg base 3 cM "_do_deed" (spDeed cM cK R) := by
  refine F.mtX sc_Machine__do_deed bd_Machine__do_deed (fun vs H Q E h => ?_) (fun f cdv A outer s H vs Q E hr h => ?_)
  · obtain ⟨_, _, _, _, _, _, _, _, _, _, _, _, _, rfl, _⟩ := h; rfl
  obtain ⟨M, most, deeds, n, W, Fd, F', L, t, e, tv, d, a, rfl, S, ht, hd, hn1, hn2, hWl, hFl, hFok, hcase, q⟩ := h
  have nd := sc_Machine__do_deed.nd
  have hu := hu_of hr
  refine ⟨_, (pss_cons (ps_set (i := 3) nd rfl (Or.inl rfl) (pe_ix ix_tup (pv 1) pe_int (fun _ _ => rfl)))
  (pss_cons (ps_set (i := 4) nd rfl (Or.inl rfl) (pe_bm0 PySem.F.plainAttrs_list PySem.F.slot_list_pop PySem.F.type_list_pop mt_popL (pe_fld (pv 0) rfl)))
  (pss_one (ps_if (pt_cmpR op_eq (pv 3) pe_str (nomark _))
    (pss_one (ps_expr (pe_me (E := E) M_Machine__do_call hr (by decide) (passes_call (takes_of rfl rfl rfl rfl) fun _ _ _ _ h => h) (pv 0) (pa_cons (pe_bm0 PySem.F.plainAttrs_list PySem.F.slot_list_pop PySem.F.type_list_pop mt_popL (pe_fld (pv 0) rfl)) (pa_cons (pv 4) pa_nil)))))
    (pss_one (ps_if (pt_cmpR op_eq (pv 3) pe_str (nomark _))
        (pss_one (ps_expr (pe_me (E := E0) M_Machine__look_later hr (by decide) pass0 (pv 0) (pa_cons (pe_ix ix_tup (pv 1) pe_int (fun _ _ => rfl)) (pa_cons (pe_mrg (pv 2) (pe_ix ix_tup (pv 1) pe_int (fun _ _ => rfl)) (pv 4)) pa_nil)))))
        (pss_one (ps_if (pt_cmpR op_eq (pv 3) pe_str (nomark _))
            (pss_one (ps_expr (pe_me (E := E0) M_Machine__look_later hr (by decide) pass0 (pv 0) (pa_cons (pe_ix ix_tup (pv 1) (pe_ifExp (pt_cmpR op_eq (pe_callXP (E := E) D_number_machine hr (by decide) rfl (passes_call (takes_of rfl rfl rfl rfl) fun _ _ _ _ h => h) (pa_cons (pv 4) pa_nil)) pe_int (nomark _)) pe_int pe_int) (fun _ _ => rfl)) (pa_cons (pv 2) pa_nil)))))
            (pss_one (ps_expr (pe_bm PySem.F.plainAttrs_list PySem.F.slot_list_append PySem.F.type_list_append mt_append (pe_fld (pv 0) rfl) (pa_cons (pe_callD D_reckoned hr (by decide) rfl (pa_cons (pv 3) (pa_cons (pe_callXP (E := E) D_number_machine hr (by decide) rfl (passes_call (takes_of rfl rfl rfl rfl) fun _ _ _ _ h => h) (pa_cons (pe_bm0 PySem.F.plainAttrs_list PySem.F.slot_list_pop PySem.F.type_list_pop mt_popL (pe_fld (pv 0) rfl)) pa_nil)) (pa_cons (pe_callXP (E := E) D_number_machine hr (by decide) rfl (passes_call (takes_of rfl rfl rfl rfl) fun _ _ _ _ h => h) (pa_cons (pv 4) pa_nil)) pa_nil)))) pa_nil)))))))))))), ?_⟩
  rw [st_Machine__do_deed]
  refine seq_ fun R1 hR1 => ?_
  walk_at "rd"
  obtain ⟨ta, ws, rfl, hta, hws⟩ := ht.view
  refine ⟨ta, rfl, _, SqT.of hta, _, at0 _ _, ?_⟩
  rw [hR1]; clear hR1
  refine seq_ fun R1 hR1 => ?_
  walk_at "rd"
  obtain ⟨fs, hfs, pfs⟩ := S.fs
  obtain ⟨G, y, rfl⟩ : ∃ G y, Fd = G ++ [y] := by
    rcases hcase with ⟨_, v, w', rfl, _⟩ | ⟨_, w', rfl, _⟩
    · exact ⟨_, _, rfl⟩
    · exact ⟨_, _, rfl⟩
  obtain ⟨gs, ry, rfl, pgs, hy⟩ : ∃ gs ry, fs = gs ++ [ry] ∧ Paired (KVm cK M.has H) G gs ∧ KVm cK M.has H y ry := by
    rcases List.eq_nil_or_concat fs with e0 | ⟨gs, ry, e0⟩
    · subst e0
      have := pr_len pfs
      simp at this
    · rw [List.concat_eq_append] at e0
      subst e0
      obtain ⟨us', u', e1, h1, h2⟩ := pr_snoc pfs
      obtain ⟨rfl, e3⟩ := List.append_inj' e1 rfl
      obtain rfl : y = u' := by simpa using e3
      exact ⟨gs, ry, rfl, h1, h2⟩
  refine ⟨_, _, _, S.ins, T.M_.cl, T.M_.na "found", _, machF_found _ _ _, .inl ⟨rfl, _, SqL.of hfs⟩, _, rfl, _, _, hfs, ?_⟩
  rw [hR1]; clear hR1
  obtain ⟨k1, m1⟩ := S.setF (vs := gs) (F' := G)
  have S1 := m1 (pr_mono pgs fun _ _ h => h.mono k1)
  have hy1 := hy.mono k1
  have hta1 := k1.kd.1 _ _ hta
  have ht1 := ht.mono k1.kd.kt
  have hd1 := hd.mono k1 (Nat.le_refl _)
  generalize upd H M.lf (.lst gs) = H1 at *
  have hws1 := pr_mono hws fun _ _ h => h.mono k1.kd.kt
  -- what the deed's second value is popped for
  have pop2 : ∀ v : Val, G = F' ++ [v] → ∃ gs2 rv, H1 M.lf = some (.lst (gs2 ++ [rv])) ∧ Kp M.has H1 (upd H1 M.lf (.lst gs2)) ∧ MachAt cM cK M (upd H1 M.lf (.lst gs2)) most deeds n W F' L ∧ KVm cK M.has (upd H1 M.lf (.lst gs2)) v rv := by
    rintro v rfl
    obtain ⟨fs2, hfs2, pfs2⟩ := S1.fs
    rcases List.eq_nil_or_concat fs2 with e0 | ⟨gs2, rv, e0⟩
    · subst e0
      have := pr_len pfs2
      simp at this
    rw [List.concat_eq_append] at e0
    subst e0
    obtain ⟨us', u', e1, h1, h2⟩ := pr_snoc pfs2
    obtain ⟨rfl, e3⟩ := List.append_inj' e1 rfl
    obtain rfl : v = u' := by simpa using e3
    obtain ⟨k2, m2⟩ := S1.setF (vs := gs2) (F' := F')
    exact ⟨gs2, rv, hfs2, k2, m2 (pr_mono h1 fun _ _ h => h.mono k2), h2.mono k2⟩
  refine ifs_ fun A B hA hB => ?_
  walk_at "rd"
  by_cases wc : t.word = "call"
  · rw [if_pos (by rw [wc]), hA]; clear hA hB
    obtain ⟨g, b, rfl⟩ : ∃ g b, t = .call g b := by cases t <;> first | exact ⟨_, _, rfl⟩ | (simp only [Tr.word] at wc; exact absurd wc (by decide +kernel))
    obtain ⟨v, hGv, ha⟩ : ∃ v, G = F' ++ [v] ∧ a = do2 (.call g b) v y := by
      rcases hcase with ⟨_, v, w', e1, e2⟩ | ⟨h, _⟩
      · obtain ⟨e3, e4⟩ := List.append_inj' e1 rfl
        obtain rfl : y = w' := by simpa using e4
        exact ⟨v, e3, e2⟩
      · cases h
    walk_at "rd"
    obtain ⟨gs2, rv, hfs2, k2, S2, hv⟩ := pop2 v hGv
    refine ⟨_, _, S1.ins, machF_no (by decide +kernel), _, _, _, S1.ins, T.M_.cl, T.M_.na "found", _, machF_found _ _ _, .inl ⟨rfl, _, SqL.of hfs2⟩, _, rfl, _, _, hfs2, ?_⟩
    generalize upd H1 M.lf (.lst gs2) = H2 at *
    subst hGv
    have hF := hFok v (by simp)
    refine ⟨M, most, deeds, n, W, F', L, v, y, rv, ry, rfl, S2, hv, hy1.mono k2, hn1, hn2, hWl, hF.1, hF.2, ?_⟩
    rw [show do2 (.call (.num 0) (.num 0)) v y = do2 (.call g b) v y from by cases v <;> rfl, ← ha]
    exact q.mono (k1.trans k2)
  rw [if_neg (by simp [wc]), hB]; clear hA hB
  refine ifs_ fun A B hA hB => ?_
  walk_at "rd"
  by_cases wl : t.word = "let"
  · rw [if_pos (by rw [wl]), hA]; clear hA hB
    obtain ⟨x, c, b, rfl⟩ := word_let wl
    obtain ⟨rfl, ha⟩ : G = F' ∧ a = do1 (.lt x c b) e y := by
      rcases hcase with ⟨h, _⟩ | ⟨_, w', e1, e2⟩
      · cases h
      · obtain ⟨e3, e4⟩ := List.append_inj' e1 rfl
        obtain rfl : y = w' := by simpa using e4
        exact ⟨e3, e2⟩
    walk_at "rd"
    cases hws1 with
    | cons h1 hw1 =>
      cases hw1 with
      | cons h2 hw2 =>
        cases hw2
        obtain ⟨kvs, hdk, hkl, hkv⟩ := hd1
        refine ⟨_, _, S1.ins, machF_no (by decide +kernel), _, SqT.of hta1, _, atI_nat (j := 3) rfl, fun D hD => ?_⟩
        walk_at "rd"
        have hDd : d ≠ D := ne_of_none hdk hD
        refine ⟨upd_same, kvs, by rw [upd_ne hDd]; exact hdk, hDd, by rw [sizeLine_eq]; omega, fun D2 hD2 => ?_⟩
        rw [upd_upd] at hD2 ⊢
        have eD : Same H1 (upd H1 D (.dK kvs)) := same_new hD
        have hD1 := upd_same (H := H1) (a := D) (o := .dK kvs)
        have e2 : Same H1 (upd (upd H1 D (.dK kvs)) D2 (.dK [])) := eD.trans (same_new hD2)
        have hDD : D ≠ D2 := ne_of_none hD1 hD2
        refine ⟨_, SqT.of (e2 _ _ hta1), _, at1 _ _ _, Sum.inr x, rfl, by rw [upd_ne hDD]; exact hD1, upd_same, ?_⟩
        rw [upd_upd]
        have e3 : Same H1 (upd (upd (upd H1 D (.dK kvs)) D2 (.dK [(Sum.inr x, ry)])) D (.dK (putK kvs (Sum.inr x) ry))) := same_mut (eD.trans (same_new hD2)) hD
        have h3 := upd_same (H := upd (upd H1 D (.dK kvs)) D2 (.dK [(Sum.inr x, ry)])) (a := D) (o := .dK (putK kvs (Sum.inr x) ry))
        show spLater cM cK _ (upd (upd (upd H1 D (.dK kvs)) D2 (.dK [(Sum.inr x, ry)])) D (.dK (putK kvs (Sum.inr x) ry))) _ _
        generalize upd (upd (upd H1 D (.dK kvs)) D2 (.dK [(Sum.inr x, ry)])) D (.dK (putK kvs (Sum.inr x) ry)) = H3 at *
        have S3 := (S1.ext e3).more (Nat.le_succ n)
        have hE : EnvD cK M.has H3 (n + 1) (.cons x y e) D := ⟨_, h3, by have := length_putK kvs (Sum.inr x : Key) ry; omega, fun z u hz => by
          have hz : (if z = x then some y else e.look z) = some u := hz
          rw [valV_put]
          by_cases hzx : z = x
          · subst hzx
            rw [if_pos rfl] at hz ⊢
            cases hz
            exact ⟨ry, rfl, hy1.mono (Kp.same e3)⟩
          · rw [if_neg hzx] at hz
            rw [if_neg fun e => hzx (Sum.inr.inj e)]
            obtain ⟨r, hr1, hr2⟩ := hkv z u hz
            exact ⟨r, hr1, hr2.mono (Kp.same e3)⟩⟩
        rw [ha, show do1 (.lt x c b) e y = .look (.cons x y e) b from by cases y <;> rfl] at q
        exact ⟨M, most, deeds, n + 1, W, G, L, b, .cons x y e, _, D, rfl, S3, h2.mono (same_kt e3), hE, hWl, fun H4 k4 S4 => q H4 (k1.trans ((Kp.same e3).trans k4)) S4⟩
  rw [if_neg (by simp [wl]), hB]; clear hA hB
  refine ifs_ fun A B hA hB => ?_
  walk_at "rd"
  by_cases wi : t.word = "if"
  · rw [if_pos (by rw [wi]), hA]; clear hA hB
    obtain ⟨c, b1, b2, rfl⟩ : ∃ c b1 b2, t = .ite c b1 b2 := by cases t <;> first | exact ⟨_, _, _, rfl⟩ | (simp only [Tr.word] at wi; exact absurd wi (by decide +kernel))
    obtain ⟨rfl, ha⟩ : G = F' ∧ a = do1 (.ite c b1 b2) e y := by
      rcases hcase with ⟨h, _⟩ | ⟨_, w', e1, e2⟩
      · cases h
      · obtain ⟨e3, e4⟩ := List.append_inj' e1 rfl
        obtain rfl : y = w' := by simpa using e4
        exact ⟨e3, e2⟩
    walk_at "rd"
    refine ⟨_, _, S1.ins, machF_no (by decide +kernel), M.has, y, ry, rfl, hy1, ?_⟩
    rw [ha] at q
    cases y with
    | fn _ _ _ => exact q H1 k1
    | num k =>
      dsimp only
      cases hws1 with
      | cons h1 hw1 =>
        cases hw1 with
        | cons h2 hw2 =>
          cases hw2 with
          | cons h3 hw3 =>
            cases hw3
            have S2 := S1.more (Nat.le_succ n)
            have hd2 := hd1.mono (Kp.refl _ _) (Nat.le_succ n)
            have q : ∀ H', Kp M.has H H' → MachAt cM cK M H' most deeds (n + 1) (W ++ [⟨if k = 0 then b2 else b1, e, false⟩]) G L → Q .non H' := q
            refine ⟨rfl, ?_⟩
            by_cases h0 : k = 0
            · rw [if_pos (by rw [h0])]
              rw [if_pos h0] at q
              exact ⟨_, SqT.of hta1, _, atI_nat (j := 3) rfl, M, most, deeds, n + 1, W, G, L, b2, e, _, d, rfl, S2, h3, hd2, hWl, fun H4 k4 S4 => q H4 (k1.trans k4) S4⟩
            · rw [if_neg (by simpa using h0)]
              rw [if_neg h0] at q
              exact ⟨_, SqT.of hta1, _, at2 _ _ _ _, M, most, deeds, n + 1, W, G, L, b1, e, _, d, rfl, S2, h2, hd2, hWl, fun H4 k4 S4 => q H4 (k1.trans k4) S4⟩
  rw [if_neg (by simp [wi]), hB]; clear hA hB
  walk_at "rd"
  obtain ⟨v, hGv, ha⟩ : ∃ v, G = F' ++ [v] ∧ a = do2 t v y := by
    rcases hcase with ⟨_, v, w', e1, e2⟩ | ⟨h, _⟩
    · obtain ⟨e3, e4⟩ := List.append_inj' e1 rfl
      obtain rfl : y = w' := by simpa using e4
      exact ⟨v, e3, e2⟩
    · cases t <;> first | exact absurd rfl wl | exact absurd rfl wi | exact absurd h Bool.false_ne_true
  have hop : (∃ b c, t = .plus b c) ∨ ∃ b c, t = .less b c := by
    rcases hcase with ⟨h, _⟩ | ⟨h, _⟩
    · cases t <;> first | exact .inl ⟨_, _, rfl⟩ | exact .inr ⟨_, _, rfl⟩ | exact absurd rfl wc | exact absurd h Bool.false_ne_true
    · cases t <;> first | exact absurd rfl wl | exact absurd rfl wi | exact absurd h Bool.false_ne_true
  obtain ⟨fs1, hfs1, pfs1⟩ := S1.fs
  obtain ⟨gs2, rv, hfs2, k2, S2, hv⟩ := pop2 v hGv
  refine ⟨_, _, _, S1.ins, T.M_.cl, T.M_.na "found", _, machF_found _ _ _, .inl ⟨rfl, _, SqL.of hfs1⟩, _, _, _, S1.ins, T.M_.cl, T.M_.na "found", _, machF_found _ _ _, .inl ⟨rfl, _, SqL.of hfs2⟩, _, rfl, _, _, hfs2, ?_⟩
  clear hfs1 pfs1
  generalize upd H1 M.lf (.lst gs2) = H2 at *
  have q2 := q.mono (k1.trans k2)
  have hy2 := hy1.mono k2
  have hG2 : F'.length ≤ 2000000 := by
    rw [hGv] at hFl
    simp only [List.length_append, List.length_singleton] at hFl
    omega
  refine ⟨M.has, v, rv, rfl, hv, ?_⟩
  rw [ha] at q2
  cases v with
  | fn _ _ _ =>
    have q2 : ∀ H', Kp M.has H2 H' → E (.ref (R.cls .number)) none H' := by
      rcases hop with ⟨b, c, rfl⟩ | ⟨b, c, rfl⟩ <;> exact q2
    exact q2 H2 (Kp.refl _ _)
  | num i =>
    dsimp only
    refine ⟨M.has, y, ry, rfl, hy2, ?_⟩
    cases y with
    | fn _ _ _ =>
      have q2 : ∀ H', Kp M.has H2 H' → E (.ref (R.cls .number)) none H' := by
        rcases hop with ⟨b, c, rfl⟩ | ⟨b, c, rfl⟩ <;> exact q2
      exact q2 H2 (Kp.refl _ _)
    | num j =>
      dsimp only
      have q2 : ∀ H', Kp M.has H2 H' → MachAt cM cK M H' most deeds (n + 1) W (F' ++ [.num (if t.word = "plus" then i + j else i - j)]) L → Q .non H' := by
        rcases hop with ⟨b, c, rfl⟩ | ⟨b, c, rfl⟩
        · rw [if_pos (show (Tr.plus b c).word = "plus" from rfl)]; exact q2
        · rw [if_neg (show ¬ (Tr.less b c).word = "plus" from by simp only [Tr.word]; decide +kernel)]; exact q2
      obtain ⟨fs2, hfs2, pfs2⟩ := S2.fs
      obtain ⟨k3, m3⟩ := (S2.more (Nat.le_succ n)).setF (vs := fs2 ++ [.int (if t.word = "plus" then i + j else i - j)]) (F' := F' ++ [.num (if t.word = "plus" then i + j else i - j)])
      exact ⟨_, _, _, rfl, _, rfl, _, hfs2, by rw [← pr_len pfs2, sizeLine_eq]; omega, q2 _ k3 (m3 (pr_append (pr_mono pfs2 fun _ _ h => h.mono k3) (.cons rfl .nil)))⟩
theorem df_workout (T : MTxt K w mg R aA cM cK) (F : FunM K cM "work_out" "Machine.work_out" s_Machine_work_out) (M_Machine__do_deed : Mt (L2.CX P w) P w K mg base 3 cM "_do_deed" (spDeed cM cK R)) (M_Machine__look : Mt CX0 P w K mg base 5 cM "_look" (spLook cM cK))
    (M_Machine__look_later : Mt CX0 P w K mg base 1 cM "_look_later" (spLater cM cK)) (D_need_deed : DfX P w K mg base 1 "need_deed" ["done", "most"] (spLeft R)) : Mt (L2.CX P w) P w K mg base 6 cM "work_out" (spWorkOut cM cK R) := by
  refine F.mtX sc_Machine_work_out bd_Machine_work_out (fun vs H Q E h => ?_) (fun f cdv A outer s H vs Q E hr h => ?_)
  · obtain ⟨_, _, _, _, rfl, _⟩ := h; rfl
  obtain ⟨M, most, t, tv, rfl, S, ht, hc, hz, hm, q⟩ := h
  have nd := sc_Machine_work_out.nd
  refine ⟨_, (pss_cons (ps_expr (pe_me (E := E0) M_Machine__look_later hr (by decide) pass0 (pv 0) (pa_cons (pv 1) (pa_cons pe_dnewK pa_nil))))
  (pss_cons (ps_while (passes_of rfl) (pt_truth (pe_fld (pv 0) rfl) (by intro _; rfl))
    (pss_cons (ps_asg (pe_bm0 PySem.F.plainAttrs_list PySem.F.slot_list_pop PySem.F.type_list_pop mt_popL (pe_fld (pv 0) rfl)) (pg_tup rfl (pgs_cons (pg_name (i := 2) nd rfl (Or.inl rfl)) (pgs_cons (pg_name (i := 3) nd rfl (Or.inl rfl)) (pgs_cons (pg_name (i := 4) nd rfl (Or.inl rfl)) pgs_nil)))))
      (pss_one (ps_if (pt_val (pv 4))
        (pss_cons (ps_expr (pe_callXP (E := E) D_need_deed hr (by decide) rfl (passes_call (takes_of rfl rfl rfl rfl) fun _ _ _ _ h => h) (pa_cons (pe_fld (pv 0) rfl) (pa_cons (pe_fld (pv 0) rfl) pa_nil))))
          (pss_cons (ps_expr (pe_me (E := E) M_Machine__do_deed hr (by decide) (passes_call (takes_of rfl rfl rfl rfl) fun _ _ _ _ h => h) (pv 0) (pa_cons (pv 2) (pa_cons (pv 3) pa_nil))))
          (pss_one (ps_fldaug (pv 0) pe_int in_add))))
        (pss_one (ps_expr (pe_me (E := E0) M_Machine__look hr (by decide) pass0 (pv 0) (pa_cons (pv 2) (pa_cons (pv 3) pa_nil)))))))))
  (pss_one (ps_ret (pe_bm0 PySem.F.plainAttrs_list PySem.F.slot_list_pop PySem.F.type_list_pop mt_popL (pe_fld (pv 0) rfl)))))), ?_⟩
  rw [st_Machine_work_out]
  refine seq_ fun R1 hR1 => ?_
  walk_at "rd"
  refine ⟨_, _, S.ins, machF_no (by decide +kernel), new_ fun d H1 hd e1 h1 => ⟨M, most, 0, 500, [], [], [], t, .nil, tv, d, rfl, S.ext e1, ht.mono (same_kt e1), ⟨[], h1, Nat.zero_le _, fun x v hx => by cases hx⟩, Nat.zero_le _, fun H2 k2 S2 => ?_⟩⟩
  have k02 := (Kp.same (A := M.has) e1).trans k2
  rw [hR1]; clear hR1
  refine seq_ fun R1 hR1 => ?_
  refine whileF_ (fun k σ H' => ∃ (W : List MI) (Fd L : List Val) (m : Nat) (o2 o3 o4 : Option V), σ = [some (.ref M.aM), some tv, o2, o3, o4] ∧ Kp M.has H H' ∧ MachAt cM cK M H' most (most - m) (500 + (most - m)) W Fd L ∧
    MInv t most (evF most .nil t) W.reverse Fd m L ∧ k = wtM W + 1201 * m) (3 * t.size + 1201 * most) ?_ ?_
  · refine ⟨[⟨t, .nil, false⟩], [], [], most, none, none, none, rfl, k02, by rw [Nat.sub_self]; exact S2, MInv.start hc hz, ?_⟩
    rfl
  · rintro k σ H3 ⟨W, Fd, L, m, o2, o3, o4, rfl, k3, S3, I3, rfl⟩
    obtain ⟨ws, hws, pws⟩ := S3.ws
    refine ⟨!ws.isEmpty, fun Q' hQ => ?_, fun h0 => ?_, fun h0 N hN => ?_⟩
    · walk_at "rd"
      exact ⟨_, _, _, S3.ins, T.M_.cl, T.M_.na "waiting", _, machF_waiting _ _ _, _, truL hws, hQ⟩
    · obtain rfl : ws = [] := by cases ws <;> first | rfl | cases h0
      cases pws
      obtain ⟨v, rfl, hres, hv⟩ := I3.done
      rw [hres] at q
      show R1 _ _
      rw [hR1]
      walk_at "rd"
      obtain ⟨fs, hfs, pfs⟩ := S3.fs
      cases pfs with
      | cons h1 h2 =>
        cases h2
        obtain ⟨k4, m4⟩ := S3.setF (vs := []) (F' := [])
        refine ⟨_, _, _, S3.ins, T.M_.cl, T.M_.na "found", _, machF_found _ _ _, .inl ⟨rfl, _, SqL.of hfs⟩, _, rfl, [], _, hfs, ?_⟩
        exact q _ _ _ (k3.trans k4) (h1.mono k4) (m4 .nil)
    · rcases List.eq_nil_or_concat ws with e0 | ⟨ys, y, e0⟩
      · subst e0; cases h0
      rw [List.concat_eq_append] at e0
      subst e0
      obtain ⟨us, i, rfl, pus, hi⟩ := pr_snoc pws
      refine seq_ fun R2 hR2 => ?_
      walk_at "rd"
      refine ⟨_, _, _, S3.ins, T.M_.cl, T.M_.na "waiting", _, machF_waiting _ _ _, .inl ⟨rfl, _, SqL.of hws⟩, _, rfl, _, _, hws, ?_⟩
      obtain ⟨k4, m4⟩ := S3.setW (vs := ys) (W' := us)
      have S4 := m4 (pr_mono pus fun _ _ h => h.mono k4 (Nat.le_refl _))
      have hi4 := hi.mono k4 (Nat.le_refl _)
      have k34 := k3.trans k4
      generalize upd H3 M.lw (.lst ys) = H4 at *
      obtain ⟨it, ie, ir⟩ := i
      obtain ⟨p, nv, d', rfl, hp, hnt, hnd⟩ := hi4
      dsimp only at hp hnt hnd
      refine ⟨_, rfl, _, SqT.of hp, rfl, _, _, rfl, _, _, rfl, _, _, rfl, rfl, ?_⟩
      rw [hR2]; clear hR2
      rw [List.reverse_append, List.reverse_singleton, List.singleton_append] at I3
      obtain ⟨l1, l2, l3, l4⟩ := I3.lens hm
      rw [List.length_cons, List.length_reverse] at l1
      refine ifs_ fun A B hA hB => ?_
      walk_at "rd"
      cases ir with
      | false =>
        rw [if_neg (by decide), hB]; clear hA hB
        walk_at "rd"
        obtain ⟨I5, hlt⟩ := I3.lookR
        have hio := I3.item
        have hsz := hio.t_in.size
        refine ⟨_, _, S4.ins, machF_no (by decide +kernel), M, most, most - m, 500 + (most - m), us, Fd, L, it, ie, nv, d', rfl, S4, hnt, hnd, hio.cov, by dsimp only at hsz; omega, by omega, by omega, by omega, fun H5 k5 S5 => hN _ _ _ ?_ ⟨_, _, _, m, _, _, _, rfl, k34.trans k5, S5, I5, rfl⟩⟩
        omega
      | true =>
        rw [if_pos rfl, hA]; clear hA hB
        refine seq_ fun R2 hR2 => ?_
        walk_at "rd"
        refine ⟨_, _, _, S4.ins, T.M_.cl, T.M_.na "deeds", _, machF_deeds _ _ _, _, _, _, S4.ins, T.M_.cl, T.M_.na "most", _, machF_most _ _ _, most - m, most, rfl, fun hlt => ?_, fun hge => ?_⟩
        · obtain ⟨m', rfl⟩ : ∃ m', m = m' + 1 := ⟨m - 1, by omega⟩
          rw [hR2]; clear hR2
          refine seq_ fun R2 hR2 => ?_
          walk_at "rd"
          obtain ⟨F', a, hcase, hnext⟩ := I3.deed
          have hgo : ∀ (H5 : Hp) (W' : List MI) (F2 : List Val), Kp M.has H4 H5 → MachAt cM cK M H5 most (most - (m' + 1)) (500 + (most - (m' + 1)) + 1) W' F2 L → MInv t most (evF most .nil t) W'.reverse F2 m' L → wtM W' + 1201 * m' < wtM (us ++ [⟨it, ie, true⟩]) + 1201 * (m' + 1) →
              R2 [some (.ref M.aM), some tv, some nv, some (.ref d'), some (.bl true)] H5 := by
            intro H5 W' F2 k5 S5 I5 hlt5
            rw [hR2]
            walk_at "rd"
            obtain ⟨k6, S6⟩ := S5.setD (most - m')
            have hle := I3.le
            have e6 : ((most - (m' + 1) : Nat) : Int) + 1 = ((most - m' : Nat) : Int) := by omega
            refine ⟨_, _, _, S5.ins, T.M_.cl, T.M_.na "deeds", _, machF_deeds _ _ _, _, rfl, _, _, S5.ins, (show 5 < 1000 by decide), ?_⟩
            rw [e6, machF_put]
            refine hN _ _ _ hlt5 ⟨W', F2, L, m', _, _, _, rfl, (k34.trans k5).trans k6, ?_, I5, rfl⟩
            have e7 : 500 + (most - (m' + 1)) + 1 = 500 + (most - m') := by omega
            rw [e7] at S6
            exact S6
          have hw0 : wtM (us ++ [⟨it, ie, true⟩]) = wtM us + 1 := by rw [wtM_append]; rfl
          refine ⟨_, _, S4.ins, machF_no (by decide +kernel), M, most, most - (m' + 1), 500 + (most - (m' + 1)), us, Fd, F', L, it, ie, nv, d', a, rfl, S4, hnt, hnd, by omega, by omega, by omega, by omega, I3.fsz, hcase, ?_⟩
          cases a with
          | err c =>
            rw [hnext] at q
            exact fun H5 k5 => q H5 (k34.trans k5)
          | val u => exact fun H5 k5 S5 => hgo H5 us _ k5 S5 hnext (by rw [hw0]; omega)
          | look e' b =>
            refine fun H5 k5 S5 => hgo H5 _ _ k5 S5 (by simpa using hnext) ?_
            have hb := (hnext.items _ List.mem_cons_self).t_in.size
            have e8 : wtM (us ++ [⟨b, e', false⟩]) = wtM us + 3 * b.size := by rw [wtM_append]; rfl
            dsimp only at hb
            rw [hw0, e8]
            omega
        · have hle := I3.le
          obtain rfl : m = 0 := by omega
          rw [I3.dry] at q
          exact q H4 k34
end

abbrev s_parts : Stmt := topS 20
abbrev N_parts : List Str := ["tree"]
theorem sc_parts : FnScope N_parts ["tree"] (defScope s_parts) := ⟨rfl, rfl, rfl, by decide +kernel, rfl, by decide +kernel, by decide +kernel⟩
theorem bd_parts : BindAll "parts" s_parts ["tree"] := fun _ _ _ _ _ _ us hl => match us, hl with | [_], _ => rfl
theorem st_parts (v0 : V) : start N_parts [v0] = [some v0] := rfl
abbrev s_need_tree : Stmt := topS 19
abbrev N_need_tree : List Str := ["tree", "count", "waiting", "node"]
theorem sc_need_tree : FnScope N_need_tree ["tree"] (defScope s_need_tree) := ⟨rfl, rfl, rfl, by decide +kernel, rfl, by decide +kernel, by decide +kernel⟩
theorem bd_need_tree : BindAll "need_tree" s_need_tree ["tree"] := fun _ _ _ _ _ _ us hl => match us, hl with | [_], _ => rfl
theorem st_need_tree (v0 : V) : start N_need_tree [v0] = [some v0, none, none, none] := rfl
abbrev s__is_node : Stmt := topS 23
abbrev N__is_node : List Str := ["node", "word"]
theorem sc__is_node : FnScope N__is_node ["node"] (defScope s__is_node) := ⟨rfl, rfl, rfl, by decide +kernel, rfl, by decide +kernel, by decide +kernel⟩
theorem bd__is_node : BindAll "_is_node" s__is_node ["node"] := fun _ _ _ _ _ _ us hl => match us, hl with | [_], _ => rfl
theorem st__is_node (v0 : V) : start N__is_node [v0] = [some v0, none] := rfl
abbrev s__is_number : Stmt := topS 24
abbrev N__is_number : List Str := ["n"]
theorem sc__is_number : FnScope N__is_number ["n"] (defScope s__is_number) := ⟨rfl, rfl, rfl, by decide +kernel, rfl, by decide +kernel, by decide +kernel⟩
theorem bd__is_number : BindAll "_is_number" s__is_number ["n"] := fun _ _ _ _ _ _ us hl => match us, hl with | [_], _ => rfl
theorem st__is_number (v0 : V) : start N__is_number [v0] = [some v0] := rfl
abbrev s__is_name : Stmt := topS 25
abbrev N__is_name : List Str := ["x", "sign"]
theorem sc__is_name : FnScope N__is_name ["x"] (defScope s__is_name) := ⟨rfl, rfl, rfl, by decide +kernel, rfl, by decide +kernel, by decide +kernel⟩
theorem bd__is_name : BindAll "_is_name" s__is_name ["x"] := fun _ _ _ _ _ _ us hl => match us, hl with | [_], _ => rfl
theorem st__is_name (v0 : V) : start N__is_name [v0] = [some v0, none] := rfl
section
variable {P : Program} {w : World} {K : PySem.W.Frag} {mg : Str → Option Value} {base : Heap} {aL aS cT : Addr}
theorem df_num (T : PTxt K w mg aL aS cT) (F : FunAt K mg "_is_number" s__is_number) : Df P w K mg base 1 "_is_number" ["n"] spNum := by
  refine F.df sc__is_number bd__is_number (fun vs H Q E h => ?_) (fun f cdv A outer s H vs Q E hr h => ?_)
  · obtain ⟨_, rfl, _⟩ := h; rfl
  obtain ⟨v, rfl, ⟨n, hn⟩, q⟩ := h
  have nd := sc__is_number.nd
  refine ⟨_, (pss_one (ps_ret (pe_and (pe_cmpR op_isTy (pe_typeOf (by rfl) T.type (pv 0)) (pe_bltn (v := .ty "int") (by rfl) T.int (by decide +kernel) rfl) (nomark _)) (pe_one (pe_chain op_lt op_lt (pe_un un_neg (pe_gint (by rfl) T.TOO_GREAT)) (pv 0) (pe_gint (by rfl) T.TOO_GREAT)))))), ?_⟩
  rw [st__is_number]
  walk_at "rd"
  refine ⟨n, hn, ?_⟩
  refine ⟨n, rfl, ?_⟩
  by_cases hi : n = "int"
  · subst hi
    obtain ⟨i, rfl⟩ := zTy_int hn
    rw [if_pos rfl]
    refine ⟨i, rfl, ?_⟩
    have e : numV (.int i) = (decide (-10 ^ 60 < i) && decide (i < 10 ^ 60)) := rfl
    by_cases h1 : -10 ^ 60 < i
    · rw [if_pos h1]
      rw [e, decide_eq_true h1, Bool.true_and] at q
      exact ⟨i, rfl, q⟩
    · rw [if_neg h1]
      rw [e, decide_eq_false h1, Bool.false_and] at q
      exact q
  · rw [if_neg hi]
    rw [num_no hn hi] at q
    exact q
theorem df_isname (T : PTxt K w mg aL aS cT) (F : FunAt K mg "_is_name" s__is_name) : Df P w K mg base 1 "_is_name" ["x"] spIsName := by
  refine F.df sc__is_name bd__is_name (fun vs H Q E h => ?_) (fun f cdv A outer s H vs Q E hr h => ?_)
  · obtain ⟨_, rfl, _⟩ := h; rfl
  obtain ⟨v, rfl, ⟨n, hn⟩, hx, q⟩ := h
  have nd := sc__is_name.nd
  refine ⟨_, (pss_cons (ps_if (PW.pt (pw_or (pt_cmpR op_isNotTy (pe_typeOf (by rfl) T.type (pv 0)) (pe_bltn (v := .ty "str") (by rfl) T.str (by decide +kernel) rfl) (nomark _)) (pw_or1 (pt_not (pt_chain op_le op_le pe_int (pe_callB call_len_str (by rfl) T.len PySem.boot_len (pa_cons (pv 0) pa_nil)) (pe_gint (by rfl) T.MOST_SIGNS))))))
    (pss_one (ps_ret pe_bl))
    pss_nil)
  (pss_one (ps_ret (pe_and (pe_cmpR (op_notIn_kde T.KLENGTHS) (pv 0) (pe_gref (by rfl) T.LENGTHS) rfl) (pe_one (pe_callB (cr_all rfl) (by rfl) T.all (by decide +kernel) (pa_cons (pe_lc (own := [("sign", 1)]) (g := gName 1) rfl nd (pi_str (pv 0)) (blkOk_by (N := N__is_name) (sc := defScope s__is_name) (by decide +kernel)) (fun _ _ _ _ _ => (pg_name (i := 1) nd rfl (Or.inl rfl))) (fun _ _ _ _ _ => pts_nil) (fun _ _ _ _ _ => (pe_cmpR op_in_sign (pv 1) (pe_gstr (by rfl) T.SIGNS) rfl))) pa_nil))))))), ?_⟩
  rw [st__is_name]
  refine seq_ fun R hR => ?_
  walk_at "rd"
  refine ⟨n, hn, n, rfl, ?_⟩
  by_cases hi : n = "str"
  · subst hi
    obtain ⟨x, rfl⟩ := zTy_str hn
    have hx := hx x rfl
    rw [if_neg (by decide)]
    refine ⟨x, rfl, szL (by omega), ?_⟩
    have e : nameV (.str x) = (decide (1 ≤ x.length) && decide (x.length ≤ 8) && (Wd.find x).isNone && x.cps.toList.all isLet) := rfl
    by_cases h1 : 1 ≤ x.length
    · rw [if_pos (by omega)]
      rw [e, decide_eq_true h1, Bool.true_and] at q
      by_cases h2 : x.length ≤ 8
      · rw [decide_eq_true h2, Bool.true_and] at q
        rw [decide_eq_true (by omega), if_neg (by decide), hR]
        clear hR
        walk_at "rd"
        obtain ⟨r, hr1, hr2⟩ := T.has x
        refine ⟨r.isSome, ⟨r, hr1, rfl⟩, ?_⟩
        rw [hr2]
        by_cases h3 : (Wd.find x).isSome = true
        · rw [h3, if_neg (by decide)]
          have : (Wd.find x).isNone = false := by
            cases h : Wd.find x with
            | none => rw [h] at h3; cases h3
            | some t => rfl
          rw [this, Bool.false_and] at q
          exact q _ (Same.refl _)
        · have h4 : (Wd.find x).isSome = false := by simpa using h3
          have : (Wd.find x).isNone = true := by
            cases h : Wd.find x with
            | none => rfl
            | some t => rw [h] at h4; cases h4
          rw [this, Bool.true_and] at q
          rw [h4, if_pos (by decide)]
          refine lcS (fun i acc _ => acc = ((x.cps.toList.take i).map isLet).map V.bl) (fun _ _ _ _ _ h => h) (by show x.length ≤ 100000; omega) (fun _ => rfl) rfl ?_ ?_
          · rintro i c acc H1 hc hi e1 rfl Qy hy Qn hn
            walk_at "rd"
            refine ⟨c, rfl, ?_⟩
            rw [in_abc]
            refine hy _ _ (Same.refl _) ?_
            have hc' : x.cps.toList[i]? = some c := by rw [Array.getElem?_toList]; exact hc
            show _ = ((x.cps.toList.take (i + 1)).map isLet).map V.bl
            rw [List.take_succ, hc', List.map_append, List.map_append]
            rfl
          · intro D ys H' hD e1 h1 h2
            rw [show x.cps.size = x.cps.toList.length from (Array.length_toList).symm, List.take_length] at h2
            subst h2
            refine ⟨D, rfl, _, SqL.of h1, ?_⟩
            rw [List.all_map]
            exact q _ e1
      · rw [decide_eq_false h2, Bool.false_and, Bool.false_and] at q
        rw [decide_eq_false (by omega), if_pos (by decide)]
        exact q _ (Same.refl _)
    · rw [if_neg (by omega), if_pos (by decide)]
      rw [e, decide_eq_false h1, Bool.false_and, Bool.false_and, Bool.false_and] at q
      exact q _ (Same.refl _)
  · rw [decide_eq_false hi, if_pos (by decide)]
    rw [name_no hn hi] at q
    exact q _ (Same.refl _)

theorem df_parts (T : PTxt K w mg aL aS cT) (F : FunAt K mg "parts" s_parts) : Df P w K mg base 1 "parts" ["tree"] spParts := by
  refine F.df sc_parts bd_parts (fun vs H Q E h => ?_) (fun f cdv A outer s H vs Q E hr h => ?_)
  · obtain ⟨_, _, _, _, rfl, _⟩ := h; rfl
  obtain ⟨t, a, own, ws, rfl, h1, h2, h3, q⟩ := h
  have nd := sc_parts.nd
  refine ⟨_, (pss_one (ps_ret (pe_callTy call_list_of (by rfl) T.list (by decide +kernel) (pa_cons (pe_slice sl_tup (pv 0) (po_some (pe_ix ix_kd (pe_gref (by rfl) T.STARTS) (pe_ix ix_tup (pv 0) pe_int (fun _ _ => rfl)) (fun _ _ => rfl))) po_none) pa_nil)))), ?_⟩
  rw [st_parts]
  walk_at "rd"
  refine ⟨_, SqT.of h1, _, at0 _ _, _, rfl, _, T.starts t, _, rfl, ?_⟩
  obtain ⟨n, e, h0, hd, hle⟩ := own_at (ws := ws) h2
  rw [e]
  refine ⟨_, SqT.of h1, not_whole h0 hle, fun p hp => ?_⟩
  rw [cut_from hle, hd]
  refine ⟨_, .inr (SqT.of upd_same), fun l hl => ?_⟩
  have hl0 : H l = none := Same.free (same_new hp) hl
  exact q l _ hl0 ((same_new hp).trans (same_new hl)) upd_same
theorem df_isnode (T : PTxt K w mg aL aS cT) (F : FunAt K mg "_is_node" s__is_node) (D__is_number : Df P w K mg base 1 "_is_number" ["n"] spNum) (D__is_name : Df P w K mg base 1 "_is_name" ["x"] spIsName) :
    Df P w K mg base 2 "_is_node" ["node"] spIsNode := by
  refine F.df sc__is_node bd__is_node (fun vs H Q E h => ?_) (fun f cdv A outer s H vs Q E hr h => ?_)
  · obtain ⟨_, rfl, _⟩ := h; rfl
  obtain ⟨v, rfl, ⟨⟨n, hn⟩, hk⟩, hx, q⟩ := h
  have nd := sc__is_node.nd
  refine ⟨_, (pss_cons (ps_if (PW.pt (pw_or (pt_cmpR op_isNotTy (pe_typeOf (by rfl) T.type (pv 0)) (pe_bltn (v := .ty "tuple") (by rfl) T.tuple (by decide +kernel) rfl) (nomark _)) (pw_or1 (pt_cmpR op_eq (pe_callB call_len_seq (by rfl) T.len PySem.boot_len (pa_cons (pv 0) pa_nil)) pe_int (nomark _)))))
    (pss_one (ps_ret pe_bl))
    pss_nil)
  (pss_cons (ps_set (i := 1) nd rfl (Or.inl rfl) (pe_ix ix_tup (pv 0) pe_int (fun _ _ => rfl)))
  (pss_cons (ps_if (PW.pt (pw_or (pt_cmpR op_isNotTy (pe_typeOf (by rfl) T.type (pv 1)) (pe_bltn (v := .ty "str") (by rfl) T.str (by decide +kernel) rfl) (nomark _)) (pw_or1 (pt_cmpR (op_notIn_kde T.KLENGTHS) (pv 1) (pe_gref (by rfl) T.LENGTHS) rfl))))
    (pss_one (ps_ret pe_bl))
    pss_nil)
  (pss_cons (ps_if (pt_cmpR op_ne (pe_callB call_len_seq (by rfl) T.len PySem.boot_len (pa_cons (pv 0) pa_nil)) (pe_ix ix_kd (pe_gref (by rfl) T.LENGTHS) (pv 1) (fun _ _ => rfl)) (nomark _))
    (pss_one (ps_ret pe_bl))
    pss_nil)
  (pss_cons (ps_if (pt_cmpR op_eq (pv 1) pe_str (nomark _))
    (pss_one (ps_ret (pe_callD D__is_number hr (by decide) rfl (pa_cons (pe_ix ix_tup (pv 0) pe_int (fun _ _ => rfl)) pa_nil))))
    pss_nil)
  (pss_cons (ps_if (PW.pt (pw_or (pt_cmpR op_eq (pv 1) pe_str (nomark _)) (pw_or (pt_cmpR op_eq (pv 1) pe_str (nomark _)) (pw_or1 (pt_cmpR op_eq (pv 1) pe_str (nomark _))))))
    (pss_one (ps_ret (pe_callD D__is_name hr (by decide) rfl (pa_cons (pe_ix ix_tup (pv 0) pe_int (fun _ _ => rfl)) pa_nil))))
    pss_nil)
  (pss_one (ps_ret pe_bl)))))))), ?_⟩
  rw [st__is_node]
  refine seq_ fun R hR => ?_
  walk_at "rd"
  refine ⟨n, hn, n, rfl, ?_⟩
  by_cases hi : n = "tuple"
  · subst hi
    obtain ⟨a, xs, rfl, ha⟩ := zTy_tup hn
    obtain ⟨hl, hk⟩ := hk a xs rfl ha
    have hx := fun x => hx a xs x rfl ha
    have hq : nodeV H (.ref a) = nodeC xs := by show (match H a with | some (.tup xs) => nodeC xs | _ => false) = _; rw [ha]
    rw [hq] at q
    rw [if_neg (by decide)]
    refine ⟨a, rfl, xs, .inr (SqT.of ha), ?_⟩
    cases xs with
    | nil =>
      rw [if_pos (by simp)]
      exact q _ (Same.refl _)
    | cons z r =>
    have hl1 : (((z :: r).length : Nat) : Int) = (r.length : Int) + 1 := by simp
    rw [if_neg (by omega), hR]
    clear hR
    refine seq_ fun R hR => ?_
    walk_at "rd"
    refine ⟨_, SqT.of ha, z, at0 _ _, ?_⟩
    rw [hR]; clear hR
    refine seq_ fun R hR => ?_
    walk_at "rd"
    obtain ⟨n, hz⟩ := hk z (by simp)
    refine ⟨n, hz, n, rfl, ?_⟩
    by_cases hi : n = "str"
    · subst hi
      obtain ⟨x, rfl⟩ := zTy_str hz
      rw [if_neg (by decide)]
      obtain ⟨o, hr1, hr2⟩ := T.has x
      refine ⟨x, rfl, o.isSome, ⟨o, hr1, rfl⟩, ?_⟩
      rw [hr2]
      cases hf : Wd.find x with
      | none =>
        rw [if_pos (by decide)]
        have e : nodeC (.str x :: r) = false := by rw [nodeC_str, hf]
        rw [e] at q
        exact q _ (Same.refl _)
      | some t =>
        rw [if_neg (by simp), hR]
        clear hR
        obtain rfl := Wd.of_find hf
        have e : nodeC (.str t.str :: r) = (decide ((r.length : Int) + 1 = t.len) && t.ownOk r) := by
          rw [nodeC_str, hf]
        rw [e] at q
        clear e
        refine seq_ fun R hR => ?_
        walk_at "rd"
        refine ⟨_, .inr (SqT.of ha), _, T.lengths t, ?_⟩
        refine ⟨rfl, ?_⟩
        by_cases hlen : (r.length : Int) + 1 = t.len
        · rw [if_neg (by rw [hl1, hlen]; simp), hR]
          clear hR
          rw [decide_eq_true hlen, Bool.true_and] at q
          cases r with
          | nil => exact absurd hlen (by cases t <;> decide)
          | cons y r =>
          obtain ⟨m, hy⟩ := hk y (by simp)
          have hy2 : ∀ x, y = .str x → x.length ≤ 10000 := fun x e => hx x (by rw [e]; simp)
          refine seq_ fun R hR => ?_
          walk_at "rd"
          by_cases e1 : t = .num
          · subst e1
            rw [if_pos (by rfl)]
            exact ⟨_, SqT.of ha, y, at1 _ _ _, y, rfl, ⟨m, hy⟩, q _ (Same.refl _)⟩
          · rw [if_neg (by cases t <;> first | exact absurd rfl e1 | decide +kernel), hR]
            clear hR
            refine seq_ fun R hR => ?_
            walk_at "rd"
            have hN : t.ownOk (y :: r) = nameV y → ∃ xs, SqT K H a xs ∧ ∃ z, atI xs 1 = some z ∧ spIsName [z] H Q E0 := fun e => ⟨_, SqT.of ha, y, at1 _ _ _, y, rfl, ⟨m, hy⟩, hy2, fun H' e1 => by rw [← e]; exact q H' e1⟩
            cases t with
            | num => exact absurd rfl e1
            | name => rw [if_pos (by rfl)]; exact hN rfl
            | fn => rw [if_neg (by decide +kernel), if_pos (by rfl)]; exact hN rfl
            | lt => rw [if_neg (by decide +kernel), if_neg (by decide +kernel), if_pos (by rfl)]; exact hN rfl
            | _ => rw [if_neg (by decide +kernel), if_neg (by decide +kernel), if_neg (by decide +kernel), hR]; walk_at "rd"; exact q _ (Same.refl _)
        · rw [if_pos (by rw [hl1]; simp [hlen])]
          rw [decide_eq_false hlen, Bool.false_and] at q
          exact q _ (Same.refl _)
    · rw [decide_eq_false hi, if_pos (by decide)]
      have e : nodeC (z :: r) = false := by
        cases z with
        | str x => exact absurd (Option.some.inj hz).symm hi
        | _ => rfl
      rw [e] at q
      exact q _ (Same.refl _)
  · rw [decide_eq_false hi, if_pos (by decide)]
    rw [node_no (by rw [hn]; intro z; exact hi (Option.some.inj z))] at q
    exact q _ (Same.refl _)
theorem df_need (T : PTxt K w mg aL aS cT) (F : FunAt K mg "need_tree" s_need_tree) (D_parts : Df P w K mg base 1 "parts" ["tree"] spParts) (D__is_node : Df P w K mg base 2 "_is_node" ["node"] spIsNode) :
    DfX P w K mg base 3 "need_tree" ["tree"] (spNeed cT) := by
  refine F.dfX sc_need_tree bd_need_tree (fun vs H Q E h => ?_) (fun f cdv A outer s H vs Q E hr h => ?_)
  · obtain ⟨_, _, _, rfl, _⟩ := h; rfl
  obtain ⟨v, n, b, rfl, hw, q, e⟩ := h
  have nd := sc_need_tree.nd
  refine ⟨_, (pss_cons (ps_set (i := 1) nd rfl (Or.inl rfl) pe_int)
  (pss_cons (ps_set (i := 2) nd rfl (Or.inl rfl) (pe_lst (pa_cons (pv 0) pa_nil)))
  (pss_cons (ps_while (passes_of rfl) (pt_truth (pv 2) (by intro _; rfl))
    (pss_cons (ps_set (i := 3) nd rfl (Or.inl rfl) (pe_bm0 PySem.F.plainAttrs_list PySem.F.slot_list_pop PySem.F.type_list_pop mt_popL (pv 2)))
      (pss_cons (ps_aug (i := 1) nd rfl (Or.inl rfl) pe_int ip_add)
      (pss_cons (ps_if (pt_cmpR op_gt (pv 1) (pe_gint (by rfl) T.MOST_NODES) (nomark _))
        (pss_one (ps_raise rfl (takes_of rfl rfl rfl rfl) (pmk_own PySem.F.excBase_ValueError T.NoTree.inn T.NoTree.c_ T.NoTree.k T.NoTree.r rfl)))
        pss_nil)
      (pss_cons (ps_if (pt_not (pt_val (pe_callD D__is_node hr (by decide) rfl (pa_cons (pv 3) pa_nil))))
        (pss_one (ps_raise rfl (takes_of rfl rfl rfl rfl) (pmk_own PySem.F.excBase_ValueError T.NoTree.inn T.NoTree.c_ T.NoTree.k T.NoTree.r rfl)))
        pss_nil)
      (pss_one (ps_expr (pe_bm PySem.F.plainAttrs_list PySem.F.slot_list_extend PySem.F.type_list_extend mt_extend (pv 2) (pa_cons (pe_callD D_parts hr (by decide) rfl (pa_cons (pv 3) pa_nil)) pa_nil)))))))))
  (pss_one (ps_ret (pv 0)))))), ?_⟩
  rw [st_need_tree]
  refine seq_ fun R hR => ?_
  walk_at "rd"
  rw [hR]; clear hR
  refine seq_ fun R hR => ?_
  walk_at "rd"
  refine new_ fun l H1 hl e1 h1 => ?_
  rw [hR]; clear hR
  refine seq_ fun R hR => ?_
  refine whileL_ (K := K) (i := 2) (fun m σ H' => ∃ (c : Nat) (xs : List V) (m' : Nat) (o : Option V), σ = [some v, some (.int c), some (.ref l), o] ∧ Same H H' ∧ H' l = some (.lst xs) ∧ Wks H xs m b ∧ c + m = n ∧ xs.length ≤ 1 + 3 * c ∧ c ≤ 400) n
    ⟨0, [v], 0, none, rfl, e1, h1, hw, by omega, by simp, by omega⟩ ?_
  rintro m σ H' ⟨c, xs, _, o, rfl, e2, h2, hwx, hcm, hxl, hc⟩
  refine ⟨l, xs, rfl, h2, fun hx => ?_, fun ys u hx N hN => ?_⟩
  · subst hx
    show R _ _
    rw [hR]
    walk_at "rd"
    cases hwx
    exact q (by omega) rfl _ e2
  · clear hR
    subst hx
    obtain ⟨n1, b1, n2, b2, g1, g2, rfl, rfl⟩ := hwx.snoc
    have hn2 : 0 < n2 := by
      rcases g2.one with ⟨_, rfl, _⟩ | ⟨_, _, _, _, _, _, _, _, _, _, _, _, _, rfl⟩ <;> omega
    refine seq_ fun R hR => ?_
    walk_at "rd"
    refine ⟨.inl ⟨rfl, _, SqL.of h2⟩, _, _, h2, ?_⟩
    have e3 : Same H (upd H' l (.lst ys)) := same_mut e2 hl
    have h3 : upd H' l (.lst ys) l = some (.lst ys) := upd_same
    generalize upd H' l (.lst ys) = H3 at e3 h3
    rw [hR]; clear hR
    refine seq_ fun R hR => ?_
    walk_at "rd"
    rw [hR]; clear hR
    refine ifq_ fun R A B hR hA hB => ?_
    walk_at "rd"
    by_cases hc4 : 400 < (c : Int) + 1
    · rw [if_pos hc4, hA]
      exact e (.inl (by omega)) _ e3
    rw [if_neg hc4, hB]
    clear hA hB
    walk_at "rd"
    rw [hR]; clear hR
    refine ifq_ fun R A B hR hA hB => ?_
    walk_at "rd"
    rcases g2.one with ⟨hbad, rfl, rfl⟩ | ⟨a, t, own, ws, m, rfl, ha, ho, hno, hkn, hst, hwl, hws, rfl⟩
    · have hb3 := hbad.same e3
      refine ⟨u, rfl, hb3.kn, hb3.sts, fun H4 e4 => ?_⟩
      rw [hb3.no]
      refine ⟨false, rfl, ?_⟩
      rw [if_pos (by decide), hA]
      exact e (.inr (by simp)) _ (e3.trans e4)
    · have ha3 : Kd H3 (.ref a) := hkn.1.same e3
      have hat : H3 a = H a := same_at e3 hkn.1
      refine ⟨.ref a, rfl, ⟨ha3, fun a' xs ea h' => ?_⟩, fun a' xs x ea h' hx => ?_, fun H4 e4 => ?_⟩
      · cases ea
        rw [hat] at h'
        obtain ⟨k1, k2⟩ := hkn.2 a xs rfl h'
        exact ⟨k1, fun x hx => (k2 x hx).same e3⟩
      · cases ea
        rw [hat] at h'
        exact hst a xs x rfl h' hx
      have hno3 : nodeV H3 (.ref a) = true := by
        show (match H3 a with | some (.tup xs) => nodeC xs | _ => false) = true
        rw [hat]
        exact hno
      rw [hno3]
      refine ⟨true, rfl, ?_⟩
      rw [if_neg (by decide), hB]
      clear hA hB
      walk_at "rd"
      rw [hR]; clear hR
      walk_at "rd"
      have e4' := e3.trans e4
      have h4 := e4 _ _ h3
      refine ⟨.inl ⟨rfl, _, SqL.of h4⟩, t, a, own, ws, rfl, e4' _ _ ha, ho, hwl, fun p H5 hp e5 h5 => ?_⟩
      walk_at "rd"
      have hyl : (ys ++ ws).length ≤ 1 + 3 * (c + 1) := by
        rw [List.length_append] at hxl ⊢
        simp only [List.length_singleton] at hxl
        omega
      have hyl2 := hyl
      rw [List.length_append] at hyl2
      refine ⟨_, e5 _ _ h4, _, h5, szL (by omega), ?_⟩
      refine hN (n1 + m) _ _ (by omega) ⟨c + 1, ys ++ ws, 0, _, rfl, same_mut (e4'.trans e5) hl, upd_same, g1.append hws, by omega, hyl, by omega⟩
end

abbrev s__reading : Stmt := topS 22
abbrev N__reading : List Str := ["node", "looks", "name", "part"]
theorem sc__reading : FnScope N__reading ["node"] (defScope s__reading) := ⟨rfl, rfl, rfl, by decide +kernel, rfl, by decide +kernel, by decide +kernel⟩
theorem bd__reading : BindAll "_reading" s__reading ["node"] := fun _ _ _ _ _ _ us hl => match us, hl with | [_], _ => rfl
theorem st__reading (v0 : V) : start N__reading [v0] = [some v0, none, none, none] := rfl
abbrev s_free : Stmt := topS 21
abbrev N_free : List Str := ["tree", "found", "bound", "waiting", "deed", "at"]
theorem sc_free : FnScope N_free ["tree"] (defScope s_free) := ⟨rfl, rfl, rfl, by decide +kernel, rfl, by decide +kernel, by decide +kernel⟩
theorem bd_free : BindAll "free" s_free ["tree"] := fun _ _ _ _ _ _ us hl => match us, hl with | [_], _ => rfl
theorem st_free (v0 : V) : start N_free [v0] = [some v0, none, none, none, none, none] := rfl
section
variable {P : Program} {w : World} {K : PySem.W.Frag} {mg : Str → Option Value} {base : Heap} {aS : Addr}
theorem df_reading (T : FTxt K w mg aS) (F : FunAt K mg "_reading" s__reading) (D_parts : Df P w K mg base 1 "parts" ["tree"] spPartsT) : Df P w K mg base 2 "_reading" ["node"] spReading := by
  refine F.df sc__reading bd__reading (fun vs H Q E h => ?_) (fun f cdv A outer s H vs Q E hr h => ?_)
  · obtain ⟨_, _, rfl, _⟩ := h; rfl
  obtain ⟨t, a, rfl, ht, q⟩ := h
  have nd := sc__reading.nd
  refine ⟨_, (pss_cons (ps_setLc (i := 1) (own := [("part", 3)]) (g := gName 3) rfl nd rfl rfl (sw_true rfl rfl rfl (by decide +kernel)) (pi_list (pe_callD D_parts hr (by decide) rfl (pa_cons (pv 0) pa_nil))) (blkOk_by (N := N__reading) (sc := defScope s__reading) (by decide +kernel)) (fun _ _ _ _ _ => (pg_name (i := 3) nd rfl (Or.inl rfl))) (fun _ _ _ _ _ => pts_nil) (fun _ _ _ _ _ => (pe_tup (pa_cons (pe_gint (by rfl) T.LOOK) (pa_cons (pv 3) pa_nil)))))
  (pss_cons (ps_if (PW.pt (pw_and (pt_cmpR op_ne (pe_ix ix_tup (pv 0) pe_int (fun _ _ => rfl)) pe_str (nomark _)) (pw_and1 (pt_cmpR op_ne (pe_ix ix_tup (pv 0) pe_int (fun _ _ => rfl)) pe_str (nomark _)))))
    (pss_one (ps_ret (pv 1)))
    pss_nil)
  (pss_cons (ps_set (i := 2) nd rfl (Or.inl rfl) (pe_ix ix_tup (pv 0) pe_int (fun _ _ => rfl)))
  (pss_one (ps_ret (pe_op op_cat (pe_slice sl_list (pv 1) po_none (po_some (pe_un un_neg pe_int))) (pe_lst (pa_cons (pe_tup (pa_cons (pe_gint (by rfl) T.BIND) (pa_cons (pv 2) pa_nil))) (pa_cons (pe_ix ix_list (pv 1) (pe_un un_neg pe_int) (fun _ _ => rfl)) (pa_cons (pe_tup (pa_cons (pe_gint (by rfl) T.LOOSE) (pa_cons (pv 2) pa_nil))) pa_nil)))))))))), ?_⟩
  rw [st__reading]
  refine seq_ fun R hR => ?_
  walk_at "rd"
  obtain ⟨a', ws, e, ha, hws⟩ := ht.view
  cases e
  have wl := pr_len hws
  refine ⟨t, a, ws, rfl, ha, by rw [← wl]; exact kids_le t, fun l H1 hl k1 a1 => ?_⟩
  walk_at "rd"
  refine ⟨⟨_, SqL.of a1⟩, lcL (fun i acc H' => Paired (At3 H') ((t.kids.take i).map .look) acc) (fun i acc H' H'' k p => pr_mono p fun _ _ => At3.mono k) (SqL.of a1) (by rw [← wl]; exact Nat.le_trans (kids_le t) (by decide)) (fun _ => rfl) .nil ?_ ?_⟩
  · intro i x acc H2 hi hl' e2 p Qy hy Qn hn
    walk_at "rd"
    obtain ⟨u, hu1, hu2⟩ := pr_right hws hi
    refine new_ fun pn H3 hpn k3 a3 => hy _ _ k3 ?_
    show Paired _ ((t.kids.take (i + 1)).map Td.look) _
    rw [List.take_succ, hu1, List.map_append]
    exact pr_append (pr_mono p fun _ _ => At3.mono (same_kt k3)) (.cons ⟨pn, _, rfl, a3, hu2.mono (same_kt (k1.trans (e2.trans k3)))⟩ .nil)
  · intro D ys H2 hD e2 hD2 p
    rw [← wl, List.take_length] at p
    rw [hR]; clear hR
    have ha2 := (k1.trans e2) _ _ ha
    refine ifq_ fun R A B hR hA hB => ?_
    walk_at "rd"
    have hAok : reading t = t.kids.map .look → A H2 := by
      intro e
      rw [hA]
      walk_at "rd"
      refine q D ys H2 (k1.free hD) (k1.trans e2) hD2 ?_
      rw [e]
      exact p
    have hBok : ∀ (x : Str) (vs : List V) (us : List Td) (u : Tr), t.own = [.str x] → t.kids.map Td.look = us ++ [.look u] → reading t = us ++ [.bind x, .look u, .loose x] → B H2 := by
      intro x vs us u eo ek er
      rw [hB]
      walk_at "rd"
      rw [hR]; clear hR
      refine seq_ fun R hR => ?_
      walk_at "rd"
      refine ⟨_, SqT.of ha2, _, by rw [eo]; exact at1 _ _ _, ?_⟩
      rw [hR]; clear hR
      walk_at "rd"
      rw [ek] at p
      obtain ⟨zs, z, rfl, p1, p2⟩ : ∃ zs z, ys = zs ++ [z] ∧ Paired (At3 H2) us zs ∧ At3 H2 (.look u) z := by
        rcases List.eq_nil_or_concat ys with e0 | ⟨zs, z, e0⟩
        · subst e0
          have := pr_len p
          simp at this
        · rw [List.concat_eq_append] at e0
          subst e0
          obtain ⟨us', u', e1, h1, h2⟩ := pr_snoc p
          obtain ⟨rfl, e3⟩ := List.append_inj' e1 rfl
          obtain rfl : Td.look u = u' := by simpa using e3
          exact ⟨zs, z, rfl, h1, h2⟩
      have zl : (zs ++ [z]).length ≤ 3 := by
        rw [← pr_len p, ← ek, List.length_map]
        exact kids_le t
      refine ⟨_, SqL.of hD2, ?_⟩
      rw [cut_butlast]
      refine new_ fun p3 H3 hp3 k3 a3 => new_ fun p4 H4 hp4 k4 a4 => ⟨_, SqL.of (k4 _ _ (k3 _ _ hD2)), _, atI_last _ _, new_ fun p5 H5 hp5 k5 a5 => new_ fun p6 H6 hp6 k6 a6 => ?_⟩
      have kk := (k4.trans k5).trans k6
      refine ⟨_, kk _ _ a3, _, a6, ?_, fun p7 hp7 => ?_⟩
      · simp only [List.length_append, List.length_cons, List.length_nil] at zl ⊢
        exact szL (by omega)
      · have k7 := same_new (o := .lst (zs ++ [V.ref p4, z, V.ref p5])) hp7
        have kall := (k3.trans kk).trans k7
        refine q p7 _ _ (k1.free (e2.free ((k3.trans kk).free hp7))) (k1.trans (e2.trans kall)) upd_same ?_
        rw [er]
        refine pr_append (pr_mono p1 fun _ _ => At3.mono (same_kt kall)) (.cons ⟨p4, rfl, k7 _ _ (k6 _ _ (k5 _ _ a4))⟩ (.cons (At3.mono (same_kt kall) p2) (.cons ⟨p5, rfl, k7 _ _ (k6 _ _ a5)⟩ .nil)))
    refine ⟨_, SqT.of ha2, _, at0 _ _, rfl, ?_⟩
    by_cases wf : t.word = "fun"
    · obtain ⟨x, b, rfl⟩ := word_fun wf
      rw [if_neg (by simp [Tr.word])]
      exact hBok x ws [] b rfl rfl rfl
    · rw [if_pos (by simp [wf])]
      refine ⟨_, SqT.of ha2, _, at0 _ _, rfl, ?_⟩
      by_cases wl' : t.word = "let"
      · obtain ⟨x, e, b, rfl⟩ := word_let wl'
        rw [if_neg (by simp [Tr.word])]
        exact hBok x ws [.look e] b rfl rfl rfl
      · rw [if_pos (by simp [wl'])]
        refine hAok ?_
        cases t <;> first
          | rfl
          | exact absurd rfl wf
          | exact absurd rfl wl'
theorem df_free (T : FTxt K w mg aS) (F : FunAt K mg "free" s_free) (D__reading : Df P w K mg base 2 "_reading" ["node"] spReading) : Df P w K mg base 3 "free" ["tree"] spFree := by
  refine F.df sc_free bd_free (fun vs H Q E h => ?_) (fun f cdv A outer s H vs Q E hr h => ?_)
  · obtain ⟨_, _, rfl, _⟩ := h; rfl
  obtain ⟨t, v, rfl, ht, hz, q⟩ := h
  have nd := sc_free.nd
  have hu := hu_of hr
  refine ⟨_, (pss_cons (ps_set (i := 1) nd rfl (Or.inl rfl) pe_dnewK)
  (pss_cons (ps_set (i := 2) nd rfl (Or.inl rfl) pe_dnewK)
  (pss_cons (ps_set (i := 3) nd rfl (Or.inl rfl) (pe_lst (pa_cons (pe_tup (pa_cons (pe_gint (by rfl) T.LOOK) (pa_cons (pv 0) pa_nil))) pa_nil)))
  (pss_cons (ps_while PassesOwn.never (pt_truth (pv 3) (by intro _; rfl))
    (pss_cons (ps_asg (pe_bm0 PySem.F.plainAttrs_list PySem.F.slot_list_pop PySem.F.type_list_pop mt_popL (pv 3)) (pg_tup rfl (pgs_cons (pg_name (i := 4) nd rfl (Or.inl rfl)) (pgs_cons (pg_name (i := 5) nd rfl (Or.inl rfl)) pgs_nil))))
      (pss_one (ps_if (pt_cmpR op_eq (pv 4) (pe_gint (by rfl) T.BIND) (nomark _))
        (pss_one (ps_dput hu (pv 2) (pv 5) (pe_op op_add (pe_dget2 hu (pv 2) (pv 5) pe_int ⟨rfl, rfl, rfl, rfl⟩) pe_int) rfl))
        (pss_one (ps_if (pt_cmpR op_eq (pv 4) (pe_gint (by rfl) T.LOOSE) (nomark _))
            (pss_one (ps_dput hu (pv 2) (pv 5) (pe_op op_sub (pe_dget hu (pv 2) (pv 5) (fun _ _ => rfl)) pe_int) rfl))
            (pss_one (ps_if (pt_cmpR op_ne (pe_ix ix_tup (pv 5) pe_int (fun _ _ => rfl)) pe_str (nomark _))
                (pss_one (ps_expr (pe_bm PySem.F.plainAttrs_list PySem.F.slot_list_extend PySem.F.type_list_extend mt_extend (pv 3) (pa_cons (pe_revL (pe_callD D__reading hr (by decide) rfl (pa_cons (pv 5) pa_nil))) pa_nil))))
                (pss_one (ps_if (pt_cmpR op_eq (pe_dget2 hu (pv 2) (pe_ix ix_tup (pv 5) pe_int (fun _ _ => rfl)) pe_int ⟨rfl, rfl, rfl, rfl⟩) pe_int (nomark _))
                    (pss_one (ps_dput hu (pv 1) (pe_ix ix_tup (pv 5) pe_int (fun _ _ => rfl)) pe_bl rfl))
                    pss_nil))))))))))
  (pss_one (ps_ret (pe_callTy (call_list_dK rfl) (by rfl) T.list (by decide +kernel) (pa_cons (pv 1) pa_nil)))))))), ?_⟩
  rw [st_free]
  refine seq_ fun R hR => ?_
  walk_at "rd"
  refine new_ fun fd H1 hfd k1 a1 => ?_
  rw [hR]; clear hR
  refine seq_ fun R hR => ?_
  walk_at "rd"
  refine new_ fun bd H2 hbd k2 a2 => ?_
  rw [hR]; clear hR
  refine seq_ fun R hR => ?_
  walk_at "rd"
  refine new_ fun p3 H3 hp3 k3 a3 => new_ fun l H4 hl k4 a4 => ?_
  rw [hR]; clear hR
  refine seq_ fun R hR => ?_
  have hfd0 : H fd = none := hfd
  have hbd0 : H bd = none := k1.free hbd
  have hl0 : H l = none := (k1.trans (k2.trans k3)).free hl
  have nfb : fd ≠ bd := ne_of_none a1 hbd
  have nfl : fd ≠ l := ne_of_none (k3 _ _ (k2 _ _ a1)) hl
  have nbl : bd ≠ l := ne_of_none (k3 _ _ a2) hl
  refine whileL_ (fun m σ H' => ∃ (vs : List V) (ds : List Td) (fs : List Str) (bk : List (Key × V)) (b : Str → Nat) (o4 o5 : Option V), σ = [some v, some (.ref fd), some (.ref bd), some (.ref l), o4, o5] ∧ Same H H' ∧
    H' l = some (.lst vs) ∧ H' fd = some (.dK (foundK fs)) ∧ H' bd = some (.dK bk) ∧ Paired (At3 H') ds vs ∧ Bd bk b ∧ wf ds.reverse b ∧ dd fs (rem ds.reverse b) = freeNames t ∧
    wt ds + bk.length ≤ 3 * t.size ∧ wt ds + fs.length ≤ 3 * t.size ∧ m = wt ds) (3 * t.size) ?_ ?_
  · refine ⟨_, [.look t], [], [], fun _ => 0, none, none, rfl, (k1.trans k2).trans (k3.trans k4), a4, k4 _ _ (k3 _ _ (k2 _ _ a1)), k4 _ _ (k3 _ _ a2),
      .cons ⟨p3, _, rfl, k4 _ _ a3, ht.mono (same_kt ((k1.trans k2).trans (k3.trans k4)))⟩ .nil, fun x => rfl, trivial, ?_, ?_, ?_, ?_⟩
    · simp [rem, freeNames]
    · simp [wt, wt1]
    · simp [wt, wt1]
    · simp [wt, wt1]
  · rintro m σ H5 ⟨vs, ds, fs, bk, b, o4, o5, rfl, e5, hL, hF, hB, hA, hbd, hwf, hdd, hw1, hw2, rfl⟩
    refine ⟨l, vs, rfl, hL, fun h0 => ?_, fun ys y hy N hN => ?_⟩
    · subst h0
      cases hA
      show R _ _
      rw [hR]
      walk_at "rd"
      refine ⟨_, hF, fun l2 hl2 => q l2 _ (e5.free hl2) (e5.trans (same_new hl2)) ?_⟩
      have hfs : fs = freeNames t := hdd
      rw [upd_same, ← hfs]
      simp [foundK, kV, Function.comp_def]
    · subst hy
      obtain ⟨us, d, rfl, hA1, hd⟩ := pr_snoc hA
      refine seq_ fun R1 hR1 => ?_
      walk_at "rd"
      have kt1 := kt_lst (o := .lst ys) hL
      refine ⟨.inl ⟨rfl, _, SqL.of hL⟩, _, _, hL, ?_⟩
      have e6 : Same H (upd H5 l (.lst ys)) := same_mut e5 hl0
      have hL6 : upd H5 l (.lst ys) l = some (.lst ys) := upd_same
      have hF6 : upd H5 l (.lst ys) fd = some (.dK (foundK fs)) := by rw [upd_ne nfl]; exact hF
      have hB6 : upd H5 l (.lst ys) bd = some (.dK bk) := by rw [upd_ne nbl]; exact hB
      have hA6 := pr_mono hA1 fun _ _ h => At3.mono kt1 h
      have hd6 := hd.mono kt1
      generalize upd H5 l (.lst ys) = H6 at *
      have lw := le_wt (us ++ [d])
      rw [wt_append, wt_one] at hw1 hw2 lw
      rw [List.length_append, List.length_singleton] at lw
      rw [List.reverse_append, List.reverse_singleton, List.singleton_append] at hwf hdd
      cases d with
      | look u =>
        obtain ⟨p, uv, rfl, hp, hu6⟩ := hd6
        obtain ⟨ua, ws, rfl, hua, hws⟩ := hu6.view
        refine ⟨_, rfl, _, SqT.of hp, rfl, _, _, rfl, _, _, rfl, rfl, ?_⟩
        rw [hR1]; clear hR1
        refine ifs_ fun A B hA hB => ?_
        walk_at "rd"
        rw [if_neg (by decide), hB]; clear hA hB
        refine ifs_ fun A B hA hB => ?_
        walk_at "rd"
        rw [if_neg (by decide), hB]; clear hA hB
        refine ifs_ fun A B hA hB => ?_
        walk_at "rd"
        refine ⟨_, SqT.of hua, _, at0 _ _, rfl, ?_⟩
        simp only [wt1] at hw1 hw2 lw
        by_cases wn : u.word = "name"
        · obtain ⟨y, rfl⟩ := word_name wn
          cases hws
          rw [if_neg (by simp [Tr.word]), hB]; clear hA hB
          refine ifs_ fun A B hA hB => ?_
          walk_at "rd"
          refine ⟨.inl ⟨_, .inl hB6⟩, _, SqT.of hua, _, at1 _ _ _, _, DGet.k (k := Sum.inr y) hB6, ?_⟩
          rw [hbd.get y]
          walk_at "rd"
          by_cases hby : b y = 0
          · rw [if_pos (by omega), hA]
            walk_at "rd"
            refine ⟨_, SqT.of hua, _, at1 _ _ _, _, DPut.k (k := Sum.inr y) hF6 (szLt (by simp only [foundK, List.length_map, Tr.size] at *; omega)), ?_⟩
            rw [foundK_put]
            have kt2 : My.KT H6 (upd H6 fd (.dK (foundK (if y ∈ fs then fs else fs ++ [y])))) := fun c xs q => by rw [upd_ne (ne_of q hF6 (by intro z; cases z))]; exact q
            refine hN _ _ _ ?_ ⟨ys, us, if y ∈ fs then fs else fs ++ [y], bk, b, _, _, rfl, same_mut e6 hfd0, ?_, upd_same, ?_, pr_mono hA6 fun _ _ h => At3.mono kt2 h, hbd, hwf, ?_, ?_, ?_, rfl⟩
            · rw [wt_append, wt_one]; simp only [wt1, Tr.size]; omega
            · rw [upd_ne (Ne.symm nfl)]; exact hL6
            · rw [upd_ne (Ne.symm nfb)]; exact hB6
            · rw [← hdd]; simp only [rem, frees, if_pos hby, List.singleton_append, dd]
            · omega
            · split
              · omega
              · rw [List.length_append, List.length_singleton]; simp only [Tr.size] at hw2; omega
          · rw [if_neg (by omega), hB]
            walk_at "rd"
            refine hN _ _ _ ?_ ⟨ys, us, fs, bk, b, _, _, rfl, e6, hL6, hF6, hB6, hA6, hbd, hwf, ?_, ?_, ?_, rfl⟩
            · rw [wt_append, wt_one]; simp only [wt1, Tr.size]; omega
            · rw [← hdd]; simp only [rem, frees, if_neg hby, List.nil_append]
            · omega
            · omega
        · rw [if_pos (by simp [wn]), hA]
          have hin : isNm u = false := by
            cases u <;> first
              | rfl
              | exact absurd rfl wn
          walk_at "rd"
          refine ⟨.inl ⟨rfl, _, SqL.of hL6⟩, u, ua, rfl, hu6, fun l7 rs H7 hl7 k7 a7 hrs => ?_⟩
          walk_at "rd"
          refine ⟨_, SqL.of a7, new_ fun l8 H8 hl8 k8 a8 => ⟨_, k8 _ _ (k7 _ _ hL6), _, a8, ?_, ?_⟩⟩
          · have l1 := pr_len hA6
            have l2 := pr_len hrs
            have l3 := le_wt us
            have l4 := le_wt (reading u)
            have l5 := wt_reading u
            rw [List.length_reverse]
            exact szL (by omega)
          · have k78 := k7.trans k8
            have kt9 := (same_kt k78).trans (kt_lst (o := .lst (ys ++ rs.reverse)) (k78 _ _ hL6))
            have l5 := wt_reading u
            have prr : ∀ {H : Hp} {xs : List Td} {zs : List V}, Paired (At3 H) xs zs → Paired (At3 H) xs.reverse zs.reverse := by
              intro H xs zs h
              induction h with
              | nil => exact .nil
              | cons r t ih =>
                rw [List.reverse_cons, List.reverse_cons]
                exact pr_append ih (.cons r .nil)
            refine hN _ _ _ ?_ ⟨_, us ++ (reading u).reverse, fs, bk, b, _, _, rfl, same_mut (e6.trans k78) hl0, upd_same, ?_, ?_, ?_, hbd, ?_, ?_, ?_, ?_, rfl⟩
            · rw [wt_append, wt_append, wt_reverse, wt_one]; simp only [wt1]; omega
            · rw [upd_ne nfl]; exact k78 _ _ hF6
            · rw [upd_ne nbl]; exact k78 _ _ hB6
            · exact pr_append (pr_mono hA6 fun _ _ h => At3.mono kt9 h) (prr (pr_mono hrs fun _ _ h => At3.mono ((same_kt k8).trans (kt_lst (k78 _ _ hL6))) h))
            · rw [List.reverse_append, List.reverse_reverse, wf_reading]; exact hwf
            · rw [List.reverse_append, List.reverse_reverse, rem_reading u hin, ← hdd]; rfl
            · rw [wt_append, wt_reverse]; omega
            · rw [wt_append, wt_reverse]; omega
      | bind x =>
        obtain ⟨p, rfl, hp⟩ := hd6
        refine ⟨_, rfl, _, SqT.of hp, rfl, _, _, rfl, _, _, rfl, rfl, ?_⟩
        rw [hR1]; clear hR1
        refine ifs_ fun A B hA hB => ?_
        walk_at "rd"
        rw [hA]; clear hA hB
        walk_at "rd"
        refine ⟨.inl ⟨_, .inl hB6⟩, _, DGet.k (k := Sum.inr x) hB6, ?_⟩
        rw [hbd.get x]
        walk_at "rd"
        simp only [wt1] at hw1 hw2 lw
        refine ⟨_, DPut.k (k := Sum.inr x) hB6 (szLt (by omega)), ?_⟩
        have kt2 : My.KT H6 (upd H6 bd (.dK (putK bk (Sum.inr x) (.int ((b x : Int) + 1))))) := fun c xs q => by rw [upd_ne (ne_of q hB6 (by intro z; cases z))]; exact q
        have hinc : ((b x : Int) + 1) = ((inc x b x : Nat) : Int) := by simp [inc]
        have hbd2 : Bd (putK bk (Sum.inr x) (.int ((b x : Int) + 1))) (inc x b) := by rw [hinc]; exact hbd.put x fun y hy => by simp [inc, hy]
        refine hN _ _ _ ?_ ⟨ys, us, fs, _, inc x b, _, _, rfl, same_mut e6 hbd0, ?_, ?_, upd_same, pr_mono hA6 fun _ _ h => At3.mono kt2 h, hbd2, hwf, hdd, ?_, ?_, rfl⟩
        · rw [wt_append, wt_one]; simp only [wt1]; omega
        · rw [upd_ne (Ne.symm nbl)]; exact hL6
        · rw [upd_ne nfb]; exact hF6
        · have := length_putK bk (Sum.inr x : Key) (.int ((b x : Int) + 1)); omega
        · omega
      | loose x =>
        obtain ⟨p, rfl, hp⟩ := hd6
        refine ⟨_, rfl, _, SqT.of hp, rfl, _, _, rfl, _, _, rfl, rfl, ?_⟩
        rw [hR1]; clear hR1
        refine ifs_ fun A B hA hB => ?_
        walk_at "rd"
        rw [if_neg (by decide), hB]; clear hA hB
        refine ifs_ fun A B hA hB => ?_
        walk_at "rd"
        rw [hA]; clear hA hB
        walk_at "rd"
        have hb1 : 1 ≤ b x := hwf.1
        refine ⟨_, by rw [← hbd.there hb1]; exact DGet.k (k := Sum.inr x) hB6, ?_⟩
        walk_at "rd"
        simp only [wt1] at hw1 hw2 lw
        refine ⟨_, DPut.k (k := Sum.inr x) hB6 (szLt (by omega)), ?_⟩
        have kt2 : My.KT H6 (upd H6 bd (.dK (putK bk (Sum.inr x) (.int ((b x : Int) - 1))))) := fun c xs q => by rw [upd_ne (ne_of q hB6 (by intro z; cases z))]; exact q
        have hinc : ((b x : Int) - 1) = ((dec x b x : Nat) : Int) := by simp [dec]; omega
        have hbd2 : Bd (putK bk (Sum.inr x) (.int ((b x : Int) - 1))) (dec x b) := by rw [hinc]; exact hbd.put x fun y hy => by simp [dec, hy]
        refine hN _ _ _ ?_ ⟨ys, us, fs, _, dec x b, _, _, rfl, same_mut e6 hbd0, ?_, ?_, upd_same, pr_mono hA6 fun _ _ h => At3.mono kt2 h, hbd2, hwf.2, hdd, ?_, ?_, rfl⟩
        · rw [wt_append, wt_one]; simp only [wt1]; omega
        · rw [upd_ne (Ne.symm nbl)]; exact hL6
        · rw [upd_ne nfb]; exact hF6
        · have := length_putK bk (Sum.inr x : Key) (.int ((b x : Int) - 1)); omega
        · omega
end

abbrev s_need_start : Stmt := topS 29
abbrev N_need_start : List Str := ["tree", "most"]
theorem sc_need_start : FnScope N_need_start ["tree", "most"] (defScope s_need_start) := ⟨rfl, rfl, rfl, by decide +kernel, rfl, by decide +kernel, by decide +kernel⟩
theorem bd_need_start : BindAll "need_start" s_need_start ["tree", "most"] := fun _ _ _ _ _ _ us hl => match us, hl with | [_, _], _ => rfl
theorem st_need_start (v0 v1 : V) : start N_need_start [v0, v1] = [some v0, some v1] := rfl
section
variable {P : Program} {w : World} {K : PySem.W.Frag} {mg : Str → Option Value} {base : Heap} {R : Ers} {aA cM cK : Addr}
theorem df_start (T : STxt K mg R) (F : FunAt K mg "need_start" s_need_start) (D_need_tree : DfX P w K mg base 3 "need_tree" ["tree"] (spNeed R.tree)) (D_free : Df P w K mg base 3 "free" ["tree"] spFree) : DfX P w K mg base 4 "need_start" ["tree", "most"] (spStart R) := by
  refine F.dfX sc_need_start bd_need_start (fun vs H Q E h => ?_) (fun f cdv A outer s H vs Q E hr h => ?_)
  · obtain ⟨_, _, rfl, _⟩ := h; rfl
  obtain ⟨tv, mv, rfl, h⟩ := h
  have nd := sc_need_start.nd
  refine ⟨_, (pss_cons (ps_expr (pe_callXP (E := E) D_need_tree hr (by decide) rfl (passes_call (takes_of rfl rfl rfl rfl) fun _ _ _ _ h => h) (pa_cons (pv 0) pa_nil)))
  (pss_cons (ps_if (pt_cmpR op_gt (pe_callB call_len_seq (by rfl) T.len PySem.boot_len (pa_cons (pe_callD D_free hr (by decide) rfl (pa_cons (pv 0) pa_nil)) pa_nil)) pe_int (nomark _))
    (pss_one (ps_raise rfl (takes_of rfl rfl rfl rfl) (pmk_own PySem.F.excBase_ValueError T.NotClosed.inn T.NotClosed.c_ T.NotClosed.k T.NotClosed.r rfl)))
    pss_nil)
  (pss_one (ps_if (PW.pt (pw_or (pt_cmpR op_isNotTy (pe_typeOf (by rfl) T.type (pv 1)) (pe_bltn (v := .ty "int") (by rfl) T.int (by decide +kernel) rfl) (nomark _)) (pw_or1 (pt_not (pt_chain op_le op_le pe_int (pv 1) (pe_gint (by rfl) T.MOST_DEEDS))))))
    (pss_one (ps_raise rfl (takes_of rfl rfl rfl rfl) (pmk_own PySem.F.excBase_ValueError T.BadMost.inn T.BadMost.c_ T.BadMost.k T.BadMost.r rfl)))
    pss_nil)))), ?_⟩
  rw [st_need_start]
  refine seq_ fun R1 hR1 => ?_
  walk_at "rd"
  rcases h with ⟨n, b, hw, hbad, q⟩ | ⟨t, ht, hg, hs, h⟩
  · exact ⟨tv, n, b, rfl, hw, fun h1 h2 => (hbad.elim (fun h => absurd h (by omega)) fun h => by rw [h2] at h; cases h), fun _ => q⟩
  refine ⟨tv, t.size, false, rfl, wks_of ht hg, fun _ _ H1 e1 => ?_, fun h => h.elim (fun h => absurd h (by omega)) fun h => by cases h⟩
  rw [hR1]; clear hR1
  refine ifq_ fun R1 A B hR1 hA hB => ?_
  walk_at "rd"
  refine ⟨t, tv, rfl, ht.mono (same_kt e1), by omega, fun l H2 hl e2 h2 => ⟨_, rfl, _, .inl (SqL.of h2), ?_⟩⟩
  have e12 := e1.trans e2
  rcases h with ⟨hc, q⟩ | ⟨hc, hb, q⟩ | ⟨hc, ⟨m, rfl, hm⟩, q⟩
  · have : freeNames t ≠ [] := fun e => hc (closed_nil.mpr e)
    rw [if_pos (by cases h : freeNames t <;> simp_all), hA]
    exact q _ e12
  · rw [closed_nil.mp hc, if_neg (by simp), hB]; clear hA hB
    walk_at "rd"
    rw [hR1]; clear hR1
    refine ifs_ fun A B hA hB => ?_
    walk_at "rd"
    obtain ⟨z, hz, hz2⟩ := hb
    refine typ_ (zTy_same e12 hz) ⟨z, rfl, ?_⟩
    by_cases hi : z = "int"
    · subst hi
      rw [if_neg (by decide)]
      obtain ⟨i, rfl, hir⟩ := hz2.resolve_left fun h => h rfl
      refine ⟨i, rfl, ?_⟩
      by_cases h0 : 0 ≤ i
      · rw [if_pos h0]
        refine ⟨i, rfl, ?_⟩
        rw [if_pos (by rw [decide_eq_false (by omega)]; rfl), hA]
        exact q _ e12
      · rw [if_neg h0, if_pos (by rfl), hA]
        exact q _ e12
    · rw [if_pos (by rw [decide_eq_false hi]; rfl), hA]
      exact q _ e12
  · rw [closed_nil.mp hc, if_neg (by simp), hB]; clear hA hB
    walk_at "rd"
    rw [hR1]; clear hR1
    refine ifs_ fun A B hA hB => ?_
    walk_at "rd"
    refine typ_ (n := "int") rfl ⟨"int", rfl, ?_⟩
    rw [if_neg (by decide), if_pos (Int.natCast_nonneg m), if_neg (by rw [decide_eq_true (by omega)]; decide), hB]
    walk_at "rd"
    exact q _ e12
end

abbrev s_run : Stmt := topS 48
abbrev N_run : List Str := ["tree", "most", "machine", "value"]
theorem sc_run : FnScope N_run ["tree", "most"] (defScope s_run) := ⟨rfl, rfl, rfl, by decide +kernel, rfl, by decide +kernel, by decide +kernel⟩
theorem bd_run : BindAll "run" s_run ["tree", "most"] := fun _ _ _ _ _ _ us hl => match us, hl with | [_, _], _ => rfl
theorem st_run (v0 v1 : V) : start N_run [v0, v1] = [some v0, some v1, none, none] := rfl
section
variable {P : Program} {w : World} {K : PySem.W.Frag} {mg : Str → Option Value} {base : Heap} {R : Ers} {aA cM cK : Addr}
theorem df_run (T : MTxt K w mg R aA cM cK) (F : FunAt K mg "run" s_run) (D_need_start : DfX P w K mg base 4 "need_start" ["tree", "most"] (spStart R)) (K_Machine : MkD P w K mg base 1 "Machine" cM (spInitM cM)) (M_Machine_work_out : Mt (L2.CX P w) P w K mg base 6 cM "work_out" (spWorkOut cM cK R)) : DfX P w K mg base 7 "run" ["tree", "most"] (spRun R (KVm cK (fun _ => False))) := by
  refine F.dfX sc_run bd_run (fun vs H Q E h => ?_) (fun f cdv A outer s H vs Q E hr h => ?_)
  · obtain ⟨_, _, _, rfl, _⟩ := h; rfl
  obtain ⟨v, t, m, rfl, hok, q⟩ := h
  have nd := sc_run.nd
  refine ⟨_, (pss_cons (ps_expr (pe_callXP (E := E) D_need_start hr (by decide) rfl (passes_call (takes_of rfl rfl rfl rfl) fun _ _ _ _ h => h) (pa_cons (pv 0) (pa_cons (pv 1) pa_nil))))
  (pss_cons (ps_set (i := 2) nd rfl (Or.inl rfl) (pe_mkD K_Machine hr (by decide) rfl (pa_cons (pv 1) pa_nil)))
  (pss_cons (ps_set (i := 3) nd rfl (Or.inl rfl) (pe_me (E := E) M_Machine_work_out hr (by decide) (passes_call (takes_of rfl rfl rfl rfl) fun _ _ _ _ h => h) (pv 2) (pa_cons (pv 0) pa_nil)))
  (pss_one (ps_ret (pe_tup (pa_cons (pv 3) (pa_cons (pe_fld (pv 2) rfl) pa_nil)))))))), ?_⟩
  rw [st_run]
  refine seq_ fun R1 hR1 => ?_
  walk_at "rd"
  refine ⟨v, .int m, rfl, .inr ⟨t, hok.at_, hok.good, hok.size, .inr (.inr ⟨hok.closed, ⟨m, rfl, hok.most⟩, fun H1 e1 => ?_⟩)⟩⟩
  rw [hR1]; clear hR1
  refine seq_ fun R1 hR1 => ?_
  walk_at "rd"
  intro x dx hx hdx hne
  refine ⟨x, dx, m, rfl, upd_same, fun lk lf lw H3 hk hf hw nkf nkw nfw kp hins h1 h2 h3 => ⟨rfl, ?_⟩⟩
  obtain ⟨S, e3, hn⟩ := mach_new (cK := cK) e1 hx hdx hne hk hf hw nkf nkw nfw kp hins h1 h2 h3
  rw [hR1]; clear hR1
  refine seq_ fun R1 hR1 => ?_
  walk_at "rd"
  refine ⟨_, _, hins, machF_no (by decide +kernel), ⟨x, dx, lk, lf, lw⟩, m, t, v, rfl, S, hok.at_.mono (same_kt e3), hok.closed, hok.size, hok.most, ?_⟩
  revert q
  have hle := ev_left (fl := freeNames) (m := m) (e := .nil) (a := t)
  revert hle
  rw [show ev freeNames m .nil t = evF m .nil t from rfl]
  generalize evF m .nil t = res
  intro hle q
  cases res with
  | err c => exact fun H' k => q H' (k.out e3 hn)
  | dry => exact fun H' k => q H' (k.out e3 hn)
  | ok u m' L =>
    intro r n H' k hr' S'
    rw [hR1]
    walk_at "rd"
    have hle' : m' ≤ m := hle
    refine ⟨_, _, _, S'.ins, T.M_.cl, T.M_.na "deeds", _, machF_deeds _ _ _, new_ fun p H4 hp k4 a4 => q _ _ _ ((k.out e3 hn).trans k4) (hr'.weak.mono (Kp.same k4)) ?_⟩
    rw [a4, show ((m - m' : Nat) : Int) = (m : Int) - m' by omega]
end

abbrev s_made : Stmt := topS 49
abbrev N_made : List Str := ["tree", "most", "machine"]
theorem sc_made : FnScope N_made ["tree", "most"] (defScope s_made) := ⟨rfl, rfl, rfl, by decide +kernel, rfl, by decide +kernel, by decide +kernel⟩
theorem bd_made : BindAll "made" s_made ["tree", "most"] := fun _ _ _ _ _ _ us hl => match us, hl with | [_, _], _ => rfl
theorem st_made (v0 v1 : V) : start N_made [v0, v1] = [some v0, some v1, none] := rfl
section
variable {P : Program} {w : World} {K : PySem.W.Frag} {mg : Str → Option Value} {base : Heap} {R : Ers} {aA cM cK : Addr}
theorem df_made (T : MTxt K w mg R aA cM cK) (F : FunAt K mg "made" s_made) (D_need_start : DfX P w K mg base 4 "need_start" ["tree", "most"] (spStart R)) (K_Machine : MkD P w K mg base 1 "Machine" cM (spInitM cM)) (M_Machine_work_out : Mt (L2.CX P w) P w K mg base 6 cM "work_out" (spWorkOut cM cK R)) : DfX P w K mg base 7 "made" ["tree", "most"] (spMade R cK) := by
  refine F.dfX sc_made bd_made (fun vs H Q E h => ?_) (fun f cdv A outer s H vs Q E hr h => ?_)
  · obtain ⟨_, _, _, rfl, _⟩ := h; rfl
  obtain ⟨v, t, m, rfl, hok, q⟩ := h
  have nd := sc_made.nd
  refine ⟨_, (pss_cons (ps_expr (pe_callXP (E := E) D_need_start hr (by decide) rfl (passes_call (takes_of rfl rfl rfl rfl) fun _ _ _ _ h => h) (pa_cons (pv 0) (pa_cons (pv 1) pa_nil))))
  (pss_cons (ps_set (i := 2) nd rfl (Or.inl rfl) (pe_mkD K_Machine hr (by decide) rfl (pa_cons (pv 1) pa_nil)))
  (pss_cons (ps_expr (pe_me (E := E) M_Machine_work_out hr (by decide) (passes_call (takes_of rfl rfl rfl rfl) fun _ _ _ _ h => h) (pv 2) (pa_cons (pv 0) pa_nil)))
  (pss_one (ps_ret (pe_fld (pv 2) rfl)))))), ?_⟩
  rw [st_made]
  refine seq_ fun R1 hR1 => ?_
  walk_at "rd"
  refine ⟨v, .int m, rfl, .inr ⟨t, hok.at_, hok.good, hok.size, .inr (.inr ⟨hok.closed, ⟨m, rfl, hok.most⟩, fun H1 e1 => ?_⟩)⟩⟩
  rw [hR1]; clear hR1
  refine seq_ fun R1 hR1 => ?_
  walk_at "rd"
  intro x dx hx hdx hne
  refine ⟨x, dx, m, rfl, upd_same, fun lk lf lw H3 hk hf hw nkf nkw nfw kp hins h1 h2 h3 => ⟨rfl, ?_⟩⟩
  obtain ⟨S, e3, hn⟩ := mach_new (cK := cK) e1 hx hdx hne hk hf hw nkf nkw nfw kp hins h1 h2 h3
  rw [hR1]; clear hR1
  refine seq_ fun R1 hR1 => ?_
  walk_at "rd"
  refine ⟨_, _, hins, machF_no (by decide +kernel), ⟨x, dx, lk, lf, lw⟩, m, t, v, rfl, S, hok.at_.mono (same_kt e3), hok.closed, hok.size, hok.most, ?_⟩
  revert q
  generalize evF m .nil t = res
  intro q
  cases res with
  | err c => exact fun H' k => q H' (k.out e3 hn)
  | dry => exact fun H' k => q H' (k.out e3 hn)
  | ok u m' L =>
    intro r n H' k hr' S'
    rw [hR1]
    walk_at "rd"
    obtain ⟨ks, hks, pks⟩ := S'.ks
    exact ⟨_, _, _, S'.ins, T.M_.cl, T.M_.na "kepts", _, machF_kepts _ _ _, q _ ks H' (k.out e3 hn) hks (pr_mono pks fun _ _ h => h.weak)⟩
end

abbrev s__putting : Stmt := topS 40
abbrev N__putting : List Str := ["node", "here", "todo", "loose", "part", "name"]
theorem sc__putting : FnScope N__putting ["node", "here"] (defScope s__putting) := ⟨rfl, rfl, rfl, by decide +kernel, rfl, by decide +kernel, by decide +kernel⟩
theorem bd__putting : BindAll "_putting" s__putting ["node", "here"] := fun _ _ _ _ _ _ us hl => match us, hl with | [_, _], _ => rfl
theorem st__putting (v0 v1 : V) : start N__putting [v0, v1] = [some v0, some v1, none, none, none, none] := rfl
abbrev s_put_all : Stmt := topS 36
abbrev N_put_all : List Str := ["tree", "values", "done", "waiting", "node", "here", "ready", "start", "many"]
theorem sc_put_all : FnScope N_put_all ["tree", "values"] (defScope s_put_all) := ⟨rfl, rfl, rfl, by decide +kernel, rfl, by decide +kernel, by decide +kernel⟩
theorem bd_put_all : BindAll "put_all" s_put_all ["tree", "values"] := fun _ _ _ _ _ _ us hl => match us, hl with | [_, _], _ => rfl
theorem st_put_all (v0 v1 : V) : start N_put_all [v0, v1] = [some v0, some v1, none, none, none, none, none, none, none] := rfl
abbrev s_put : Stmt := topS 35
abbrev N_put : List Str := ["tree", "name", "value"]
theorem sc_put : FnScope N_put ["tree", "name", "value"] (defScope s_put) := ⟨rfl, rfl, rfl, by decide +kernel, rfl, by decide +kernel, by decide +kernel⟩
theorem bd_put : BindAll "put" s_put ["tree", "name", "value"] := fun _ _ _ _ _ _ us hl => match us, hl with | [_, _, _], _ => rfl
theorem st_put (v0 v1 v2 : V) : start N_put [v0, v1, v2] = [some v0, some v1, some v2] := rfl
section
variable {P : Program} {w : World} {K : PySem.W.Frag} {mg : Str → Option Value} {base : Heap} {aS : Addr}
theorem df_putting (T : UTxt K w mg aS) (F : FunAt K mg "_putting" s__putting) (D_parts : Df P w K mg base 1 "parts" ["tree"] spPartsS) : Df P w K mg base 2 "_putting" ["node", "here"] spPutting := by
  refine F.df sc__putting bd__putting (fun vs H Q E h => ?_) (fun f cdv A outer s H vs Q E hr h => ?_)
  · obtain ⟨_, _, _, _, rfl, _⟩ := h; rfl
  obtain ⟨t, s0, u, d, rfl, ht, hs, q⟩ := h
  have nd := sc__putting.nd
  have hu := hu_of hr
  refine ⟨_, (pss_cons (ps_setLc (i := 2) (own := [("part", 4)]) (g := gName 4) rfl nd rfl rfl (sw_true rfl rfl rfl (by decide +kernel)) (pi_list (pe_callD D_parts hr (by decide) rfl (pa_cons (pv 0) pa_nil))) (blkOk_by (N := N__putting) (sc := defScope s__putting) (by decide +kernel)) (fun _ _ _ _ _ => (pg_name (i := 4) nd rfl (Or.inl rfl))) (fun _ _ _ _ _ => pts_nil) (fun _ _ _ _ _ => (pe_tup (pa_cons (pv 4) (pa_cons (pv 1) (pa_cons pe_bl pa_nil))))))
  (pss_cons (ps_if (PW.pt (pw_and (PW.pt (pw_or (pt_cmpR op_eq (pe_ix ix_tup (pv 0) pe_int (fun _ _ => rfl)) pe_str (nomark _)) (pw_or1 (pt_cmpR op_eq (pe_ix ix_tup (pv 0) pe_int (fun _ _ => rfl)) pe_str (nomark _))))) (pw_and1 (pt_cmp (pc_din hu (pe_ix ix_tup (pv 0) pe_int (fun _ _ => rfl)) (pv 1))))))
    (pss_cons (ps_lock (ps_setDc (i := 3) (own := [("name", 5)]) (g := gName 5) rfl nd rfl rfl (swD_true rfl rfl rfl (by decide +kernel)) (pi_keys (pv 1)) (blkOk_by (N := N__putting) (sc := defScope s__putting) (by decide +kernel)) (fun _ _ _ _ _ => (pg_name (i := 5) nd rfl (Or.inl rfl))) (fun _ _ _ _ _ => (pts_one (pt_cmpR op_ne (pv 5) (pe_ix (ix_tupK (K := K)) (pv 0) pe_int (fun _ _ => rfl)) (nomark _)))) (fun _ _ _ _ _ => (pv 5)) (fun _ _ _ _ _ => (pe_dget hu (pv 1) (pv 5) (fun _ _ => rfl)))))
      (pss_one (ps_asg (pe_tup (pa_cons (pe_ix ix_tup (pv 0) (pe_un un_neg pe_int) (fun _ _ => rfl)) (pa_cons (pv 3) (pa_cons pe_bl pa_nil)))) (pg_sub (pv 2) (pe_un un_neg pe_int) set_list))))
    pss_nil)
  (pss_one (ps_ret (pv 2))))), ?_⟩
  rw [st__putting]
  refine seq_ fun R hR => ?_
  walk_at "rd"
  obtain ⟨a, ws, rfl, ha, hws⟩ := ht.view
  have wl := pr_len hws
  refine ⟨t, a, ws, rfl, ha, by rw [← wl]; exact t.kids_le, fun l H1 hl k1 a1 => ?_⟩
  walk_at "rd"
  refine ⟨⟨_, SqL.of a1⟩, lcL (fun i acc H' => Paired (AtK d H') (t.kids.take i) acc) (fun i acc H' H'' k p => pr_mono p fun _ _ => AtK.mono k) (SqL.of a1) (by rw [← wl]; exact Nat.le_trans t.kids_le (by decide)) (fun _ => rfl) .nil ?_ ?_⟩
  · intro i x acc H2 hi hl' e2 p Qy hy Qn hn
    walk_at "rd"
    obtain ⟨u, hu1, hu2⟩ := pr_right hws hi
    refine new_ fun pn H3 hpn k3 a3 => hy _ _ k3 ?_
    show Paired _ (t.kids.take (i + 1)) _
    rw [List.take_succ, hu1]
    exact pr_append (pr_mono p fun _ _ => AtK.mono (same_kt k3)) (.cons ⟨pn, _, rfl, a3, hu2.mono (same_kt (k1.trans (e2.trans k3)))⟩ .nil)
  · intro D ys H2 hD e2 hD2 p
    rw [← wl, List.take_length] at p
    rw [hR]; clear hR
    have ha2 := (k1.trans e2) _ _ ha
    have hs2 := hs.mono (same_kd (k1.trans e2))
    refine ifq_ fun R A B hR hA hB => ?_
    walk_at "rd"
    have hend : (∀ x, (t.word = "fun" ∨ t.word = "let") → t.own = [.str x] → s0 (.inr x) = none) → B H2 := by
      intro h
      rw [hB]
      walk_at "rd"
      rw [hR]
      walk_at "rd"
      refine q D ys H2 (k1.free hD) (k1.trans e2) hD2 ?_
      rw [Sh.pars_same h]
      exact AtK.items hs2 p
    have hgo : (t.word = "fun" ∨ t.word = "let") → ∃ x : List V, SqT K H2 a x ∧ ∃ x_1, atI x 1 = some x_1 ∧ ∃ x_2, DGet H2 d x_1 x_2 ∧ if x_2.isSome = true then A H2 else B H2 := by
      intro hw
      obtain ⟨x, ho⟩ := Sh.bind_own hw
      obtain ⟨kvs, hd, hkl, hkv⟩ := hs2.look
      refine ⟨_, SqT.of ha2, _, by rw [ho]; exact at1 _ _ _, _, DGet.k (k := Sum.inr x) hd, ?_⟩
      rcases hkv (.inr x) with ⟨h1, h2⟩ | ⟨r, tt, h1, h2, h3⟩
      · rw [h1, if_neg (by simp)]
        exact hend fun y _ hy => by rw [ho] at hy; cases hy; exact h2
      · rw [h1, if_pos (by rfl), hA]
        refine seq_ fun R1 hR1 => ?_
        refine lock_set (lock_dc (fun k => decide (k ≠ .inr x)) hd (szLt (by omega)) (fun H' Q h => ⟨_, rfl, h⟩) (fun _ => rfl) ?_ ?_)
        · intro k o H' e
          have hdf : H' d = some (.frz o (.dK kvs)) := e _ _ upd_same
          have had : a ≠ d := ne_of ha2 hd (by intro z; cases z)
          have ha3 : H' a = some (.tup (.str t.word :: t.own ++ ws)) := e _ _ (by rw [upd_ne had]; exact ha2)
          refine ⟨fun Qt h => ?_, fun Q h => ⟨_, rfl, h⟩, fun v Q hv h => ⟨_, rfl, _, rfl, d, v, rfl, .inl ⟨kvs, k, .inr ⟨o, hdf⟩, rfl, hv.symm⟩, h⟩⟩
          walk_at "rd"
          refine ⟨_, SqT.of ha3, .str x, by rw [ho]; exact at1 _ _ _, ?_⟩
          cases k with
          | inl i =>
            refine ⟨rfl, ?_⟩
            exact h
          | inr y =>
            refine ⟨rfl, ?_⟩
            have e1 : decide ((Sum.inr y : Key) ≠ Sum.inr x) = !decide (kV (.inr y) = V.str x) := by
              by_cases e : y = x
              · subst e; simp [kV]
              · simp [e, kV]
            rw [e1] at h
            exact h
        intro D3 acc H3 hD3 e3 hD3' hal hav
        rw [hR1]
        have hs3 : DictS H3 D3 (s0.del x) := ⟨acc, hD3', by omega, fun k => by
          rw [hav k]
          unfold Ss.del
          by_cases e : k = .inr x
          · subst e; exact .inl ⟨by simp, by simp⟩
          · rw [if_pos (by simp [e]), if_neg e]
            rcases hkv k with h | ⟨r, t, h1, h2, h3⟩
            · exact .inl h
            · exact .inr ⟨r, t, h1, h2, h3.mono (same_kt e3)⟩⟩
        obtain ⟨us, b, ek, ep⟩ := Sh.pars_last (s := s0) hw ho
        have p3 := pr_mono p fun _ _ => AtK.mono (d := d) (same_kt e3)
        rw [ek] at p3
        obtain ⟨zs, z, rfl, p1, p2⟩ : ∃ zs z, ys = zs ++ [z] ∧ Paired (AtK d H3) us zs ∧ AtK d H3 b z := by
          rcases List.eq_nil_or_concat ys with e0 | ⟨zs, z, e0⟩
          · subst e0
            have := pr_len p3
            simp at this
          · rw [List.concat_eq_append] at e0
            subst e0
            obtain ⟨us', u', e1, h1, h2⟩ := pr_snoc p3
            obtain ⟨rfl, e3⟩ := List.append_inj' e1 rfl
            obtain rfl : b = u' := by simpa using e3
            exact ⟨zs, z, rfl, h1, h2⟩
        obtain ⟨cs, c, ew, hc⟩ : ∃ cs c, ws = cs ++ [c] ∧ AtS H3 b c := by
          have hw3 : Paired (AtS H3) t.kids ws := pr_mono hws fun _ _ h => h.mono (same_kt (k1.trans (e2.trans e3)))
          rw [ek] at hw3
          rcases List.eq_nil_or_concat ws with e0 | ⟨cs, c, e0⟩
          · subst e0
            have := pr_len hw3
            simp at this
          · rw [List.concat_eq_append] at e0
            subst e0
            obtain ⟨us', u', e1, h1, h2⟩ := pr_snoc hw3
            obtain ⟨rfl, e3⟩ := List.append_inj' e1 rfl
            obtain rfl : b = u' := by simpa using e3
            exact ⟨cs, c, rfl, h2⟩
        have ha3 := e3 _ _ ha2
        walk_at "rd"
        refine ⟨_, SqT.of ha3, c, ?_, new_ fun pn H4 hpn k4 a4 => ⟨_, k4 _ _ (e3 _ _ hD2), _, ixN_last _ _, ?_⟩⟩
        · rw [ew, ← List.append_assoc]; exact atI_last _ _
        rw [hR, set_last]
        walk_at "rd"
        have e4 := k1.trans (e2.trans (e3.trans k4))
        have hDn : H D = none := k1.free hD
        have kk : KD H4 (upd H4 D (.lst (zs ++ [.ref pn]))) := kd_lst (k4 _ _ (e3 _ _ hD2))
        refine q D _ _ hDn (same_mut e4 hDn) upd_same ?_
        rw [ep, itemsP, List.map_append]
        refine pr_append (AtK.items ((hs2.mono (same_kd (e3.trans k4))).mono kk) (pr_mono p1 fun _ _ h => (h.mono (same_kt k4)).mono kk.kt)) (.cons ⟨pn, c, D3, rfl, kk.1 _ _ a4, (hc.mono (same_kt k4)).mono kk.kt, (hs3.mono (same_kd k4)).mono kk⟩ .nil)
    refine ⟨_, SqT.of ha2, _, at0 _ _, rfl, ?_⟩
    by_cases wf : t.word = "fun"
    · rw [if_pos (by rw [wf])]
      exact hgo (.inl wf)
    · rw [if_neg (by simp [wf])]
      refine ⟨_, SqT.of ha2, _, at0 _ _, rfl, ?_⟩
      by_cases wl' : t.word = "let"
      · rw [if_pos (by rw [wl'])]
        exact hgo (.inr wl')
      · rw [if_neg (by simp [wl'])]
        exact hend fun x hw _ => (hw.elim wf wl').elim
theorem df_put_all (T : UTxt K w mg aS) (F : FunAt K mg "put_all" s_put_all) (D__putting : Df P w K mg base 2 "_putting" ["node", "here"] spPutting) : Df P w K mg base 3 "put_all" ["tree", "values"] spPutAll := by
  refine F.df sc_put_all bd_put_all (fun vs H Q E h => ?_) (fun f cdv A outer s H vs Q E hr h => ?_)
  · obtain ⟨_, _, _, _, rfl, _⟩ := h; rfl
  obtain ⟨t, s0, u, d, rfl, ht, hs, htd, q⟩ := h
  have nd := sc_put_all.nd
  have hu := hu_of hr
  refine ⟨_, (pss_cons (ps_set (i := 2) nd rfl (Or.inl rfl) (pe_lst pa_nil))
  (pss_cons (ps_set (i := 3) nd rfl (Or.inl rfl) (pe_lst (pa_cons (pe_tup (pa_cons (pv 0) (pa_cons (pv 1) (pa_cons pe_bl pa_nil)))) pa_nil)))
  (pss_cons (ps_while PassesOwn.never (pt_truth (pv 3) (by intro _; rfl))
    (pss_cons (ps_asg (pe_bm0 PySem.F.plainAttrs_list PySem.F.slot_list_pop PySem.F.type_list_pop mt_popL (pv 3)) (pg_tup rfl (pgs_cons (pg_name (i := 4) nd rfl (Or.inl rfl)) (pgs_cons (pg_name (i := 5) nd rfl (Or.inl rfl)) (pgs_cons (pg_name (i := 6) nd rfl (Or.inl rfl)) pgs_nil)))))
      (pss_one (ps_if (pt_val (pv 6))
        (pss_cons (ps_set (i := 7) nd rfl (Or.inl rfl) (pe_ix ix_kd (pe_gref (by rfl) T.STARTS) (pe_ix ix_tup (pv 4) pe_int (fun _ _ => rfl)) (fun _ _ => rfl)))
          (pss_cons (ps_set (i := 8) nd rfl (Or.inl rfl) (pe_op op_sub (pe_callB call_len_seq (by rfl) T.len PySem.boot_len (pa_cons (pv 4) pa_nil)) (pv 7)))
          (pss_one (ps_tail (pv 2) (pe_un un_neg (pv 8)) (pe_lst (pa_cons (pe_op op_catT (pe_slice sl_tup (pv 4) po_none (po_some (pv 7))) (pe_tupleOf (by rfl) T.tuple (pe_slice sl_list (pv 2) (po_some (pe_un un_neg (pv 8))) po_none))) pa_nil)) rfl))))
        (pss_one (ps_if (pt_cmpR op_eq (pe_ix ix_tup (pv 4) pe_int (fun _ _ => rfl)) pe_str (nomark _))
            (pss_one (ps_expr (pe_bm PySem.F.plainAttrs_list PySem.F.slot_list_append PySem.F.type_list_append mt_append (pv 2) (pa_cons (pe_dget2 hu (pv 5) (pe_ix ix_tup (pv 4) pe_int (fun _ _ => rfl)) (pv 4) ⟨rfl, rfl, rfl, rfl⟩) pa_nil))))
            (pss_one (ps_if (PW.pt (pw_or (pt_cmpR op_eq (pe_ix ix_tup (pv 4) pe_int (fun _ _ => rfl)) pe_str (nomark _)) (pw_or1 (pt_cmpR op_eq (pe_callB call_lenD (by rfl) T.len PySem.boot_len (pa_cons (pv 5) pa_nil)) pe_int (nomark _)))))
                (pss_one (ps_expr (pe_bm PySem.F.plainAttrs_list PySem.F.slot_list_append PySem.F.type_list_append mt_append (pv 2) (pa_cons (pv 4) pa_nil))))
                (pss_cons (ps_expr (pe_bm PySem.F.plainAttrs_list PySem.F.slot_list_append PySem.F.type_list_append mt_append (pv 3) (pa_cons (pe_tup (pa_cons (pv 4) (pa_cons (pv 5) (pa_cons pe_bl pa_nil)))) pa_nil)))
                  (pss_one (ps_expr (pe_bm PySem.F.plainAttrs_list PySem.F.slot_list_extend PySem.F.type_list_extend mt_extend (pv 3) (pa_cons (pe_revL (pe_callD D__putting hr (by decide) rfl (pa_cons (pv 4) (pa_cons (pv 5) pa_nil)))) pa_nil)))))))))))))
  (pss_one (ps_ret (pe_ix ix_list (pv 2) pe_int (fun _ _ => rfl))))))), ?_⟩
  rw [st_put_all]
  refine seq_ fun R hR => ?_
  walk_at "rd"
  refine new_ fun ld H1 hld k1 a1 => ?_
  rw [hR]; clear hR
  refine seq_ fun R hR => ?_
  walk_at "rd"
  refine new_ fun p2 H2 hp2 k2 a2 => new_ fun lw H3 hlw k3 a3 => ?_
  rw [hR]; clear hR
  refine seq_ fun R hR => ?_
  have hld0 : H ld = none := hld
  have hlw0 : H lw = none := (k1.trans k2).free hlw
  have ndw : ld ≠ lw := ne_of_none (k2 _ _ a1) hlw
  refine whileL_ (fun m σ H' => ∃ (vs ds : List V) (W : List PIt) (D : List Sh) (o4 o5 o6 o7 o8 : Option V), σ = [some u, some (.ref d), some (.ref ld), some (.ref lw), o4, o5, o6, o7, o8] ∧ Same H H' ∧
    H' lw = some (.lst vs) ∧ H' ld = some (.lst ds) ∧ Paired (AtP H') W vs ∧ Paired (AtS H') D ds ∧ finP W.reverse D = [t.sub s0] ∧ okP W.reverse D.length ∧ dpP (4 * t.dep) W.reverse ∧ m = wtP W) (2 * t.size) ?_ ?_
  · refine ⟨_, _, [⟨t, s0, false⟩], [], none, none, none, none, none, rfl, (k1.trans k2).trans k3, a3, k3 _ _ (k2 _ _ a1), .cons ⟨p2, u, d, rfl, k3 _ _ a2, ht.mono (same_kt ((k1.trans k2).trans k3)), hs.mono (same_kd ((k1.trans k2).trans k3))⟩ .nil, .nil, rfl, rfl, ?_, ?_⟩
    · exact ⟨by simp, trivial⟩
    · simp [wtP, PIt.wt]
  · rintro m σ H5 ⟨vs, ds, W, D, o4, o5, o6, o7, o8, rfl, e5, hW, hD, pW, pD, hfin, hok, hdp, rfl⟩
    refine ⟨lw, vs, rfl, hW, fun h0 => ?_, fun ys y hy N hN => ?_⟩
    · subst h0
      cases pW
      show R _ _
      rw [hR]
      walk_at "rd"
      obtain rfl : D = [t.sub s0] := hfin
      cases pD with
      | cons h1 h2 =>
        cases h2
        exact ⟨_, SqL.of hD, _, at0 _ _, q _ _ e5 h1⟩
    · subst hy
      obtain ⟨us, i, rfl, pW1, hi⟩ := pr_snoc pW
      refine seq_ fun R1 hR1 => ?_
      walk_at "rd"
      have kt1 := kd_lst (o := .lst ys) hW
      refine ⟨.inl ⟨rfl, _, SqL.of hW⟩, _, _, hW, ?_⟩
      have e6 : Same H (upd H5 lw (.lst ys)) := same_mut e5 hlw0
      have hW6 : upd H5 lw (.lst ys) lw = some (.lst ys) := upd_same
      have hD6 : upd H5 lw (.lst ys) ld = some (.lst ds) := by rw [upd_ne ndw]; exact hD
      have pW6 := pr_mono pW1 fun _ _ h => AtP.mono kt1 h
      have pD6 := pr_mono pD fun _ _ h => AtS.mono kt1.kt h
      have hi6 := hi.mono kt1
      generalize upd H5 lw (.lst ys) = H6 at *
      rw [List.reverse_append, List.reverse_singleton, List.singleton_append] at hfin hok hdp
      have hwl := hdp.len
      have hdl := hok.le
      rw [List.length_cons, List.length_reverse] at hwl hdl
      have lW := pr_len pW6
      have lD := pr_len pD6
      obtain ⟨tt, ss, rr⟩ := i
      obtain ⟨p, tv, d', rfl, hp, htt, hss⟩ := hi6
      dsimp only at hp htt hss
      obtain ⟨na, ws, rfl, hna, hws⟩ := htt.view
      have wl := pr_len hws
      refine ⟨_, rfl, _, SqT.of hp, rfl, _, _, rfl, _, _, rfl, _, _, rfl, rfl, ?_⟩
      rw [hR1]; clear hR1
      refine ifs_ fun A B hA hB => ?_
      walk_at "rd"
      cases rr with
      | true =>
        rw [if_pos rfl, hA]; clear hA hB
        obtain ⟨hk1, hk2, hok2⟩ := hok
        refine seq_ fun R1 hR1 => ?_
        walk_at "rd"
        refine ⟨_, SqT.of hna, _, at0 _ _, _, rfl, _, by rw [← Sh.wd_str]; exact T.starts tt.wd, ?_⟩
        rw [hR1]; clear hR1
        refine seq_ fun R1 hR1 => ?_
        walk_at "rd"
        refine ⟨_, .inr (SqT.of hna), ?_⟩
        have hmany : (((V.str tt.word :: tt.own ++ ws).length : Nat) : Int) - tt.wd.start = ((tt.kids.length : Nat) : Int) := by
          rw [← Sh.wd_start, wl]
          simp only [List.length_append, List.length_cons]
          omega
        rw [hmany, ← Sh.wd_start]
        rw [hR1]; clear hR1
        walk_at "rd"
        have hol : tt.own.length ≤ 1 := by cases tt <;> simp [Sh.own]
        have hxl : (V.str tt.word :: tt.own ++ ws).length = tt.own.length + 1 + ws.length := by simp only [List.length_append, List.length_cons]
        refine ⟨_, SqT.of hna, ?_, new_ fun p7 H7 hp7 e7 h7 => ⟨_, SqL.of (e7 _ _ hD6), new_ fun p8 H8 hp8 e8 h8 => .inl ⟨_, SqL.of h8, ?_⟩⟩⟩
        · rw [show ((tt.own.length : Nat) : Int) + 1 = ((tt.own.length + 1 : Nat) : Int) by omega, HT.sIx_none, HT.sIx_nat, hxl]
          omega
        have ec1 : cutV (V.str tt.word :: tt.own ++ ws) none (some (((tt.own.length : Nat) : Int) + 1)) = V.str tt.word :: tt.own := by
          rw [show ((tt.own.length : Nat) : Int) + 1 = ((tt.own.length + 1 : Nat) : Int) by omega, cut_hi]
          rw [show tt.own.length + 1 = (V.str tt.word :: tt.own).length by simp, List.take_left]
        have ec2 : cutV ds (some (-((tt.kids.length : Nat) : Int))) none = ds.drop (D.length - tt.kids.length) := by rw [cut_tail (by rw [← lD]; exact hk1) hk2, lD]
        rw [ec1] at h7
        rw [ec2] at h8 ⊢
        intro q9 hq9
        have e9 := same_new (o := .tup (ds.drop (D.length - tt.kids.length))) hq9
        have h9 := upd_same (H := H8) (a := q9) (o := .tup (ds.drop (D.length - tt.kids.length)))
        generalize upd H8 q9 (.tup (ds.drop (D.length - tt.kids.length))) = H9 at *
        have hdl' : (ds.drop (D.length - tt.kids.length)).length = tt.kids.length := by rw [List.length_drop, ← lD]; omega
        refine ⟨_, _, _, _, rfl, rfl, SqT.of (e9 _ _ (e8 _ _ h7)), SqT.of h9, by simp, ?_, fun h => ?_, fun _ p10 hp10 => ?_⟩
        · rw [hdl']; have := tt.kids_le; simp only [List.length_cons]; exact szL (by omega)
        · rw [h] at hdl'; simp at hdl'; omega
        have e10 := same_new (o := .tup (V.str tt.word :: tt.own ++ ds.drop (D.length - tt.kids.length))) hp10
        have h10 := upd_same (H := H9) (a := p10) (o := .tup (V.str tt.word :: tt.own ++ ds.drop (D.length - tt.kids.length)))
        generalize upd H9 p10 (.tup (V.str tt.word :: tt.own ++ ds.drop (D.length - tt.kids.length))) = H10 at *
        refine new_ fun p11 H11 hp11 e11 h11 => ?_
        have c11 : Same H6 H11 := e7.trans (e8.trans (e9.trans (e10.trans e11)))
        have hD11 := c11 _ _ hD6
        have hnp : ld ≠ p11 := ne_of_none ((e7.trans (e8.trans (e9.trans e10))) _ _ hD6) hp11
        refine ⟨ds, [.ref p10], tt.kids.length, rfl, hk2, by rw [← lD]; exact hk1, hnp, hD11, h11, by rw [← lD]; simp only [List.length_singleton]; rw [sizeLine_eq]; omega, ?_⟩
        rw [show ds.length = D.length from lD.symm]
        have kk := kd_lst (o := .lst (ds.take (D.length - tt.kids.length) ++ [.ref p10])) hD11
        have kt := (same_kd c11).trans kk
        refine hN _ _ _ ?_ ⟨ys, _, us, D.take (D.length - tt.kids.length) ++ [tt.build (D.drop (D.length - tt.kids.length))], _, _, _, _, _, rfl, same_mut (e6.trans c11) hld0, by rw [upd_ne (Ne.symm ndw)]; exact c11 _ _ hW6, upd_same,
          pr_mono pW6 fun _ _ h => AtP.mono kt h, ?_, hfin, ?_, hdp.2, rfl⟩
        · rw [wtP_r]; omega
        · refine pr_append (pr_mono (pr_take pD6 _) fun _ _ h => h.mono kt.kt) (.cons ?_ .nil)
          refine AtS.build (by rw [List.length_drop]; omega) (kk.1 _ _ (e11 _ _ h10)) (pr_mono (pr_drop pD6 _) fun _ _ h => h.mono kt.kt)
        · rw [List.length_append, List.length_take, List.length_singleton, Nat.min_eq_left (by omega)]
          exact hok2
      | false =>
        rw [if_neg (by decide), hB]; clear hA hB
        obtain ⟨kvs, hd6, hkl, hkv⟩ := hss.look
        have hput : ∀ (r : V) (o7 o8 : Option V), AtS H6 (tt.sub ss) r → N [some u, some (.ref d), some (.ref ld), some (.ref lw), some (.ref na), some (.ref d'), some (.bl false), o7, o8] (upd H6 ld (.lst (ds ++ [r]))) := by
          intro r o7 o8 hr'
          have kk := kd_lst (o := .lst (ds ++ [r])) hD6
          refine hN _ _ _ ?_ ⟨ys, _, us, D ++ [tt.sub ss], _, _, _, _, _, rfl, same_mut e6 hld0, by rw [upd_ne (Ne.symm ndw)]; exact hW6, upd_same, pr_mono pW6 fun _ _ h => AtP.mono kk h,
            pr_append (pr_mono pD6 fun _ _ h => h.mono kk.kt) (.cons (hr'.mono kk.kt) .nil), hfin, ?_, hdp.2, rfl⟩
          · have := tt.size_pos
            rw [wtP_f]; omega
          · rw [List.length_append, List.length_singleton]; exact hok
        refine ifs_ fun A B hA hB => ?_
        walk_at "rd"
        refine ⟨_, SqT.of hna, _, at0 _ _, rfl, ?_⟩
        by_cases wn : tt.word = "name"
        · rw [if_pos (by rw [wn]), hA]; clear hA hB
          obtain ⟨k, rfl⟩ : ∃ k, tt = .name k := by cases tt <;> first | exact ⟨_, rfl⟩ | (simp only [Sh.word] at wn; exact absurd wn (by decide +kernel))
          walk_at "rd"
          refine ⟨.inl ⟨rfl, _, SqL.of hD6⟩, .inl ⟨kvs, .inl hd6⟩, _, SqT.of hna, kV k, at1 _ _ _, _, DGet.k hd6, _, hD6, ?_, hput _ _ _ ?_⟩
          · rw [← lD, sizeLine_eq]; omega
          · rcases hkv k with ⟨h1, h2⟩ | ⟨r, tr, h1, h2, h3⟩
            · rw [h1]; simp only [Sh.sub, h2, Option.getD_none]; exact htt
            · rw [h1]; simp only [Sh.sub, h2, Option.getD_some]; exact h3
        · rw [if_neg (by simp [wn]), hB]; clear hA hB
          refine ifs_ fun A B hA hB => ?_
          walk_at "rd"
          refine ⟨_, SqT.of hna, _, at0 _ _, rfl, ?_⟩
          have hsame : tt.sub ss = tt → A H6 := fun e => by
            rw [hA]
            walk_at "rd"
            exact ⟨.inl ⟨rfl, _, SqL.of hD6⟩, _, hD6, by rw [← lD, sizeLine_eq]; omega, hput _ _ _ (by rw [e]; exact htt)⟩
          by_cases wm : tt.word = "num"
          · rw [if_pos (by rw [wm])]
            refine hsame ?_
            cases tt <;> first | rfl | (simp only [Sh.word] at wm; exact absurd wm (by decide +kernel))
          · rw [if_neg (by simp [wm])]
            refine ⟨kvs, hd6, ?_⟩
            by_cases h0 : kvs = []
            · subst h0
              rw [if_pos (by simp)]
              refine hsame ?_
              have : ss = Ss.none := by
                funext k
                rcases hkv k with ⟨_, h2⟩ | ⟨r, tr, h1, _⟩
                · exact h2
                · cases h1
              rw [this]
              exact tt.sub_none
            · have hkn : ¬ ((kvs.length : Nat) : Int) = 0 := fun h => h0 (List.length_eq_zero_iff.mp (by omega))
              rw [if_neg hkn, hB]; clear hA hB
              have hk1 : 1 ≤ tt.kids.length := by
                cases tt <;> first | exact absurd rfl wn | exact absurd rfl wm | simp [Sh.kids]
              refine seq_ fun R1 hR1 => ?_
              walk_at "rd"
              refine ⟨.inl ⟨rfl, _, SqL.of hW6⟩, new_ fun p7 H7 hp7 e7 h7 => ⟨_, e7 _ _ hW6, by rw [← lW, sizeLine_eq]; omega, ?_⟩⟩
              rw [hR1]; clear hR1
              have kk7 := (same_kd e7).trans (kd_lst (o := .lst (ys ++ [.ref p7])) (e7 _ _ hW6))
              have hW8 : upd H7 lw (.lst (ys ++ [.ref p7])) lw = some (.lst (ys ++ [.ref p7])) := upd_same
              have hD8 : upd H7 lw (.lst (ys ++ [.ref p7])) ld = some (.lst ds) := by rw [upd_ne ndw]; exact e7 _ _ hD6
              have e8 : Same H (upd H7 lw (.lst (ys ++ [.ref p7]))) := same_mut (e6.trans e7) hlw0
              have hp8 := (kd_lst (o := .lst (ys ++ [.ref p7])) (e7 _ _ hW6)).1 _ _ h7
              generalize upd H7 lw (.lst (ys ++ [.ref p7])) = H8 at *
              walk_at "rd"
              refine ⟨.inl ⟨rfl, _, SqL.of hW8⟩, tt, ss, .ref na, d', rfl, htt.mono kk7.kt, hss.mono kk7, fun l9 rs H9 hl9 e9 h9 hrs => ?_⟩
              walk_at "rd"
              have lrs := pr_len hrs
              rw [itemsP_len, Sh.pars_len] at lrs
              have hkl3 := tt.kids_le
              refine ⟨_, SqL.of h9, new_ fun l10 H10 hl10 e10 h10 => ⟨_, (e9.trans e10) _ _ hW8, _, h10, ?_, ?_⟩⟩
              · rw [List.length_reverse, List.length_append, List.length_singleton, ← lrs, ← lW, sizeLine_eq]; omega
              have hWa := (e9.trans e10) _ _ hW8
              have kk := kd_lst (o := .lst (ys ++ [.ref p7] ++ rs.reverse)) hWa
              have k69 := kk7.trans ((same_kd (e9.trans e10)).trans kk)
              refine hN _ _ _ ?_ ⟨_, ds, us ++ [⟨tt, ss, true⟩] ++ (itemsP (tt.pars ss)).reverse, D, _, _, _, _, _, rfl, same_mut (e8.trans (e9.trans e10)) hlw0, upd_same, by rw [upd_ne ndw]; exact (e9.trans e10) _ _ hD8, ?_,
                pr_mono pD6 fun _ _ h => h.mono k69.kt, ?_, ?_, ?_, rfl⟩
              · have := wtP_items ss tt
                rw [wtP_append, wtP_reverse, wtP_r, wtP_f]; omega
              · refine pr_append (pr_append (pr_mono pW6 fun _ _ h => AtP.mono k69 h) (.cons ⟨p7, .ref na, d', rfl, kk.1 _ _ ((e9.trans e10) _ _ hp8), htt.mono k69.kt, hss.mono k69⟩ .nil)) (pr_rev (pr_mono hrs fun _ _ h => AtP.mono ((same_kd e10).trans kk) h))
              all_goals rw [List.reverse_append, List.reverse_reverse, List.reverse_append, List.reverse_singleton, List.singleton_append]
              · rw [finP_ready wn]; exact hfin
              · exact (okP_ready hk1).mpr hok
              · exact dpP_ready hdp
theorem df_put (T : UTxt K w mg aS) (F : FunAt K mg "put" s_put) (D_put_all : Df P w K mg base 3 "put_all" ["tree", "values"] spPutAll) : Df P w K mg base 4 "put" ["tree", "name", "value"] spPutS := by
  refine F.df sc_put bd_put (fun vs H Q E h => ?_) (fun f cdv A outer s H vs Q E hr h => ?_)
  · obtain ⟨_, _, _, _, _, rfl, _⟩ := h; rfl
  obtain ⟨t, v, k, u, y, rfl, ht, hv, hd, q⟩ := h
  have nd := sc_put.nd
  refine ⟨_, (pss_one (ps_ret (pe_callD D_put_all hr (by decide) rfl (pa_cons (pv 0) (pa_cons (pe_disp (pps_cons (pv 1) (pv 2) pps_nil) (by rfl) (by rfl) (fun z => by cases z) (by decide)) pa_nil))))), ?_⟩
  rw [st_put]
  walk_at "rd"
  intro p hp
  refine ⟨upd_same, [(k, y)], rfl, by simp, ?_⟩
  have e1 : Same H (upd (upd H p (.dK [])) p (.dK [(k, y)])) := by rw [upd_upd]; exact same_new hp
  have h1 : upd (upd H p (.dK [])) p (.dK [(k, y)]) p = some (.dK [(k, y)]) := upd_same
  show spPutAll _ (upd (upd H p (.dK [])) p (.dK [(k, y)])) _ _
  generalize upd (upd H p (.dK [])) p (.dK [(k, y)]) = H1 at *
  exact ⟨t, Ss.one k v, u, p, rfl, ht.mono (same_kt e1), DictS.one h1 (hv.mono (same_kt e1)), hd, fun r H' e h => q r H' (e1.trans e) h⟩
end

end K08

namespace K08
open PySem L2 My
open PyProof.Rows (envOfC)
local macro_rules | `(tactic| walk_at "rd") => `(tactic| simp only [My.ife, My.tFor_eq, My.cx_K, My.cx_w, My.rRdK, My.rNeSelf, rIsi, tAsg, tDrop, tChain, tThenZ, kTyp, My.rInK, My.rMulS, iStr, sFld, sFldAug, tFld, tMe, tMkD, tCallE, tDZ, rDZ, tRevT, rAdd, sTail, tThen, kTup, tDisp, tPairs, tDIn, tDNotIn, V.ty.injEq, rAll, rU, tRet, tRetN, tIfS, tVar, tC, tOp, tUn, rI0, rI, rEq, rNe, CDiv, CMul, CPow, My.tTup_eq, My.tLst_eq, My.tDNewK_eq, My.tRevL_eq, My.tRevS, tM1, tM0, My.sz0, My.sz1, My.sz2, My.sz3, My.sz4, My.sz5, My.sz8, tCons, tNil, My.tCallD, tCB, gName, gTup, gCons, gNil, gSub, tTest, tB, tAnd, tOr, tNot, tIf, tAndV, tOrV, tNotV, rSetL, rSlS, rIxL, rIxT, rIxS, My.rSlT_eq, My.rSlL_eq, rIn, rCat, tLc_eq, iList, iTup, iRng1, iRng2, iRng3, wipe, List.map_cons, List.map_nil, tSl, tPart, tNoPart, tBM, tBM0, rAppend, My.rPopL, rExtend, My.rExtendT, tNext, tBreak, tCont, My.scal_ii, My.scal_ss, My.scal_bb, My.scal_is, My.scal_si, ipI, rListD, sDPut, tDGet, tDGet2, tAug, List.getElem?_cons_zero, List.getElem?_cons_succ, List.set_cons_zero, List.set_cons_succ, Option.some.injEq, exists_eq_left', exists_eq_left, V.int.injEq, V.ref.injEq, V.str.injEq, V.bl.injEq, exists_and_left, true_and, and_true, List.cons.injEq, exists_const, Bool.false_eq_true, ↓reduceIte, reduceCtorEq, false_and, and_assoc, decide_true, decide_false])
local macro_rules | `(tactic| walk_at "st") => `(tactic| (refine My.seq_ fun R hR => ?_))
local macro_rules | `(tactic| walk_at "sd") => `(tactic| repeat (first | refine ⟨by decide, ?_⟩ | refine ⟨.inl (by decide), ?_⟩))

abbrev s__law_cell_at : Stmt := topS 53
abbrev N__law_cell_at : List Str := ["_law_script", "_law_k"]
theorem sc__law_cell_at : FnScope N__law_cell_at ["_law_script", "_law_k"] (defScope s__law_cell_at) := ⟨rfl, rfl, rfl, by decide +kernel, rfl, by decide +kernel, by decide +kernel⟩
theorem bd__law_cell_at : BindAll "_law_cell_at" s__law_cell_at ["_law_script", "_law_k"] := fun _ _ _ _ _ _ us hl => match us, hl with | [_, _], _ => rfl
theorem st__law_cell_at (v0 v1 : V) : start N__law_cell_at [v0, v1] = [some v0, some v1] := rfl
section
variable {P : Program} {w : World} {K : PySem.W.Frag} {mg : Str → Option Value} {base : Heap}
theorem df_cell (T : Bt mg) (F : FunAt K mg "_law_cell_at" s__law_cell_at) : Df P w K mg base 1 "_law_cell_at" ["_law_script", "_law_k"] (spCellA K) := by
  refine F.df sc__law_cell_at bd__law_cell_at (fun vs H Q E h => ?_) (fun f cdv A outer s H vs Q E hr h => ?_)
  · obtain ⟨_, _, _, rfl, _⟩ := h; rfl
  obtain ⟨a, ns, k, rfl, hS, q⟩ := h
  have nd := sc__law_cell_at.nd
  refine ⟨_, (pss_cons (ps_if (pt_cmpR op_lt (pv 1) (pe_callB call_len_seq (by rfl) T.len PySem.boot_len (pa_cons (pv 0) pa_nil)) (nomark _))
    (pss_one (ps_ret (pe_ix ix_list (pv 0) (pv 1) (fun _ _ => rfl))))
    pss_nil)
  (pss_one (ps_ret pe_int))), ?_⟩
  rw [st__law_cell_at]
  refine seq_ fun R hR => ?_
  walk_at "rd"
  refine ⟨_, .inl hS, ?_⟩
  split
  · exact ⟨_, hS, _, cell_at (by assumption), q⟩
  · rw [hR]
    walk_at "rd"
    rw [← cell_out (ns := ns) (k := k) (by assumption)]
    exact q
end

abbrev s__law_asked : Stmt := topS 54
abbrev N__law_asked : List Str := ["_law_way", "_law_tree", "_law_most"]
theorem sc__law_asked : FnScope N__law_asked ["_law_way", "_law_tree", "_law_most"] (defScope s__law_asked) := ⟨rfl, rfl, rfl, by decide +kernel, rfl, by decide +kernel, by decide +kernel⟩
theorem bd__law_asked : BindAll "_law_asked" s__law_asked ["_law_way", "_law_tree", "_law_most"] := fun _ _ _ _ _ _ us hl => match us, hl with | [_, _, _], _ => rfl
theorem st__law_asked (v0 v1 v2 : V) : start N__law_asked [v0, v1, v2] = [some v0, some v1, some v2] := rfl
section
variable {P : Program} {w : World} {K : PySem.W.Frag} {mg : Str → Option Value} {base : Heap} {R : Ers} {aA aV cW cM cK : Addr}
theorem df_workedB (T : WTxt K w mg R aA aV cW) (F : FunAt K mg "worked" s_worked) (D_need_start : DfX P w K mg base 4 "need_start" ["tree", "most"] (spStart R)) (D_need_deed : DfX P w K mg base 1 "need_deed" ["done", "most"] (spLeft R)) (K_Work : MkD P w K mg base 1 "Work" cW (spInitW cW))
    (M_Work_seek : Mt CX0 P w K mg base 3 cW "seek" (spSeek cW)) (M_Work_do_deed : Mt (L2.CX P w) P w K mg base 7 cW "do_deed" (spDeedW cW R fun _ => True)) : DfX P w K mg base 8 "worked" ["tree", "most"] (spBadS R) := by
  refine F.dfX sc_worked bd_worked (fun vs H Q E h => ?_) (fun f cdv A outer s H vs Q E hr h => ?_)
  · obtain ⟨_, _, _, rfl, _⟩ := h; rfl
  obtain ⟨tv, mv, k, rfl, hb, q⟩ := h
  have nd := sc_worked.nd
  refine ⟨_, (pss_cons (ps_expr (pe_callXP (E := E) D_need_start hr (by decide) rfl (passes_call (takes_of rfl rfl rfl rfl) fun _ _ _ _ h => h) (pa_cons (pv 0) (pa_cons (pv 1) pa_nil))))
  (pss_cons (ps_set (i := 2) nd rfl (Or.inl rfl) (pe_mkD K_Work hr (by decide) rfl (pa_cons (pv 0) pa_nil)))
  (pss_cons (ps_set (i := 3) nd rfl (Or.inl rfl) pe_int)
  (pss_cons (ps_while (passes_of rfl) (pt_val (pe_me0 (E := E0) M_Work_seek hr (by decide) pass0 (pv 2)))
    (pss_cons (ps_expr (pe_callXP (E := E) D_need_deed hr (by decide) rfl (passes_call (takes_of rfl rfl rfl rfl) fun _ _ _ _ h => h) (pa_cons (pv 3) (pa_cons (pv 1) pa_nil))))
      (pss_cons (ps_expr (pe_me0 (E := E) M_Work_do_deed hr (by decide) (passes_call (takes_of rfl rfl rfl rfl) fun _ _ _ _ h => h) (pv 2)))
      (pss_one (ps_aug (i := 3) nd rfl (Or.inl rfl) pe_int ip_add)))))
  (pss_one (ps_ret (pe_tup (pa_cons (pe_fld (pv 2) rfl) (pa_cons (pv 3) pa_nil))))))))), ?_⟩
  rw [st_worked]
  refine seq_ fun R1 hR1 => ?_
  walk_at "rd"
  exact bad_start hb q
theorem df_stepsB (T : WTxt K w mg R aA aV cW) (F : FunAt K mg "steps" s_steps) (D_need_start : DfX P w K mg base 4 "need_start" ["tree", "most"] (spStart R)) (D_need_deed : DfX P w K mg base 1 "need_deed" ["done", "most"] (spLeft R)) (K_Work : MkD P w K mg base 1 "Work" cW (spInitW cW))
    (M_Work_seek : Mt CX0 P w K mg base 3 cW "seek" (spSeek cW)) (M_Work_do_deed : Mt (L2.CX P w) P w K mg base 7 cW "do_deed" (spDeedW cW R fun _ => True)) (M_Work_whole : Mt CX0 P w K mg base 2 cW "whole" (spWholeW cW)) : DfX P w K mg base 8 "steps" ["tree", "most"] (spBadS R) := by
  refine F.dfX sc_steps bd_steps (fun vs H Q E h => ?_) (fun f cdv A outer s H vs Q E hr h => ?_)
  · obtain ⟨_, _, _, rfl, _⟩ := h; rfl
  obtain ⟨tv, mv, k, rfl, hb, q⟩ := h
  have nd := sc_steps.nd
  refine ⟨_, (pss_cons (ps_expr (pe_callXP (E := E) D_need_start hr (by decide) rfl (passes_call (takes_of rfl rfl rfl rfl) fun _ _ _ _ h => h) (pa_cons (pv 0) (pa_cons (pv 1) pa_nil))))
  (pss_cons (ps_set (i := 2) nd rfl (Or.inl rfl) (pe_mkD K_Work hr (by decide) rfl (pa_cons (pv 0) pa_nil)))
  (pss_cons (ps_set (i := 3) nd rfl (Or.inl rfl) (pe_lst (pa_cons (pv 0) pa_nil)))
  (pss_cons (ps_while (passes_of rfl) (pt_val (pe_me0 (E := E0) M_Work_seek hr (by decide) pass0 (pv 2)))
    (pss_cons (ps_expr (pe_callXP (E := E) D_need_deed hr (by decide) rfl (passes_call (takes_of rfl rfl rfl rfl) fun _ _ _ _ h => h) (pa_cons (pe_op op_sub (pe_callB call_len_seq (by rfl) T.len PySem.boot_len (pa_cons (pv 3) pa_nil)) pe_int) (pa_cons (pv 1) pa_nil))))
      (pss_cons (ps_expr (pe_me0 (E := E) M_Work_do_deed hr (by decide) (passes_call (takes_of rfl rfl rfl rfl) fun _ _ _ _ h => h) (pv 2)))
      (pss_one (ps_expr (pe_bm PySem.F.plainAttrs_list PySem.F.slot_list_append PySem.F.type_list_append mt_append (pv 3) (pa_cons (pe_me0 (E := E0) M_Work_whole hr (by decide) pass0 (pv 2)) pa_nil)))))))
  (pss_one (ps_ret (pv 3))))))), ?_⟩
  rw [st_steps]
  refine seq_ fun R1 hR1 => ?_
  walk_at "rd"
  exact bad_start hb q
theorem df_runB (T : MTxt K w mg R aA cM cK) (F : FunAt K mg "run" s_run) (D_need_start : DfX P w K mg base 4 "need_start" ["tree", "most"] (spStart R)) (K_Machine : MkD P w K mg base 1 "Machine" cM (spInitM cM)) (M_Machine_work_out : Mt (L2.CX P w) P w K mg base 6 cM "work_out" (spWorkOut cM cK R)) : DfX P w K mg base 7 "run" ["tree", "most"] (spBadS R) := by
  refine F.dfX sc_run bd_run (fun vs H Q E h => ?_) (fun f cdv A outer s H vs Q E hr h => ?_)
  · obtain ⟨_, _, _, rfl, _⟩ := h; rfl
  obtain ⟨tv, mv, k, rfl, hb, q⟩ := h
  have nd := sc_run.nd
  refine ⟨_, (pss_cons (ps_expr (pe_callXP (E := E) D_need_start hr (by decide) rfl (passes_call (takes_of rfl rfl rfl rfl) fun _ _ _ _ h => h) (pa_cons (pv 0) (pa_cons (pv 1) pa_nil))))
  (pss_cons (ps_set (i := 2) nd rfl (Or.inl rfl) (pe_mkD K_Machine hr (by decide) rfl (pa_cons (pv 1) pa_nil)))
  (pss_cons (ps_set (i := 3) nd rfl (Or.inl rfl) (pe_me (E := E) M_Machine_work_out hr (by decide) (passes_call (takes_of rfl rfl rfl rfl) fun _ _ _ _ h => h) (pv 2) (pa_cons (pv 0) pa_nil)))
  (pss_one (ps_ret (pe_tup (pa_cons (pv 3) (pa_cons (pe_fld (pv 2) rfl) pa_nil)))))))), ?_⟩
  rw [st_run]
  refine seq_ fun R1 hR1 => ?_
  walk_at "rd"
  exact bad_start hb q
theorem df_madeB (T : MTxt K w mg R aA cM cK) (F : FunAt K mg "made" s_made) (D_need_start : DfX P w K mg base 4 "need_start" ["tree", "most"] (spStart R)) (K_Machine : MkD P w K mg base 1 "Machine" cM (spInitM cM)) (M_Machine_work_out : Mt (L2.CX P w) P w K mg base 6 cM "work_out" (spWorkOut cM cK R)) : DfX P w K mg base 7 "made" ["tree", "most"] (spBadS R) := by
  refine F.dfX sc_made bd_made (fun vs H Q E h => ?_) (fun f cdv A outer s H vs Q E hr h => ?_)
  · obtain ⟨_, _, _, rfl, _⟩ := h; rfl
  obtain ⟨tv, mv, k, rfl, hb, q⟩ := h
  have nd := sc_made.nd
  refine ⟨_, (pss_cons (ps_expr (pe_callXP (E := E) D_need_start hr (by decide) rfl (passes_call (takes_of rfl rfl rfl rfl) fun _ _ _ _ h => h) (pa_cons (pv 0) (pa_cons (pv 1) pa_nil))))
  (pss_cons (ps_set (i := 2) nd rfl (Or.inl rfl) (pe_mkD K_Machine hr (by decide) rfl (pa_cons (pv 1) pa_nil)))
  (pss_cons (ps_expr (pe_me (E := E) M_Machine_work_out hr (by decide) (passes_call (takes_of rfl rfl rfl rfl) fun _ _ _ _ h => h) (pv 2) (pa_cons (pv 0) pa_nil)))
  (pss_one (ps_ret (pe_fld (pv 2) rfl)))))), ?_⟩
  rw [st_made]
  refine seq_ fun R1 hR1 => ?_
  walk_at "rd"
  exact bad_start hb q
theorem df_askedB (F : FunAt K mg "_law_asked" s__law_asked) (D_worked : DfX P w K mg base 8 "worked" ["tree", "most"] (spBadS R)) (D_steps : DfX P w K mg base 8 "steps" ["tree", "most"] (spBadS R)) (D_run : DfX P w K mg base 7 "run" ["tree", "most"] (spBadS R)) (D_made : DfX P w K mg base 7 "made" ["tree", "most"] (spBadS R)) :
    DfX P w K mg base 9 "_law_asked" ["_law_way", "_law_tree", "_law_most"] (spAskB R) := by
  refine F.dfX sc__law_asked bd__law_asked (fun vs H Q E h => ?_) (fun f cdv A outer s H vs Q E hr h => ?_)
  · obtain ⟨_, _, _, _, rfl, _⟩ := h; rfl
  obtain ⟨way, tv, mv, k, rfl, hb, q⟩ := h
  have nd := sc__law_asked.nd
  refine ⟨_, (pss_cons (ps_if (pt_cmpR op_eq (pv 0) pe_int (nomark _))
    (pss_one (ps_ret (pe_callXP (E := E) D_worked hr (by decide) rfl (passes_call (takes_of rfl rfl rfl rfl) fun _ _ _ _ h => h) (pa_cons (pv 1) (pa_cons (pv 2) pa_nil)))))
    pss_nil)
  (pss_cons (ps_if (pt_cmpR op_eq (pv 0) pe_int (nomark _))
    (pss_one (ps_ret (pe_callXP (E := E) D_steps hr (by decide) rfl (passes_call (takes_of rfl rfl rfl rfl) fun _ _ _ _ h => h) (pa_cons (pv 1) (pa_cons (pv 2) pa_nil)))))
    pss_nil)
  (pss_cons (ps_if (pt_cmpR op_eq (pv 0) pe_int (nomark _))
    (pss_one (ps_ret (pe_callXP (E := E) D_run hr (by decide) rfl (passes_call (takes_of rfl rfl rfl rfl) fun _ _ _ _ h => h) (pa_cons (pv 1) (pa_cons (pv 2) pa_nil)))))
    pss_nil)
  (pss_one (ps_ret (pe_callXP (E := E) D_made hr (by decide) rfl (passes_call (takes_of rfl rfl rfl rfl) fun _ _ _ _ h => h) (pa_cons (pv 1) (pa_cons (pv 2) pa_nil)))))))), ?_⟩
  rw [st__law_asked]
  have go : ∀ Q' : VK, spBadS R [tv, mv] H Q' E := fun Q' => ⟨tv, mv, k, rfl, hb, q⟩
  refine ifq_ fun R1 A1 B1 hR1 hA hB => ?_
  walk_at "rd"
  split
  · rw [hA]; walk_at "rd"; exact go _
  rw [hB]; walk_at "rd"; rw [hR1]; clear hR1 hA hB
  refine ifq_ fun R1 A1 B1 hR1 hA hB => ?_
  walk_at "rd"
  split
  · rw [hA]; walk_at "rd"; exact go _
  rw [hB]; walk_at "rd"; rw [hR1]; clear hR1 hA hB
  refine ifq_ fun R1 A1 B1 hR1 hA hB => ?_
  walk_at "rd"
  split
  · rw [hA]; walk_at "rd"; exact go _
  rw [hB]; walk_at "rd"; rw [hR1]; clear hR1 hA hB
  walk_at "rd"
  exact go _
theorem df_askedG (F : FunAt K mg "_law_asked" s__law_asked) (D_worked : DfX P w K mg base 8 "worked" ["tree", "most"] (spWorked R)) (D_steps : DfX P w K mg base 8 "steps" ["tree", "most"] (spSteps R)) (D_run : DfX P w K mg base 7 "run" ["tree", "most"] (spRun R (KVm cK NoA))) (D_made : DfX P w K mg base 7 "made" ["tree", "most"] (spMade R cK)) :
    DfX P w K mg base 9 "_law_asked" ["_law_way", "_law_tree", "_law_most"] (spAskG R cK) := by
  refine F.dfX sc__law_asked bd__law_asked (fun vs H Q E h => ?_) (fun f cdv A outer s H vs Q E hr h => ?_)
  · obtain ⟨_, _, _, _, rfl, _⟩ := h; rfl
  obtain ⟨way, v, t, m, rfl, hok, q0, q1, q2, q3⟩ := h
  have nd := sc__law_asked.nd
  refine ⟨_, (pss_cons (ps_if (pt_cmpR op_eq (pv 0) pe_int (nomark _))
    (pss_one (ps_ret (pe_callXP (E := E) D_worked hr (by decide) rfl (passes_call (takes_of rfl rfl rfl rfl) fun _ _ _ _ h => h) (pa_cons (pv 1) (pa_cons (pv 2) pa_nil)))))
    pss_nil)
  (pss_cons (ps_if (pt_cmpR op_eq (pv 0) pe_int (nomark _))
    (pss_one (ps_ret (pe_callXP (E := E) D_steps hr (by decide) rfl (passes_call (takes_of rfl rfl rfl rfl) fun _ _ _ _ h => h) (pa_cons (pv 1) (pa_cons (pv 2) pa_nil)))))
    pss_nil)
  (pss_cons (ps_if (pt_cmpR op_eq (pv 0) pe_int (nomark _))
    (pss_one (ps_ret (pe_callXP (E := E) D_run hr (by decide) rfl (passes_call (takes_of rfl rfl rfl rfl) fun _ _ _ _ h => h) (pa_cons (pv 1) (pa_cons (pv 2) pa_nil)))))
    pss_nil)
  (pss_one (ps_ret (pe_callXP (E := E) D_made hr (by decide) rfl (passes_call (takes_of rfl rfl rfl rfl) fun _ _ _ _ h => h) (pa_cons (pv 1) (pa_cons (pv 2) pa_nil)))))))), ?_⟩
  rw [st__law_asked]
  refine ifq_ fun R1 A1 B1 hR1 hA hB => ?_
  walk_at "rd"
  split
  · rename_i h
    rw [hA]; walk_at "rd"; exact q0 h
  rename_i h0
  rw [hB]; walk_at "rd"; rw [hR1]; clear hR1 hA hB
  refine ifq_ fun R1 A1 B1 hR1 hA hB => ?_
  walk_at "rd"
  split
  · rename_i h
    rw [hA]; walk_at "rd"; exact q1 h
  rename_i h1
  rw [hB]; walk_at "rd"; rw [hR1]; clear hR1 hA hB
  refine ifq_ fun R1 A1 B1 hR1 hA hB => ?_
  walk_at "rd"
  split
  · rename_i h
    rw [hA]; walk_at "rd"; exact q2 h
  rename_i h2
  rw [hB]; walk_at "rd"; rw [hR1]; clear hR1 hA hB
  walk_at "rd"
  exact q3 h0 h1 h2
end
end K08

namespace K08
open PySem L2 My
open PyProof.Rows (envOfC)
local macro_rules | `(tactic| walk_at "rd") => `(tactic| simp only [My.ife, My.tFor_eq, My.cx_K, My.cx_w, My.rRdK, My.rNeSelf, rIsi, tAsg, tDrop, tChain, tThenZ, kTyp, My.rInK, My.rMulS, iStr, sFld, sFldAug, tFld, tMe, tMkD, tCallE, tDZ, rDZ, tRevT, rAdd, sTail, tThen, kTup, tDisp, tPairs, tDIn, tDNotIn, V.ty.injEq, rAll, rU, tRet, tRetN, tIfS, tVar, tC, tOp, tUn, rI0, rI, rEq, rNe, CDiv, CMul, CPow, My.tTup_eq, My.tLst_eq, My.tDNewK_eq, My.tRevL_eq, My.tRevS, tM1, tM0, My.sz0, My.sz1, My.sz2, My.sz3, My.sz4, My.sz5, My.sz8, tCons, tNil, My.tCallD, tCB, gName, gTup, gCons, gNil, gSub, tTest, tB, tAnd, tOr, tNot, tIf, tAndV, tOrV, tNotV, rSetL, rSlS, rIxL, rIxT, rIxS, My.rSlT_eq, My.rSlL_eq, rIn, rCat, tLc_eq, iList, iTup, iRng1, iRng2, iRng3, wipe, List.map_cons, List.map_nil, tSl, tPart, tNoPart, tBM, tBM0, rAppend, My.rPopL, rExtend, My.rExtendT, tNext, tBreak, tCont, My.scal_ii, My.scal_ss, My.scal_bb, My.scal_is, My.scal_si, ipI, rListD, sDPut, tDGet, tDGet2, tAug, List.getElem?_cons_zero, List.getElem?_cons_succ, List.set_cons_zero, List.set_cons_succ, Option.some.injEq, exists_eq_left', exists_eq_left, V.int.injEq, V.ref.injEq, V.str.injEq, V.bl.injEq, exists_and_left, true_and, and_true, List.cons.injEq, exists_const, Bool.false_eq_true, ↓reduceIte, reduceCtorEq, false_and, and_assoc, decide_true, decide_false])
local macro_rules | `(tactic| walk_at "st") => `(tactic| (refine My.seq_ fun R hR => ?_))
local macro_rules | `(tactic| walk_at "sd") => `(tactic| repeat (first | refine ⟨by decide, ?_⟩ | refine ⟨.inl (by decide), ?_⟩))

/-- how a refusal's class is told -/
structure Is8 (K : PySem.W.Frag) (E : Ers) (cM D : Addr) (t c m d : Bool) : Prop where
  ex : ExcC K D
  mm : PySem.W.kitOne K (.ref D) (.ref cM) = some true
  vv : PySem.W.kitOne K (.ref D) (.type "ValueError") = some true
  tt : PySem.W.kitOne K (.ref D) (.ref E.tree) = some t
  cc : PySem.W.kitOne K (.ref D) (.ref E.closed) = some c
  bb : PySem.W.kitOne K (.ref D) (.ref E.most) = some m
  dd : PySem.W.kitOne K (.ref D) (.ref E.dry) = some d
  oo : PySem.W.kitAny K (.ref D) [.ref E.number, .ref E.function, .ref E.text] = some false
  a7 : PySem.W.exmAny K (.ref D) [.ref E.tree, .ref E.closed, .ref E.most, .ref E.dry, .ref E.number, .ref E.function, .ref E.text] = some true
  a4 : PySem.W.exmAny K (.ref D) [.ref E.tree, .ref E.closed, .ref E.most, .ref E.dry] = some true
structure LT8 (K : PySem.W.Frag) (mg : Str → Option Value) (R : Ers) (cM : Addr) : Prop extends Bt mg where
  cMillError : mg "MillError" = some (.ref cM)
  cNoNumber : mg "NoNumber" = some (.ref R.number)
  cNoFunction : mg "NoFunction" = some (.ref R.function)
  cDry : mg "Dry" = some (.ref R.dry)
  cNoTree : mg "NoTree" = some (.ref R.tree)
  cNotClosed : mg "NotClosed" = some (.ref R.closed)
  cBadMost : mg "BadMost" = some (.ref R.most)
  cNoText : mg "NoText" = some (.ref R.text)
  isT : Is8 K R cM R.tree true false false false
  isC : Is8 K R cM R.closed false true false false
  isM : Is8 K R cM R.most false false true false
  isD : Is8 K R cM R.dry false false false true
  mC : PySem.W.exmOne K (.ref R.closed) (.ref R.closed) = some true
theorem ask_dry {E : Ers} {cK : Addr} {H : Hp} {way : Int} {v : V} {t : Tr} {m : Nat} {Q : VK} {X : XK} (hok : OkIn H t v m) (he : evF m .nil t = .dry) (q : ∀ H', Same H H' → X (.ref E.dry) none H') : spAskG E cK [.int way, v, .int m] H Q X := by
  have hw := run_work (m := m) fl_mem hok.closed
  rw [show ev freeNames m .nil t = .dry from he] at hw
  refine ⟨way, v, t, m, rfl, hok, fun _ => ⟨v, t, m, rfl, hok, ?_⟩, fun _ => ⟨v, t, m, rfl, hok, ?_⟩, fun _ => ⟨v, t, m, rfl, hok, ?_⟩, fun _ _ _ => ⟨v, t, m, rfl, hok, ?_⟩⟩
  · rw [hw]; exact q
  · rw [hw]; exact q
  · rw [he]; exact q
  · rw [he]; exact q
abbrev s__law_word : Stmt := topS 55
abbrev N__law_word : List Str := ["_law_way", "_law_tree", "_law_most", "e", "_law_words"]
theorem sc__law_word : FnScope N__law_word ["_law_way", "_law_tree", "_law_most"] (defScope s__law_word) := ⟨rfl, rfl, rfl, by decide +kernel, rfl, by decide +kernel, by decide +kernel⟩
theorem bd__law_word : BindAll "_law_word" s__law_word ["_law_way", "_law_tree", "_law_most"] := fun _ _ _ _ _ _ us hl => match us, hl with | [_, _, _], _ => rfl
theorem st__law_word (v0 v1 v2 : V) : start N__law_word [v0, v1, v2] = [some v0, some v1, some v2, none, none] := rfl
abbrev s__law_based : Stmt := topS 56
abbrev N__law_based : List Str := ["_law_way", "_law_tree", "_law_most", "e"]
theorem sc__law_based : FnScope N__law_based ["_law_way", "_law_tree", "_law_most"] (defScope s__law_based) := ⟨rfl, rfl, rfl, by decide +kernel, rfl, by decide +kernel, by decide +kernel⟩
theorem bd__law_based : BindAll "_law_based" s__law_based ["_law_way", "_law_tree", "_law_most"] := fun _ _ _ _ _ _ us hl => match us, hl with | [_, _, _], _ => rfl
theorem st__law_based (v0 v1 v2 : V) : start N__law_based [v0, v1, v2] = [some v0, some v1, some v2, none] := rfl
section
variable {P : Program} {w : World} {K : PySem.W.Frag} {mg : Str → Option Value} {base : Heap} {R : Ers} {cM cK : Addr}
theorem df_wordB (T : LT8 K mg R cM) (F : FunAt K mg "_law_word" s__law_word) (D__law_asked : DfX P w K mg base 9 "_law_asked" ["_law_way", "_law_tree", "_law_most"] (spAskB R)) : Df P w K mg base 10 "_law_word" ["_law_way", "_law_tree", "_law_most"] spWordB := by
  refine F.df sc__law_word bd__law_word (fun vs H Q E h => ?_) (fun f cdv A outer s H vs Q E hr h => ?_)
  · obtain ⟨_, _, _, _, rfl, _⟩ := h; rfl
  obtain ⟨way, tv, mv, k, rfl, hb, q⟩ := h
  have nd := sc__law_word.nd
  obtain ⟨spA, hA⟩ : ∃ s, s = spAskB R := ⟨_, rfl⟩
  rw [← hA] at D__law_asked
  refine ⟨_, (pss_cons (ps_try_asT (i := 3) (tb := fun W => tDrop (tCallS spA (WE W) (tCons (tVar 0) (tCons (tVar 1) (tCons (tVar 2) tNil))))) (ts := fun a cls d => _) (Wout := fun _ _ _ _ => False) rfl rfl nd rfl rfl (.cons ⟨rfl, by decide, Or.inl T.cNoTree⟩ (.cons ⟨rfl, by decide, Or.inl T.cNotClosed⟩ (.cons ⟨rfl, by decide, Or.inl T.cBadMost⟩ (.cons ⟨rfl, by decide, Or.inl T.cDry⟩ (.cons ⟨rfl, by decide, Or.inl T.cNoNumber⟩ (.cons ⟨rfl, by decide, Or.inl T.cNoFunction⟩ (.cons ⟨rfl, by decide, Or.inl T.cNoText⟩ .nil))))))) (Nat.le_of_lt (szLt (by simp))) takes0
    (fun W pn xe tk _ => (pss_one (ps_expr (pe_callXS (E := WE W) D__law_asked hr (by decide) rfl (fun σ => passAt tk σ) (pa_cons (pv 0) (pa_cons (pv 1) (pa_cons (pv 2) pa_nil)))))))
    (fun a oe cls d pn hz hf => (pss_cons (ps_set (i := 4) nd rfl (Or.inl rfl) pe_str)
      (pss_cons (ps_if (pt_not (pt_val (pe_callB (call_isEa hz hf) (by rfl) T.isinstance (by decide +kernel) (pa_cons (pv 3) (pa_cons (pe_gref (by rfl) T.cMillError) pa_nil)))))
        (pss_one (ps_set (i := 4) nd rfl (Or.inl rfl) pe_str))
        pss_nil)
      (pss_cons (ps_if (pt_val (pe_callB (call_isEa hz hf) (by rfl) T.isinstance (by decide +kernel) (pa_cons (pv 3) (pa_cons (pe_gref (by rfl) T.cNoTree) pa_nil))))
        (pss_one (ps_set (i := 4) nd rfl (Or.inl rfl) (pe_op op_add_str (pv 4) pe_str)))
        pss_nil)
      (pss_cons (ps_if (pt_val (pe_callB (call_isEa hz hf) (by rfl) T.isinstance (by decide +kernel) (pa_cons (pv 3) (pa_cons (pe_gref (by rfl) T.cNotClosed) pa_nil))))
        (pss_one (ps_set (i := 4) nd rfl (Or.inl rfl) (pe_op op_add_str (pv 4) pe_str)))
        pss_nil)
      (pss_cons (ps_if (pt_val (pe_callB (call_isEa hz hf) (by rfl) T.isinstance (by decide +kernel) (pa_cons (pv 3) (pa_cons (pe_gref (by rfl) T.cBadMost) pa_nil))))
        (pss_one (ps_set (i := 4) nd rfl (Or.inl rfl) (pe_op op_add_str (pv 4) pe_str)))
        pss_nil)
      (pss_cons (ps_if (pt_val (pe_callB (call_isEa hz hf) (by rfl) T.isinstance (by decide +kernel) (pa_cons (pv 3) (pa_cons (pe_gref (by rfl) T.cDry) pa_nil))))
        (pss_one (ps_set (i := 4) nd rfl (Or.inl rfl) (pe_op op_add_str (pv 4) pe_str)))
        pss_nil)
      (pss_cons (ps_if (pt_val (pe_callB (call_isEaT hz hf) (by rfl) T.isinstance (by decide +kernel) (pa_cons (pv 3) (pa_cons (pe_tup (pa_cons (pe_gref (by rfl) T.cNoNumber) (pa_cons (pe_gref (by rfl) T.cNoFunction) (pa_cons (pe_gref (by rfl) T.cNoText) pa_nil)))) pa_nil))))
        (pss_one (ps_set (i := 4) nd rfl (Or.inl rfl) (pe_op op_add_str (pv 4) pe_str)))
        pss_nil)
      (pss_one (ps_ret (pv 4))))))))))))
  (pss_one (ps_ret pe_str))), ?_⟩
  rw [st__law_word]
  subst hA
  refine seq_ fun R1 hR1 => ?_
  walk_at "rd"
  unfold tCallS
  walk_at "rd"
  refine ⟨way, tv, mv, k, rfl, hb, fun H1 e1 => ?_⟩
  have hI : (Is8 K R cM (R.ref k) true false false false ∧ refW k = "tree") ∨ (Is8 K R cM (R.ref k) false true false false ∧ refW k = "closed") ∨ (Is8 K R cM (R.ref k) false false true false ∧ refW k = "most") := by
    match k with
    | 0 => exact .inl ⟨T.isT, rfl⟩
    | 1 => exact .inr (.inl ⟨T.isC, rfl⟩)
    | k + 2 => exact .inr (.inr ⟨T.isM, rfl⟩)
  have q : ∀ (z : Str) (H' : Hp), z = refW k → Same H H' → Q (.str z) H' := fun z H' e s => by rw [e]; exact q H' s
  rcases hI with ⟨hi, hz⟩ | ⟨hi, hz⟩ | ⟨hi, hz⟩ <;> rw [hz] at q <;> refine ⟨true, hi.a7, (fun z => by cases z), fun _ a ha => ?_⟩ <;> clear hb hz
  all_goals (
  refine seq_ fun R2 hR2 => ?_
  walk_at "rd"
  rw [hR2]; clear hR2
  refine ifq_ fun R2 A2 B2 hR2 hA hB => ?_
  walk_at "rd"
  refine ⟨_, rfl, rfl, hi.ex, .ref cM, .ref cM, true, rfl, (fun u h => h), hi.mm, true, rfl, ?_⟩
  rw [if_neg (by decide), hB]; clear hA hB
  walk_at "rd"
  rw [hR2]; clear hR2
  refine ifq_ fun R2 A2 B2 hR2 hA hB => ?_
  walk_at "rd"
  refine ⟨_, rfl, rfl, hi.ex, .ref R.tree, .ref R.tree, _, rfl, (fun u h => h), hi.tt, _, rfl, ?_⟩
  first
    | (rw [if_neg (by decide), hB]; clear hA hB; walk_at "rd")
    | (rw [if_pos rfl, hA]; clear hA hB; walk_at "rd"; refine ⟨by rw [sizeLine_eq]; decide +kernel, ?_⟩)
  rw [hR2]; clear hR2
  refine ifq_ fun R2 A2 B2 hR2 hA hB => ?_
  walk_at "rd"
  refine ⟨_, rfl, rfl, hi.ex, .ref R.closed, .ref R.closed, _, rfl, (fun u h => h), hi.cc, _, rfl, ?_⟩
  first
    | (rw [if_neg (by decide), hB]; clear hA hB; walk_at "rd")
    | (rw [if_pos rfl, hA]; clear hA hB; walk_at "rd"; refine ⟨by rw [sizeLine_eq]; decide +kernel, ?_⟩)
  rw [hR2]; clear hR2
  refine ifq_ fun R2 A2 B2 hR2 hA hB => ?_
  walk_at "rd"
  refine ⟨_, rfl, rfl, hi.ex, .ref R.most, .ref R.most, _, rfl, (fun u h => h), hi.bb, _, rfl, ?_⟩
  first
    | (rw [if_neg (by decide), hB]; clear hA hB; walk_at "rd")
    | (rw [if_pos rfl, hA]; clear hA hB; walk_at "rd"; refine ⟨by rw [sizeLine_eq]; decide +kernel, ?_⟩)
  rw [hR2]; clear hR2
  refine ifq_ fun R2 A2 B2 hR2 hA hB => ?_
  walk_at "rd"
  refine ⟨_, rfl, rfl, hi.ex, .ref R.dry, .ref R.dry, _, rfl, (fun u h => h), hi.dd, _, rfl, ?_⟩
  first
    | (rw [if_neg (by decide), hB]; clear hA hB; walk_at "rd")
    | (rw [if_pos rfl, hA]; clear hA hB; walk_at "rd"; refine ⟨by rw [sizeLine_eq]; decide +kernel, ?_⟩)
  rw [hR2]; clear hR2
  refine ifq_ fun R2 A2 B2 hR2 hA hB => ?_
  walk_at "rd"
  refine new_ fun p2 H2 hp2 e2 g2 => ?_
  refine ⟨_, rfl, rfl, hi.ex, p2, [R.number, R.function, R.text], false, rfl, g2, hi.oo, false, rfl, ?_⟩
  rw [if_neg (by decide), hB]; clear hA hB
  walk_at "rd"
  rw [hR2]; clear hR2
  walk_at "rd"
  exact q _ _ (by decide +kernel) (e1.trans e2)
  )
theorem df_wordG (T : LT8 K mg R cM) (F : FunAt K mg "_law_word" s__law_word) (D__law_asked : DfX P w K mg base 9 "_law_asked" ["_law_way", "_law_tree", "_law_most"] (spAskG R cK)) : Df P w K mg base 10 "_law_word" ["_law_way", "_law_tree", "_law_most"] spWordG := by
  refine F.df sc__law_word bd__law_word (fun vs H Q E h => ?_) (fun f cdv A outer s H vs Q E hr h => ?_)
  · obtain ⟨_, _, _, _, rfl, _⟩ := h; rfl
  obtain ⟨way, v, t, m, rfl, hok, q⟩ := h
  have nd := sc__law_word.nd
  obtain ⟨spA, hA⟩ : ∃ s, s = spAskG R cK := ⟨_, rfl⟩
  rw [← hA] at D__law_asked
  refine ⟨_, (pss_cons (ps_try_asT (i := 3) (tb := fun W => tDrop (tCallS spA (WE W) (tCons (tVar 0) (tCons (tVar 1) (tCons (tVar 2) tNil))))) (ts := fun a cls d => _) (Wout := fun _ _ _ _ => False) rfl rfl nd rfl rfl (.cons ⟨rfl, by decide, Or.inl T.cNoTree⟩ (.cons ⟨rfl, by decide, Or.inl T.cNotClosed⟩ (.cons ⟨rfl, by decide, Or.inl T.cBadMost⟩ (.cons ⟨rfl, by decide, Or.inl T.cDry⟩ (.cons ⟨rfl, by decide, Or.inl T.cNoNumber⟩ (.cons ⟨rfl, by decide, Or.inl T.cNoFunction⟩ (.cons ⟨rfl, by decide, Or.inl T.cNoText⟩ .nil))))))) (Nat.le_of_lt (szLt (by simp))) takes0
    (fun W pn xe tk _ => (pss_one (ps_expr (pe_callXS (E := WE W) D__law_asked hr (by decide) rfl (fun σ => passAt tk σ) (pa_cons (pv 0) (pa_cons (pv 1) (pa_cons (pv 2) pa_nil)))))))
    (fun a oe cls d pn hz hf => (pss_cons (ps_set (i := 4) nd rfl (Or.inl rfl) pe_str)
      (pss_cons (ps_if (pt_not (pt_val (pe_callB (call_isEa hz hf) (by rfl) T.isinstance (by decide +kernel) (pa_cons (pv 3) (pa_cons (pe_gref (by rfl) T.cMillError) pa_nil)))))
        (pss_one (ps_set (i := 4) nd rfl (Or.inl rfl) pe_str))
        pss_nil)
      (pss_cons (ps_if (pt_val (pe_callB (call_isEa hz hf) (by rfl) T.isinstance (by decide +kernel) (pa_cons (pv 3) (pa_cons (pe_gref (by rfl) T.cNoTree) pa_nil))))
        (pss_one (ps_set (i := 4) nd rfl (Or.inl rfl) (pe_op op_add_str (pv 4) pe_str)))
        pss_nil)
      (pss_cons (ps_if (pt_val (pe_callB (call_isEa hz hf) (by rfl) T.isinstance (by decide +kernel) (pa_cons (pv 3) (pa_cons (pe_gref (by rfl) T.cNotClosed) pa_nil))))
        (pss_one (ps_set (i := 4) nd rfl (Or.inl rfl) (pe_op op_add_str (pv 4) pe_str)))
        pss_nil)
      (pss_cons (ps_if (pt_val (pe_callB (call_isEa hz hf) (by rfl) T.isinstance (by decide +kernel) (pa_cons (pv 3) (pa_cons (pe_gref (by rfl) T.cBadMost) pa_nil))))
        (pss_one (ps_set (i := 4) nd rfl (Or.inl rfl) (pe_op op_add_str (pv 4) pe_str)))
        pss_nil)
      (pss_cons (ps_if (pt_val (pe_callB (call_isEa hz hf) (by rfl) T.isinstance (by decide +kernel) (pa_cons (pv 3) (pa_cons (pe_gref (by rfl) T.cDry) pa_nil))))
        (pss_one (ps_set (i := 4) nd rfl (Or.inl rfl) (pe_op op_add_str (pv 4) pe_str)))
        pss_nil)
      (pss_cons (ps_if (pt_val (pe_callB (call_isEaT hz hf) (by rfl) T.isinstance (by decide +kernel) (pa_cons (pv 3) (pa_cons (pe_tup (pa_cons (pe_gref (by rfl) T.cNoNumber) (pa_cons (pe_gref (by rfl) T.cNoFunction) (pa_cons (pe_gref (by rfl) T.cNoText) pa_nil)))) pa_nil))))
        (pss_one (ps_set (i := 4) nd rfl (Or.inl rfl) (pe_op op_add_str (pv 4) pe_str)))
        pss_nil)
      (pss_one (ps_ret (pv 4))))))))))))
  (pss_one (ps_ret pe_str))), ?_⟩
  rw [st__law_word]
  subst hA
  refine seq_ fun R1 hR1 => ?_
  walk_at "rd"
  unfold tCallS
  walk_at "rd"
  have hw := run_work (m := m) fl_mem hok.closed
  rcases q with ⟨⟨u, m', L, he⟩, q⟩ | ⟨he, q⟩
  · have he' : ev freeNames m .nil t = .ok u m' L := he
    rw [he'] at hw
    have fin : ∀ H1, Same H H1 → R1 [some (.int way), some v, some (.int m), none, none] H1 := fun H1 e1 => by
      rw [hR1]
      walk_at "rd"
      exact q H1 e1
    refine ⟨way, v, t, m, rfl, hok, fun _ => ⟨v, t, m, rfl, hok, ?_⟩, fun _ => ⟨v, t, m, rfl, hok, ?_⟩, fun _ => ⟨v, t, m, rfl, hok, ?_⟩, fun _ _ _ => ⟨v, t, m, rfl, hok, ?_⟩⟩
    · rw [hw]; exact fun r p H1 e1 _ _ => fin H1 e1
    · rw [hw]; exact fun rs l H1 e1 _ _ => fin H1 e1
    · rw [he]; exact fun r p H1 e1 _ _ => fin H1 e1
    · rw [he]; exact fun l rs H1 e1 _ _ => fin H1 e1
  · have he' : ev freeNames m .nil t = .dry := he
    rw [he'] at hw
    have q : ∀ (z : Str) (H' : Hp), z = "dry" → Same H H' → Q (.str z) H' := fun z H' e s => by rw [e]; exact q H' s
    refine ask_dry hok he ?_
    intro H1 e1
    have hi := T.isD
    refine ⟨true, hi.a7, (fun z => by cases z), fun _ a ha => ?_⟩
    refine seq_ fun R2 hR2 => ?_
    walk_at "rd"
    rw [hR2]; clear hR2
    refine ifq_ fun R2 A2 B2 hR2 hA hB => ?_
    walk_at "rd"
    refine ⟨_, rfl, rfl, hi.ex, .ref cM, .ref cM, true, rfl, (fun u h => h), hi.mm, true, rfl, ?_⟩
    rw [if_neg (by decide), hB]; clear hA hB
    walk_at "rd"
    rw [hR2]; clear hR2
    refine ifq_ fun R2 A2 B2 hR2 hA hB => ?_
    walk_at "rd"
    refine ⟨_, rfl, rfl, hi.ex, .ref R.tree, .ref R.tree, _, rfl, (fun u h => h), hi.tt, _, rfl, ?_⟩
    first
      | (rw [if_neg (by decide), hB]; clear hA hB; walk_at "rd")
      | (rw [if_pos rfl, hA]; clear hA hB; walk_at "rd"; refine ⟨by rw [sizeLine_eq]; decide +kernel, ?_⟩)
    rw [hR2]; clear hR2
    refine ifq_ fun R2 A2 B2 hR2 hA hB => ?_
    walk_at "rd"
    refine ⟨_, rfl, rfl, hi.ex, .ref R.closed, .ref R.closed, _, rfl, (fun u h => h), hi.cc, _, rfl, ?_⟩
    first
      | (rw [if_neg (by decide), hB]; clear hA hB; walk_at "rd")
      | (rw [if_pos rfl, hA]; clear hA hB; walk_at "rd"; refine ⟨by rw [sizeLine_eq]; decide +kernel, ?_⟩)
    rw [hR2]; clear hR2
    refine ifq_ fun R2 A2 B2 hR2 hA hB => ?_
    walk_at "rd"
    refine ⟨_, rfl, rfl, hi.ex, .ref R.most, .ref R.most, _, rfl, (fun u h => h), hi.bb, _, rfl, ?_⟩
    first
      | (rw [if_neg (by decide), hB]; clear hA hB; walk_at "rd")
      | (rw [if_pos rfl, hA]; clear hA hB; walk_at "rd"; refine ⟨by rw [sizeLine_eq]; decide +kernel, ?_⟩)
    rw [hR2]; clear hR2
    refine ifq_ fun R2 A2 B2 hR2 hA hB => ?_
    walk_at "rd"
    refine ⟨_, rfl, rfl, hi.ex, .ref R.dry, .ref R.dry, _, rfl, (fun u h => h), hi.dd, _, rfl, ?_⟩
    first
      | (rw [if_neg (by decide), hB]; clear hA hB; walk_at "rd")
      | (rw [if_pos rfl, hA]; clear hA hB; walk_at "rd"; refine ⟨by rw [sizeLine_eq]; decide +kernel, ?_⟩)
    rw [hR2]; clear hR2
    refine ifq_ fun R2 A2 B2 hR2 hA hB => ?_
    walk_at "rd"
    refine new_ fun p2 H2 hp2 e2 g2 => ?_
    refine ⟨_, rfl, rfl, hi.ex, p2, [R.number, R.function, R.text], false, rfl, g2, hi.oo, false, rfl, ?_⟩
    rw [if_neg (by decide), hB]; clear hA hB
    walk_at "rd"
    rw [hR2]; clear hR2
    walk_at "rd"
    exact q _ _ (by decide +kernel) (e1.trans e2)
theorem df_based (T : LT8 K mg R cM) (F : FunAt K mg "_law_based" s__law_based) (D__law_asked : DfX P w K mg base 9 "_law_asked" ["_law_way", "_law_tree", "_law_most"] (spAskB R)) : Df P w K mg base 10 "_law_based" ["_law_way", "_law_tree", "_law_most"] spBasedB := by
  refine F.df sc__law_based bd__law_based (fun vs H Q E h => ?_) (fun f cdv A outer s H vs Q E hr h => ?_)
  · obtain ⟨_, _, _, _, rfl, _⟩ := h; rfl
  obtain ⟨way, tv, mv, k, rfl, hb, q⟩ := h
  have nd := sc__law_based.nd
  obtain ⟨spA, hA⟩ : ∃ s, s = spAskB R := ⟨_, rfl⟩
  rw [← hA] at D__law_asked
  refine ⟨_, (pss_cons (ps_try_asT (i := 3) (tb := fun W => tDrop (tCallS spA (WE W) (tCons (tVar 0) (tCons (tVar 1) (tCons (tVar 2) tNil))))) (ts := fun a cls d => _) (Wout := fun _ _ _ _ => False) rfl rfl nd rfl rfl (.cons ⟨rfl, by decide, Or.inl T.cNoTree⟩ (.cons ⟨rfl, by decide, Or.inl T.cNotClosed⟩ (.cons ⟨rfl, by decide, Or.inl T.cBadMost⟩ (.cons ⟨rfl, by decide, Or.inl T.cDry⟩ .nil)))) (Nat.le_of_lt (szLt (by simp))) takes0
    (fun W pn xe tk _ => (pss_one (ps_expr (pe_callXS (E := WE W) D__law_asked hr (by decide) rfl (fun σ => passAt tk σ) (pa_cons (pv 0) (pa_cons (pv 1) (pa_cons (pv 2) pa_nil)))))))
    (fun a oe cls d pn hz hf => (pss_one (ps_ret (pe_and (pe_callB (call_isEa hz hf) (by rfl) T.isinstance (by decide +kernel) (pa_cons (pv 3) (pa_cons (pe_gref (by rfl) T.cMillError) pa_nil))) (pe_one (pe_callB (call_isEa hz hf) (by rfl) T.isinstance (by decide +kernel) (pa_cons (pv 3) (pa_cons (pe_bltn (v := .ty "ValueError") (by rfl) T.ValueError (by decide +kernel) rfl) pa_nil)))))))))
  (pss_one (ps_ret pe_bl))), ?_⟩
  rw [st__law_based]
  subst hA
  refine seq_ fun R1 hR1 => ?_
  walk_at "rd"
  unfold tCallS
  walk_at "rd"
  refine ⟨way, tv, mv, k, rfl, hb, fun H1 e1 => ?_⟩
  have hI : ∃ t c m d, Is8 K R cM (R.ref k) t c m d := by
    match k with
    | 0 => exact ⟨_, _, _, _, T.isT⟩
    | 1 => exact ⟨_, _, _, _, T.isC⟩
    | k + 2 => exact ⟨_, _, _, _, T.isM⟩
  obtain ⟨t, c, m, d, hi⟩ := hI
  refine ⟨true, hi.a4, (fun z => by cases z), fun _ a ha => ?_⟩
  walk_at "rd"
  refine ⟨_, rfl, rfl, hi.ex, .ref cM, .ref cM, true, rfl, (fun u h => h), hi.mm, true, rfl, ?_⟩
  rw [if_pos rfl]
  exact ⟨_, rfl, rfl, hi.ex, .ty "ValueError", .type "ValueError", true, rfl, (fun u h => h), hi.vv, q _ e1⟩
end
end K08

namespace K08
open PySem L2 My
open PyProof.Rows (envOfC)
local macro_rules | `(tactic| walk_at "rd") => `(tactic| simp only [My.ife, My.tFor_eq, My.cx_K, My.cx_w, My.rRdK, My.rNeSelf, rIsi, tAsg, tDrop, tChain, tThenZ, kTyp, My.rInK, My.rMulS, iStr, sFld, sFldAug, tFld, tMe, tMkD, tCallE, tDZ, rDZ, tRevT, rAdd, sTail, tThen, kTup, tDisp, tPairs, tDIn, tDNotIn, V.ty.injEq, rAll, rU, tRet, tRetN, tIfS, tVar, tC, tOp, tUn, rI0, rI, rEq, rNe, CDiv, CMul, CPow, My.tTup_eq, My.tLst_eq, My.tDNewK_eq, My.tRevL_eq, My.tRevS, tM1, tM0, My.sz0, My.sz1, My.sz2, My.sz3, My.sz4, My.sz5, My.sz8, tCons, tNil, My.tCallD, tCB, gName, gTup, gCons, gNil, gSub, tTest, tB, tAnd, tOr, tNot, tIf, tAndV, tOrV, tNotV, rSetL, rSlS, rIxL, rIxT, rIxS, My.rSlT_eq, My.rSlL_eq, rIn, rCat, tLc_eq, iList, iTup, iRng1, iRng2, iRng3, wipe, List.map_cons, List.map_nil, tSl, tPart, tNoPart, tBM, tBM0, rAppend, My.rPopL, rExtend, My.rExtendT, tNext, tBreak, tCont, My.scal_ii, My.scal_ss, My.scal_bb, My.scal_is, My.scal_si, ipI, rListD, sDPut, tDGet, tDGet2, tAug, List.getElem?_cons_zero, List.getElem?_cons_succ, List.set_cons_zero, List.set_cons_succ, Option.some.injEq, exists_eq_left', exists_eq_left, V.int.injEq, V.ref.injEq, V.str.injEq, V.bl.injEq, exists_and_left, true_and, and_true, List.cons.injEq, exists_const, Bool.false_eq_true, ↓reduceIte, reduceCtorEq, false_and, and_assoc, decide_true, decide_false])
local macro_rules | `(tactic| walk_at "st") => `(tactic| (refine My.seq_ fun R hR => ?_))
local macro_rules | `(tactic| walk_at "sd") => `(tactic| repeat (first | refine ⟨by decide, ?_⟩ | refine ⟨.inl (by decide), ?_⟩))

abbrev s__law_open : Stmt := topS 57
abbrev N__law_open : List Str := ["_law_cell", "_law_letters", "_law_word_here", "_law_one", "_law_n", "_law_some"]
theorem sc__law_open : FnScope N__law_open ["_law_cell"] (defScope s__law_open) := ⟨rfl, rfl, rfl, by decide +kernel, rfl, by decide +kernel, by decide +kernel⟩
theorem bd__law_open : BindAll "_law_open" s__law_open ["_law_cell"] := fun _ _ _ _ _ _ us hl => match us, hl with | [_], _ => rfl
theorem st__law_open (v0 : V) : start N__law_open [v0] = [some v0, none, none, none, none, none] := rfl
abbrev s__law_stepped : Stmt := topS 58
abbrev N__law_stepped : List Str := ["_law_cell", "_law_at", "_law_found", "e"]
theorem sc__law_stepped : FnScope N__law_stepped ["_law_cell"] (defScope s__law_stepped) := ⟨rfl, rfl, rfl, by decide +kernel, rfl, by decide +kernel, by decide +kernel⟩
theorem bd__law_stepped : BindAll "_law_stepped" s__law_stepped ["_law_cell"] := fun _ _ _ _ _ _ us hl => match us, hl with | [_], _ => rfl
theorem st__law_stepped (v0 : V) : start N__law_stepped [v0] = [some v0, none, none, none] := rfl
def spOpen : Sp := fun vs H Q _ => ∃ (c : Int), vs = [.int c] ∧ ∀ (v : V) (H' : Hp), Same H H' → At H' (openT (c / 208 % 6).toNat (openX c)) v → Q v H'
def spStepd : Sp := fun vs H Q _ => ∃ (c : Int), vs = [.int c] ∧ ∀ H', Same H H' → Q (.bl true) H'
section
variable {P : Program} {w : World} {K : PySem.W.Frag} {mg : Str → Option Value} {base : Heap} {R : Ers} {cM cK : Addr}
theorem df_open (T : Bt mg) (F : FunAt K mg "_law_open" s__law_open) : Df P w K mg base 1 "_law_open" ["_law_cell"] spOpen := by
  refine F.df sc__law_open bd__law_open (fun vs H Q E h => ?_) (fun f cdv A outer s H vs Q E hr h => ?_)
  · obtain ⟨_, rfl, _⟩ := h; rfl
  obtain ⟨c, rfl, q⟩ := h
  have nd := sc__law_open.nd
  refine ⟨_, (pss_cons (ps_set (i := 1) nd rfl (Or.inl rfl) pe_str)
  (pss_cons (ps_set (i := 2) nd rfl (Or.inl rfl) (pe_op op_mul_str (pe_ix ix_str (pv 1) (pe_op op_mod (pv 0) pe_int) (fun _ _ => rfl)) (pe_op op_add pe_int (pe_op op_mod (pe_op op_fdiv (pv 0) pe_int) pe_int))))
  (pss_cons (ps_set (i := 3) nd rfl (Or.inl rfl) (pe_tup (pa_cons pe_str (pa_cons (pv 2) pa_nil))))
  (pss_cons (ps_set (i := 4) nd rfl (Or.inl rfl) (pe_tup (pa_cons pe_str (pa_cons pe_int pa_nil))))
  (pss_cons (ps_set (i := 5) nd rfl (Or.inl rfl) (pe_lst (pa_cons (pv 3) (pa_cons (pe_tup (pa_cons pe_str (pa_cons pe_str (pa_cons (pv 3) pa_nil)))) (pa_cons (pe_tup (pa_cons pe_str (pa_cons (pv 4) (pa_cons (pv 3) pa_nil)))) (pa_cons (pe_tup (pa_cons pe_str (pa_cons (pv 2) (pa_cons (pv 3) (pa_cons (pv 4) pa_nil))))) (pa_cons (pe_tup (pa_cons pe_str (pa_cons (pv 4) (pa_cons (pv 3) (pa_cons (pv 4) pa_nil))))) pa_nil)))))))
  (pss_cons (ps_expr (pe_bm PySem.F.plainAttrs_list PySem.F.slot_list_append PySem.F.type_list_append mt_append (pv 5) (pa_cons (pe_tup (pa_cons pe_str (pa_cons (pe_tup (pa_cons pe_str (pa_cons (pv 2) (pa_cons (pv 3) pa_nil)))) (pa_cons (pe_tup (pa_cons pe_str (pa_cons pe_str (pa_cons (pe_tup (pa_cons pe_str (pa_cons (pv 4) (pa_cons (pv 3) pa_nil)))) pa_nil)))) pa_nil)))) pa_nil)))
  (pss_one (ps_ret (pe_ix ix_list (pv 5) (pe_op op_mod (pe_op op_fdiv (pv 0) pe_int) pe_int) (fun _ _ => rfl)))))))))), ?_⟩
  rw [st__law_open]
  refine seq_ fun R1 hR => ?_
  walk_at "rd"
  rw [hR]; clear hR
  refine seq_ fun R1 hR => ?_
  walk_at "rd"
  refine ⟨by decide, by rw [sizeLine_eq]; decide +kernel, lett c, by rw [abc_eq]; exact lett_at c, by decide, by decide, by decide, [lett c], rfl, (1 + c / 26 % 8).toNat, by omega, by omega, by omega, by simp, ?_⟩
  rw [show mkS (List.replicate (1 + c / 26 % 8).toNat [lett c]).flatten = openX c from rfl, hR]; clear hR
  generalize hx : openX c = x
  refine seq_ fun R1 hR => ?_
  walk_at "rd"
  refine new_ fun p1 H1 hp1 e1 g1 => ?_
  rw [hR]; clear hR
  refine seq_ fun R1 hR => ?_
  walk_at "rd"
  refine new_ fun p2 H2 hp2 e2 g2 => ?_
  rw [hR]; clear hR
  refine seq_ fun R1 hR => ?_
  walk_at "rd"
  refine new_ fun p3 H3 hp3 e3 g3 => new_ fun p4 H4 hp4 e4 g4 => new_ fun p5 H5 hp5 e5 g5 => new_ fun p6 H6 hp6 e6 g6 => new_ fun l H7 hl e7 g7 => ?_
  rw [hR]; clear hR
  refine seq_ fun R1 hR => ?_
  walk_at "rd"
  refine ⟨.inl ⟨rfl, _, SqL.of g7⟩, ?_⟩
  refine new_ fun p8 H8 hp8 e8 g8 => new_ fun p9 H9 hp9 e9 g9 => new_ fun p10 H10 hp10 e10 g10 => new_ fun p11 H11 hp11 e11 g11 => ?_
  have k7 := e8.trans (e9.trans (e10.trans e11))
  have g7' := k7 _ _ g7
  refine ⟨_, g7', szLt (by simp), ?_⟩
  rw [hR]; clear hR
  walk_at "rd"
  have e07 := e1.trans (e2.trans (e3.trans (e4.trans (e5.trans (e6.trans e7)))))
  have e06 := e1.trans (e2.trans (e3.trans (e4.trans (e5.trans e6))))
  have hl0 : H l = none := e06.free hl
  have kt := kt_lst (o := .lst ([V.ref p1, .ref p3, .ref p4, .ref p5, .ref p6] ++ [V.ref p11])) g7'
  have sm := same_mut (e07.trans k7) hl0 (o := .lst ([V.ref p1, .ref p3, .ref p4, .ref p5, .ref p6] ++ [V.ref p11]))
  have l12 : upd H11 l (.lst ([V.ref p1, .ref p3, .ref p4, .ref p5, .ref p6] ++ [V.ref p11])) l = some (.lst [V.ref p1, .ref p3, .ref p4, .ref p5, .ref p6, .ref p11]) := upd_same
  have a1 := kt _ _ (k7 _ _ (e7 _ _ (e6 _ _ (e5 _ _ (e4 _ _ (e3 _ _ (e2 _ _ g1)))))))
  have a2 := kt _ _ (k7 _ _ (e7 _ _ (e6 _ _ (e5 _ _ (e4 _ _ (e3 _ _ g2))))))
  have a3 := kt _ _ (k7 _ _ (e7 _ _ (e6 _ _ (e5 _ _ (e4 _ _ g3)))))
  have a4 := kt _ _ (k7 _ _ (e7 _ _ (e6 _ _ (e5 _ _ g4))))
  have a5 := kt _ _ (k7 _ _ (e7 _ _ (e6 _ _ g5)))
  have a6 := kt _ _ (k7 _ _ (e7 _ _ g6))
  have a8 := kt _ _ (e11 _ _ (e10 _ _ (e9 _ _ g8)))
  have a9 := kt _ _ (e11 _ _ (e10 _ _ g9))
  have a10 := kt _ _ (e11 _ _ g10)
  have a11 := kt _ _ g11
  generalize upd H11 l (.lst ([V.ref p1, .ref p3, .ref p4, .ref p5, .ref p6] ++ [V.ref p11])) = H12 at sm l12 a1 a2 a3 a4 a5 a6 a8 a9 a10 a11 ⊢
  rw [hx] at q
  have n1 : At H12 (.name x) (.ref p1) := ⟨p1, rfl, a1⟩
  have n2 : At H12 (.num 0) (.ref p2) := ⟨p2, rfl, a2⟩
  have i0 : 0 ≤ c / 208 % 6 := by omega
  have i1 : c / 208 % 6 < 6 := by omega
  refine ⟨by decide, by decide, by decide, _, SqL.of l12, ?_⟩
  rcases (by omega : c / 208 % 6 = 0 ∨ c / 208 % 6 = 1 ∨ c / 208 % 6 = 2 ∨ c / 208 % 6 = 3 ∨ c / 208 % 6 = 4 ∨ c / 208 % 6 = 5) with e | e | e | e | e | e <;> rw [e] at q ⊢
  · exact ⟨_, at0 _ _, q _ _ sm n1⟩
  · exact ⟨_, at1 _ _ _, q _ _ sm ⟨p3, _, rfl, a3, n1⟩⟩
  · exact ⟨_, at2 _ _ _ _, q _ _ sm ⟨p4, _, _, rfl, a4, n2, n1⟩⟩
  · exact ⟨_, by rfl, q _ _ sm ⟨p5, _, _, rfl, a5, n1, n2⟩⟩
  · exact ⟨_, by rfl, q _ _ sm ⟨p6, _, _, _, rfl, a6, n2, n1, n2⟩⟩
  · exact ⟨_, by rfl, q _ _ sm ⟨p11, _, _, rfl, a11, ⟨p8, _, rfl, a8, n1⟩, ⟨p10, _, rfl, a10, ⟨p9, _, _, rfl, a9, n2, n1⟩⟩⟩⟩
theorem df_stepped (T : LT8 K mg R cM) (F : FunAt K mg "_law_stepped" s__law_stepped) (D_step : DfX P w K mg base 8 "step" ["tree"] (spStep R)) (D__law_open : Df P w K mg base 1 "_law_open" ["_law_cell"] spOpen) : Df P w K mg base 9 "_law_stepped" ["_law_cell"] spStepd := by
  refine F.df sc__law_stepped bd__law_stepped (fun vs H Q E h => ?_) (fun f cdv A outer s H vs Q E hr h => ?_)
  · obtain ⟨_, rfl, _⟩ := h; rfl
  obtain ⟨c, rfl, q⟩ := h
  have nd := sc__law_stepped.nd
  refine ⟨_, (pss_cons (ps_set (i := 1) nd rfl (Or.inl rfl) (pe_op op_mod (pe_op op_fdiv (pv 0) pe_int) pe_int))
  (pss_cons (ps_set (i := 2) nd rfl (Or.inl rfl) pe_non)
  (pss_cons (ps_try_as (i := 3) (tb := fun W => tAsg (tCallS (spStep R) (WE W) (tCons (tCallD spOpen (tCons (tVar 0) tNil)) tNil)) (gName 2)) (ts := fun a cls d => _) (Wout := fun _ _ _ _ => False) rfl rfl nd rfl rfl ⟨rfl, by decide, Or.inl T.cNotClosed⟩ takes0
    (fun W pn xe tk _ => (pss_one (ps_set (i := 2) nd rfl (Or.inl rfl) (pe_callXS (E := WE W) D_step hr (by decide) rfl (fun σ => passAt tk σ) (pa_cons (pe_callD D__law_open hr (by decide) rfl (pa_cons (pv 0) pa_nil)) pa_nil)))))
    (fun a oe cls d pn hz hf => (pss_one (ps_ret (pe_and (pe_cmpR (op_in_seqK (K := K)) (pv 1) (pe_tup (pa_cons pe_int (pa_cons pe_int (pa_cons pe_int pa_nil)))) rfl) (pe_one (pe_callB (call_isEa hz hf) (by rfl) T.isinstance (by decide +kernel) (pa_cons (pv 3) (pa_cons (pe_gref (by rfl) T.cMillError) pa_nil)))))))))
  (pss_cons (ps_if (pt_cmpR op_eq (pv 1) pe_int (nomark _))
    (pss_one (ps_ret (pe_cmpR op_isN (pv 2) pe_non (nomark _))))
    pss_nil)
  (pss_cons (ps_if (pt_cmpR op_eq (pv 1) pe_int (nomark _))
    (pss_one (ps_ret (pe_cmpR (op_eqD hr.units) (pv 2) (pe_tup (pa_cons pe_str (pa_cons pe_int pa_nil))) (nomark _))))
    pss_nil)
  (pss_one (ps_ret (pe_and (pe_cmpR op_eq (pv 1) pe_int (nomark _)) (pe_one (pe_cmpR (op_eqD hr.units) (pv 2) (pe_ix ix_tup (pe_callD D__law_open hr (by decide) rfl (pa_cons (pv 0) pa_nil)) pe_int (fun _ _ => rfl)) (nomark _))))))))))), ?_⟩
  rw [st__law_stepped]
  refine seq_ fun R1 hR => ?_
  walk_at "rd"
  refine ⟨by decide, by decide, by decide, ?_⟩
  rw [hR]; clear hR
  refine seq_ fun R1 hR => ?_
  walk_at "rd"
  rw [hR]; clear hR
  refine seq_ fun R1 hR => ?_
  walk_at "rd"
  unfold tCallS
  walk_at "rd"
  refine ⟨c, rfl, fun v H1 e1 ht => ?_⟩
  obtain ⟨hx, ho⟩ := openX_ok c
  have i0 : 0 ≤ c / 208 % 6 := by omega
  have i1 : c / 208 % 6 < 6 := by omega
  obtain ⟨i, hi⟩ : ∃ i : Nat, c / 208 % 6 = i := ⟨(c / 208 % 6).toNat, by omega⟩
  have hop : D__law_open = D__law_open := rfl
  rw [hi] at ht ⊢
  rw [Int.toNat_natCast] at ht
  have hi6 : i < 6 := by omega
  obtain ⟨hg, hs, hc⟩ := openT_ok (i := i) hx ho
  have hd := (openT i (openX c)).dep_size
  have hdt : ∀ t', (openT i (openX c)).step = .to t' → t'.dep ≤ 1000000 := by
    intro t' h
    rw [openT_step] at h
    unfold openS at h
    split at h <;> cases h
    · decide
    · show (Tr.fn _ (Tr.less (.num 0) (.name (openX c)))).dep ≤ _
      simp [Tr.dep]
  refine ⟨v, openT i (openX c), rfl, ht, by omega, hdt, ?_⟩
  rw [openT_step]
  have suite : ∀ (a : Addr) (H2 : Hp), H2 a = none → Same H H2 → (i = 0 ∨ i = 2 ∨ i = 3) → True := fun _ _ _ _ _ => trivial
  rcases (by omega : i = 0 ∨ i = 1 ∨ i = 2 ∨ i = 3 ∨ i = 4 ∨ i = 5) with rfl | rfl | rfl | rfl | rfl | rfl
  · intro H2 e2
    refine ⟨true, T.mC, fun _ a ha => ?_, fun z => by cases z⟩
    walk_at "rd"
    refine new_ fun p3 H3 hp3 e3 g3 => ⟨_, .inr (SqT.of g3), rfl, rfl, ?_⟩
    rw [if_pos (by decide)]
    exact ⟨_, rfl, rfl, T.isC.ex, .ref cM, .ref cM, true, rfl, (fun u h => h), T.isC.mm, q _ (e1.trans (e2.trans e3))⟩
  · intro H2 e2
    rw [hR]; clear hR
    refine ifq_ fun R1 A B hR hA hB => ?_
    walk_at "rd"
    rw [if_pos (by decide), hA]; clear hA hB hR
    walk_at "rd"
    exact q _ (e1.trans e2)
  · intro H2 e2
    refine ⟨true, T.mC, fun _ a ha => ?_, fun z => by cases z⟩
    walk_at "rd"
    refine new_ fun p3 H3 hp3 e3 g3 => ⟨_, .inr (SqT.of g3), rfl, rfl, ?_⟩
    rw [if_pos (by decide)]
    exact ⟨_, rfl, rfl, T.isC.ex, .ref cM, .ref cM, true, rfl, (fun u h => h), T.isC.mm, q _ (e1.trans (e2.trans e3))⟩
  · intro H2 e2
    refine ⟨true, T.mC, fun _ a ha => ?_, fun z => by cases z⟩
    walk_at "rd"
    refine new_ fun p3 H3 hp3 e3 g3 => ⟨_, .inr (SqT.of g3), rfl, rfl, ?_⟩
    rw [if_pos (by decide)]
    exact ⟨_, rfl, rfl, T.isC.ex, .ref cM, .ref cM, true, rfl, (fun u h => h), T.isC.mm, q _ (e1.trans (e2.trans e3))⟩
  · intro r H2 e2 hr2
    rw [hR]; clear hR
    refine ifq_ fun R1 A B hR hA hB => ?_
    walk_at "rd"
    rw [if_neg (by decide), hB]; clear hA hB
    walk_at "rd"
    rw [hR]; clear hR
    refine ifq_ fun R1 A B hR hA hB => ?_
    walk_at "rd"
    rw [if_pos (by decide), hA]; clear hA hB hR
    walk_at "rd"
    refine new_ fun p3 H3 hp3 e3 g3 => ?_
    exact eq_tree (t := .num 0) (hr2.mono (same_kt e3)) ⟨p3, rfl, g3⟩ ⟨by decide, by decide⟩ (by decide) (q _ (e1.trans (e2.trans e3)))
  · intro r H2 e2 hr2
    rw [hR]; clear hR
    refine ifq_ fun R1 A B hR hA hB => ?_
    walk_at "rd"
    rw [if_neg (by decide), hB]; clear hA hB
    walk_at "rd"
    rw [hR]; clear hR
    refine ifq_ fun R1 A B hR hA hB => ?_
    walk_at "rd"
    rw [if_neg (by decide), hB]; clear hA hB
    walk_at "rd"
    rw [hR]; clear hR
    walk_at "rd"
    rw [if_pos (by decide)]
    refine ⟨c, rfl, fun v2 H3 e3 ht3 => ?_⟩
    rw [hi] at ht3
    obtain ⟨a3, b3, b4, rfl, h3, h4, h5⟩ := (show At H3 (.call (.fn (openX c) (.name (openX c))) (.fn "other" (.less (.num 0) (.name (openX c))))) v2 from ht3)
    refine ⟨_, rfl, _, SqT.of h3, _, at2 _ _ _ _, ?_⟩
    exact eq_tree (hr2.mono (same_kt e3)) h5 ⟨by decide +kernel, ⟨by decide, by decide⟩, hx⟩ (by simp [Tr.size]) (q _ (e1.trans (e2.trans e3)))
end
end K08

namespace K08
open PySem L2 My
open PyProof.Rows (envOfC)
local macro_rules | `(tactic| walk_at "rd") => `(tactic| simp only [My.ife, My.tFor_eq, My.cx_K, My.cx_w, My.rRdK, My.rNeSelf, rIsi, tAsg, tDrop, tChain, tThenZ, kTyp, My.rInK, My.rMulS, iStr, sFld, sFldAug, tFld, tMe, tMkD, tCallE, tDZ, rDZ, tRevT, rAdd, sTail, tThen, kTup, tDisp, tPairs, tDIn, tDNotIn, V.ty.injEq, rAll, rU, tRet, tRetN, tIfS, tVar, tC, tOp, tUn, rI0, rI, rEq, rNe, CDiv, CMul, CPow, My.tTup_eq, My.tLst_eq, My.tDNewK_eq, My.tRevL_eq, My.tRevS, tM1, tM0, My.sz0, My.sz1, My.sz2, My.sz3, My.sz4, My.sz5, My.sz8, tCons, tNil, My.tCallD, tCB, gName, gTup, gCons, gNil, gSub, tTest, tB, tAnd, tOr, tNot, tIf, tAndV, tOrV, tNotV, rSetL, rSlS, rIxL, rIxT, rIxS, My.rSlT_eq, My.rSlL_eq, rIn, rCat, tLc_eq, iList, iTup, iRng1, iRng2, iRng3, wipe, List.map_cons, List.map_nil, tSl, tPart, tNoPart, tBM, tBM0, rAppend, My.rPopL, rExtend, My.rExtendT, tNext, tBreak, tCont, My.scal_ii, My.scal_ss, My.scal_bb, My.scal_is, My.scal_si, ipI, rListD, sDPut, tDGet, tDGet2, tAug, List.getElem?_cons_zero, List.getElem?_cons_succ, List.set_cons_zero, List.set_cons_succ, Option.some.injEq, exists_eq_left', exists_eq_left, V.int.injEq, V.ref.injEq, V.str.injEq, V.bl.injEq, exists_and_left, true_and, and_true, List.cons.injEq, exists_const, Bool.false_eq_true, ↓reduceIte, reduceCtorEq, false_and, and_assoc, decide_true, decide_false])
local macro_rules | `(tactic| walk_at "st") => `(tactic| (refine My.seq_ fun R hR => ?_))
local macro_rules | `(tactic| walk_at "sd") => `(tactic| repeat (first | refine ⟨by decide, ?_⟩ | refine ⟨.inl (by decide), ?_⟩))

abbrev s__law_counting : Stmt := topS 59
abbrev N__law_counting : List Str := ["_law_way", "_law_many", "_law_again", "_law_loop", "_law_tree", "_law_due", "_law_found"]
theorem sc__law_counting : FnScope N__law_counting ["_law_way", "_law_many"] (defScope s__law_counting) := ⟨rfl, rfl, rfl, by decide +kernel, rfl, by decide +kernel, by decide +kernel⟩
theorem bd__law_counting : BindAll "_law_counting" s__law_counting ["_law_way", "_law_many"] := fun _ _ _ _ _ _ us hl => match us, hl with | [_, _], _ => rfl
theorem st__law_counting (v0 v1 : V) : start N__law_counting [v0, v1] = [some v0, some v1, none, none, none, none, none] := rfl
def spCount : Sp := fun vs H Q _ => ∃ (way : Int) (n : Nat), vs = [.int way, .int n] ∧ n ≤ 249 ∧ ∀ H', Same H H' → Q (.bl true) H'
section
variable {P : Program} {w : World} {K : PySem.W.Frag} {mg : Str → Option Value} {base : Heap} {R : Ers} {cM cK : Addr}
theorem df_counting (T : Bt mg) (F : FunAt K mg "_law_counting" s__law_counting) (D__law_word : Df P w K mg base 10 "_law_word" ["_law_way", "_law_tree", "_law_most"] spWordG) (D__law_asked : DfX P w K mg base 9 "_law_asked" ["_law_way", "_law_tree", "_law_most"] (spAskG R cK)) :
    Df P w K mg base 11 "_law_counting" ["_law_way", "_law_many"] spCount := by
  refine F.df sc__law_counting bd__law_counting (fun vs H Q E h => ?_) (fun f cdv A outer s H vs Q E hr h => ?_)
  · obtain ⟨_, _, rfl, _⟩ := h; rfl
  obtain ⟨way, n, rfl, hn, q⟩ := h
  have nd := sc__law_counting.nd
  refine ⟨_, (pss_cons (ps_set (i := 2) nd rfl (Or.inl rfl) (pe_tup (pa_cons pe_str (pa_cons (pe_tup (pa_cons pe_str (pa_cons (pe_tup (pa_cons pe_str (pa_cons pe_str pa_nil))) (pa_cons (pe_tup (pa_cons pe_str (pa_cons pe_str pa_nil))) pa_nil)))) (pa_cons (pe_tup (pa_cons pe_str (pa_cons (pe_tup (pa_cons pe_str (pa_cons pe_str pa_nil))) (pa_cons (pe_tup (pa_cons pe_str (pa_cons pe_int pa_nil))) pa_nil)))) pa_nil)))))
  (pss_cons (ps_set (i := 3) nd rfl (Or.inl rfl) (pe_tup (pa_cons pe_str (pa_cons pe_str (pa_cons (pe_tup (pa_cons pe_str (pa_cons pe_str (pa_cons (pe_tup (pa_cons pe_str (pa_cons (pe_tup (pa_cons pe_str (pa_cons pe_str pa_nil))) (pa_cons (pv 2) (pa_cons (pe_tup (pa_cons pe_str (pa_cons pe_int pa_nil))) pa_nil))))) pa_nil)))) pa_nil)))))
  (pss_cons (ps_set (i := 4) nd rfl (Or.inl rfl) (pe_tup (pa_cons pe_str (pa_cons pe_str (pa_cons (pv 3) (pa_cons (pe_tup (pa_cons pe_str (pa_cons (pe_tup (pa_cons pe_str (pa_cons (pe_tup (pa_cons pe_str (pa_cons pe_str pa_nil))) (pa_cons (pe_tup (pa_cons pe_str (pa_cons pe_str pa_nil))) pa_nil)))) (pa_cons (pe_tup (pa_cons pe_str (pa_cons (pv 1) pa_nil))) pa_nil)))) pa_nil))))))
  (pss_cons (ps_set (i := 5) nd rfl (Or.inl rfl) (pe_op op_add (pe_op op_mul pe_int (pv 1)) pe_int))
  (pss_cons (ps_if (PW.pt (pw_or (pt_cmpR op_ne (pe_callD D__law_word hr (by decide) rfl (pa_cons (pv 0) (pa_cons (pv 4) (pa_cons (pv 5) pa_nil)))) pe_str (nomark _)) (pw_or1 (pt_cmpR op_ne (pe_callD D__law_word hr (by decide) rfl (pa_cons (pv 0) (pa_cons (pv 4) (pa_cons (pe_op op_sub (pv 5) pe_int) pa_nil)))) pe_str (nomark _)))))
    (pss_one (ps_ret pe_bl))
    pss_nil)
  (pss_cons (ps_set (i := 6) nd rfl (Or.inl rfl) (pe_callX D__law_asked hr (by decide) rfl (pa_cons (pv 0) (pa_cons (pv 4) (pa_cons (pv 5) pa_nil)))))
  (pss_cons (ps_if (pt_cmpR op_eq (pv 0) pe_int (nomark _))
    (pss_one (ps_ret (pe_cmpR (op_eqD hr.units) (pv 6) (pe_tup (pa_cons (pe_tup (pa_cons pe_str (pa_cons pe_int pa_nil))) (pa_cons (pv 5) pa_nil))) (nomark _))))
    pss_nil)
  (pss_cons (ps_if (pt_cmpR op_eq (pv 0) pe_int (nomark _))
    (pss_one (ps_ret (pe_and (pe_callB call_isi (by rfl) T.isinstance (by decide +kernel) (pa_cons (pv 6) (pa_cons (pe_bltn (v := .ty "list") (by rfl) T.list (by decide +kernel) rfl) pa_nil))) (pe_and (pe_cmpR op_eq (pe_callB call_len_seq (by rfl) T.len PySem.boot_len (pa_cons (pv 6) pa_nil)) (pe_op op_add (pv 5) pe_int) (nomark _)) (pe_one (pe_cmpR (op_eqD hr.units) (pe_ix ix_list (pv 6) (pe_un un_neg pe_int) (fun _ _ => rfl)) (pe_tup (pa_cons pe_str (pa_cons pe_int pa_nil))) (nomark _)))))))
    pss_nil)
  (pss_cons (ps_if (pt_cmpR op_eq (pv 0) pe_int (nomark _))
    (pss_one (ps_ret (pe_cmpR (op_eqD hr.units) (pv 6) (pe_tup (pa_cons pe_int (pa_cons (pv 5) pa_nil))) (nomark _))))
    pss_nil)
  (pss_one (ps_ret (pe_and (pe_callB call_isi (by rfl) T.isinstance (by decide +kernel) (pa_cons (pv 6) (pa_cons (pe_bltn (v := .ty "list") (by rfl) T.list (by decide +kernel) rfl) pa_nil))) (pe_one (pe_cmpR op_eq (pe_callB call_len_seq (by rfl) T.len PySem.boot_len (pa_cons (pv 6) pa_nil)) (pe_op op_add (pv 1) pe_int) (nomark _))))))))))))))), ?_⟩
  rw [st__law_counting]
  refine seq_ fun R1 hR => ?_
  walk_at "rd"
  refine new_ fun p1 H1 hp1 e1 g1 => new_ fun p2 H2 hp2 e2 g2 => new_ fun p3 H3 hp3 e3 g3 => new_ fun p4 H4 hp4 e4 g4 => new_ fun p5 H5 hp5 e5 g5 => new_ fun p6 H6 hp6 e6 g6 => new_ fun p7 H7 hp7 e7 g7 => ?_
  have t7 : At H7 (.call (.call (.name "f") (.name "f")) (.less (.name "x") (.num 1))) (.ref p7) := by
    have k6 := e7
    have k5 := e6.trans k6
    have k4 := e5.trans k5
    have k3 := e4.trans k4
    have k2 := e3.trans k3
    have k1 := e2.trans k2
    exact ⟨p7, _, _, rfl, g7, ⟨p3, _, _, rfl, k3 _ _ g3, ⟨p1, rfl, k1 _ _ g1⟩, ⟨p2, rfl, k2 _ _ g2⟩⟩, ⟨p6, _, _, rfl, k6 _ _ g6, ⟨p4, rfl, k4 _ _ g4⟩, ⟨p5, rfl, k5 _ _ g5⟩⟩⟩
  have e07 := e1.trans (e2.trans (e3.trans (e4.trans (e5.trans (e6.trans e7)))))
  rw [hR]; clear hR
  clear g1 g2 g3 g4 g5 g6 g7 e1 e2 e3 e4 e5 e6 e7 hp1 hp2 hp3 hp4 hp5 hp6 hp7
  generalize V.ref p7 = again at t7 ⊢
  refine seq_ fun R1 hR => ?_
  walk_at "rd"
  refine new_ fun p1 H1 hp1 e1 g1 => new_ fun p2 H2 hp2 e2 g2 => new_ fun p3 H3 hp3 e3 g3 => new_ fun p4 H4 hp4 e4 g4 => new_ fun p5 H5 hp5 e5 g5 => ?_
  have t5 : At H5 loopT (.ref p5) := by
    have k4 := e5
    have k3 := e4.trans k4
    have k2 := e3.trans k3
    have k1 := e2.trans k2
    exact ⟨p5, _, rfl, g5, p4, _, rfl, k4 _ _ g4, p3, _, _, _, rfl, k3 _ _ g3, ⟨p1, rfl, k1 _ _ g1⟩, t7.mono (same_kt (e1.trans k1)), ⟨p2, rfl, k2 _ _ g2⟩⟩
  have e05 := e07.trans (e1.trans (e2.trans (e3.trans (e4.trans e5))))
  rw [hR]; clear hR
  clear g1 g2 g3 g4 g5 e1 e2 e3 e4 e5 hp1 hp2 hp3 hp4 hp5 e07 t7
  generalize V.ref p5 = loop at t5 ⊢
  refine seq_ fun R1 hR => ?_
  walk_at "rd"
  refine new_ fun p1 H1 hp1 e1 g1 => new_ fun p2 H2 hp2 e2 g2 => new_ fun p3 H3 hp3 e3 g3 => new_ fun p4 H4 hp4 e4 g4 => new_ fun p5 H6 hp5 e5 g5 => new_ fun p6 H7 hp6 e6 g6 => ?_
  have t6 : At H7 (countT n) (.ref p6) := by
    have k5 := e6
    have k4 := e5.trans k5
    have k3 := e4.trans k4
    have k2 := e3.trans k3
    have k1 := e2.trans k2
    exact ⟨p6, _, _, rfl, g6, t5.mono (same_kt (e1.trans k1)), ⟨p5, _, _, rfl, k5 _ _ g5, ⟨p3, _, _, rfl, k3 _ _ g3, ⟨p1, rfl, k1 _ _ g1⟩, ⟨p2, rfl, k2 _ _ g2⟩⟩, ⟨p4, rfl, k4 _ _ g4⟩⟩⟩
  have e07 := e05.trans (e1.trans (e2.trans (e3.trans (e4.trans (e5.trans e6)))))
  rw [hR]; clear hR
  clear g1 g2 g3 g4 g5 g6 e1 e2 e3 e4 e5 e6 hp1 hp2 hp3 hp4 hp5 hp6 e05 t5
  generalize V.ref p6 = tree at t6 ⊢
  refine seq_ fun R1 hR => ?_
  walk_at "rd"
  refine ⟨.inl ⟨by decide, by decide⟩, ?_⟩
  rw [hR]; clear hR
  have hok : OkIn H7 (countT n) tree (4 * n + 4) := ⟨t6, count_good n (by omega), count_closed n, count_size n, by omega⟩
  have hokS : ∀ {H' : Hp} (m : Nat), Same H7 H' → m ≤ 1000 → OkIn H' (countT n) tree m := fun m e hm => ⟨t6.mono (same_kt e), hok.good, hok.closed, hok.size, hm⟩
  have hw := run_work (m := 4 * n + 4) fl_mem hok.closed
  rw [show ev freeNames (4 * n + 4) .nil (countT n) = _ from count_ok n] at hw
  have hw : work (4 * n + 4) (countT n) = .ok (.num 9) 0 := hw
  refine ifq_ fun R1 A1 B1 hR hA hB => ?_
  walk_at "rd"
  refine ⟨way, tree, countT n, 4 * n + 4, rfl, hok, .inl ⟨⟨_, _, _, count_ok n⟩, fun H8 e8 => ?_⟩⟩
  refine ⟨rfl, ?_⟩
  rw [if_neg (by decide +kernel)]
  refine ⟨way, tree, countT n, 4 * n + 3, by rw [show (4 * (n : Int) + 4 - 1) = ((4 * n + 3 : Nat) : Int) by omega], hokS _ e8 (by omega), .inr ⟨count_dry n, fun H9 e9 => ?_⟩⟩
  refine ⟨rfl, ?_⟩
  rw [if_neg (by decide +kernel), hB]; clear hA hB
  walk_at "rd"
  rw [hR]; clear hR
  refine seq_ fun R1 hR => ?_
  walk_at "rd"
  have e79 := e8.trans e9
  have hok9 : OkIn H9 (countT n) tree (4 * n + 4) := hokS _ e79 (by omega)
  have e0 := e07.trans e79
  refine ⟨way, tree, countT n, 4 * n + 4, rfl, hok9, fun h => ⟨tree, countT n, 4 * n + 4, rfl, hok9, ?_⟩, fun h => ⟨tree, countT n, 4 * n + 4, rfl, hok9, ?_⟩, fun h => ⟨tree, countT n, 4 * n + 4, rfl, hok9, ?_⟩, fun h0 h1 h2 => ⟨tree, countT n, 4 * n + 4, rfl, hok9, ?_⟩⟩
  · rw [hw]
    intro r p H10 e10 hr10 hp10
    rw [hR]; clear hR
    refine ifq_ fun R1 A1 B1 hR hA hB => ?_
    walk_at "rd"
    rw [if_pos h, hA]; clear hA hB hR
    walk_at "rd"
    refine new_ fun q1 H11 hq1 e11 g11 => new_ fun q2 H12 hq2 e12 g12 => ?_
    have hp12 := e12 _ _ (e11 _ _ hp10)
    rw [show (((4 * n + 4 : Nat) : Int) - (0 : Nat)) = 4 * (n : Int) + 4 by omega] at hp12
    exact eq_pair (t := .num 9) (hr10.mono (same_kt (e11.trans e12))) ⟨q1, rfl, e12 _ _ g11⟩ ⟨by decide, by decide⟩ (by decide) hp12 g12 (q _ (e0.trans (e10.trans (e11.trans e12))))
  · rw [hw]
    intro rs l H10 e10 hr10 hl10
    rw [hR]; clear hR
    refine ifq_ fun R1 A1 B1 hR hA hB => ?_
    walk_at "rd"
    rw [if_neg (by omega), hB]; clear hA hB
    walk_at "rd"
    rw [hR]; clear hR
    refine ifq_ fun R1 A1 B1 hR hA hB => ?_
    walk_at "rd"
    rw [if_pos h, hA]; clear hA hB hR
    walk_at "rd"
    refine isi_ (isi_ll hl10) ?_
    rw [if_pos rfl]
    obtain ⟨_, hlen, hlast⟩ := path_ok hw
    obtain ⟨pre, hpre⟩ := List.getLast?_eq_some_iff.mp hlast
    have hl2 := pr_len hr10
    rw [hpre] at hr10
    obtain ⟨zs, y, rfl, _, hy⟩ := pr_snocL hr10
    refine ⟨_, .inl (SqL.of hl10), ?_⟩
    rw [if_pos (by rw [← hl2, hlen]; omega)]
    refine ⟨_, SqL.of hl10, y, by have := at_last (f := fun x : V => x) (x := y) (xs := zs); rwa [List.map_id'] at this, new_ fun q1 H11 hq1 e11 g11 => ?_⟩
    exact eq_tree (t := .num 9) (hy.mono (same_kt e11)) ⟨q1, rfl, g11⟩ ⟨by decide, by decide⟩ (by decide) (q _ (e0.trans (e10.trans e11)))
  · rw [count_ok n]
    intro r p H10 e10 hr10 hp10
    rw [hR]; clear hR
    refine ifq_ fun R1 A1 B1 hR hA hB => ?_
    walk_at "rd"
    rw [if_neg (by omega), hB]; clear hA hB
    walk_at "rd"
    rw [hR]; clear hR
    refine ifq_ fun R1 A1 B1 hR hA hB => ?_
    walk_at "rd"
    rw [if_neg (by omega), hB]; clear hA hB
    walk_at "rd"
    rw [hR]; clear hR
    refine ifq_ fun R1 A1 B1 hR hA hB => ?_
    walk_at "rd"
    rw [if_pos h, hA]; clear hA hB hR
    walk_at "rd"
    have hr9 : r = .int 9 := hr10
    subst hr9
    refine new_ fun q1 H11 hq1 e11 g11 => ?_
    have hp11 := e11 _ _ hp10
    rw [show (((4 * n + 4 : Nat) : Int) - (0 : Nat)) = 4 * (n : Int) + 4 by omega] at hp11
    exact eq_nums hp11 g11 (q _ (e0.trans (e10.trans e11)))
  · rw [count_ok n]
    intro l rs H10 e10 hl10 hr10
    rw [hR]; clear hR
    refine ifq_ fun R1 A1 B1 hR hA hB => ?_
    walk_at "rd"
    rw [if_neg h0, hB]; clear hA hB
    walk_at "rd"
    rw [hR]; clear hR
    refine ifq_ fun R1 A1 B1 hR hA hB => ?_
    walk_at "rd"
    rw [if_neg h1, hB]; clear hA hB
    walk_at "rd"
    rw [hR]; clear hR
    refine ifq_ fun R1 A1 B1 hR hA hB => ?_
    walk_at "rd"
    rw [if_neg h2, hB]; clear hA hB
    walk_at "rd"
    rw [hR]; clear hR
    walk_at "rd"
    refine isi_ (isi_ll hl10) ?_
    rw [if_pos rfl]
    have hl2 := pr_len hr10
    simp only [List.length_cons, List.length_replicate] at hl2
    refine ⟨_, .inl (SqL.of hl10), ?_⟩
    rw [decide_eq_true (by omega)]
    exact q _ (e0.trans e10)
end
end K08

namespace K08
open PySem L2 My
open PyProof.Rows (envOfC)
local macro_rules | `(tactic| walk_at "rd") => `(tactic| simp only [My.ife, My.tFor_eq, My.cx_K, My.cx_w, My.rRdK, My.rNeSelf, rIsi, tAsg, tDrop, tChain, tThenZ, kTyp, My.rInK, My.rMulS, iStr, sFld, sFldAug, tFld, tMe, tMkD, tCallE, tDZ, rDZ, tRevT, rAdd, sTail, tThen, kTup, tDisp, tPairs, tDIn, tDNotIn, V.ty.injEq, rAll, rU, tRet, tRetN, tIfS, tVar, tC, tOp, tUn, rI0, rI, rEq, rNe, CDiv, CMul, CPow, My.tTup_eq, My.tLst_eq, My.tDNewK_eq, My.tRevL_eq, My.tRevS, tM1, tM0, My.sz0, My.sz1, My.sz2, My.sz3, My.sz4, My.sz5, My.sz8, tCons, tNil, My.tCallD, tCB, gName, gTup, gCons, gNil, gSub, tTest, tB, tAnd, tOr, tNot, tIf, tAndV, tOrV, tNotV, rSetL, rSlS, rIxL, rIxT, rIxS, My.rSlT_eq, My.rSlL_eq, rIn, rCat, tLc_eq, iList, iTup, iRng1, iRng2, iRng3, wipe, List.map_cons, List.map_nil, tSl, tPart, tNoPart, tBM, tBM0, rAppend, My.rPopL, rExtend, My.rExtendT, tNext, tBreak, tCont, My.scal_ii, My.scal_ss, My.scal_bb, My.scal_is, My.scal_si, ipI, rListD, sDPut, tDGet, tDGet2, tAug, List.getElem?_cons_zero, List.getElem?_cons_succ, List.set_cons_zero, List.set_cons_succ, Option.some.injEq, exists_eq_left', exists_eq_left, V.int.injEq, V.ref.injEq, V.str.injEq, V.bl.injEq, exists_and_left, true_and, and_true, List.cons.injEq, exists_const, Bool.false_eq_true, ↓reduceIte, reduceCtorEq, false_and, and_assoc, decide_true, decide_false])
local macro_rules | `(tactic| walk_at "st") => `(tactic| (refine My.seq_ fun R hR => ?_))
local macro_rules | `(tactic| walk_at "sd") => `(tactic| repeat (first | refine ⟨by decide, ?_⟩ | refine ⟨.inl (by decide), ?_⟩))

abbrev s_law : Stmt := topS 60
abbrev N_law : List Str := ["_law_script", "_law_way", "_law_cell", "_law_many", "_law_bad", "_law_good", "_law_closed", "_law_none", "_law_wild", "_law_found"]
theorem sc_law : FnScope N_law ["_law_script"] (defScope s_law) := ⟨rfl, rfl, rfl, by decide +kernel, rfl, by decide +kernel, by decide +kernel⟩
theorem bd_law : BindAll "law" s_law ["_law_script"] := fun _ _ _ _ _ _ us hl => match us, hl with | [_], _ => rfl
theorem st_law (v0 : V) : start N_law [v0] = [some v0, none, none, none, none, none, none, none, none, none] := rfl
theorem kit_self {K : PySem.W.Frag} {t : Value} : PySem.W.kitOne K t t = some true := by
  unfold PySem.W.kitOne
  rw [if_pos (by simp)]
theorem exmAny_mk {K : PySem.W.Frag} {cls c : Value} {r : List Value} {b d : Bool} (h : PySem.W.exmOne K cls c = some b) (g : PySem.W.exmAny K cls r = some d) : PySem.W.exmAny K cls (c :: r) = some (b || d) := by
  unfold PySem.W.exmAny
  rw [h, g]
theorem bad_lst {H : Hp} {p : Addr} {xs : List V} (h : H p = some (.lst xs)) : Bad H (.ref p) where
  kn := ⟨⟨"list", by unfold zTyV; simp only [h]⟩, fun a ys e g => by cases e; rw [h] at g; cases g⟩
  st := fun x e => by cases e
  sts := fun a ys x e g => by cases e; rw [h] at g; cases g
  no := by unfold nodeV; simp only [h]
theorem bad_two {H : Hp} {p : Addr} {u v : V} (h : H p = some (.tup [u, v])) (hu : Kd H u) (hv : Kd H v) (su : ∀ x, V.str x ∈ [u, v] → x.length ≤ 10000) (no : nodeC [u, v] = false) : Bad H (.ref p) where
  kn := ⟨⟨"tuple", by unfold zTyV; simp only [h]⟩, fun a ys e g => by
    cases e; rw [h] at g; cases g
    refine ⟨by simp, fun x hx => ?_⟩
    rcases List.mem_cons.mp hx with rfl | hx
    · exact hu
    · rw [List.mem_singleton.mp hx]; exact hv⟩
  st := fun x e => by cases e
  sts := fun a ys x e g hx => by cases e; rw [h] at g; cases g; exact su x hx
  no := by unfold nodeV; simp only [h]; exact no
theorem badm_int {H : Hp} {i : Int} (h : i < 0 ∨ 1000 < i) : BadM H (.int i) := ⟨"int", rfl, .inr ⟨i, rfl, h⟩⟩
theorem bad_at {c k : Int} (h0 : 0 ≤ k) (h1 : k < 8) : ∃ v, atI [V.int (-1 - c / 20 % 9), V.int (1001 + c / 20 % 9), V.int (10 ^ Int.toNat 30), V.int (-10 ^ Int.toNat 30), V.bl true, V.bl false, V.str (Str.ofString "5"), V.non] k = some v ∧ ∀ H, BadM H v := by
  rcases (by omega : k = 0 ∨ k = 1 ∨ k = 2 ∨ k = 3 ∨ k = 4 ∨ k = 5 ∨ k = 6 ∨ k = 7) with rfl | rfl | rfl | rfl | rfl | rfl | rfl | rfl
  · exact ⟨_, by rfl, fun H => badm_int (by omega)⟩
  · exact ⟨_, by rfl, fun H => badm_int (by omega)⟩
  · exact ⟨_, by rfl, fun H => badm_int (by decide)⟩
  · exact ⟨_, by rfl, fun H => badm_int (by decide)⟩
  · exact ⟨_, by rfl, fun H => ⟨"bool", rfl, .inl (by decide)⟩⟩
  · exact ⟨_, by rfl, fun H => ⟨"bool", rfl, .inl (by decide)⟩⟩
  · exact ⟨_, by rfl, fun H => ⟨"str", rfl, .inl (by decide)⟩⟩
  · exact ⟨_, by rfl, fun H => ⟨"NoneType", rfl, .inl (by decide)⟩⟩
section
variable {P : Program} {w : World} {K : PySem.W.Frag} {mg : Str → Option Value} {base : Heap} {R : Ers} {cM cK : Addr}
theorem df_law {fa : Addr} {fd : FuncData} (T : LT8 K mg R cM) (KC : ClsX K cK keptN) (F : Fun K "law" "law" s_law fa fd) (D__law_cell_at : Df P w K mg base 1 "_law_cell_at" ["_law_script", "_law_k"] (spCellA K)) (D__law_open : Df P w K mg base 1 "_law_open" ["_law_cell"] spOpen)
    (D__law_stepped : Df P w K mg base 9 "_law_stepped" ["_law_cell"] spStepd) (D__law_counting : Df P w K mg base 11 "_law_counting" ["_law_way", "_law_many"] spCount) (D__law_word : Df P w K mg base 10 "_law_word" ["_law_way", "_law_tree", "_law_most"] spWordB)
    (D__law_based : Df P w K mg base 10 "_law_based" ["_law_way", "_law_tree", "_law_most"] spBasedB) (D__law_asked : DfX P w K mg base 9 "_law_asked" ["_law_way", "_law_tree", "_law_most"] (spAskG R cK)) : FnOk P w K mg base CX0 12 fa fd ["_law_script"] (spLaw K) := by
  refine F.ok sc_law (fun vs H Q X h => ?_) (fun cdv A outer s H vs Q X hr h => ?_)
  · obtain ⟨_, _, rfl, _⟩ := h; rfl
  obtain ⟨a, ns, rfl, ha, hns, q⟩ := h
  have nd := sc_law.nd
  refine ⟨_, (pss_cons (ps_set (i := 1) nd rfl (Or.inl rfl) (pe_op op_mod (pe_callD D__law_cell_at hr (by decide) rfl (pa_cons (pv 0) (pa_cons pe_int pa_nil))) pe_int))
  (pss_cons (ps_set (i := 2) nd rfl (Or.inl rfl) (pe_callD D__law_cell_at hr (by decide) rfl (pa_cons (pv 0) (pa_cons pe_int pa_nil))))
  (pss_cons (ps_if (pt_cmpR op_eq (pe_op op_mod (pv 2) pe_int) pe_int (nomark _))
    (pss_cons (ps_set (i := 3) nd rfl (Or.inl rfl) (pe_op op_mod (pe_op op_fdiv (pv 2) pe_int) pe_int))
      (pss_cons (ps_if (pt_cmpR op_eq (pe_op op_mod (pe_op op_fdiv (pv 2) pe_int) pe_int) pe_int (nomark _))
        (pss_one (ps_set (i := 3) nd rfl (Or.inl rfl) pe_int))
        pss_nil)
      (pss_one (ps_ret (pe_callD D__law_counting hr (by decide) rfl (pa_cons (pv 1) (pa_cons (pv 3) pa_nil)))))))
    pss_nil)
  (pss_cons (ps_set (i := 4) nd rfl (Or.inl rfl) (pe_lst (pa_cons (pe_op op_sub (pe_un un_neg pe_int) (pe_op op_mod (pe_op op_fdiv (pv 2) pe_int) pe_int)) (pa_cons (pe_op op_add pe_int (pe_op op_mod (pe_op op_fdiv (pv 2) pe_int) pe_int)) (pa_cons (pe_op op_pow pe_int pe_int) (pa_cons (pe_un un_neg (pe_op op_pow pe_int pe_int)) (pa_cons pe_bl (pa_cons pe_bl (pa_cons pe_str (pa_cons pe_non pa_nil))))))))))
  (pss_cons (ps_set (i := 4) nd rfl (Or.inl rfl) (pe_ix ix_list (pv 4) (pe_op op_mod (pe_callD D__law_cell_at hr (by decide) rfl (pa_cons (pv 0) (pa_cons pe_int pa_nil))) pe_int) (fun _ _ => rfl)))
  (pss_cons (ps_set (i := 5) nd rfl (Or.inl rfl) (pe_ix ix_list (pe_lst (pa_cons pe_int (pa_cons pe_int (pa_cons (pe_op op_mod (pe_op op_fdiv (pe_callD D__law_cell_at hr (by decide) rfl (pa_cons (pv 0) (pa_cons pe_int pa_nil))) pe_int) pe_int) pa_nil)))) (pe_op op_mod (pe_callD D__law_cell_at hr (by decide) rfl (pa_cons (pv 0) (pa_cons pe_int pa_nil))) pe_int) (fun _ _ => rfl)))
  (pss_cons (ps_set (i := 6) nd rfl (Or.inl rfl) (pe_tup (pa_cons pe_str (pa_cons pe_str (pa_cons (pe_tup (pa_cons pe_str (pa_cons (pe_tup (pa_cons pe_str (pa_cons pe_int pa_nil))) (pa_cons (pe_tup (pa_cons pe_str (pa_cons pe_int pa_nil))) pa_nil)))) pa_nil)))))
  (pss_cons (ps_if (pt_cmpR op_eq (pe_op op_mod (pv 2) pe_int) pe_int (nomark _))
    (pss_cons (ps_set (i := 7) nd rfl (Or.inl rfl) (pe_ix ix_list (pe_lst (pa_cons (pe_lst (pa_cons pe_str (pa_cons pe_int pa_nil))) (pa_cons (pe_tup (pa_cons pe_str (pa_cons pe_bl pa_nil))) (pa_cons (pe_tup (pa_cons pe_str (pa_cons (pe_tup (pa_cons pe_str (pa_cons pe_int pa_nil))) (pa_cons (pe_tup (pa_cons pe_str (pa_cons pe_str pa_nil))) pa_nil)))) pa_nil)))) (pe_op op_mod (pe_op op_fdiv (pv 2) pe_int) pe_int) (fun _ _ => rfl)))
      (pss_cons (ps_if (PW.pt (pw_or (pt_cmpR op_ne (pe_callD D__law_word hr (by decide) rfl (pa_cons (pv 1) (pa_cons (pv 7) (pa_cons (pv 4) pa_nil)))) pe_str (nomark _)) (pw_or1 (pt_cmpR op_ne (pe_callD D__law_word hr (by decide) rfl (pa_cons (pv 1) (pa_cons (pv 7) (pa_cons (pv 5) pa_nil)))) pe_str (nomark _)))))
        (pss_one (ps_ret pe_bl))
        pss_nil)
      (pss_one (ps_ret (pe_callD D__law_based hr (by decide) rfl (pa_cons (pv 1) (pa_cons (pv 7) (pa_cons (pv 5) pa_nil))))))))
    pss_nil)
  (pss_cons (ps_if (pt_cmpR op_eq (pe_op op_mod (pv 2) pe_int) pe_int (nomark _))
    (pss_cons (ps_set (i := 8) nd rfl (Or.inl rfl) (pe_callD D__law_open hr (by decide) rfl (pa_cons (pe_op op_fdiv (pv 2) pe_int) pa_nil)))
      (pss_cons (ps_if (pt_not (pt_val (pe_callD D__law_stepped hr (by decide) rfl (pa_cons (pe_op op_fdiv (pv 2) pe_int) pa_nil))))
        (pss_one (ps_ret pe_bl))
        pss_nil)
      (pss_cons (ps_if (PW.pt (pw_or (pt_cmpR op_ne (pe_callD D__law_word hr (by decide) rfl (pa_cons (pv 1) (pa_cons (pv 8) (pa_cons (pv 4) pa_nil)))) pe_str (nomark _)) (pw_or1 (pt_cmpR op_ne (pe_callD D__law_word hr (by decide) rfl (pa_cons (pv 1) (pa_cons (pv 8) (pa_cons (pv 5) pa_nil)))) pe_str (nomark _)))))
        (pss_one (ps_ret pe_bl))
        pss_nil)
      (pss_one (ps_ret (pe_callD D__law_based hr (by decide) rfl (pa_cons (pv 1) (pa_cons (pv 8) (pa_cons pe_int pa_nil)))))))))
    pss_nil)
  (pss_cons (ps_if (pt_cmpR op_eq (pe_op op_mod (pv 2) pe_int) pe_int (nomark _))
    (pss_one (ps_ret (pe_and (pe_cmpR op_eq (pe_callD D__law_word hr (by decide) rfl (pa_cons (pv 1) (pa_cons (pv 6) (pa_cons (pv 4) pa_nil)))) pe_str (nomark _)) (pe_one (pe_callD D__law_based hr (by decide) rfl (pa_cons (pv 1) (pa_cons (pv 6) (pa_cons (pv 4) pa_nil))))))))
    pss_nil)
  (pss_cons (ps_set (i := 9) nd rfl (Or.inl rfl) (pe_callX D__law_asked hr (by decide) rfl (pa_cons (pv 1) (pa_cons (pv 6) (pa_cons (pv 5) pa_nil)))))
  (pss_cons (ps_if (pt_cmpR op_eq (pv 1) pe_int (nomark _))
    (pss_one (ps_ret (pe_cmpR (op_eqD hr.units) (pv 9) (pe_tup (pa_cons (pv 6) (pa_cons pe_int pa_nil))) (nomark _))))
    pss_nil)
  (pss_cons (ps_if (pt_cmpR op_eq (pv 1) pe_int (nomark _))
    (pss_one (ps_ret (pe_cmpR (op_eqD hr.units) (pv 9) (pe_lst (pa_cons (pv 6) pa_nil)) (nomark _))))
    pss_nil)
  (pss_cons (ps_if (pt_cmpR op_eq (pv 1) pe_int (nomark _))
    (pss_one (ps_ret (pe_and (pe_callB call_isi (by rfl) T.isinstance (by decide +kernel) (pa_cons (pv 9) (pa_cons (pe_bltn (v := .ty "tuple") (by rfl) T.tuple (by decide +kernel) rfl) pa_nil))) (pe_and (pe_cmpR op_eq (pe_callB call_len_seq (by rfl) T.len PySem.boot_len (pa_cons (pv 9) pa_nil)) pe_int (nomark _)) (pe_and (pe_cmpR op_eq (pe_ix ix_tup (pv 9) pe_int (fun _ _ => rfl)) pe_int (nomark _)) (pe_one (pe_cmpR (op_eqD hr.units) (pe_fld (pe_ix ix_tup (pv 9) pe_int (fun _ _ => rfl)) rfl) (pe_lst pa_nil) (nomark _))))))))
    pss_nil)
  (pss_one (ps_ret (pe_and (pe_callB call_isi (by rfl) T.isinstance (by decide +kernel) (pa_cons (pv 9) (pa_cons (pe_bltn (v := .ty "list") (by rfl) T.list (by decide +kernel) rfl) pa_nil))) (pe_and (pe_cmpR op_eq (pe_callB call_len_seq (by rfl) T.len PySem.boot_len (pa_cons (pv 9) pa_nil)) pe_int (nomark _)) (pe_one (pe_cmpR op_eq (pe_fld (pe_ix ix_list (pv 9) pe_int (fun _ _ => rfl)) rfl) pe_str (nomark _))))))))))))))))))))), ?_⟩
  rw [st_law]
  refine seq_ fun R1 hR => ?_
  walk_at "rd"
  refine ⟨a, ns, 0, rfl, ha, _, rfl, by decide, ?_⟩
  rw [hR]; clear hR
  generalize hway : cell ns 0 % 4 = way
  have hw0 : 0 ≤ way ∧ way < 4 := by omega
  clear hway
  refine seq_ fun R1 hR => ?_
  walk_at "rd"
  refine ⟨a, ns, 1, rfl, ha, ?_⟩
  rw [hR]; clear hR
  generalize cell ns 1 = c
  refine ifq_ fun R1 A1 B1 hR hA hB => ?_
  walk_at "rd"
  refine ⟨by decide, ?_⟩
  split
  · rename_i h0
    rw [hA]; clear hA hB hR
    refine seq_ fun R1 hR => ?_
    walk_at "rd"
    refine ⟨by decide, by decide, by decide, ?_⟩
    rw [hR]; clear hR
    have hm : ∃ n : Nat, c / 5 % 30 = n ∧ n ≤ 249 := ⟨(c / 5 % 30).toNat, by omega, by omega⟩
    obtain ⟨n, hn, hn2⟩ := hm
    rw [hn]
    refine ifq_ fun R1 A1 B1 hR hA hB => ?_
    walk_at "rd"
    refine ⟨by decide, by decide, by decide, ?_⟩
    split
    · rw [hA]; clear hA hB
      walk_at "rd"
      rw [hR]; clear hR
      walk_at "rd"
      exact ⟨way, 249, rfl, by decide, fun H' e => q H'⟩
    · rw [hB]; clear hA hB
      walk_at "rd"
      rw [hR]; clear hR
      walk_at "rd"
      exact ⟨way, n, rfl, hn2, fun H' e => q H'⟩
  rename_i h0
  rw [hB]; clear hA hB
  walk_at "rd"
  rw [hR]; clear hR
  refine seq_ fun R1 hR => ?_
  walk_at "rd"
  refine ⟨by decide, by decide, by decide, by decide, by decide, by decide, by decide, by decide, by decide, by decide, by decide, by decide, new_ fun p1 H1 hp1 e1 g1 => ?_⟩
  rw [hR]; clear hR
  refine seq_ fun R1 hR => ?_
  walk_at "rd"
  refine ⟨a, ns, 2, rfl, e1.seq ha, _, rfl, by decide, _, SqL.of g1, ?_⟩
  generalize cell ns 2 = c2
  obtain ⟨bv, hbv, hbm⟩ := bad_at (c := c) (k := c2 % 8) (by omega) (by omega)
  refine ⟨bv, hbv, ?_⟩
  rw [hR]; clear hR hbv g1 hp1
  refine seq_ fun R1 hR => ?_
  walk_at "rd"
  refine ⟨a, ns, 2, rfl, e1.seq ha, ?_⟩
  generalize cell ns 2 = c2
  refine ⟨_, rfl, by decide, by decide, by decide, new_ fun p2 H2 hp2 e2 g2 => ?_⟩
  refine ⟨a, ns, 3, rfl, (e1.trans e2).seq ha, ?_⟩
  generalize cell ns 3 = c3
  refine ⟨_, rfl, by decide, _, SqL.of g2, ?_⟩
  obtain ⟨m, hm, hmm⟩ : ∃ m : Nat, atI [V.int 0, V.int 1000, V.int (c2 / 8 % 1001)] (c3 % 3) = some (.int (m : Int)) ∧ m ≤ 1000 := by
    rcases (by omega : c3 % 3 = 0 ∨ c3 % 3 = 1 ∨ c3 % 3 = 2) with e | e | e <;> rw [e]
    · exact ⟨0, by rfl, by decide⟩
    · exact ⟨1000, by rfl, by decide⟩
    · exact ⟨(c2 / 8 % 1001).toNat, by rw [show (((c2 / 8 % 1001).toNat : Nat) : Int) = c2 / 8 % 1001 by omega]; rfl, by omega⟩
  refine ⟨_, hm, ?_⟩
  rw [hR]; clear hR hm g2 hp2
  refine seq_ fun R1 hR => ?_
  walk_at "rd"
  refine new_ fun q1 H3 hq1 e3 g3 => new_ fun q2 H4 hq2 e4 g4 => new_ fun q3 H5 hq3 e5 g5 => new_ fun q4 H6 hq4 e6 g6 => ?_
  have tc : At H6 closedT (.ref q4) := ⟨q4, _, rfl, g6, q3, _, _, rfl, e6 _ _ g5, ⟨q1, rfl, e6 _ _ (e5 _ _ (e4 _ _ g3))⟩, ⟨q2, rfl, e6 _ _ (e5 _ _ g4)⟩⟩
  clear g3 g4 g5 g6 hq1 hq2 hq3 hq4 e1 e2 e3 e4 e5 e6
  generalize V.ref q4 = cv at tc ⊢
  obtain ⟨cc, cg, cs, cstep⟩ := closedT_ok
  rw [hR]; clear hR
  refine ifq_ fun R1 A1 B1 hR hA hB => ?_
  walk_at "rd"
  refine ⟨by decide, ?_⟩
  split
  · rename_i h1
    rw [hA]; clear hA hB hR
    refine seq_ fun R1 hR => ?_
    walk_at "rd"
    refine new_ fun p1 H7 hp1 e1 g1 => new_ fun p2 H8 hp2 e2 g2 => new_ fun p3 H9 hp3 e3 g3 => new_ fun p4 H10 hp4 e4 g4 => new_ fun p5 H11 hp5 e5 g5 => new_ fun l H12 hl e6 g6 => ?_
    have k5 := e6
    have k4 := e5.trans k5
    have k3 := e4.trans k4
    have k2 := e3.trans k3
    have k1 := e2.trans k2
    obtain ⟨nv, hnv, hbad⟩ : ∃ nv, atI [V.ref p1, .ref p2, .ref p5] (c / 5 % 3) = some nv ∧ ∀ H', Same H12 H' → RefAt H' nv bv 0 ∧ RefAt H' nv (.int m) 0 := by
      have o2 : ∀ H', Same H12 H' → Bad H' (.ref p2) := fun H' e => bad_two (e _ _ (k2 _ _ g2)) ⟨"str", rfl⟩ ⟨"bool", rfl⟩ (fun x hx => by
        rcases List.mem_cons.mp hx with h | h
        · cases h; decide
        · cases (List.mem_singleton.mp h)) (by decide +kernel)
      have o4 : ∀ H', Same H12 H' → Bad H' (.ref p4) := fun H' e => bad_two (e _ _ (k4 _ _ g4)) ⟨"str", rfl⟩ ⟨"str", rfl⟩ (fun x hx => by
        rcases List.mem_cons.mp hx with h | h
        · cases h; decide
        · cases (List.mem_singleton.mp h); decide) (by decide +kernel)
      have one : ∀ {H' : Hp} {v : V}, Bad H' v → ∃ n b, Wks H' [v] n b ∧ (400 < n ∨ b = true) := fun h => ⟨_, _, Wks.odd h .nil, .inr rfl⟩
      rcases (by omega : c / 5 % 3 = 0 ∨ c / 5 % 3 = 1 ∨ c / 5 % 3 = 2) with e | e | e <;> rw [e]
      · exact ⟨_, by rfl, fun H' e => ⟨one (bad_lst (e _ _ (k1 _ _ g1))), one (bad_lst (e _ _ (k1 _ _ g1)))⟩⟩
      · exact ⟨_, by rfl, fun H' e => ⟨one (o2 H' e), one (o2 H' e)⟩⟩
      · refine ⟨_, by rfl, fun H' e => ?_⟩
        have h3 : At H' (.num 1) (.ref p3) := ⟨p3, rfl, e _ _ (k3 _ _ g3)⟩
        have hw : Wks H' [.ref p5] _ _ := nodeW .plus [] [.ref p3, .ref p4] (e _ _ (k5 _ _ g5)) rfl rfl (fun v hv => by cases hv) (by simp) (wks2 (wks_of h3 ⟨by decide, by decide⟩) (Wks.odd (o4 H' e) .nil))
        exact ⟨⟨_, _, hw, .inr rfl⟩, ⟨_, _, hw, .inr rfl⟩⟩
    refine ⟨by decide, by decide, by decide, _, SqL.of g6, nv, hnv, ?_⟩
    rw [hR]; clear hR hnv
    refine ifq_ fun R1 A1 B1 hR hA hB => ?_
    walk_at "rd"
    refine ⟨way, nv, bv, 0, rfl, (hbad _ (Same.refl _)).1, fun H13 e13 => ⟨rfl, ?_⟩⟩
    rw [if_neg (by decide +kernel)]
    refine ⟨way, nv, .int m, 0, rfl, (hbad _ e13).2, fun H14 e14 => ⟨rfl, ?_⟩⟩
    rw [if_neg (by decide +kernel), hB]; clear hA hB
    walk_at "rd"
    rw [hR]; clear hR
    walk_at "rd"
    exact ⟨way, nv, .int m, 0, rfl, (hbad _ (e13.trans e14)).2, fun H15 e15 => q _⟩
  rw [hB]; clear hA hB
  walk_at "rd"
  rw [hR]; clear hR
  refine ifq_ fun R1 A1 B1 hR hA hB => ?_
  walk_at "rd"
  refine ⟨by decide, ?_⟩
  split
  · rename_i h2
    rw [hA]; clear hA hB hR
    refine seq_ fun R1 hR => ?_
    walk_at "rd"
    refine ⟨by decide, by decide, c / 5, rfl, fun wv H7 e7 hwv => ?_⟩
    obtain ⟨hx, ho⟩ := openX_ok (c / 5)
    obtain ⟨og, os, oc⟩ := openT_ok (i := (c / 5 / 208 % 6).toNat) hx ho
    have hbad : ∀ (mv : V) (H' : Hp), Same H7 H' → RefAt H' wv mv 1 := fun mv H' e => ⟨_, hwv.mono (same_kt e), og, by omega, oc⟩
    rw [hR]; clear hR
    refine ifq_ fun R1 A1 B1 hR hA hB => ?_
    walk_at "rd"
    refine ⟨by decide, by decide, c / 5, rfl, fun H8 e8 => ⟨true, rfl, ?_⟩⟩
    rw [if_neg (by decide), hB]; clear hA hB
    walk_at "rd"
    rw [hR]; clear hR
    refine ifq_ fun R1 A1 B1 hR hA hB => ?_
    walk_at "rd"
    refine ⟨way, wv, bv, 1, rfl, hbad _ _ e8, fun H9 e9 => ⟨rfl, ?_⟩⟩
    rw [if_neg (by decide +kernel)]
    refine ⟨way, wv, .int m, 1, rfl, hbad _ _ (e8.trans e9), fun H10 e10 => ⟨rfl, ?_⟩⟩
    rw [if_neg (by decide +kernel), hB]; clear hA hB
    walk_at "rd"
    rw [hR]; clear hR
    walk_at "rd"
    exact ⟨way, wv, .int 3, 1, rfl, hbad _ _ (e8.trans (e9.trans e10)), fun H11 e11 => q _⟩
  rw [hB]; clear hA hB
  walk_at "rd"
  rw [hR]; clear hR
  refine ifq_ fun R1 A1 B1 hR hA hB => ?_
  walk_at "rd"
  refine ⟨by decide, ?_⟩
  split
  · rename_i h3
    rw [hA]; clear hA hB hR
    walk_at "rd"
    refine ⟨way, cv, bv, 2, rfl, ⟨closedT, tc, cg, cs, cc, hbm _⟩, fun H7 e7 => ⟨rfl, ?_⟩⟩
    rw [if_pos (by decide +kernel)]
    exact ⟨way, cv, bv, 2, rfl, ⟨closedT, tc.mono (same_kt e7), cg, cs, cc, hbm _⟩, fun H8 e8 => q _⟩
  rw [hB]; clear hA hB
  walk_at "rd"
  rw [hR]; clear hR
  refine seq_ fun R1 hR => ?_
  walk_at "rd"
  have hok : OkIn H6 closedT cv m := ⟨tc, cg, cc, cs, hmm⟩
  have hwk : work m closedT = .ok closedT m := work_val cstep
  have hev : evF m .nil closedT = .ok (.fn "x" (.call (.num 1) (.num 2)) .nil) m [.fn "x" (.call (.num 1) (.num 2)) .nil] := by
    unfold evF closedT
    rw [ev_fn, show freeNames (.fn "x" (.call (.num 1) (.num 2))) = [] by decide +kernel]
    rfl
  have hpath : path m closedT = [closedT] := by cases m <;> rfl
  refine ⟨way, cv, closedT, m, rfl, hok, fun h => ⟨cv, closedT, m, rfl, hok, ?_⟩, fun h => ⟨cv, closedT, m, rfl, hok, ?_⟩, fun h => ⟨cv, closedT, m, rfl, hok, ?_⟩, fun g0 g1 g2 => ⟨cv, closedT, m, rfl, hok, ?_⟩⟩
  · rw [hwk]
    intro r p H7 e7 hr7 hp7
    rw [hR]; clear hR
    refine ifq_ fun R1 A1 B1 hR hA hB => ?_
    walk_at "rd"
    rw [if_pos h, hA]; clear hA hB hR
    walk_at "rd"
    refine new_ fun q1 H8 hq1 e8 g8 => ?_
    have hp8 := e8 _ _ hp7
    rw [show ((m : Int) - (m : Nat)) = 0 by omega] at hp8
    exact eq_pair (t := closedT) (hr7.mono (same_kt e8)) (tc.mono (same_kt (e7.trans e8))) cg (by decide) hp8 g8 (q _)
  · rw [hwk]
    intro rs l H7 e7 hr7 hl7
    rw [hpath] at hr7
    cases hr7 with
    | cons hu hnil =>
      cases hnil
      rw [hR]; clear hR
      refine ifq_ fun R1 A1 B1 hR hA hB => ?_
      walk_at "rd"
      rw [if_neg (by omega), hB]; clear hA hB
      walk_at "rd"
      rw [hR]; clear hR
      refine ifq_ fun R1 A1 B1 hR hA hB => ?_
      walk_at "rd"
      rw [if_pos h, hA]; clear hA hB hR
      walk_at "rd"
      refine new_ fun q1 H8 hq1 e8 g8 => ?_
      exact eq_lone (t := closedT) (hu.mono (same_kt e8)) (tc.mono (same_kt (e7.trans e8))) cg (by decide) (e8 _ _ hl7) g8 (q _)
  · rw [hev]
    intro r p H7 e7 hr7 hp7
    rw [hR]; clear hR
    refine ifq_ fun R1 A1 B1 hR hA hB => ?_
    walk_at "rd"
    rw [if_neg (by omega), hB]; clear hA hB
    walk_at "rd"
    rw [hR]; clear hR
    refine ifq_ fun R1 A1 B1 hR hA hB => ?_
    walk_at "rd"
    rw [if_neg (by omega), hB]; clear hA hB
    walk_at "rd"
    rw [hR]; clear hR
    refine ifq_ fun R1 A1 B1 hR hA hB => ?_
    walk_at "rd"
    rw [if_pos h, hA]; clear hA hB hR
    walk_at "rd"
    refine isi_ (isi_tt hp7) ?_
    rw [if_pos rfl]
    have hr7 : KVm cK NoA H7 (.fn "x" (.call (.num 1) (.num 2)) .nil) r := hr7
    unfold KVm at hr7
    obtain ⟨ka, dx, ln, lh, tb, kns, hs, rfl, _, _, _, hka, _, hln, _, hkn, _⟩ := hr7
    refine ⟨_, .inr (SqT.of hp7), ?_⟩
    rw [if_pos (by rfl)]
    refine ⟨_, SqT.of hp7, _, at1 _ _ _, rfl, ?_⟩
    rw [if_pos (by rw [show ((m : Int) - (m : Nat)) = 0 by omega])]
    refine ⟨_, SqT.of hp7, _, at0 _ _, ka, rfl, _, _, _, hka, KC.cl, KC.na "names", _, keptF_names _ _ _ _, new_ fun q1 H8 hq1 e8 g8 => ?_⟩
    rw [show freeNames (.fn "x" (.call (.num 1) (.num 2))) = [] by decide +kernel] at hkn
    subst hkn
    have d1 : Dp K H8 (.ref ln) (.list ([].map PyData.str)) := dp_lst (xs := []) (e8 _ _ hln)
    have d2 : Dp K H8 (.ref q1) (.list ([].map PyData.str)) := dp_lst (xs := []) g8
    refine ⟨_, _, d1, d2, shaped_strs (by simp), shaped_strs (by simp), ?_⟩
    rw [eqv_strs (by simp)]
    exact q _
  · rw [hev]
    intro l rs H7 e7 hl7 hr7
    cases hr7 with
    | cons hu hnil =>
      cases hnil
      rw [hR]; clear hR
      refine ifq_ fun R1 A1 B1 hR hA hB => ?_
      walk_at "rd"
      rw [if_neg g0, hB]; clear hA hB
      walk_at "rd"
      rw [hR]; clear hR
      refine ifq_ fun R1 A1 B1 hR hA hB => ?_
      walk_at "rd"
      rw [if_neg g1, hB]; clear hA hB
      walk_at "rd"
      rw [hR]; clear hR
      refine ifq_ fun R1 A1 B1 hR hA hB => ?_
      walk_at "rd"
      rw [if_neg g2, hB]; clear hA hB
      walk_at "rd"
      rw [hR]; clear hR
      walk_at "rd"
      refine isi_ (isi_ll hl7) ?_
      rw [if_pos rfl]
      have hu : KVm cK NoA H7 (.fn "x" (.call (.num 1) (.num 2)) .nil) _ := hu
      unfold KVm at hu
      obtain ⟨ka, dx, ln, lh, tb, kns, hs, rfl, _, _, _, hka, _⟩ := hu
      refine ⟨_, .inl (SqL.of hl7), ?_⟩
      rw [if_pos (by rfl)]
      refine ⟨_, SqL.of hl7, _, at0 _ _, ka, rfl, _, _, _, hka, KC.cl, KC.na "name", _, keptF_name _ _ _ _, rfl, ?_⟩
      rw [decide_eq_true rfl]
      exact q _
end
end K08

namespace K08
open PySem L2 My
set_option maxHeartbeats 0 in
theorem all_mk {l : PySem.W.OpenLaw} {w : World} {K : PySem.W.Frag} {h : Heap} {mg : Str → Option Value} {fa : Addr} (X : K.In h) (G : h.Ns mainGlobals mg) (hfa : mg "law" = some (.ref fa))
    {aST : Addr}
    {esST : Array DictEntry}
    {enST : Nat}
    {us0 : Tok}
    {us1 : Tok}
    {us2 : Tok}
    {us3 : Tok}
    {us4 : Tok}
    {us5 : Tok}
    {us6 : Tok}
    {us7 : Tok}
    {aLE : Addr}
    {esLE : Array DictEntry}
    {enLE : Nat}
    {ul0 : Tok}
    {ul1 : Tok}
    {ul2 : Tok}
    {ul3 : Tok}
    {ul4 : Tok}
    {ul5 : Tok}
    {ul6 : Tok}
    {ul7 : Tok}
    {aAH : Addr}
    {esAH : Array DictEntry}
    {enAH : Nat}
    {ah0 : Addr}
    {ah1 : Addr}
    {ah2 : Addr}
    {ah3 : Addr}
    {ah4 : Addr}
    {ah5 : Addr}
    {oh0 : Option Addr}
    {nh0 : Nat}
    {slh0 : Array (Option Value)}
    {oh1 : Option Addr}
    {nh1 : Nat}
    {slh1 : Array (Option Value)}
    {ut1_0 : Tok}
    {ut1_1 : Tok}
    {oh2 : Option Addr}
    {nh2 : Nat}
    {slh2 : Array (Option Value)}
    {ut2_0 : Tok}
    {ut2_1 : Tok}
    {oh3 : Option Addr}
    {nh3 : Nat}
    {slh3 : Array (Option Value)}
    {ut3_0 : Tok}
    {ut3_1 : Tok}
    {oh4 : Option Addr}
    {nh4 : Nat}
    {slh4 : Array (Option Value)}
    {ut4_0 : Tok}
    {oh5 : Option Addr}
    {nh5 : Nat}
    {slh5 : Array (Option Value)}
    {ut5_0 : Tok}
    {t_MOST_NODES : Tok}
    {t_MOST_SIGNS : Tok}
    {t_TOO_GREAT : Tok}
    {t_LOOK : Tok}
    {t_BIND : Tok}
    {t_LOOSE : Tok}
    {t_MOST_DEEDS : Tok}
    {t_SIGNS : Tok}
    {cNoTree : Addr}
    {cNotClosed : Addr}
    {cBadMost : Addr}
    {cNoNumber : Addr}
    {cNoFunction : Addr}
    {cDry : Addr}
    {cNoText : Addr}
    {cMillError : Addr}
    {cWork : Addr}
    {cKept : Addr}
    {cMachine : Addr}
    {aVA : Addr}
    {ova : Option Addr}
    {nva : Nat}
    {slva : Array (Option Value)}
    {uva0 uva1 : Tok}
    {od0 an0 : Option Addr} {sl0 : Array (Option Value)} {oc0 kV0 dc0 pm0 cd0 ct0 : Value} {f0 : Addr}
    {od1 an1 : Option Addr} {sl1 : Array (Option Value)} {oc1 kV1 dc1 pm1 cd1 ct1 : Value} {f1 : Addr}
    {od2 an2 : Option Addr} {sl2 : Array (Option Value)} {oc2 kV2 dc2 pm2 cd2 ct2 : Value} {f2 : Addr}
    {od3 an3 : Option Addr} {sl3 : Array (Option Value)} {oc3 kV3 dc3 pm3 cd3 ct3 : Value} {f3 : Addr}
    {od4 an4 : Option Addr} {sl4 : Array (Option Value)} {oc4 kV4 dc4 pm4 cd4 ct4 : Value} {f4 : Addr}
    {od5 an5 : Option Addr} {sl5 : Array (Option Value)} {oc5 kV5 dc5 pm5 cd5 ct5 : Value} {f5 : Addr}
    {od6 an6 : Option Addr} {sl6 : Array (Option Value)} {oc6 kV6 dc6 pm6 cd6 ct6 : Value} {f6 : Addr}
    {od7 an7 : Option Addr} {sl7 : Array (Option Value)} {oc7 kV7 dc7 pm7 cd7 ct7 : Value} {f7 : Addr}
    {od8 an8 : Option Addr} {sl8 : Array (Option Value)} {oc8 kV8 dc8 pm8 cd8 ct8 : Value} {f8 : Addr}
    {od9 an9 : Option Addr} {sl9 : Array (Option Value)} {oc9 kV9 dc9 pm9 cd9 ct9 : Value} {f9 : Addr}
    {od10 an10 : Option Addr} {sl10 : Array (Option Value)} {oc10 kV10 dc10 pm10 cd10 ct10 : Value} {f10 : Addr}
    {od11 an11 : Option Addr} {sl11 : Array (Option Value)} {oc11 kV11 dc11 pm11 cd11 ct11 : Value} {f11 : Addr}
    {od12 an12 : Option Addr} {sl12 : Array (Option Value)} {oc12 kV12 dc12 pm12 cd12 ct12 : Value} {f12 : Addr}
    {od13 an13 : Option Addr} {sl13 : Array (Option Value)} {oc13 kV13 dc13 pm13 cd13 ct13 : Value} {f13 : Addr}
    {od14 an14 : Option Addr} {sl14 : Array (Option Value)} {oc14 kV14 dc14 pm14 cd14 ct14 : Value} {f14 : Addr}
    {od15 an15 : Option Addr} {sl15 : Array (Option Value)} {oc15 kV15 dc15 pm15 cd15 ct15 : Value} {f15 : Addr}
    {od16 an16 : Option Addr} {sl16 : Array (Option Value)} {oc16 kV16 dc16 pm16 cd16 ct16 : Value} {f16 : Addr}
    {od17 an17 : Option Addr} {sl17 : Array (Option Value)} {oc17 kV17 dc17 pm17 cd17 ct17 : Value} {f17 : Addr}
    {od18 an18 : Option Addr} {sl18 : Array (Option Value)} {oc18 kV18 dc18 pm18 cd18 ct18 : Value} {f18 : Addr}
    {od19 an19 : Option Addr} {sl19 : Array (Option Value)} {oc19 kV19 dc19 pm19 cd19 ct19 : Value} {f19 : Addr}
    {od20 an20 : Option Addr} {sl20 : Array (Option Value)} {oc20 kV20 dc20 pm20 cd20 ct20 : Value} {f20 : Addr}
    {od21 an21 : Option Addr} {sl21 : Array (Option Value)} {oc21 kV21 dc21 pm21 cd21 ct21 : Value} {f21 : Addr}
    {od22 an22 : Option Addr} {sl22 : Array (Option Value)} {oc22 kV22 dc22 pm22 cd22 ct22 : Value} {f22 : Addr}
    {od23 an23 : Option Addr} {sl23 : Array (Option Value)} {oc23 kV23 dc23 pm23 cd23 ct23 : Value} {f23 : Addr}
    {od24 an24 : Option Addr} {sl24 : Array (Option Value)} {oc24 kV24 dc24 pm24 cd24 ct24 : Value} {f24 : Addr}
    {od25 an25 : Option Addr} {sl25 : Array (Option Value)} {oc25 kV25 dc25 pm25 cd25 ct25 : Value} {f25 : Addr}
    {od26 an26 : Option Addr} {sl26 : Array (Option Value)} {oc26 kV26 dc26 pm26 cd26 ct26 : Value} {f26 : Addr}
    {od27 an27 : Option Addr} {sl27 : Array (Option Value)} {oc27 kV27 dc27 pm27 cd27 ct27 : Value} {f27 : Addr}
    {od28 an28 : Option Addr} {sl28 : Array (Option Value)} {oc28 kV28 dc28 pm28 cd28 ct28 : Value} {f28 : Addr}
    {od29 an29 : Option Addr} {sl29 : Array (Option Value)} {oc29 kV29 dc29 pm29 cd29 ct29 : Value} {f29 : Addr}
    {od30 an30 : Option Addr} {sl30 : Array (Option Value)} {oc30 kV30 dc30 pm30 cd30 ct30 : Value} {f30 : Addr}
    {od31 an31 : Option Addr} {sl31 : Array (Option Value)} {oc31 kV31 dc31 pm31 cd31 ct31 : Value} {f31 : Addr}
    {od32 an32 : Option Addr} {sl32 : Array (Option Value)} {oc32 kV32 dc32 pm32 cd32 ct32 : Value} {f32 : Addr}
    {od33 an33 : Option Addr} {sl33 : Array (Option Value)} {oc33 kV33 dc33 pm33 cd33 ct33 : Value} {f33 : Addr}
    {od34 an34 : Option Addr} {sl34 : Array (Option Value)} {oc34 kV34 dc34 pm34 cd34 ct34 : Value} {f34 : Addr}
    {od35 an35 : Option Addr} {sl35 : Array (Option Value)} {oc35 kV35 dc35 pm35 cd35 ct35 : Value} {f35 : Addr}
    {od36 an36 : Option Addr} {sl36 : Array (Option Value)} {oc36 kV36 dc36 pm36 cd36 ct36 : Value} {f36 : Addr}
    {od37 an37 : Option Addr} {sl37 : Array (Option Value)} {oc37 kV37 dc37 pm37 cd37 ct37 : Value} {f37 : Addr}
    {od38 an38 : Option Addr} {sl38 : Array (Option Value)} {oc38 kV38 dc38 pm38 cd38 ct38 : Value} {f38 : Addr}
    {od39 an39 : Option Addr} {sl39 : Array (Option Value)} {oc39 kV39 dc39 pm39 cd39 ct39 : Value} {f39 : Addr}
    {od40 an40 : Option Addr} {sl40 : Array (Option Value)} {oc40 kV40 dc40 pm40 cd40 ct40 : Value} {f40 : Addr}
    {od41 an41 : Option Addr} {sl41 : Array (Option Value)} {oc41 kV41 dc41 pm41 cd41 ct41 : Value} {f41 : Addr}
    {od42 an42 : Option Addr} {sl42 : Array (Option Value)} {oc42 kV42 dc42 pm42 cd42 ct42 : Value} {f42 : Addr}
    {od43 an43 : Option Addr} {sl43 : Array (Option Value)} {oc43 kV43 dc43 pm43 cd43 ct43 : Value} {f43 : Addr}
    {od44 an44 : Option Addr} {sl44 : Array (Option Value)} {oc44 kV44 dc44 pm44 cd44 ct44 : Value} {f44 : Addr}
    {od45 an45 : Option Addr} {sl45 : Array (Option Value)} {oc45 kV45 dc45 pm45 cd45 ct45 : Value} {f45 : Addr}
    {od46 an46 : Option Addr} {sl46 : Array (Option Value)} {oc46 kV46 dc46 pm46 cd46 ct46 : Value} {f46 : Addr}
    {od47 an47 : Option Addr} {sl47 : Array (Option Value)} {oc47 kV47 dc47 pm47 cd47 ct47 : Value} {f47 : Addr}
    {od48 an48 : Option Addr} {sl48 : Array (Option Value)} {oc48 kV48 dc48 pm48 cd48 ct48 : Value} {f48 : Addr}
    (z0 : PySem.W.nsIn K mainGlobals "len" = some none)
    (z1 : PySem.W.nsIn K mainGlobals "list" = some none)
    (z2 : PySem.W.nsIn K mainGlobals "range" = some none)
    (z3 : PySem.W.nsIn K mainGlobals "isinstance" = some none)
    (z4 : PySem.W.nsIn K mainGlobals "type" = some none)
    (z5 : PySem.W.nsIn K mainGlobals "all" = some none)
    (z6 : PySem.W.nsIn K mainGlobals "any" = some none)
    (z7 : PySem.W.nsIn K mainGlobals "str" = some none)
    (z8 : PySem.W.nsIn K mainGlobals "int" = some none)
    (z9 : PySem.W.nsIn K mainGlobals "bool" = some none)
    (z10 : PySem.W.nsIn K mainGlobals "tuple" = some none)
    (z11 : PySem.W.nsIn K mainGlobals "sorted" = some none)
    (z12 : PySem.W.nsIn K mainGlobals "reversed" = some none)
    (z13 : PySem.W.nsIn K mainGlobals "zip" = some none)
    (z14 : PySem.W.nsIn K mainGlobals "dict" = some none)
    (z15 : PySem.W.nsIn K mainGlobals "min" = some none)
    (z16 : PySem.W.nsIn K mainGlobals "max" = some none)
    (z17 : PySem.W.nsIn K mainGlobals "sum" = some none)
    (z18 : PySem.W.nsIn K mainGlobals "set" = some none)
    (z19 : PySem.W.nsIn K mainGlobals "repr" = some none)
    (z20 : PySem.W.nsIn K mainGlobals "abs" = some none)
    (z21 : PySem.W.nsIn K mainGlobals "enumerate" = some none)
    (z22 : PySem.W.nsIn K mainGlobals "ValueError" = some none)
    (gST : PySem.W.nsIn K mainGlobals "STARTS" = some (some (.ref aST)))
    (lST : K.lookup aST = some ⟨.type "dict", none, .dict esST enST, #[]⟩)
    (kST : PySem.W.KeysLit w.params esST.toList)
    (sST0 : PySem.W.nsIn K aST "num" = some (some (.int 2 us0)))
    (sST1 : PySem.W.nsIn K aST "name" = some (some (.int 2 us1)))
    (sST2 : PySem.W.nsIn K aST "fun" = some (some (.int 2 us2)))
    (sST3 : PySem.W.nsIn K aST "call" = some (some (.int 1 us3)))
    (sST4 : PySem.W.nsIn K aST "plus" = some (some (.int 1 us4)))
    (sST5 : PySem.W.nsIn K aST "less" = some (some (.int 1 us5)))
    (sST6 : PySem.W.nsIn K aST "if" = some (some (.int 1 us6)))
    (sST7 : PySem.W.nsIn K aST "let" = some (some (.int 2 us7)))
    (gLE : PySem.W.nsIn K mainGlobals "LENGTHS" = some (some (.ref aLE)))
    (lLE : K.lookup aLE = some ⟨.type "dict", none, .dict esLE enLE, #[]⟩)
    (kLE : PySem.W.KeysLit w.params esLE.toList)
    (sLE0 : PySem.W.nsIn K aLE "num" = some (some (.int 2 ul0)))
    (sLE1 : PySem.W.nsIn K aLE "name" = some (some (.int 2 ul1)))
    (sLE2 : PySem.W.nsIn K aLE "fun" = some (some (.int 3 ul2)))
    (sLE3 : PySem.W.nsIn K aLE "call" = some (some (.int 3 ul3)))
    (sLE4 : PySem.W.nsIn K aLE "plus" = some (some (.int 3 ul4)))
    (sLE5 : PySem.W.nsIn K aLE "less" = some (some (.int 3 ul5)))
    (sLE6 : PySem.W.nsIn K aLE "if" = some (some (.int 4 ul6)))
    (sLE7 : PySem.W.nsIn K aLE "let" = some (some (.int 4 ul7)))
    (low : (aLE == sysModules) = false)
    (hkLE : esLE.toList.all (fun e => match e.key with | .str z _ => wordsL.contains z | _ => false) = true)
    (gAH : PySem.W.nsIn K mainGlobals "AHEAD" = some (some (.ref aAH)))
    (lAH : K.lookup aAH = some ⟨.type "dict", none, .dict esAH enAH, #[]⟩)
    (kAH : PySem.W.KeysLit w.params esAH.toList)
    (sAH0 : PySem.W.nsIn K aAH "name" = some (some (.ref ah0)))
    (sAH1 : PySem.W.nsIn K aAH "call" = some (some (.ref ah1)))
    (sAH2 : PySem.W.nsIn K aAH "plus" = some (some (.ref ah2)))
    (sAH3 : PySem.W.nsIn K aAH "less" = some (some (.ref ah3)))
    (sAH4 : PySem.W.nsIn K aAH "if" = some (some (.ref ah4)))
    (sAH5 : PySem.W.nsIn K aAH "let" = some (some (.ref ah5)))
    (th0 : K.lookup ah0 = some ⟨.type "tuple", oh0, .seq #[] nh0, slh0⟩)
    (th1 : K.lookup ah1 = some ⟨.type "tuple", oh1, .seq #[.int 1 ut1_0, .int 2 ut1_1] nh1, slh1⟩)
    (th2 : K.lookup ah2 = some ⟨.type "tuple", oh2, .seq #[.int 1 ut2_0, .int 2 ut2_1] nh2, slh2⟩)
    (th3 : K.lookup ah3 = some ⟨.type "tuple", oh3, .seq #[.int 1 ut3_0, .int 2 ut3_1] nh3, slh3⟩)
    (th4 : K.lookup ah4 = some ⟨.type "tuple", oh4, .seq #[.int 1 ut4_0] nh4, slh4⟩)
    (th5 : K.lookup ah5 = some ⟨.type "tuple", oh5, .seq #[.int 2 ut5_0] nh5, slh5⟩)
    (i_MOST_NODES : PySem.W.nsIn K mainGlobals "MOST_NODES" = some (some (.int 400 t_MOST_NODES)))
    (i_MOST_SIGNS : PySem.W.nsIn K mainGlobals "MOST_SIGNS" = some (some (.int 8 t_MOST_SIGNS)))
    (i_TOO_GREAT : PySem.W.nsIn K mainGlobals "TOO_GREAT" = some (some (.int 1000000000000000000000000000000000000000000000000000000000000 t_TOO_GREAT)))
    (i_LOOK : PySem.W.nsIn K mainGlobals "LOOK" = some (some (.int 0 t_LOOK)))
    (i_BIND : PySem.W.nsIn K mainGlobals "BIND" = some (some (.int 1 t_BIND)))
    (i_LOOSE : PySem.W.nsIn K mainGlobals "LOOSE" = some (some (.int 2 t_LOOSE)))
    (i_MOST_DEEDS : PySem.W.nsIn K mainGlobals "MOST_DEEDS" = some (some (.int 1000 t_MOST_DEEDS)))
    (i_SIGNS : PySem.W.nsIn K mainGlobals "SIGNS" = some (some (.str "abcdefghijklmnopqrstuvwxyz" t_SIGNS)))
    (nNoTree : PySem.W.nsIn K mainGlobals "NoTree" = some (some (.ref cNoTree)))
    (kpNoTree : PySem.W.keepIn K (.ref cNoTree) = true)
    (xNoTree : PySem.W.excIn K cNoTree [.type "ValueError", .type "Exception", .type "BaseException", .type "object"] "ValueError.__new__" = true)
    (eNoTree : PySem.W.subIn K (.ref cNoTree) (.type "BaseException") = some true)
    (tNoTree : PySem.W.typeIn K (.ref cNoTree) = some (.type "type"))
    (nNotClosed : PySem.W.nsIn K mainGlobals "NotClosed" = some (some (.ref cNotClosed)))
    (kpNotClosed : PySem.W.keepIn K (.ref cNotClosed) = true)
    (xNotClosed : PySem.W.excIn K cNotClosed [.type "ValueError", .type "Exception", .type "BaseException", .type "object"] "ValueError.__new__" = true)
    (eNotClosed : PySem.W.subIn K (.ref cNotClosed) (.type "BaseException") = some true)
    (tNotClosed : PySem.W.typeIn K (.ref cNotClosed) = some (.type "type"))
    (nBadMost : PySem.W.nsIn K mainGlobals "BadMost" = some (some (.ref cBadMost)))
    (kpBadMost : PySem.W.keepIn K (.ref cBadMost) = true)
    (xBadMost : PySem.W.excIn K cBadMost [.type "ValueError", .type "Exception", .type "BaseException", .type "object"] "ValueError.__new__" = true)
    (eBadMost : PySem.W.subIn K (.ref cBadMost) (.type "BaseException") = some true)
    (tBadMost : PySem.W.typeIn K (.ref cBadMost) = some (.type "type"))
    (nNoNumber : PySem.W.nsIn K mainGlobals "NoNumber" = some (some (.ref cNoNumber)))
    (kpNoNumber : PySem.W.keepIn K (.ref cNoNumber) = true)
    (xNoNumber : PySem.W.excIn K cNoNumber [.type "ValueError", .type "Exception", .type "BaseException", .type "object"] "ValueError.__new__" = true)
    (eNoNumber : PySem.W.subIn K (.ref cNoNumber) (.type "BaseException") = some true)
    (tNoNumber : PySem.W.typeIn K (.ref cNoNumber) = some (.type "type"))
    (nNoFunction : PySem.W.nsIn K mainGlobals "NoFunction" = some (some (.ref cNoFunction)))
    (kpNoFunction : PySem.W.keepIn K (.ref cNoFunction) = true)
    (xNoFunction : PySem.W.excIn K cNoFunction [.type "ValueError", .type "Exception", .type "BaseException", .type "object"] "ValueError.__new__" = true)
    (eNoFunction : PySem.W.subIn K (.ref cNoFunction) (.type "BaseException") = some true)
    (tNoFunction : PySem.W.typeIn K (.ref cNoFunction) = some (.type "type"))
    (nDry : PySem.W.nsIn K mainGlobals "Dry" = some (some (.ref cDry)))
    (kpDry : PySem.W.keepIn K (.ref cDry) = true)
    (xDry : PySem.W.excIn K cDry [.type "ValueError", .type "Exception", .type "BaseException", .type "object"] "ValueError.__new__" = true)
    (eDry : PySem.W.subIn K (.ref cDry) (.type "BaseException") = some true)
    (tDry : PySem.W.typeIn K (.ref cDry) = some (.type "type"))
    (nNoText : PySem.W.nsIn K mainGlobals "NoText" = some (some (.ref cNoText)))
    (kpNoText : PySem.W.keepIn K (.ref cNoText) = true)
    (xNoText : PySem.W.excIn K cNoText [.type "ValueError", .type "Exception", .type "BaseException", .type "object"] "ValueError.__new__" = true)
    (eNoText : PySem.W.subIn K (.ref cNoText) (.type "BaseException") = some true)
    (tNoText : PySem.W.typeIn K (.ref cNoText) = some (.type "type"))
    (nMillError : PySem.W.nsIn K mainGlobals "MillError" = some (some (.ref cMillError)))
    (kpMillError : PySem.W.keepIn K (.ref cMillError) = true)
    (xMillError : PySem.W.excIn K cMillError [.type "ValueError", .type "Exception", .type "BaseException", .type "object"] "ValueError.__new__" = true)
    (eMillError : PySem.W.subIn K (.ref cMillError) (.type "BaseException") = some true)
    (tMillError : PySem.W.typeIn K (.ref cMillError) = some (.type "type"))
    (hdNoTree : PySem.W.hasDictIn K cNoTree = true)
    (suNoTreeNoTree : PySem.W.subIn K (.ref cNoTree) (.ref cNoTree) = some true)
    (hdNotClosed : PySem.W.hasDictIn K cNotClosed = true)
    (suNoTreeNotClosed : PySem.W.subIn K (.ref cNoTree) (.ref cNotClosed) = some false)
    (hdBadMost : PySem.W.hasDictIn K cBadMost = true)
    (suNoTreeBadMost : PySem.W.subIn K (.ref cNoTree) (.ref cBadMost) = some false)
    (hdDry : PySem.W.hasDictIn K cDry = true)
    (suNoTreeDry : PySem.W.subIn K (.ref cNoTree) (.ref cDry) = some false)
    (hdNoNumber : PySem.W.hasDictIn K cNoNumber = true)
    (suNoTreeNoNumber : PySem.W.subIn K (.ref cNoTree) (.ref cNoNumber) = some false)
    (hdNoFunction : PySem.W.hasDictIn K cNoFunction = true)
    (suNoTreeNoFunction : PySem.W.subIn K (.ref cNoTree) (.ref cNoFunction) = some false)
    (hdNoText : PySem.W.hasDictIn K cNoText = true)
    (suNoTreeNoText : PySem.W.subIn K (.ref cNoTree) (.ref cNoText) = some false)
    (suNotClosedNoTree : PySem.W.subIn K (.ref cNotClosed) (.ref cNoTree) = some false)
    (suNotClosedNotClosed : PySem.W.subIn K (.ref cNotClosed) (.ref cNotClosed) = some true)
    (suNotClosedBadMost : PySem.W.subIn K (.ref cNotClosed) (.ref cBadMost) = some false)
    (suNotClosedDry : PySem.W.subIn K (.ref cNotClosed) (.ref cDry) = some false)
    (suNotClosedNoNumber : PySem.W.subIn K (.ref cNotClosed) (.ref cNoNumber) = some false)
    (suNotClosedNoFunction : PySem.W.subIn K (.ref cNotClosed) (.ref cNoFunction) = some false)
    (suNotClosedNoText : PySem.W.subIn K (.ref cNotClosed) (.ref cNoText) = some false)
    (suBadMostNoTree : PySem.W.subIn K (.ref cBadMost) (.ref cNoTree) = some false)
    (suBadMostNotClosed : PySem.W.subIn K (.ref cBadMost) (.ref cNotClosed) = some false)
    (suBadMostBadMost : PySem.W.subIn K (.ref cBadMost) (.ref cBadMost) = some true)
    (suBadMostDry : PySem.W.subIn K (.ref cBadMost) (.ref cDry) = some false)
    (suBadMostNoNumber : PySem.W.subIn K (.ref cBadMost) (.ref cNoNumber) = some false)
    (suBadMostNoFunction : PySem.W.subIn K (.ref cBadMost) (.ref cNoFunction) = some false)
    (suBadMostNoText : PySem.W.subIn K (.ref cBadMost) (.ref cNoText) = some false)
    (suDryNoTree : PySem.W.subIn K (.ref cDry) (.ref cNoTree) = some false)
    (suDryNotClosed : PySem.W.subIn K (.ref cDry) (.ref cNotClosed) = some false)
    (suDryBadMost : PySem.W.subIn K (.ref cDry) (.ref cBadMost) = some false)
    (suDryDry : PySem.W.subIn K (.ref cDry) (.ref cDry) = some true)
    (suDryNoNumber : PySem.W.subIn K (.ref cDry) (.ref cNoNumber) = some false)
    (suDryNoFunction : PySem.W.subIn K (.ref cDry) (.ref cNoFunction) = some false)
    (suDryNoText : PySem.W.subIn K (.ref cDry) (.ref cNoText) = some false)
    (hnX : PySem.W.specialIn K (.builtin "object.__class__") "__get__" = some (some (.builtin "getset_descriptor.__get__")))
    (tkX : PySem.W.takesIn K (.builtin "object.__class__") = some true)
    (nWork : PySem.W.nsIn K mainGlobals "Work" = some (some (.ref cWork)))
    (pgWork : PySem.W.plainGet K cWork Str.empty = true)
    (hdWork : PySem.W.hasDictIn K cWork = true)
    (poWork : PySem.W.plainOver K cWork = true)
    (saWork : PySem.W.findIn K (.ref cWork) "__setattr__" = some (some (.builtin "object.__setattr__")))
    (haWork : PySem.W.findIn K (.ref cWork) "__class__" = some (some (.builtin "object.__class__")))
    (hmWork : PySem.W.mroIn K cWork (.type "object") = some true)
    (icWork : PySem.W.isClsIn K cWork = true)
    (tyWork : PySem.W.typeIn K (.ref cWork) = some (.type "type"))
    (siWork : PySem.W.subIn K (.type "int") (.ref cWork) = some false)
    (mkWork : PySem.W.makesIn K cWork = true)
    (kcWork : PySem.W.keepIn K (.ref cWork) = true)
    (noWork_full : PySem.W.findIn K (.ref cWork) "full" = some none)
    (noWork_short : PySem.W.findIn K (.ref cWork) "short" = some none)
    (noWork_around : PySem.W.findIn K (.ref cWork) "around" = some none)
    (noWork_fulls : PySem.W.findIn K (.ref cWork) "fulls" = some none)
    (noWork_shorts : PySem.W.findIn K (.ref cWork) "shorts" = some none)
    (nKept : PySem.W.nsIn K mainGlobals "Kept" = some (some (.ref cKept)))
    (pgKept : PySem.W.plainGet K cKept Str.empty = true)
    (hdKept : PySem.W.hasDictIn K cKept = true)
    (poKept : PySem.W.plainOver K cKept = true)
    (saKept : PySem.W.findIn K (.ref cKept) "__setattr__" = some (some (.builtin "object.__setattr__")))
    (haKept : PySem.W.findIn K (.ref cKept) "__class__" = some (some (.builtin "object.__class__")))
    (hmKept : PySem.W.mroIn K cKept (.type "object") = some true)
    (icKept : PySem.W.isClsIn K cKept = true)
    (tyKept : PySem.W.typeIn K (.ref cKept) = some (.type "type"))
    (siKept : PySem.W.subIn K (.type "int") (.ref cKept) = some false)
    (mkKept : PySem.W.makesIn K cKept = true)
    (kcKept : PySem.W.keepIn K (.ref cKept) = true)
    (noKept_name : PySem.W.findIn K (.ref cKept) "name" = some none)
    (noKept_body : PySem.W.findIn K (.ref cKept) "body" = some none)
    (noKept_names : PySem.W.findIn K (.ref cKept) "names" = some none)
    (noKept_held : PySem.W.findIn K (.ref cKept) "held" = some none)
    (nMachine : PySem.W.nsIn K mainGlobals "Machine" = some (some (.ref cMachine)))
    (pgMachine : PySem.W.plainGet K cMachine Str.empty = true)
    (hdMachine : PySem.W.hasDictIn K cMachine = true)
    (poMachine : PySem.W.plainOver K cMachine = true)
    (saMachine : PySem.W.findIn K (.ref cMachine) "__setattr__" = some (some (.builtin "object.__setattr__")))
    (haMachine : PySem.W.findIn K (.ref cMachine) "__class__" = some (some (.builtin "object.__class__")))
    (hmMachine : PySem.W.mroIn K cMachine (.type "object") = some true)
    (icMachine : PySem.W.isClsIn K cMachine = true)
    (tyMachine : PySem.W.typeIn K (.ref cMachine) = some (.type "type"))
    (siMachine : PySem.W.subIn K (.type "int") (.ref cMachine) = some false)
    (mkMachine : PySem.W.makesIn K cMachine = true)
    (kcMachine : PySem.W.keepIn K (.ref cMachine) = true)
    (noMachine_most : PySem.W.findIn K (.ref cMachine) "most" = some none)
    (noMachine_deeds : PySem.W.findIn K (.ref cMachine) "deeds" = some none)
    (noMachine_kepts : PySem.W.findIn K (.ref cMachine) "kepts" = some none)
    (noMachine_found : PySem.W.findIn K (.ref cMachine) "found" = some none)
    (noMachine_waiting : PySem.W.findIn K (.ref cMachine) "waiting" = some none)
    (gVA : PySem.W.nsIn K mainGlobals "VALUES" = some (some (.ref aVA)))
    (tVA : K.lookup aVA = some ⟨.type "tuple", ova, .seq #[.str "num" uva0, .str "fun" uva1] nva, slva⟩)
    (ygNoTree : PySem.W.findIn K (.ref cNoTree) "__getattribute__" = some (some (.builtin "BaseException.__getattribute__")))
    (ykNoTree : PySem.W.findIn K (.ref cNoTree) "__getattr__" = some none)
    (ydNoTree : PySem.W.hasDictIn K cNoTree = true)
    (yaNoTree : PySem.W.findIn K (.ref cNoTree) "__class__" = some (some (.builtin "object.__class__")))
    (ymNoTree : PySem.W.mroIn K cNoTree (.type "object") = some true)
    (yvNoTree : PySem.W.subIn K (.ref cNoTree) (.type "ValueError") = some true)
    (ynNoTreeNotClosed : (Value.ref cNoTree == Value.ref cNotClosed) = false)
    (ysNoTreeNotClosed : PySem.W.subIn K (.ref cNoTree) (.ref cNotClosed) = some false)
    (ynNoTreeBadMost : (Value.ref cNoTree == Value.ref cBadMost) = false)
    (ysNoTreeBadMost : PySem.W.subIn K (.ref cNoTree) (.ref cBadMost) = some false)
    (ynNoTreeDry : (Value.ref cNoTree == Value.ref cDry) = false)
    (ysNoTreeDry : PySem.W.subIn K (.ref cNoTree) (.ref cDry) = some false)
    (ynNoTreeNoNumber : (Value.ref cNoTree == Value.ref cNoNumber) = false)
    (ysNoTreeNoNumber : PySem.W.subIn K (.ref cNoTree) (.ref cNoNumber) = some false)
    (ynNoTreeNoFunction : (Value.ref cNoTree == Value.ref cNoFunction) = false)
    (ysNoTreeNoFunction : PySem.W.subIn K (.ref cNoTree) (.ref cNoFunction) = some false)
    (ynNoTreeNoText : (Value.ref cNoTree == Value.ref cNoText) = false)
    (ysNoTreeNoText : PySem.W.subIn K (.ref cNoTree) (.ref cNoText) = some false)
    (ygNotClosed : PySem.W.findIn K (.ref cNotClosed) "__getattribute__" = some (some (.builtin "BaseException.__getattribute__")))
    (ykNotClosed : PySem.W.findIn K (.ref cNotClosed) "__getattr__" = some none)
    (ydNotClosed : PySem.W.hasDictIn K cNotClosed = true)
    (yaNotClosed : PySem.W.findIn K (.ref cNotClosed) "__class__" = some (some (.builtin "object.__class__")))
    (ymNotClosed : PySem.W.mroIn K cNotClosed (.type "object") = some true)
    (yvNotClosed : PySem.W.subIn K (.ref cNotClosed) (.type "ValueError") = some true)
    (ynNotClosedNoTree : (Value.ref cNotClosed == Value.ref cNoTree) = false)
    (ysNotClosedNoTree : PySem.W.subIn K (.ref cNotClosed) (.ref cNoTree) = some false)
    (ynNotClosedBadMost : (Value.ref cNotClosed == Value.ref cBadMost) = false)
    (ysNotClosedBadMost : PySem.W.subIn K (.ref cNotClosed) (.ref cBadMost) = some false)
    (ynNotClosedDry : (Value.ref cNotClosed == Value.ref cDry) = false)
    (ysNotClosedDry : PySem.W.subIn K (.ref cNotClosed) (.ref cDry) = some false)
    (ynNotClosedNoNumber : (Value.ref cNotClosed == Value.ref cNoNumber) = false)
    (ysNotClosedNoNumber : PySem.W.subIn K (.ref cNotClosed) (.ref cNoNumber) = some false)
    (ynNotClosedNoFunction : (Value.ref cNotClosed == Value.ref cNoFunction) = false)
    (ysNotClosedNoFunction : PySem.W.subIn K (.ref cNotClosed) (.ref cNoFunction) = some false)
    (ynNotClosedNoText : (Value.ref cNotClosed == Value.ref cNoText) = false)
    (ysNotClosedNoText : PySem.W.subIn K (.ref cNotClosed) (.ref cNoText) = some false)
    (ygBadMost : PySem.W.findIn K (.ref cBadMost) "__getattribute__" = some (some (.builtin "BaseException.__getattribute__")))
    (ykBadMost : PySem.W.findIn K (.ref cBadMost) "__getattr__" = some none)
    (ydBadMost : PySem.W.hasDictIn K cBadMost = true)
    (yaBadMost : PySem.W.findIn K (.ref cBadMost) "__class__" = some (some (.builtin "object.__class__")))
    (ymBadMost : PySem.W.mroIn K cBadMost (.type "object") = some true)
    (yvBadMost : PySem.W.subIn K (.ref cBadMost) (.type "ValueError") = some true)
    (ynBadMostNoTree : (Value.ref cBadMost == Value.ref cNoTree) = false)
    (ysBadMostNoTree : PySem.W.subIn K (.ref cBadMost) (.ref cNoTree) = some false)
    (ynBadMostNotClosed : (Value.ref cBadMost == Value.ref cNotClosed) = false)
    (ysBadMostNotClosed : PySem.W.subIn K (.ref cBadMost) (.ref cNotClosed) = some false)
    (ynBadMostDry : (Value.ref cBadMost == Value.ref cDry) = false)
    (ysBadMostDry : PySem.W.subIn K (.ref cBadMost) (.ref cDry) = some false)
    (ynBadMostNoNumber : (Value.ref cBadMost == Value.ref cNoNumber) = false)
    (ysBadMostNoNumber : PySem.W.subIn K (.ref cBadMost) (.ref cNoNumber) = some false)
    (ynBadMostNoFunction : (Value.ref cBadMost == Value.ref cNoFunction) = false)
    (ysBadMostNoFunction : PySem.W.subIn K (.ref cBadMost) (.ref cNoFunction) = some false)
    (ynBadMostNoText : (Value.ref cBadMost == Value.ref cNoText) = false)
    (ysBadMostNoText : PySem.W.subIn K (.ref cBadMost) (.ref cNoText) = some false)
    (ygDry : PySem.W.findIn K (.ref cDry) "__getattribute__" = some (some (.builtin "BaseException.__getattribute__")))
    (ykDry : PySem.W.findIn K (.ref cDry) "__getattr__" = some none)
    (ydDry : PySem.W.hasDictIn K cDry = true)
    (yaDry : PySem.W.findIn K (.ref cDry) "__class__" = some (some (.builtin "object.__class__")))
    (ymDry : PySem.W.mroIn K cDry (.type "object") = some true)
    (yvDry : PySem.W.subIn K (.ref cDry) (.type "ValueError") = some true)
    (ynDryNoTree : (Value.ref cDry == Value.ref cNoTree) = false)
    (ysDryNoTree : PySem.W.subIn K (.ref cDry) (.ref cNoTree) = some false)
    (ynDryNotClosed : (Value.ref cDry == Value.ref cNotClosed) = false)
    (ysDryNotClosed : PySem.W.subIn K (.ref cDry) (.ref cNotClosed) = some false)
    (ynDryBadMost : (Value.ref cDry == Value.ref cBadMost) = false)
    (ysDryBadMost : PySem.W.subIn K (.ref cDry) (.ref cBadMost) = some false)
    (ynDryNoNumber : (Value.ref cDry == Value.ref cNoNumber) = false)
    (ysDryNoNumber : PySem.W.subIn K (.ref cDry) (.ref cNoNumber) = some false)
    (ynDryNoFunction : (Value.ref cDry == Value.ref cNoFunction) = false)
    (ysDryNoFunction : PySem.W.subIn K (.ref cDry) (.ref cNoFunction) = some false)
    (ynDryNoText : (Value.ref cDry == Value.ref cNoText) = false)
    (ysDryNoText : PySem.W.subIn K (.ref cDry) (.ref cNoText) = some false)
    (ynNoTreeMillError : (Value.ref cNoTree == Value.ref cMillError) = false)
    (ysNoTreeMillError : PySem.W.subIn K (.ref cNoTree) (.ref cMillError) = some true)
    (ynNotClosedMillError : (Value.ref cNotClosed == Value.ref cMillError) = false)
    (ysNotClosedMillError : PySem.W.subIn K (.ref cNotClosed) (.ref cMillError) = some true)
    (ynBadMostMillError : (Value.ref cBadMost == Value.ref cMillError) = false)
    (ysBadMostMillError : PySem.W.subIn K (.ref cBadMost) (.ref cMillError) = some true)
    (ynDryMillError : (Value.ref cDry == Value.ref cMillError) = false)
    (ysDryMillError : PySem.W.subIn K (.ref cDry) (.ref cMillError) = some true)
    (yiNoTree : PySem.W.isClsIn K cNoTree = true)
    (yiNotClosed : PySem.W.isClsIn K cNotClosed = true)
    (yiBadMost : PySem.W.isClsIn K cBadMost = true)
    (yiDry : PySem.W.isClsIn K cDry = true)
    (yiNoNumber : PySem.W.isClsIn K cNoNumber = true)
    (yiNoFunction : PySem.W.isClsIn K cNoFunction = true)
    (yiNoText : PySem.W.isClsIn K cNoText = true)
    (yiMillError : PySem.W.isClsIn K cMillError = true)
    (a0 : PySem.W.nsIn K mainGlobals "need_tree" = some (some (.ref f0)))
    (l0 : K.lookup f0 = some ⟨oc0, od0, .func (PySem.W.fnOf "need_tree" "need_tree" (defArgs s_need_tree) (defBody s_need_tree) (defScope s_need_tree) .none kV0 dc0 pm0 an0 cd0 ct0), sl0⟩)
    (c0 : PySem.W.codeIn K cd0 "need_tree" = true)
    (k0 : PySem.W.keepIn K (.ref f0) = true)
    (a1 : PySem.W.nsIn K mainGlobals "parts" = some (some (.ref f1)))
    (l1 : K.lookup f1 = some ⟨oc1, od1, .func (PySem.W.fnOf "parts" "parts" (defArgs s_parts) (defBody s_parts) (defScope s_parts) .none kV1 dc1 pm1 an1 cd1 ct1), sl1⟩)
    (c1 : PySem.W.codeIn K cd1 "parts" = true)
    (k1 : PySem.W.keepIn K (.ref f1) = true)
    (a2 : PySem.W.nsIn K mainGlobals "free" = some (some (.ref f2)))
    (l2 : K.lookup f2 = some ⟨oc2, od2, .func (PySem.W.fnOf "free" "free" (defArgs s_free) (defBody s_free) (defScope s_free) .none kV2 dc2 pm2 an2 cd2 ct2), sl2⟩)
    (c2 : PySem.W.codeIn K cd2 "free" = true)
    (k2 : PySem.W.keepIn K (.ref f2) = true)
    (a3 : PySem.W.nsIn K mainGlobals "_reading" = some (some (.ref f3)))
    (l3 : K.lookup f3 = some ⟨oc3, od3, .func (PySem.W.fnOf "_reading" "_reading" (defArgs s__reading) (defBody s__reading) (defScope s__reading) .none kV3 dc3 pm3 an3 cd3 ct3), sl3⟩)
    (c3 : PySem.W.codeIn K cd3 "_reading" = true)
    (k3 : PySem.W.keepIn K (.ref f3) = true)
    (a4 : PySem.W.nsIn K mainGlobals "_is_node" = some (some (.ref f4)))
    (l4 : K.lookup f4 = some ⟨oc4, od4, .func (PySem.W.fnOf "_is_node" "_is_node" (defArgs s__is_node) (defBody s__is_node) (defScope s__is_node) .none kV4 dc4 pm4 an4 cd4 ct4), sl4⟩)
    (c4 : PySem.W.codeIn K cd4 "_is_node" = true)
    (k4 : PySem.W.keepIn K (.ref f4) = true)
    (a5 : PySem.W.nsIn K mainGlobals "_is_number" = some (some (.ref f5)))
    (l5 : K.lookup f5 = some ⟨oc5, od5, .func (PySem.W.fnOf "_is_number" "_is_number" (defArgs s__is_number) (defBody s__is_number) (defScope s__is_number) .none kV5 dc5 pm5 an5 cd5 ct5), sl5⟩)
    (c5 : PySem.W.codeIn K cd5 "_is_number" = true)
    (k5 : PySem.W.keepIn K (.ref f5) = true)
    (a6 : PySem.W.nsIn K mainGlobals "_is_name" = some (some (.ref f6)))
    (l6 : K.lookup f6 = some ⟨oc6, od6, .func (PySem.W.fnOf "_is_name" "_is_name" (defArgs s__is_name) (defBody s__is_name) (defScope s__is_name) .none kV6 dc6 pm6 an6 cd6 ct6), sl6⟩)
    (c6 : PySem.W.codeIn K cd6 "_is_name" = true)
    (k6 : PySem.W.keepIn K (.ref f6) = true)
    (a7 : PySem.W.nsIn K mainGlobals "need_start" = some (some (.ref f7)))
    (l7 : K.lookup f7 = some ⟨oc7, od7, .func (PySem.W.fnOf "need_start" "need_start" (defArgs s_need_start) (defBody s_need_start) (defScope s_need_start) .none kV7 dc7 pm7 an7 cd7 ct7), sl7⟩)
    (c7 : PySem.W.codeIn K cd7 "need_start" = true)
    (k7 : PySem.W.keepIn K (.ref f7) = true)
    (a8 : PySem.W.nsIn K mainGlobals "need_deed" = some (some (.ref f8)))
    (l8 : K.lookup f8 = some ⟨oc8, od8, .func (PySem.W.fnOf "need_deed" "need_deed" (defArgs s_need_deed) (defBody s_need_deed) (defScope s_need_deed) .none kV8 dc8 pm8 an8 cd8 ct8), sl8⟩)
    (c8 : PySem.W.codeIn K cd8 "need_deed" = true)
    (k8 : PySem.W.keepIn K (.ref f8) = true)
    (a9 : PySem.W.nsIn K mainGlobals "reckoned" = some (some (.ref f9)))
    (l9 : K.lookup f9 = some ⟨oc9, od9, .func (PySem.W.fnOf "reckoned" "reckoned" (defArgs s_reckoned) (defBody s_reckoned) (defScope s_reckoned) .none kV9 dc9 pm9 an9 cd9 ct9), sl9⟩)
    (c9 : PySem.W.codeIn K cd9 "reckoned" = true)
    (k9 : PySem.W.keepIn K (.ref f9) = true)
    (a10 : PySem.W.findIn K (.ref cWork) "__init__" = some (some (.ref f10)))
    (y10 : PySem.W.isFn K (.ref f10) = true)
    (l10 : K.lookup f10 = some ⟨oc10, od10, .func (PySem.W.fnOf "__init__" "Work.__init__" (defArgs s_Work___init__) (defBody s_Work___init__) (defScope s_Work___init__) .none kV10 dc10 pm10 an10 cd10 ct10), sl10⟩)
    (c10 : PySem.W.codeIn K cd10 "Work.__init__" = true)
    (k10 : PySem.W.keepIn K (.ref f10) = true)
    (a11 : PySem.W.findIn K (.ref cWork) "whole" = some (some (.ref f11)))
    (y11 : PySem.W.isFn K (.ref f11) = true)
    (l11 : K.lookup f11 = some ⟨oc11, od11, .func (PySem.W.fnOf "whole" "Work.whole" (defArgs s_Work_whole) (defBody s_Work_whole) (defScope s_Work_whole) .none kV11 dc11 pm11 an11 cd11 ct11), sl11⟩)
    (c11 : PySem.W.codeIn K cd11 "Work.whole" = true)
    (k11 : PySem.W.keepIn K (.ref f11) = true)
    (a12 : PySem.W.findIn K (.ref cWork) "seek" = some (some (.ref f12)))
    (y12 : PySem.W.isFn K (.ref f12) = true)
    (l12 : K.lookup f12 = some ⟨oc12, od12, .func (PySem.W.fnOf "seek" "Work.seek" (defArgs s_Work_seek) (defBody s_Work_seek) (defScope s_Work_seek) .none kV12 dc12 pm12 an12 cd12 ct12), sl12⟩)
    (c12 : PySem.W.codeIn K cd12 "Work.seek" = true)
    (k12 : PySem.W.keepIn K (.ref f12) = true)
    (a13 : PySem.W.findIn K (.ref cWork) "do_deed" = some (some (.ref f13)))
    (y13 : PySem.W.isFn K (.ref f13) = true)
    (l13 : K.lookup f13 = some ⟨oc13, od13, .func (PySem.W.fnOf "do_deed" "Work.do_deed" (defArgs s_Work_do_deed) (defBody s_Work_do_deed) (defScope s_Work_do_deed) .none kV13 dc13 pm13 an13 cd13 ct13), sl13⟩)
    (c13 : PySem.W.codeIn K cd13 "Work.do_deed" = true)
    (k13 : PySem.W.keepIn K (.ref f13) = true)
    (a14 : PySem.W.findIn K (.ref cWork) "_enter" = some (some (.ref f14)))
    (y14 : PySem.W.isFn K (.ref f14) = true)
    (l14 : K.lookup f14 = some ⟨oc14, od14, .func (PySem.W.fnOf "_enter" "Work._enter" (defArgs s_Work__enter) (defBody s_Work__enter) (defScope s_Work__enter) .none kV14 dc14 pm14 an14 cd14 ct14), sl14⟩)
    (c14 : PySem.W.codeIn K cd14 "Work._enter" = true)
    (k14 : PySem.W.keepIn K (.ref f14) = true)
    (a15 : PySem.W.findIn K (.ref cWork) "_leave" = some (some (.ref f15)))
    (y15 : PySem.W.isFn K (.ref f15) = true)
    (l15 : K.lookup f15 = some ⟨oc15, od15, .func (PySem.W.fnOf "_leave" "Work._leave" (defArgs s_Work__leave) (defBody s_Work__leave) (defScope s_Work__leave) .none kV15 dc15 pm15 an15 cd15 ct15), sl15⟩)
    (c15 : PySem.W.codeIn K cd15 "Work._leave" = true)
    (k15 : PySem.W.keepIn K (.ref f15) = true)
    (a16 : PySem.W.findIn K (.ref cWork) "_do_call" = some (some (.ref f16)))
    (y16 : PySem.W.isFn K (.ref f16) = true)
    (l16 : K.lookup f16 = some ⟨oc16, od16, .func (PySem.W.fnOf "_do_call" "Work._do_call" (defArgs s_Work__do_call) (defBody s_Work__do_call) (defScope s_Work__do_call) .none kV16 dc16 pm16 an16 cd16 ct16), sl16⟩)
    (c16 : PySem.W.codeIn K cd16 "Work._do_call" = true)
    (k16 : PySem.W.keepIn K (.ref f16) = true)
    (a17 : PySem.W.findIn K (.ref cWork) "_do_choice" = some (some (.ref f17)))
    (y17 : PySem.W.isFn K (.ref f17) = true)
    (l17 : K.lookup f17 = some ⟨oc17, od17, .func (PySem.W.fnOf "_do_choice" "Work._do_choice" (defArgs s_Work__do_choice) (defBody s_Work__do_choice) (defScope s_Work__do_choice) .none kV17 dc17 pm17 an17 cd17 ct17), sl17⟩)
    (c17 : PySem.W.codeIn K cd17 "Work._do_choice" = true)
    (k17 : PySem.W.keepIn K (.ref f17) = true)
    (a18 : PySem.W.findIn K (.ref cWork) "_do_reckoning" = some (some (.ref f18)))
    (y18 : PySem.W.isFn K (.ref f18) = true)
    (l18 : K.lookup f18 = some ⟨oc18, od18, .func (PySem.W.fnOf "_do_reckoning" "Work._do_reckoning" (defArgs s_Work__do_reckoning) (defBody s_Work__do_reckoning) (defScope s_Work__do_reckoning) .none kV18 dc18 pm18 an18 cd18 ct18), sl18⟩)
    (c18 : PySem.W.codeIn K cd18 "Work._do_reckoning" = true)
    (k18 : PySem.W.keepIn K (.ref f18) = true)
    (a19 : PySem.W.findIn K (.ref cWork) "_put_in" = some (some (.ref f19)))
    (y19 : PySem.W.isFn K (.ref f19) = true)
    (l19 : K.lookup f19 = some ⟨oc19, od19, .func (PySem.W.fnOf "_put_in" "Work._put_in" (defArgs s_Work__put_in) (defBody s_Work__put_in) (defScope s_Work__put_in) .none kV19 dc19 pm19 an19 cd19 ct19), sl19⟩)
    (c19 : PySem.W.codeIn K cd19 "Work._put_in" = true)
    (k19 : PySem.W.keepIn K (.ref f19) = true)
    (a20 : PySem.W.findIn K (.ref cWork) "_short_value" = some (some (.ref f20)))
    (y20 : PySem.W.isFn K (.ref f20) = true)
    (l20 : K.lookup f20 = some ⟨oc20, od20, .func (PySem.W.fnOf "_short_value" "Work._short_value" (defArgs s_Work__short_value) (defBody s_Work__short_value) (defScope s_Work__short_value) .none kV20 dc20 pm20 an20 cd20 ct20), sl20⟩)
    (c20 : PySem.W.codeIn K cd20 "Work._short_value" = true)
    (k20 : PySem.W.keepIn K (.ref f20) = true)
    (a21 : PySem.W.nsIn K mainGlobals "put" = some (some (.ref f21)))
    (l21 : K.lookup f21 = some ⟨oc21, od21, .func (PySem.W.fnOf "put" "put" (defArgs s_put) (defBody s_put) (defScope s_put) .none kV21 dc21 pm21 an21 cd21 ct21), sl21⟩)
    (c21 : PySem.W.codeIn K cd21 "put" = true)
    (k21 : PySem.W.keepIn K (.ref f21) = true)
    (a22 : PySem.W.nsIn K mainGlobals "put_all" = some (some (.ref f22)))
    (l22 : K.lookup f22 = some ⟨oc22, od22, .func (PySem.W.fnOf "put_all" "put_all" (defArgs s_put_all) (defBody s_put_all) (defScope s_put_all) .none kV22 dc22 pm22 an22 cd22 ct22), sl22⟩)
    (c22 : PySem.W.codeIn K cd22 "put_all" = true)
    (k22 : PySem.W.keepIn K (.ref f22) = true)
    (a23 : PySem.W.nsIn K mainGlobals "step" = some (some (.ref f23)))
    (l23 : K.lookup f23 = some ⟨oc23, od23, .func (PySem.W.fnOf "step" "step" (defArgs s_step) (defBody s_step) (defScope s_step) .none kV23 dc23 pm23 an23 cd23 ct23), sl23⟩)
    (c23 : PySem.W.codeIn K cd23 "step" = true)
    (k23 : PySem.W.keepIn K (.ref f23) = true)
    (a24 : PySem.W.nsIn K mainGlobals "worked" = some (some (.ref f24)))
    (l24 : K.lookup f24 = some ⟨oc24, od24, .func (PySem.W.fnOf "worked" "worked" (defArgs s_worked) (defBody s_worked) (defScope s_worked) .none kV24 dc24 pm24 an24 cd24 ct24), sl24⟩)
    (c24 : PySem.W.codeIn K cd24 "worked" = true)
    (k24 : PySem.W.keepIn K (.ref f24) = true)
    (a25 : PySem.W.nsIn K mainGlobals "steps" = some (some (.ref f25)))
    (l25 : K.lookup f25 = some ⟨oc25, od25, .func (PySem.W.fnOf "steps" "steps" (defArgs s_steps) (defBody s_steps) (defScope s_steps) .none kV25 dc25 pm25 an25 cd25 ct25), sl25⟩)
    (c25 : PySem.W.codeIn K cd25 "steps" = true)
    (k25 : PySem.W.keepIn K (.ref f25) = true)
    (a26 : PySem.W.nsIn K mainGlobals "_putting" = some (some (.ref f26)))
    (l26 : K.lookup f26 = some ⟨oc26, od26, .func (PySem.W.fnOf "_putting" "_putting" (defArgs s__putting) (defBody s__putting) (defScope s__putting) .none kV26 dc26 pm26 an26 cd26 ct26), sl26⟩)
    (c26 : PySem.W.codeIn K cd26 "_putting" = true)
    (k26 : PySem.W.keepIn K (.ref f26) = true)
    (a27 : PySem.W.nsIn K mainGlobals "_place_ahead" = some (some (.ref f27)))
    (l27 : K.lookup f27 = some ⟨oc27, od27, .func (PySem.W.fnOf "_place_ahead" "_place_ahead" (defArgs s__place_ahead) (defBody s__place_ahead) (defScope s__place_ahead) .none kV27 dc27 pm27 an27 cd27 ct27), sl27⟩)
    (c27 : PySem.W.codeIn K cd27 "_place_ahead" = true)
    (k27 : PySem.W.keepIn K (.ref f27) = true)
    (a28 : PySem.W.nsIn K mainGlobals "_with_part" = some (some (.ref f28)))
    (l28 : K.lookup f28 = some ⟨oc28, od28, .func (PySem.W.fnOf "_with_part" "_with_part" (defArgs s__with_part) (defBody s__with_part) (defScope s__with_part) .none kV28 dc28 pm28 an28 cd28 ct28), sl28⟩)
    (c28 : PySem.W.codeIn K cd28 "_with_part" = true)
    (k28 : PySem.W.keepIn K (.ref f28) = true)
    (a29 : PySem.W.nsIn K mainGlobals "number_putting" = some (some (.ref f29)))
    (l29 : K.lookup f29 = some ⟨oc29, od29, .func (PySem.W.fnOf "_number" "_number" (defArgs s_number_putting) (defBody s_number_putting) (defScope s_number_putting) .none kV29 dc29 pm29 an29 cd29 ct29), sl29⟩)
    (c29 : PySem.W.codeIn K cd29 "_number" = true)
    (k29 : PySem.W.keepIn K (.ref f29) = true)
    (a30 : PySem.W.findIn K (.ref cKept) "__init__" = some (some (.ref f30)))
    (y30 : PySem.W.isFn K (.ref f30) = true)
    (l30 : K.lookup f30 = some ⟨oc30, od30, .func (PySem.W.fnOf "__init__" "Kept.__init__" (defArgs s_Kept___init__) (defBody s_Kept___init__) (defScope s_Kept___init__) .none kV30 dc30 pm30 an30 cd30 ct30), sl30⟩)
    (c30 : PySem.W.codeIn K cd30 "Kept.__init__" = true)
    (k30 : PySem.W.keepIn K (.ref f30) = true)
    (a31 : PySem.W.findIn K (.ref cMachine) "__init__" = some (some (.ref f31)))
    (y31 : PySem.W.isFn K (.ref f31) = true)
    (l31 : K.lookup f31 = some ⟨oc31, od31, .func (PySem.W.fnOf "__init__" "Machine.__init__" (defArgs s_Machine___init__) (defBody s_Machine___init__) (defScope s_Machine___init__) .none kV31 dc31 pm31 an31 cd31 ct31), sl31⟩)
    (c31 : PySem.W.codeIn K cd31 "Machine.__init__" = true)
    (k31 : PySem.W.keepIn K (.ref f31) = true)
    (a32 : PySem.W.findIn K (.ref cMachine) "work_out" = some (some (.ref f32)))
    (y32 : PySem.W.isFn K (.ref f32) = true)
    (l32 : K.lookup f32 = some ⟨oc32, od32, .func (PySem.W.fnOf "work_out" "Machine.work_out" (defArgs s_Machine_work_out) (defBody s_Machine_work_out) (defScope s_Machine_work_out) .none kV32 dc32 pm32 an32 cd32 ct32), sl32⟩)
    (c32 : PySem.W.codeIn K cd32 "Machine.work_out" = true)
    (k32 : PySem.W.keepIn K (.ref f32) = true)
    (a33 : PySem.W.findIn K (.ref cMachine) "_look_later" = some (some (.ref f33)))
    (y33 : PySem.W.isFn K (.ref f33) = true)
    (l33 : K.lookup f33 = some ⟨oc33, od33, .func (PySem.W.fnOf "_look_later" "Machine._look_later" (defArgs s_Machine__look_later) (defBody s_Machine__look_later) (defScope s_Machine__look_later) .none kV33 dc33 pm33 an33 cd33 ct33), sl33⟩)
    (c33 : PySem.W.codeIn K cd33 "Machine._look_later" = true)
    (k33 : PySem.W.keepIn K (.ref f33) = true)
    (a34 : PySem.W.findIn K (.ref cMachine) "_look" = some (some (.ref f34)))
    (y34 : PySem.W.isFn K (.ref f34) = true)
    (l34 : K.lookup f34 = some ⟨oc34, od34, .func (PySem.W.fnOf "_look" "Machine._look" (defArgs s_Machine__look) (defBody s_Machine__look) (defScope s_Machine__look) .none kV34 dc34 pm34 an34 cd34 ct34), sl34⟩)
    (c34 : PySem.W.codeIn K cd34 "Machine._look" = true)
    (k34 : PySem.W.keepIn K (.ref f34) = true)
    (a35 : PySem.W.findIn K (.ref cMachine) "_keep" = some (some (.ref f35)))
    (y35 : PySem.W.isFn K (.ref f35) = true)
    (l35 : K.lookup f35 = some ⟨oc35, od35, .func (PySem.W.fnOf "_keep" "Machine._keep" (defArgs s_Machine__keep) (defBody s_Machine__keep) (defScope s_Machine__keep) .none kV35 dc35 pm35 an35 cd35 ct35), sl35⟩)
    (c35 : PySem.W.codeIn K cd35 "Machine._keep" = true)
    (k35 : PySem.W.keepIn K (.ref f35) = true)
    (a36 : PySem.W.findIn K (.ref cMachine) "_do_deed" = some (some (.ref f36)))
    (y36 : PySem.W.isFn K (.ref f36) = true)
    (l36 : K.lookup f36 = some ⟨oc36, od36, .func (PySem.W.fnOf "_do_deed" "Machine._do_deed" (defArgs s_Machine__do_deed) (defBody s_Machine__do_deed) (defScope s_Machine__do_deed) .none kV36 dc36 pm36 an36 cd36 ct36), sl36⟩)
    (c36 : PySem.W.codeIn K cd36 "Machine._do_deed" = true)
    (k36 : PySem.W.keepIn K (.ref f36) = true)
    (a37 : PySem.W.findIn K (.ref cMachine) "_do_call" = some (some (.ref f37)))
    (y37 : PySem.W.isFn K (.ref f37) = true)
    (l37 : K.lookup f37 = some ⟨oc37, od37, .func (PySem.W.fnOf "_do_call" "Machine._do_call" (defArgs s_Machine__do_call) (defBody s_Machine__do_call) (defScope s_Machine__do_call) .none kV37 dc37 pm37 an37 cd37 ct37), sl37⟩)
    (c37 : PySem.W.codeIn K cd37 "Machine._do_call" = true)
    (k37 : PySem.W.keepIn K (.ref f37) = true)
    (a38 : PySem.W.nsIn K mainGlobals "run" = some (some (.ref f38)))
    (l38 : K.lookup f38 = some ⟨oc38, od38, .func (PySem.W.fnOf "run" "run" (defArgs s_run) (defBody s_run) (defScope s_run) .none kV38 dc38 pm38 an38 cd38 ct38), sl38⟩)
    (c38 : PySem.W.codeIn K cd38 "run" = true)
    (k38 : PySem.W.keepIn K (.ref f38) = true)
    (a39 : PySem.W.nsIn K mainGlobals "made" = some (some (.ref f39)))
    (l39 : K.lookup f39 = some ⟨oc39, od39, .func (PySem.W.fnOf "made" "made" (defArgs s_made) (defBody s_made) (defScope s_made) .none kV39 dc39 pm39 an39 cd39 ct39), sl39⟩)
    (c39 : PySem.W.codeIn K cd39 "made" = true)
    (k39 : PySem.W.keepIn K (.ref f39) = true)
    (a40 : PySem.W.nsIn K mainGlobals "number_machine" = some (some (.ref f40)))
    (l40 : K.lookup f40 = some ⟨oc40, od40, .func (PySem.W.fnOf "_number" "_number" (defArgs s_number_machine) (defBody s_number_machine) (defScope s_number_machine) .none kV40 dc40 pm40 an40 cd40 ct40), sl40⟩)
    (c40 : PySem.W.codeIn K cd40 "_number" = true)
    (k40 : PySem.W.keepIn K (.ref f40) = true)
    (a41 : PySem.W.nsIn K mainGlobals "_law_cell_at" = some (some (.ref f41)))
    (l41 : K.lookup f41 = some ⟨oc41, od41, .func (PySem.W.fnOf "_law_cell_at" "_law_cell_at" (defArgs s__law_cell_at) (defBody s__law_cell_at) (defScope s__law_cell_at) .none kV41 dc41 pm41 an41 cd41 ct41), sl41⟩)
    (c41 : PySem.W.codeIn K cd41 "_law_cell_at" = true)
    (k41 : PySem.W.keepIn K (.ref f41) = true)
    (a42 : PySem.W.nsIn K mainGlobals "_law_asked" = some (some (.ref f42)))
    (l42 : K.lookup f42 = some ⟨oc42, od42, .func (PySem.W.fnOf "_law_asked" "_law_asked" (defArgs s__law_asked) (defBody s__law_asked) (defScope s__law_asked) .none kV42 dc42 pm42 an42 cd42 ct42), sl42⟩)
    (c42 : PySem.W.codeIn K cd42 "_law_asked" = true)
    (k42 : PySem.W.keepIn K (.ref f42) = true)
    (a43 : PySem.W.nsIn K mainGlobals "_law_word" = some (some (.ref f43)))
    (l43 : K.lookup f43 = some ⟨oc43, od43, .func (PySem.W.fnOf "_law_word" "_law_word" (defArgs s__law_word) (defBody s__law_word) (defScope s__law_word) .none kV43 dc43 pm43 an43 cd43 ct43), sl43⟩)
    (c43 : PySem.W.codeIn K cd43 "_law_word" = true)
    (k43 : PySem.W.keepIn K (.ref f43) = true)
    (a44 : PySem.W.nsIn K mainGlobals "_law_based" = some (some (.ref f44)))
    (l44 : K.lookup f44 = some ⟨oc44, od44, .func (PySem.W.fnOf "_law_based" "_law_based" (defArgs s__law_based) (defBody s__law_based) (defScope s__law_based) .none kV44 dc44 pm44 an44 cd44 ct44), sl44⟩)
    (c44 : PySem.W.codeIn K cd44 "_law_based" = true)
    (k44 : PySem.W.keepIn K (.ref f44) = true)
    (a45 : PySem.W.nsIn K mainGlobals "_law_open" = some (some (.ref f45)))
    (l45 : K.lookup f45 = some ⟨oc45, od45, .func (PySem.W.fnOf "_law_open" "_law_open" (defArgs s__law_open) (defBody s__law_open) (defScope s__law_open) .none kV45 dc45 pm45 an45 cd45 ct45), sl45⟩)
    (c45 : PySem.W.codeIn K cd45 "_law_open" = true)
    (k45 : PySem.W.keepIn K (.ref f45) = true)
    (a46 : PySem.W.nsIn K mainGlobals "_law_stepped" = some (some (.ref f46)))
    (l46 : K.lookup f46 = some ⟨oc46, od46, .func (PySem.W.fnOf "_law_stepped" "_law_stepped" (defArgs s__law_stepped) (defBody s__law_stepped) (defScope s__law_stepped) .none kV46 dc46 pm46 an46 cd46 ct46), sl46⟩)
    (c46 : PySem.W.codeIn K cd46 "_law_stepped" = true)
    (k46 : PySem.W.keepIn K (.ref f46) = true)
    (a47 : PySem.W.nsIn K mainGlobals "_law_counting" = some (some (.ref f47)))
    (l47 : K.lookup f47 = some ⟨oc47, od47, .func (PySem.W.fnOf "_law_counting" "_law_counting" (defArgs s__law_counting) (defBody s__law_counting) (defScope s__law_counting) .none kV47 dc47 pm47 an47 cd47 ct47), sl47⟩)
    (c47 : PySem.W.codeIn K cd47 "_law_counting" = true)
    (k47 : PySem.W.keepIn K (.ref f47) = true)
    (a48 : PySem.W.nsIn K mainGlobals "law" = some (some (.ref f48)))
    (l48 : K.lookup f48 = some ⟨oc48, od48, .func (PySem.W.fnOf "law" "law" (defArgs s_law) (defBody s_law) (defScope s_law) .none kV48 dc48 pm48 an48 cd48 ct48), sl48⟩)
    (c48 : PySem.W.codeIn K cd48 "law" = true)
    (k48 : PySem.W.keepIn K (.ref f48) = true) :
    ∃ fd : FuncData, (∀ (s : Shared) (v : Value), BindsTo s fd ⟨[v], []⟩ [("_law_script", v)]) ∧ ∀ base : Heap, K.In base → base.Ns mainGlobals mg → FnOk l.prog w K mg base CX0 12 fa fd ["_law_script"] (spLaw K) := by
  have B : Bt mg := { len := PySem.W.mg_none_of X G z0, list := PySem.W.mg_none_of X G z1, range := PySem.W.mg_none_of X G z2, isinstance := PySem.W.mg_none_of X G z3, type := PySem.W.mg_none_of X G z4, all := PySem.W.mg_none_of X G z5, any := PySem.W.mg_none_of X G z6, str := PySem.W.mg_none_of X G z7, int := PySem.W.mg_none_of X G z8, bool := PySem.W.mg_none_of X G z9, tuple := PySem.W.mg_none_of X G z10, sorted := PySem.W.mg_none_of X G z11, reversed := PySem.W.mg_none_of X G z12, zip := PySem.W.mg_none_of X G z13, dict := PySem.W.mg_none_of X G z14, min := PySem.W.mg_none_of X G z15, max := PySem.W.mg_none_of X G z16, sum := PySem.W.mg_none_of X G z17, set := PySem.W.mg_none_of X G z18, repr := PySem.W.mg_none_of X G z19, abs := PySem.W.mg_none_of X G z20, enumerate := PySem.W.mg_none_of X G z21, ValueError := PySem.W.mg_none_of X G z22 }
  have hstarts : ∀ t : Wd, RdK K w aST t.str (.int t.start) := fun t => by
    cases t
    · exact ⟨esST, enST, _, lST, kST, sST0, ⟨_, rfl⟩⟩
    · exact ⟨esST, enST, _, lST, kST, sST1, ⟨_, rfl⟩⟩
    · exact ⟨esST, enST, _, lST, kST, sST2, ⟨_, rfl⟩⟩
    · exact ⟨esST, enST, _, lST, kST, sST3, ⟨_, rfl⟩⟩
    · exact ⟨esST, enST, _, lST, kST, sST4, ⟨_, rfl⟩⟩
    · exact ⟨esST, enST, _, lST, kST, sST5, ⟨_, rfl⟩⟩
    · exact ⟨esST, enST, _, lST, kST, sST6, ⟨_, rfl⟩⟩
    · exact ⟨esST, enST, _, lST, kST, sST7, ⟨_, rfl⟩⟩
  have hlengths : ∀ t : Wd, RdK K w aLE t.str (.int t.len) := fun t => by
    cases t
    · exact ⟨esLE, enLE, _, lLE, kLE, sLE0, ⟨_, rfl⟩⟩
    · exact ⟨esLE, enLE, _, lLE, kLE, sLE1, ⟨_, rfl⟩⟩
    · exact ⟨esLE, enLE, _, lLE, kLE, sLE2, ⟨_, rfl⟩⟩
    · exact ⟨esLE, enLE, _, lLE, kLE, sLE3, ⟨_, rfl⟩⟩
    · exact ⟨esLE, enLE, _, lLE, kLE, sLE4, ⟨_, rfl⟩⟩
    · exact ⟨esLE, enLE, _, lLE, kLE, sLE5, ⟨_, rfl⟩⟩
    · exact ⟨esLE, enLE, _, lLE, kLE, sLE6, ⟨_, rfl⟩⟩
    · exact ⟨esLE, enLE, _, lLE, kLE, sLE7, ⟨_, rfl⟩⟩
  have hahead : ∀ p ∈ aheadL, ∃ a, RdK K w aAH p.1 (.ref a) ∧ SqK K a p.2 := by
    unfold aheadL
    refine all_cons ?_ <| all_cons ?_ <| all_cons ?_ <| all_cons ?_ <| all_cons ?_ <| all_cons ?_ <| all_nil
    · exact ⟨ah0, ⟨esAH, enAH, _, lAH, kAH, sAH0, rfl⟩, ⟨_, _, _, th0, rfl, rfl, (show (0 : Nat) ≤ sizeLine by decide), .nil⟩⟩
    · exact ⟨ah1, ⟨esAH, enAH, _, lAH, kAH, sAH1, rfl⟩, ⟨_, _, _, th1, rfl, rfl, (show (2 : Nat) ≤ sizeLine by decide), (.cons ⟨_, rfl⟩ (.cons ⟨_, rfl⟩ .nil))⟩⟩
    · exact ⟨ah2, ⟨esAH, enAH, _, lAH, kAH, sAH2, rfl⟩, ⟨_, _, _, th2, rfl, rfl, (show (2 : Nat) ≤ sizeLine by decide), (.cons ⟨_, rfl⟩ (.cons ⟨_, rfl⟩ .nil))⟩⟩
    · exact ⟨ah3, ⟨esAH, enAH, _, lAH, kAH, sAH3, rfl⟩, ⟨_, _, _, th3, rfl, rfl, (show (2 : Nat) ≤ sizeLine by decide), (.cons ⟨_, rfl⟩ (.cons ⟨_, rfl⟩ .nil))⟩⟩
    · exact ⟨ah4, ⟨esAH, enAH, _, lAH, kAH, sAH4, rfl⟩, ⟨_, _, _, th4, rfl, rfl, (show (1 : Nat) ≤ sizeLine by decide), (.cons ⟨_, rfl⟩ .nil)⟩⟩
    · exact ⟨ah5, ⟨esAH, enAH, _, lAH, kAH, sAH5, rfl⟩, ⟨_, _, _, th5, rfl, rfl, (show (1 : Nat) ≤ sizeLine by decide), (.cons ⟨_, rfl⟩ .nil)⟩⟩
  have I_MOST_NODES : GInt mg "MOST_NODES" 400 := ⟨_, PySem.W.mg_of X G i_MOST_NODES⟩
  have I_MOST_SIGNS : GInt mg "MOST_SIGNS" 8 := ⟨_, PySem.W.mg_of X G i_MOST_SIGNS⟩
  have I_TOO_GREAT : GInt mg "TOO_GREAT" (10 ^ 60) := ⟨t_TOO_GREAT, by rw [show (10 ^ 60 : Int) = 1000000000000000000000000000000000000000000000000000000000000 by decide +kernel]; exact PySem.W.mg_of X G i_TOO_GREAT⟩
  have I_LOOK : GInt mg "LOOK" 0 := ⟨_, PySem.W.mg_of X G i_LOOK⟩
  have I_BIND : GInt mg "BIND" 1 := ⟨_, PySem.W.mg_of X G i_BIND⟩
  have I_LOOSE : GInt mg "LOOSE" 2 := ⟨_, PySem.W.mg_of X G i_LOOSE⟩
  have I_MOST_DEEDS : GInt mg "MOST_DEEDS" 1000 := ⟨_, PySem.W.mg_of X G i_MOST_DEEDS⟩
  have I_SIGNS : GStr mg "SIGNS" "abcdefghijklmnopqrstuvwxyz" := ⟨_, PySem.W.mg_of X G i_SIGNS⟩
  have E_NoTree : ErrC K mg "NoTree" cNoTree := ⟨PySem.W.mg_of X G nNoTree, kpNoTree, xNoTree, eNoTree, tNoTree⟩
  have E_NotClosed : ErrC K mg "NotClosed" cNotClosed := ⟨PySem.W.mg_of X G nNotClosed, kpNotClosed, xNotClosed, eNotClosed, tNotClosed⟩
  have E_BadMost : ErrC K mg "BadMost" cBadMost := ⟨PySem.W.mg_of X G nBadMost, kpBadMost, xBadMost, eBadMost, tBadMost⟩
  have E_NoNumber : ErrC K mg "NoNumber" cNoNumber := ⟨PySem.W.mg_of X G nNoNumber, kpNoNumber, xNoNumber, eNoNumber, tNoNumber⟩
  have E_NoFunction : ErrC K mg "NoFunction" cNoFunction := ⟨PySem.W.mg_of X G nNoFunction, kpNoFunction, xNoFunction, eNoFunction, tNoFunction⟩
  have E_Dry : ErrC K mg "Dry" cDry := ⟨PySem.W.mg_of X G nDry, kpDry, xDry, eDry, tDry⟩
  have E_NoText : ErrC K mg "NoText" cNoText := ⟨PySem.W.mg_of X G nNoText, kpNoText, xNoText, eNoText, tNoText⟩
  have E_MillError : ErrC K mg "MillError" cMillError := ⟨PySem.W.mg_of X G nMillError, kpMillError, xMillError, eMillError, tMillError⟩
  have X_Work : ClsX K cWork workN := clsx_mk pgWork hdWork poWork saWork haWork hnX tkX hmWork (all_cons noWork_full <| all_cons noWork_short <| all_cons noWork_around <| all_cons noWork_fulls <| all_cons noWork_shorts <| all_nil) icWork tyWork siWork
  have X_Kept : ClsX K cKept keptN := clsx_mk pgKept hdKept poKept saKept haKept hnX tkX hmKept (all_cons noKept_name <| all_cons noKept_body <| all_cons noKept_names <| all_cons noKept_held <| all_nil) icKept tyKept siKept
  have X_Machine : ClsX K cMachine machN := clsx_mk pgMachine hdMachine poMachine saMachine haMachine hnX tkX hmMachine (all_cons noMachine_most <| all_cons noMachine_deeds <| all_cons noMachine_kepts <| all_cons noMachine_found <| all_cons noMachine_waiting <| all_nil) icMachine tyMachine siMachine
  have hvalues : SqK K aVA [.str "num", .str "fun"] := ⟨_, _, _, tVA, rfl, rfl, (show (2 : Nat) ≤ sizeLine by decide), .cons ⟨_, rfl⟩ (.cons ⟨_, rfl⟩ .nil)⟩
  have XC_NoTree : ExcC K cNoTree := ⟨ygNoTree, ykNoTree, eNoTree, ydNoTree, yaNoTree, hnX, tkX, ymNoTree⟩
  have XC_NotClosed : ExcC K cNotClosed := ⟨ygNotClosed, ykNotClosed, eNotClosed, ydNotClosed, yaNotClosed, hnX, tkX, ymNotClosed⟩
  have XC_BadMost : ExcC K cBadMost := ⟨ygBadMost, ykBadMost, eBadMost, ydBadMost, yaBadMost, hnX, tkX, ymBadMost⟩
  have XC_Dry : ExcC K cDry := ⟨ygDry, ykDry, eDry, ydDry, yaDry, hnX, tkX, ymDry⟩
  have F_need_tree : FunAt K mg "need_tree" s_need_tree := FunAt.mk X G a0 l0 c0 k0
  have F_parts : FunAt K mg "parts" s_parts := FunAt.mk X G a1 l1 c1 k1
  have F_free : FunAt K mg "free" s_free := FunAt.mk X G a2 l2 c2 k2
  have F__reading : FunAt K mg "_reading" s__reading := FunAt.mk X G a3 l3 c3 k3
  have F__is_node : FunAt K mg "_is_node" s__is_node := FunAt.mk X G a4 l4 c4 k4
  have F__is_number : FunAt K mg "_is_number" s__is_number := FunAt.mk X G a5 l5 c5 k5
  have F__is_name : FunAt K mg "_is_name" s__is_name := FunAt.mk X G a6 l6 c6 k6
  have F_need_start : FunAt K mg "need_start" s_need_start := FunAt.mk X G a7 l7 c7 k7
  have F_need_deed : FunAt K mg "need_deed" s_need_deed := FunAt.mk X G a8 l8 c8 k8
  have F_reckoned : FunAt K mg "reckoned" s_reckoned := FunAt.mk X G a9 l9 c9 k9
  have F_Work_init : FunI K mg "Work" cWork "Work.__init__" s_Work___init__ := ⟨_, _, fun_mk (st := s_Work___init__) l10 c10 k10, ⟨mkWork, a10, y10, kcWork⟩, PySem.W.mg_of X G nWork⟩
  have F_Work_whole : FunM K cWork "whole" "Work.whole" s_Work_whole := ⟨_, _, fun_mk (st := s_Work_whole) l11 c11 k11, ⟨a11, y11, k11⟩, X_Work.cl⟩
  have F_Work_seek : FunM K cWork "seek" "Work.seek" s_Work_seek := ⟨_, _, fun_mk (st := s_Work_seek) l12 c12 k12, ⟨a12, y12, k12⟩, X_Work.cl⟩
  have F_Work_do_deed : FunM K cWork "do_deed" "Work.do_deed" s_Work_do_deed := ⟨_, _, fun_mk (st := s_Work_do_deed) l13 c13 k13, ⟨a13, y13, k13⟩, X_Work.cl⟩
  have F_Work__enter : FunM K cWork "_enter" "Work._enter" s_Work__enter := ⟨_, _, fun_mk (st := s_Work__enter) l14 c14 k14, ⟨a14, y14, k14⟩, X_Work.cl⟩
  have F_Work__leave : FunM K cWork "_leave" "Work._leave" s_Work__leave := ⟨_, _, fun_mk (st := s_Work__leave) l15 c15 k15, ⟨a15, y15, k15⟩, X_Work.cl⟩
  have F_Work__do_call : FunM K cWork "_do_call" "Work._do_call" s_Work__do_call := ⟨_, _, fun_mk (st := s_Work__do_call) l16 c16 k16, ⟨a16, y16, k16⟩, X_Work.cl⟩
  have F_Work__do_choice : FunM K cWork "_do_choice" "Work._do_choice" s_Work__do_choice := ⟨_, _, fun_mk (st := s_Work__do_choice) l17 c17 k17, ⟨a17, y17, k17⟩, X_Work.cl⟩
  have F_Work__do_reckoning : FunM K cWork "_do_reckoning" "Work._do_reckoning" s_Work__do_reckoning := ⟨_, _, fun_mk (st := s_Work__do_reckoning) l18 c18 k18, ⟨a18, y18, k18⟩, X_Work.cl⟩
  have F_Work__put_in : FunM K cWork "_put_in" "Work._put_in" s_Work__put_in := ⟨_, _, fun_mk (st := s_Work__put_in) l19 c19 k19, ⟨a19, y19, k19⟩, X_Work.cl⟩
  have F_Work__short_value : FunM K cWork "_short_value" "Work._short_value" s_Work__short_value := ⟨_, _, fun_mk (st := s_Work__short_value) l20 c20 k20, ⟨a20, y20, k20⟩, X_Work.cl⟩
  have F_put : FunAt K mg "put" s_put := FunAt.mk X G a21 l21 c21 k21
  have F_put_all : FunAt K mg "put_all" s_put_all := FunAt.mk X G a22 l22 c22 k22
  have F_step : FunAt K mg "step" s_step := FunAt.mk X G a23 l23 c23 k23
  have F_worked : FunAt K mg "worked" s_worked := FunAt.mk X G a24 l24 c24 k24
  have F_steps : FunAt K mg "steps" s_steps := FunAt.mk X G a25 l25 c25 k25
  have F__putting : FunAt K mg "_putting" s__putting := FunAt.mk X G a26 l26 c26 k26
  have F__place_ahead : FunAt K mg "_place_ahead" s__place_ahead := FunAt.mk X G a27 l27 c27 k27
  have F__with_part : FunAt K mg "_with_part" s__with_part := FunAt.mk X G a28 l28 c28 k28
  have F_number_putting : FunQ K mg "number_putting" "_number" s_number_putting := ⟨_, _, fun_mk (st := s_number_putting) l29 c29 k29, PySem.W.mg_of X G a29⟩
  have F_Kept_init : FunI K mg "Kept" cKept "Kept.__init__" s_Kept___init__ := ⟨_, _, fun_mk (st := s_Kept___init__) l30 c30 k30, ⟨mkKept, a30, y30, kcKept⟩, PySem.W.mg_of X G nKept⟩
  have F_Machine_init : FunI K mg "Machine" cMachine "Machine.__init__" s_Machine___init__ := ⟨_, _, fun_mk (st := s_Machine___init__) l31 c31 k31, ⟨mkMachine, a31, y31, kcMachine⟩, PySem.W.mg_of X G nMachine⟩
  have F_Machine_work_out : FunM K cMachine "work_out" "Machine.work_out" s_Machine_work_out := ⟨_, _, fun_mk (st := s_Machine_work_out) l32 c32 k32, ⟨a32, y32, k32⟩, X_Machine.cl⟩
  have F_Machine__look_later : FunM K cMachine "_look_later" "Machine._look_later" s_Machine__look_later := ⟨_, _, fun_mk (st := s_Machine__look_later) l33 c33 k33, ⟨a33, y33, k33⟩, X_Machine.cl⟩
  have F_Machine__look : FunM K cMachine "_look" "Machine._look" s_Machine__look := ⟨_, _, fun_mk (st := s_Machine__look) l34 c34 k34, ⟨a34, y34, k34⟩, X_Machine.cl⟩
  have F_Machine__keep : FunM K cMachine "_keep" "Machine._keep" s_Machine__keep := ⟨_, _, fun_mk (st := s_Machine__keep) l35 c35 k35, ⟨a35, y35, k35⟩, X_Machine.cl⟩
  have F_Machine__do_deed : FunM K cMachine "_do_deed" "Machine._do_deed" s_Machine__do_deed := ⟨_, _, fun_mk (st := s_Machine__do_deed) l36 c36 k36, ⟨a36, y36, k36⟩, X_Machine.cl⟩
  have F_Machine__do_call : FunM K cMachine "_do_call" "Machine._do_call" s_Machine__do_call := ⟨_, _, fun_mk (st := s_Machine__do_call) l37 c37 k37, ⟨a37, y37, k37⟩, X_Machine.cl⟩
  have F_run : FunAt K mg "run" s_run := FunAt.mk X G a38 l38 c38 k38
  have F_made : FunAt K mg "made" s_made := FunAt.mk X G a39 l39 c39 k39
  have F_number_machine : FunQ K mg "number_machine" "_number" s_number_machine := ⟨_, _, fun_mk (st := s_number_machine) l40 c40 k40, PySem.W.mg_of X G a40⟩
  have F__law_cell_at : FunAt K mg "_law_cell_at" s__law_cell_at := FunAt.mk X G a41 l41 c41 k41
  have F__law_asked : FunAt K mg "_law_asked" s__law_asked := FunAt.mk X G a42 l42 c42 k42
  have F__law_word : FunAt K mg "_law_word" s__law_word := FunAt.mk X G a43 l43 c43 k43
  have F__law_based : FunAt K mg "_law_based" s__law_based := FunAt.mk X G a44 l44 c44 k44
  have F__law_open : FunAt K mg "_law_open" s__law_open := FunAt.mk X G a45 l45 c45 k45
  have F__law_stepped : FunAt K mg "_law_stepped" s__law_stepped := FunAt.mk X G a46 l46 c46 k46
  have F__law_counting : FunAt K mg "_law_counting" s__law_counting := FunAt.mk X G a47 l47 c47 k47
  have F_law : FunAt K mg "law" s_law := FunAt.mk X G a48 l48 c48 k48
  have U : PTxt K w mg aLE aST cNoTree := { toBt := B, MOST_NODES := I_MOST_NODES, MOST_SIGNS := I_MOST_SIGNS, TOO_GREAT := I_TOO_GREAT, SIGNS := I_SIGNS, STARTS := PySem.W.mg_of X G gST, starts := hstarts, LENGTHS := PySem.W.mg_of X G gLE, lengths := hlengths, nolen := fun x hx => nsIn_none lLE hkLE (Wd.find_none hx), KLENGTHS := ⟨esLE, enLE, lLE, kLE, low⟩, NoTree := E_NoTree }
  have V : FTxt K w mg aST := { toBt := B, LOOK := I_LOOK, BIND := I_BIND, LOOSE := I_LOOSE, STARTS := PySem.W.mg_of X G gST, starts := hstarts }
  have U2 : UTxt K w mg aST := { toBt := B, STARTS := PySem.W.mg_of X G gST, starts := hstarts }
  have M : MTxt K w mg (⟨0, cNoTree, cNotClosed, cBadMost, cNoNumber, cNoFunction, cDry, cNoText⟩ : Ers) aAH cMachine cKept := { toBt := B, AHEAD := PySem.W.mg_of X G gAH, ahead := hahead, MOST_DEEDS := I_MOST_DEEDS, cKept := PySem.W.mg_of X G nKept, K_ := X_Kept, M_ := X_Machine, NotClosed := E_NotClosed, BadMost := E_BadMost, NoNumber := E_NoNumber, NoFunction := E_NoFunction, Dry := E_Dry }
  have W : WTxt K w mg (⟨0, cNoTree, cNotClosed, cBadMost, cNoNumber, cNoFunction, cDry, cNoText⟩ : Ers) aAH aVA cWork := { toBt := B, AHEAD := PySem.W.mg_of X G gAH, ahead := hahead, VALUES := PySem.W.mg_of X G gVA, values := hvalues, cWork := PySem.W.mg_of X G nWork, W_ := X_Work, NotClosed := E_NotClosed, NoNumber := E_NoNumber, NoFunction := E_NoFunction, Dry := E_Dry }
  have L : LT8 K mg (⟨0, cNoTree, cNotClosed, cBadMost, cNoNumber, cNoFunction, cDry, cNoText⟩ : Ers) cMillError := { toBt := B, cMillError := E_MillError.c_, cNoNumber := E_NoNumber.c_, cNoFunction := E_NoFunction.c_, cDry := E_Dry.c_, cNoTree := E_NoTree.c_, cNotClosed := E_NotClosed.c_, cBadMost := E_BadMost.c_, cNoText := E_NoText.c_, isT := ⟨XC_NoTree, (kit_own_b ynNoTreeMillError yiMillError tMillError ysNoTreeMillError), kit_blt_b (by rfl) (by decide +kernel) yvNoTree, (kit_self), (kit_own_b ynNoTreeNotClosed yiNotClosed tNotClosed ysNoTreeNotClosed), (kit_own_b ynNoTreeBadMost yiBadMost tBadMost ysNoTreeBadMost), (kit_own_b ynNoTreeDry yiDry tDry ysNoTreeDry), kitAny_cons (kit_own_b ynNoTreeNoNumber yiNoNumber tNoNumber ysNoTreeNoNumber) (fun _ => kitAny_cons (kit_own_b ynNoTreeNoFunction yiNoFunction tNoFunction ysNoTreeNoFunction) (fun _ => kitAny_cons (kit_own_b ynNoTreeNoText yiNoText tNoText ysNoTreeNoText) (fun _ => rfl) (fun z => by cases z)) (fun z => by cases z)) (fun z => by cases z), (exmAny_mk (PySem.W.exm_ref eNoTree hdNoTree tNoTree suNoTreeNoTree) (exmAny_mk (PySem.W.exm_ref eNotClosed hdNotClosed tNotClosed suNoTreeNotClosed) (exmAny_mk (PySem.W.exm_ref eBadMost hdBadMost tBadMost suNoTreeBadMost) (exmAny_mk (PySem.W.exm_ref eDry hdDry tDry suNoTreeDry) (exmAny_mk (PySem.W.exm_ref eNoNumber hdNoNumber tNoNumber suNoTreeNoNumber) (exmAny_mk (PySem.W.exm_ref eNoFunction hdNoFunction tNoFunction suNoTreeNoFunction) (exmAny_mk (PySem.W.exm_ref eNoText hdNoText tNoText suNoTreeNoText) rfl))))))), (exmAny_mk (PySem.W.exm_ref eNoTree hdNoTree tNoTree suNoTreeNoTree) (exmAny_mk (PySem.W.exm_ref eNotClosed hdNotClosed tNotClosed suNoTreeNotClosed) (exmAny_mk (PySem.W.exm_ref eBadMost hdBadMost tBadMost suNoTreeBadMost) (exmAny_mk (PySem.W.exm_ref eDry hdDry tDry suNoTreeDry) rfl))))⟩, isC := ⟨XC_NotClosed, (kit_own_b ynNotClosedMillError yiMillError tMillError ysNotClosedMillError), kit_blt_b (by rfl) (by decide +kernel) yvNotClosed, (kit_own_b ynNotClosedNoTree yiNoTree tNoTree ysNotClosedNoTree), (kit_self), (kit_own_b ynNotClosedBadMost yiBadMost tBadMost ysNotClosedBadMost), (kit_own_b ynNotClosedDry yiDry tDry ysNotClosedDry), kitAny_cons (kit_own_b ynNotClosedNoNumber yiNoNumber tNoNumber ysNotClosedNoNumber) (fun _ => kitAny_cons (kit_own_b ynNotClosedNoFunction yiNoFunction tNoFunction ysNotClosedNoFunction) (fun _ => kitAny_cons (kit_own_b ynNotClosedNoText yiNoText tNoText ysNotClosedNoText) (fun _ => rfl) (fun z => by cases z)) (fun z => by cases z)) (fun z => by cases z), (exmAny_mk (PySem.W.exm_ref eNoTree hdNoTree tNoTree suNotClosedNoTree) (exmAny_mk (PySem.W.exm_ref eNotClosed hdNotClosed tNotClosed suNotClosedNotClosed) (exmAny_mk (PySem.W.exm_ref eBadMost hdBadMost tBadMost suNotClosedBadMost) (exmAny_mk (PySem.W.exm_ref eDry hdDry tDry suNotClosedDry) (exmAny_mk (PySem.W.exm_ref eNoNumber hdNoNumber tNoNumber suNotClosedNoNumber) (exmAny_mk (PySem.W.exm_ref eNoFunction hdNoFunction tNoFunction suNotClosedNoFunction) (exmAny_mk (PySem.W.exm_ref eNoText hdNoText tNoText suNotClosedNoText) rfl))))))), (exmAny_mk (PySem.W.exm_ref eNoTree hdNoTree tNoTree suNotClosedNoTree) (exmAny_mk (PySem.W.exm_ref eNotClosed hdNotClosed tNotClosed suNotClosedNotClosed) (exmAny_mk (PySem.W.exm_ref eBadMost hdBadMost tBadMost suNotClosedBadMost) (exmAny_mk (PySem.W.exm_ref eDry hdDry tDry suNotClosedDry) rfl))))⟩, isM := ⟨XC_BadMost, (kit_own_b ynBadMostMillError yiMillError tMillError ysBadMostMillError), kit_blt_b (by rfl) (by decide +kernel) yvBadMost, (kit_own_b ynBadMostNoTree yiNoTree tNoTree ysBadMostNoTree), (kit_own_b ynBadMostNotClosed yiNotClosed tNotClosed ysBadMostNotClosed), (kit_self), (kit_own_b ynBadMostDry yiDry tDry ysBadMostDry), kitAny_cons (kit_own_b ynBadMostNoNumber yiNoNumber tNoNumber ysBadMostNoNumber) (fun _ => kitAny_cons (kit_own_b ynBadMostNoFunction yiNoFunction tNoFunction ysBadMostNoFunction) (fun _ => kitAny_cons (kit_own_b ynBadMostNoText yiNoText tNoText ysBadMostNoText) (fun _ => rfl) (fun z => by cases z)) (fun z => by cases z)) (fun z => by cases z), (exmAny_mk (PySem.W.exm_ref eNoTree hdNoTree tNoTree suBadMostNoTree) (exmAny_mk (PySem.W.exm_ref eNotClosed hdNotClosed tNotClosed suBadMostNotClosed) (exmAny_mk (PySem.W.exm_ref eBadMost hdBadMost tBadMost suBadMostBadMost) (exmAny_mk (PySem.W.exm_ref eDry hdDry tDry suBadMostDry) (exmAny_mk (PySem.W.exm_ref eNoNumber hdNoNumber tNoNumber suBadMostNoNumber) (exmAny_mk (PySem.W.exm_ref eNoFunction hdNoFunction tNoFunction suBadMostNoFunction) (exmAny_mk (PySem.W.exm_ref eNoText hdNoText tNoText suBadMostNoText) rfl))))))), (exmAny_mk (PySem.W.exm_ref eNoTree hdNoTree tNoTree suBadMostNoTree) (exmAny_mk (PySem.W.exm_ref eNotClosed hdNotClosed tNotClosed suBadMostNotClosed) (exmAny_mk (PySem.W.exm_ref eBadMost hdBadMost tBadMost suBadMostBadMost) (exmAny_mk (PySem.W.exm_ref eDry hdDry tDry suBadMostDry) rfl))))⟩, isD := ⟨XC_Dry, (kit_own_b ynDryMillError yiMillError tMillError ysDryMillError), kit_blt_b (by rfl) (by decide +kernel) yvDry, (kit_own_b ynDryNoTree yiNoTree tNoTree ysDryNoTree), (kit_own_b ynDryNotClosed yiNotClosed tNotClosed ysDryNotClosed), (kit_own_b ynDryBadMost yiBadMost tBadMost ysDryBadMost), (kit_self), kitAny_cons (kit_own_b ynDryNoNumber yiNoNumber tNoNumber ysDryNoNumber) (fun _ => kitAny_cons (kit_own_b ynDryNoFunction yiNoFunction tNoFunction ysDryNoFunction) (fun _ => kitAny_cons (kit_own_b ynDryNoText yiNoText tNoText ysDryNoText) (fun _ => rfl) (fun z => by cases z)) (fun z => by cases z)) (fun z => by cases z), (exmAny_mk (PySem.W.exm_ref eNoTree hdNoTree tNoTree suDryNoTree) (exmAny_mk (PySem.W.exm_ref eNotClosed hdNotClosed tNotClosed suDryNotClosed) (exmAny_mk (PySem.W.exm_ref eBadMost hdBadMost tBadMost suDryBadMost) (exmAny_mk (PySem.W.exm_ref eDry hdDry tDry suDryDry) (exmAny_mk (PySem.W.exm_ref eNoNumber hdNoNumber tNoNumber suDryNoNumber) (exmAny_mk (PySem.W.exm_ref eNoFunction hdNoFunction tNoFunction suDryNoFunction) (exmAny_mk (PySem.W.exm_ref eNoText hdNoText tNoText suDryNoText) rfl))))))), (exmAny_mk (PySem.W.exm_ref eNoTree hdNoTree tNoTree suDryNoTree) (exmAny_mk (PySem.W.exm_ref eNotClosed hdNotClosed tNotClosed suDryNotClosed) (exmAny_mk (PySem.W.exm_ref eBadMost hdBadMost tBadMost suDryBadMost) (exmAny_mk (PySem.W.exm_ref eDry hdDry tDry suDryDry) rfl))))⟩, mC := PySem.W.exm_ref eNotClosed hdNotClosed tNotClosed suNotClosedNotClosed }
  suffices z : ∀ fd : FuncData, Fun K "law" "law" s_law fa fd → ∀ base : Heap, K.In base ∧ base.Ns mainGlobals mg → FnOk l.prog w K mg base CX0 12 fa fd ["_law_script"] (spLaw K) from by
    obtain ⟨fd, hb, hok⟩ := law_of (y := "_law_script") F_law hfa (fun kV doc pm an cdv ct v => rfl) z
    exact ⟨fd, hb, fun base a b => hok base ⟨a, b⟩⟩
  intro fd F base _
  have D1 := df_num (P := l.prog) (w := w) (base := base) U F__is_number
  have D2 := df_isname (P := l.prog) (w := w) (base := base) U F__is_name
  have D3 := df_parts (P := l.prog) (w := w) (base := base) U F_parts
  have D4 := df_isnode (P := l.prog) (w := w) (base := base) U F__is_node D1 D2
  have D5 := df_need (P := l.prog) (w := w) (base := base) U F_need_tree D3 D4
  have D6 := df_reading (P := l.prog) (w := w) (base := base) V F__reading (parts_t D3)
  have D7 := df_free (P := l.prog) (w := w) (base := base) V F_free D6
  have D8 := df_left (P := l.prog) (w := w) (base := base) M F_need_deed
  have D9 := df_reckon (P := l.prog) (w := w) (base := base) (mg := mg) (K := K) F_reckoned
  have D10 := df_start (P := l.prog) (w := w) (base := base) M.st F_need_start D5 D7
  have D11 := df_putting (P := l.prog) (w := w) (base := base) U2 F__putting (parts_s D3)
  have D12 := df_put_all (P := l.prog) (w := w) (base := base) U2 F_put_all D11
  have D13 := df_put (P := l.prog) (w := w) (base := base) U2 F_put D12
  have D14 := df_place (P := l.prog) (w := w) (base := base) W F__place_ahead
  have D15 := df_withpart (P := l.prog) (w := w) (base := base) W F__with_part
  have D16 := df_numP (P := l.prog) (w := w) (base := base) W F_number_putting
  have D17 := df_initW (P := l.prog) (w := w) (base := base) W F_Work_init
  have D18 := df_enter (P := l.prog) (w := w) (base := base) W F_Work__enter
  have D19 := df_leave (P := l.prog) (w := w) (base := base) W F_Work__leave D15
  have D20 := df_shortv (P := l.prog) (w := w) (base := base) W F_Work__short_value
  have D21 := df_putin (P := l.prog) (w := w) (base := base) W F_Work__put_in D12 D13 D20
  have D22 := df_wcall (P := l.prog) (w := w) (base := base) W F_Work__do_call D21
  have D23 := df_wchoice (P := l.prog) (w := w) (base := base) W F_Work__do_choice D16
  have D24 := df_wreckon (P := l.prog) (w := w) (base := base) W F_Work__do_reckoning D16 D9
  have D25 := df_wdeed (P := l.prog) (w := w) (base := base) W F_Work_do_deed D21 D22 D23 D24
  have D26 := df_seek (P := l.prog) (w := w) (base := base) W F_Work_seek D14 D18 D19
  have D27 := df_wwhole (P := l.prog) (w := w) (base := base) W F_Work_whole D15
  have D28 := df_step (P := l.prog) (w := w) (base := base) W F_step D17 D26 D25 D27
  have D30 := df_numM (P := l.prog) (w := w) (base := base) M F_number_machine
  have D31 := df_initK (P := l.prog) (w := w) (base := base) M F_Kept_init
  have D32 := df_initM (P := l.prog) (w := w) (base := base) M F_Machine_init
  have D33 := df_later (P := l.prog) (w := w) (base := base) M F_Machine__look_later
  have D34 := df_keep (P := l.prog) (w := w) (base := base) M F_Machine__keep D7 D31
  have D35 := df_look (P := l.prog) (w := w) (base := base) M F_Machine__look D34 D33
  have D36 := df_call (P := l.prog) (w := w) (base := base) M F_Machine__do_call D33
  have D37 := df_deed (P := l.prog) (w := w) (base := base) M F_Machine__do_deed D36 D33 D30 D9
  have D38 := df_workout (P := l.prog) (w := w) (base := base) M F_Machine_work_out D37 D35 D33 D8
  have D40 := df_worked (P := l.prog) (w := w) (base := base) W F_worked D10 D8 D17 D26 D25
  have D41 := df_steps (P := l.prog) (w := w) (base := base) W F_steps D10 D8 D17 D26 D25 D27
  have D42 := df_run (P := l.prog) (w := w) (base := base) M F_run D10 D32 D38
  have D43 := df_made (P := l.prog) (w := w) (base := base) M F_made D10 D32 D38
  have D44 := df_workedB (P := l.prog) (w := w) (base := base) W F_worked D10 D8 D17 D26 D25
  have D45 := df_stepsB (P := l.prog) (w := w) (base := base) W F_steps D10 D8 D17 D26 D25 D27
  have D46 := df_runB (P := l.prog) (w := w) (base := base) M F_run D10 D32 D38
  have D47 := df_madeB (P := l.prog) (w := w) (base := base) M F_made D10 D32 D38
  have D50 := df_askedG (P := l.prog) (w := w) (base := base) F__law_asked D40 D41 D42 D43
  have D51 := df_askedB (P := l.prog) (w := w) (base := base) F__law_asked D44 D45 D46 D47
  have D52 := df_wordG (P := l.prog) (w := w) (base := base) L F__law_word D50
  have D53 := df_wordB (P := l.prog) (w := w) (base := base) L F__law_word D51
  have D54 := df_based (P := l.prog) (w := w) (base := base) L F__law_based D51
  have D55 := df_cell (P := l.prog) (w := w) (base := base) B F__law_cell_at
  have D56 := df_open (P := l.prog) (w := w) (base := base) B F__law_open
  have D57 := df_stepped (P := l.prog) (w := w) (base := base) L F__law_stepped D28 D56
  have D58 := df_counting (P := l.prog) (w := w) (base := base) B F__law_counting D52 D50
  exact df_law (P := l.prog) (w := w) (base := base) L X_Kept F D55 D56 D57 D58 D53 D54 D50
theorem walk {l : PySem.W.OpenLaw} {q : Program} {loose : List Str} {XP : (Str → Option Value) → Heap → Prop} {YP : World → Heap → Prop} {d : DefRec} {K : Params → PySem.W.Frag} (hn : l.most = some 63) (hdf : d.params.defaults = [])
    (hY : ∀ (w : World) (h : Heap), YP w h → (K w.params).In h)
    (F : ∀ (w : World) (mg : Str → Option Value) (fa : Addr) (h : Heap), (K w.params).In h → h.Ns mainGlobals mg → mg d.name = some (.ref fa) →
      ∃ fd : FuncData, (∀ (s : Shared) (u : Value), BindsTo s fd ⟨[u], []⟩ [("_law_script", u)]) ∧ ∀ base : Heap, (K w.params).In base → base.Ns mainGlobals mg → FnOk l.prog w (K w.params) mg base CX0 12 fa fd ["_law_script"] (spLaw (K w.params))) :
    PySem.W.WalkO q loose XP YP l.row.toRowW d [] (fun f vs => PySem.call f vs) :=
  L2.walk_of (n := 63) (k := 12) (x := "_law_script") (CX := fun _ => CX0) (sp := fun w => spLaw (K w.params)) hn (by decide) hdf ⟨rfl, by decide, by decide⟩ hY F (fun _ _ a ns hl _ hS => ⟨a, ns, rfl, hS, hl, fun _ => rfl⟩) fun _ _ _ _ _ z => z
end K08
open PySem PySem.W PyProof.Rows
set_option maxRecDepth 100000 in
set_option maxHeartbeats 0 in
theorem PySem.Challenge.cw_closuremill_k08_what_is_looked_at_first_holds : PySem.Challenge.rw_closuremill_k08_what_is_looked_at_first.Holds := by
  w_on; o_law; k_head; (case hw => w_witness2)
  k_fill
  refine K08.walk (l := PySem.Challenge.rw_closuremill_k08_what_is_looked_at_first) rfl rfl (fun w h Y => PySem.W.kIn_of Y) ?F
  case F =>
    intro w mg fa h KX G hmg
    refine' K08.all_mk KX G hmg ?h_z0 ?h_z1 ?h_z2 ?h_z3 ?h_z4 ?h_z5 ?h_z6 ?h_z7 ?h_z8 ?h_z9 ?h_z10 ?h_z11 ?h_z12 ?h_z13 ?h_z14 ?h_z15 ?h_z16 ?h_z17 ?h_z18 ?h_z19 ?h_z20 ?h_z21 ?h_z22 ?h_gST ?h_lST ?h_kST ?h_sST0 ?h_sST1 ?h_sST2 ?h_sST3 ?h_sST4 ?h_sST5 ?h_sST6 ?h_sST7 ?h_gLE ?h_lLE ?h_kLE ?h_sLE0 ?h_sLE1 ?h_sLE2 ?h_sLE3 ?h_sLE4 ?h_sLE5 ?h_sLE6 ?h_sLE7 ?h_low ?h_hkLE ?h_gAH ?h_lAH ?h_kAH ?h_sAH0 ?h_sAH1 ?h_sAH2 ?h_sAH3 ?h_sAH4 ?h_sAH5 ?h_th0 ?h_th1 ?h_th2 ?h_th3 ?h_th4 ?h_th5 ?h_i_MOST_NODES ?h_i_MOST_SIGNS ?h_i_TOO_GREAT ?h_i_LOOK ?h_i_BIND ?h_i_LOOSE ?h_i_MOST_DEEDS ?h_i_SIGNS ?h_nNoTree ?h_kpNoTree ?h_xNoTree ?h_eNoTree ?h_tNoTree ?h_nNotClosed ?h_kpNotClosed ?h_xNotClosed ?h_eNotClosed ?h_tNotClosed ?h_nBadMost ?h_kpBadMost ?h_xBadMost ?h_eBadMost ?h_tBadMost ?h_nNoNumber ?h_kpNoNumber ?h_xNoNumber ?h_eNoNumber ?h_tNoNumber ?h_nNoFunction ?h_kpNoFunction ?h_xNoFunction ?h_eNoFunction ?h_tNoFunction ?h_nDry ?h_kpDry ?h_xDry ?h_eDry ?h_tDry ?h_nNoText ?h_kpNoText ?h_xNoText ?h_eNoText ?h_tNoText ?h_nMillError ?h_kpMillError ?h_xMillError ?h_eMillError ?h_tMillError ?h_hdNoTree ?h_suNoTreeNoTree ?h_hdNotClosed ?h_suNoTreeNotClosed ?h_hdBadMost ?h_suNoTreeBadMost ?h_hdDry ?h_suNoTreeDry ?h_hdNoNumber ?h_suNoTreeNoNumber ?h_hdNoFunction ?h_suNoTreeNoFunction ?h_hdNoText ?h_suNoTreeNoText ?h_suNotClosedNoTree ?h_suNotClosedNotClosed ?h_suNotClosedBadMost ?h_suNotClosedDry ?h_suNotClosedNoNumber ?h_suNotClosedNoFunction ?h_suNotClosedNoText ?h_suBadMostNoTree ?h_suBadMostNotClosed ?h_suBadMostBadMost ?h_suBadMostDry ?h_suBadMostNoNumber ?h_suBadMostNoFunction ?h_suBadMostNoText ?h_suDryNoTree ?h_suDryNotClosed ?h_suDryBadMost ?h_suDryDry ?h_suDryNoNumber ?h_suDryNoFunction ?h_suDryNoText ?h_hnX ?h_tkX ?h_nWork ?h_pgWork ?h_hdWork ?h_poWork ?h_saWork ?h_haWork ?h_hmWork ?h_icWork ?h_tyWork ?h_siWork ?h_mkWork ?h_kcWork ?h_noWork_full ?h_noWork_short ?h_noWork_around ?h_noWork_fulls ?h_noWork_shorts ?h_nKept ?h_pgKept ?h_hdKept ?h_poKept ?h_saKept ?h_haKept ?h_hmKept ?h_icKept ?h_tyKept ?h_siKept ?h_mkKept ?h_kcKept ?h_noKept_name ?h_noKept_body ?h_noKept_names ?h_noKept_held ?h_nMachine ?h_pgMachine ?h_hdMachine ?h_poMachine ?h_saMachine ?h_haMachine ?h_hmMachine ?h_icMachine ?h_tyMachine ?h_siMachine ?h_mkMachine ?h_kcMachine ?h_noMachine_most ?h_noMachine_deeds ?h_noMachine_kepts ?h_noMachine_found ?h_noMachine_waiting ?h_gVA ?h_tVA ?h_ygNoTree ?h_ykNoTree ?h_ydNoTree ?h_yaNoTree ?h_ymNoTree ?h_yvNoTree ?h_ynNoTreeNotClosed ?h_ysNoTreeNotClosed ?h_ynNoTreeBadMost ?h_ysNoTreeBadMost ?h_ynNoTreeDry ?h_ysNoTreeDry ?h_ynNoTreeNoNumber ?h_ysNoTreeNoNumber ?h_ynNoTreeNoFunction ?h_ysNoTreeNoFunction ?h_ynNoTreeNoText ?h_ysNoTreeNoText ?h_ygNotClosed ?h_ykNotClosed ?h_ydNotClosed ?h_yaNotClosed ?h_ymNotClosed ?h_yvNotClosed ?h_ynNotClosedNoTree ?h_ysNotClosedNoTree ?h_ynNotClosedBadMost ?h_ysNotClosedBadMost ?h_ynNotClosedDry ?h_ysNotClosedDry ?h_ynNotClosedNoNumber ?h_ysNotClosedNoNumber ?h_ynNotClosedNoFunction ?h_ysNotClosedNoFunction ?h_ynNotClosedNoText ?h_ysNotClosedNoText ?h_ygBadMost ?h_ykBadMost ?h_ydBadMost ?h_yaBadMost ?h_ymBadMost ?h_yvBadMost ?h_ynBadMostNoTree ?h_ysBadMostNoTree ?h_ynBadMostNotClosed ?h_ysBadMostNotClosed ?h_ynBadMostDry ?h_ysBadMostDry ?h_ynBadMostNoNumber ?h_ysBadMostNoNumber ?h_ynBadMostNoFunction ?h_ysBadMostNoFunction ?h_ynBadMostNoText ?h_ysBadMostNoText ?h_ygDry ?h_ykDry ?h_ydDry ?h_yaDry ?h_ymDry ?h_yvDry ?h_ynDryNoTree ?h_ysDryNoTree ?h_ynDryNotClosed ?h_ysDryNotClosed ?h_ynDryBadMost ?h_ysDryBadMost ?h_ynDryNoNumber ?h_ysDryNoNumber ?h_ynDryNoFunction ?h_ysDryNoFunction ?h_ynDryNoText ?h_ysDryNoText ?h_ynNoTreeMillError ?h_ysNoTreeMillError ?h_ynNotClosedMillError ?h_ysNotClosedMillError ?h_ynBadMostMillError ?h_ysBadMostMillError ?h_ynDryMillError ?h_ysDryMillError ?h_yiNoTree ?h_yiNotClosed ?h_yiBadMost ?h_yiDry ?h_yiNoNumber ?h_yiNoFunction ?h_yiNoText ?h_yiMillError ?h_a0 ?h_l0 ?h_c0 ?h_k0 ?h_a1 ?h_l1 ?h_c1 ?h_k1 ?h_a2 ?h_l2 ?h_c2 ?h_k2 ?h_a3 ?h_l3 ?h_c3 ?h_k3 ?h_a4 ?h_l4 ?h_c4 ?h_k4 ?h_a5 ?h_l5 ?h_c5 ?h_k5 ?h_a6 ?h_l6 ?h_c6 ?h_k6 ?h_a7 ?h_l7 ?h_c7 ?h_k7 ?h_a8 ?h_l8 ?h_c8 ?h_k8 ?h_a9 ?h_l9 ?h_c9 ?h_k9 ?h_a10 ?h_y10 ?h_l10 ?h_c10 ?h_k10 ?h_a11 ?h_y11 ?h_l11 ?h_c11 ?h_k11 ?h_a12 ?h_y12 ?h_l12 ?h_c12 ?h_k12 ?h_a13 ?h_y13 ?h_l13 ?h_c13 ?h_k13 ?h_a14 ?h_y14 ?h_l14 ?h_c14 ?h_k14 ?h_a15 ?h_y15 ?h_l15 ?h_c15 ?h_k15 ?h_a16 ?h_y16 ?h_l16 ?h_c16 ?h_k16 ?h_a17 ?h_y17 ?h_l17 ?h_c17 ?h_k17 ?h_a18 ?h_y18 ?h_l18 ?h_c18 ?h_k18 ?h_a19 ?h_y19 ?h_l19 ?h_c19 ?h_k19 ?h_a20 ?h_y20 ?h_l20 ?h_c20 ?h_k20 ?h_a21 ?h_l21 ?h_c21 ?h_k21 ?h_a22 ?h_l22 ?h_c22 ?h_k22 ?h_a23 ?h_l23 ?h_c23 ?h_k23 ?h_a24 ?h_l24 ?h_c24 ?h_k24 ?h_a25 ?h_l25 ?h_c25 ?h_k25 ?h_a26 ?h_l26 ?h_c26 ?h_k26 ?h_a27 ?h_l27 ?h_c27 ?h_k27 ?h_a28 ?h_l28 ?h_c28 ?h_k28 ?h_a29 ?h_l29 ?h_c29 ?h_k29 ?h_a30 ?h_y30 ?h_l30 ?h_c30 ?h_k30 ?h_a31 ?h_y31 ?h_l31 ?h_c31 ?h_k31 ?h_a32 ?h_y32 ?h_l32 ?h_c32 ?h_k32 ?h_a33 ?h_y33 ?h_l33 ?h_c33 ?h_k33 ?h_a34 ?h_y34 ?h_l34 ?h_c34 ?h_k34 ?h_a35 ?h_y35 ?h_l35 ?h_c35 ?h_k35 ?h_a36 ?h_y36 ?h_l36 ?h_c36 ?h_k36 ?h_a37 ?h_y37 ?h_l37 ?h_c37 ?h_k37 ?h_a38 ?h_l38 ?h_c38 ?h_k38 ?h_a39 ?h_l39 ?h_c39 ?h_k39 ?h_a40 ?h_l40 ?h_c40 ?h_k40 ?h_a41 ?h_l41 ?h_c41 ?h_k41 ?h_a42 ?h_l42 ?h_c42 ?h_k42 ?h_a43 ?h_l43 ?h_c43 ?h_k43 ?h_a44 ?h_l44 ?h_c44 ?h_k44 ?h_a45 ?h_l45 ?h_c45 ?h_k45 ?h_a46 ?h_l46 ?h_c46 ?h_k46 ?h_a47 ?h_l47 ?h_c47 ?h_k47 ?h_a48 ?h_l48 ?h_c48 ?h_k48
    (case h_z0 => k_is)
    (case h_z1 => k_is)
    (case h_z2 => k_is)
    (case h_z3 => k_is)
    (case h_z4 => k_is)
    (case h_z5 => k_is)
    (case h_z6 => k_is)
    (case h_z7 => k_is)
    (case h_z8 => k_is)
    (case h_z9 => k_is)
    (case h_z10 => k_is)
    (case h_z11 => k_is)
    (case h_z12 => k_is)
    (case h_z13 => k_is)
    (case h_z14 => k_is)
    (case h_z15 => k_is)
    (case h_z16 => k_is)
    (case h_z17 => k_is)
    (case h_z18 => k_is)
    (case h_z19 => k_is)
    (case h_z20 => k_is)
    (case h_z21 => k_is)
    (case h_z22 => k_is)
    (case h_gST => k_is)
    (case h_lST => k_is)
    (case h_kST => k_keys)
    (case h_sST0 => k_is)
    (case h_sST1 => k_is)
    (case h_sST2 => k_is)
    (case h_sST3 => k_is)
    (case h_sST4 => k_is)
    (case h_sST5 => k_is)
    (case h_sST6 => k_is)
    (case h_sST7 => k_is)
    (case h_gLE => k_is)
    (case h_lLE => k_is)
    (case h_kLE => k_keys)
    (case h_sLE0 => k_is)
    (case h_sLE1 => k_is)
    (case h_sLE2 => k_is)
    (case h_sLE3 => k_is)
    (case h_sLE4 => k_is)
    (case h_sLE5 => k_is)
    (case h_sLE6 => k_is)
    (case h_sLE7 => k_is)
    (case h_low => rfl)
    (case h_hkLE => kernel_rfl)
    (case h_gAH => k_is)
    (case h_lAH => k_is)
    (case h_kAH => k_keys)
    (case h_sAH0 => k_is)
    (case h_sAH1 => k_is)
    (case h_sAH2 => k_is)
    (case h_sAH3 => k_is)
    (case h_sAH4 => k_is)
    (case h_sAH5 => k_is)
    (case h_th0 => k_is)
    (case h_th1 => k_is)
    (case h_th2 => k_is)
    (case h_th3 => k_is)
    (case h_th4 => k_is)
    (case h_th5 => k_is)
    (case h_i_MOST_NODES => k_is)
    (case h_i_MOST_SIGNS => k_is)
    (case h_i_TOO_GREAT => k_is)
    (case h_i_LOOK => k_is)
    (case h_i_BIND => k_is)
    (case h_i_LOOSE => k_is)
    (case h_i_MOST_DEEDS => k_is)
    (case h_i_SIGNS => k_is)
    (case h_nNoTree => k_is)
    (case h_kpNoTree => k_is)
    (case h_xNoTree => k_exc)
    (case h_eNoTree => k_is)
    (case h_tNoTree => k_is)
    (case h_nNotClosed => k_is)
    (case h_kpNotClosed => k_is)
    (case h_xNotClosed => k_exc)
    (case h_eNotClosed => k_is)
    (case h_tNotClosed => k_is)
    (case h_nBadMost => k_is)
    (case h_kpBadMost => k_is)
    (case h_xBadMost => k_exc)
    (case h_eBadMost => k_is)
    (case h_tBadMost => k_is)
    (case h_nNoNumber => k_is)
    (case h_kpNoNumber => k_is)
    (case h_xNoNumber => k_exc)
    (case h_eNoNumber => k_is)
    (case h_tNoNumber => k_is)
    (case h_nNoFunction => k_is)
    (case h_kpNoFunction => k_is)
    (case h_xNoFunction => k_exc)
    (case h_eNoFunction => k_is)
    (case h_tNoFunction => k_is)
    (case h_nDry => k_is)
    (case h_kpDry => k_is)
    (case h_xDry => k_exc)
    (case h_eDry => k_is)
    (case h_tDry => k_is)
    (case h_nNoText => k_is)
    (case h_kpNoText => k_is)
    (case h_xNoText => k_exc)
    (case h_eNoText => k_is)
    (case h_tNoText => k_is)
    (case h_nMillError => k_is)
    (case h_kpMillError => k_is)
    (case h_xMillError => k_exc)
    (case h_eMillError => k_is)
    (case h_tMillError => k_is)
    (case h_hdNoTree => k_is)
    (case h_suNoTreeNoTree => k_is)
    (case h_hdNotClosed => k_is)
    (case h_suNoTreeNotClosed => k_is)
    (case h_hdBadMost => k_is)
    (case h_suNoTreeBadMost => k_is)
    (case h_hdDry => k_is)
    (case h_suNoTreeDry => k_is)
    (case h_hdNoNumber => k_is)
    (case h_suNoTreeNoNumber => k_is)
    (case h_hdNoFunction => k_is)
    (case h_suNoTreeNoFunction => k_is)
    (case h_hdNoText => k_is)
    (case h_suNoTreeNoText => k_is)
    (case h_suNotClosedNoTree => k_is)
    (case h_suNotClosedNotClosed => k_is)
    (case h_suNotClosedBadMost => k_is)
    (case h_suNotClosedDry => k_is)
    (case h_suNotClosedNoNumber => k_is)
    (case h_suNotClosedNoFunction => k_is)
    (case h_suNotClosedNoText => k_is)
    (case h_suBadMostNoTree => k_is)
    (case h_suBadMostNotClosed => k_is)
    (case h_suBadMostBadMost => k_is)
    (case h_suBadMostDry => k_is)
    (case h_suBadMostNoNumber => k_is)
    (case h_suBadMostNoFunction => k_is)
    (case h_suBadMostNoText => k_is)
    (case h_suDryNoTree => k_is)
    (case h_suDryNotClosed => k_is)
    (case h_suDryBadMost => k_is)
    (case h_suDryDry => k_is)
    (case h_suDryNoNumber => k_is)
    (case h_suDryNoFunction => k_is)
    (case h_suDryNoText => k_is)
    (case h_hnX => k_is)
    (case h_tkX => k_is)
    (case h_nWork => k_is)
    (case h_pgWork => k_is)
    (case h_hdWork => k_is)
    (case h_poWork => k_is)
    (case h_saWork => k_is)
    (case h_haWork => k_is)
    (case h_hmWork => k_is)
    (case h_icWork => k_is)
    (case h_tyWork => k_is)
    (case h_siWork => k_is)
    (case h_mkWork => k_is)
    (case h_kcWork => k_is)
    (case h_noWork_full => k_is)
    (case h_noWork_short => k_is)
    (case h_noWork_around => k_is)
    (case h_noWork_fulls => k_is)
    (case h_noWork_shorts => k_is)
    (case h_nKept => k_is)
    (case h_pgKept => k_is)
    (case h_hdKept => k_is)
    (case h_poKept => k_is)
    (case h_saKept => k_is)
    (case h_haKept => k_is)
    (case h_hmKept => k_is)
    (case h_icKept => k_is)
    (case h_tyKept => k_is)
    (case h_siKept => k_is)
    (case h_mkKept => k_is)
    (case h_kcKept => k_is)
    (case h_noKept_name => k_is)
    (case h_noKept_body => k_is)
    (case h_noKept_names => k_is)
    (case h_noKept_held => k_is)
    (case h_nMachine => k_is)
    (case h_pgMachine => k_is)
    (case h_hdMachine => k_is)
    (case h_poMachine => k_is)
    (case h_saMachine => k_is)
    (case h_haMachine => k_is)
    (case h_hmMachine => k_is)
    (case h_icMachine => k_is)
    (case h_tyMachine => k_is)
    (case h_siMachine => k_is)
    (case h_mkMachine => k_is)
    (case h_kcMachine => k_is)
    (case h_noMachine_most => k_is)
    (case h_noMachine_deeds => k_is)
    (case h_noMachine_kepts => k_is)
    (case h_noMachine_found => k_is)
    (case h_noMachine_waiting => k_is)
    (case h_gVA => k_is)
    (case h_tVA => k_is)
    (case h_ygNoTree => k_is)
    (case h_ykNoTree => k_is)
    (case h_ydNoTree => k_is)
    (case h_yaNoTree => k_is)
    (case h_ymNoTree => k_is)
    (case h_yvNoTree => k_is)
    (case h_ynNoTreeNotClosed => rfl)
    (case h_ysNoTreeNotClosed => k_is)
    (case h_ynNoTreeBadMost => rfl)
    (case h_ysNoTreeBadMost => k_is)
    (case h_ynNoTreeDry => rfl)
    (case h_ysNoTreeDry => k_is)
    (case h_ynNoTreeNoNumber => rfl)
    (case h_ysNoTreeNoNumber => k_is)
    (case h_ynNoTreeNoFunction => rfl)
    (case h_ysNoTreeNoFunction => k_is)
    (case h_ynNoTreeNoText => rfl)
    (case h_ysNoTreeNoText => k_is)
    (case h_ygNotClosed => k_is)
    (case h_ykNotClosed => k_is)
    (case h_ydNotClosed => k_is)
    (case h_yaNotClosed => k_is)
    (case h_ymNotClosed => k_is)
    (case h_yvNotClosed => k_is)
    (case h_ynNotClosedNoTree => rfl)
    (case h_ysNotClosedNoTree => k_is)
    (case h_ynNotClosedBadMost => rfl)
    (case h_ysNotClosedBadMost => k_is)
    (case h_ynNotClosedDry => rfl)
    (case h_ysNotClosedDry => k_is)
    (case h_ynNotClosedNoNumber => rfl)
    (case h_ysNotClosedNoNumber => k_is)
    (case h_ynNotClosedNoFunction => rfl)
    (case h_ysNotClosedNoFunction => k_is)
    (case h_ynNotClosedNoText => rfl)
    (case h_ysNotClosedNoText => k_is)
    (case h_ygBadMost => k_is)
    (case h_ykBadMost => k_is)
    (case h_ydBadMost => k_is)
    (case h_yaBadMost => k_is)
    (case h_ymBadMost => k_is)
    (case h_yvBadMost => k_is)
    (case h_ynBadMostNoTree => rfl)
    (case h_ysBadMostNoTree => k_is)
    (case h_ynBadMostNotClosed => rfl)
    (case h_ysBadMostNotClosed => k_is)
    (case h_ynBadMostDry => rfl)
    (case h_ysBadMostDry => k_is)
    (case h_ynBadMostNoNumber => rfl)
    (case h_ysBadMostNoNumber => k_is)
    (case h_ynBadMostNoFunction => rfl)
    (case h_ysBadMostNoFunction => k_is)
    (case h_ynBadMostNoText => rfl)
    (case h_ysBadMostNoText => k_is)
    (case h_ygDry => k_is)
    (case h_ykDry => k_is)
    (case h_ydDry => k_is)
    (case h_yaDry => k_is)
    (case h_ymDry => k_is)
    (case h_yvDry => k_is)
    (case h_ynDryNoTree => rfl)
    (case h_ysDryNoTree => k_is)
    (case h_ynDryNotClosed => rfl)
    (case h_ysDryNotClosed => k_is)
    (case h_ynDryBadMost => rfl)
    (case h_ysDryBadMost => k_is)
    (case h_ynDryNoNumber => rfl)
    (case h_ysDryNoNumber => k_is)
    (case h_ynDryNoFunction => rfl)
    (case h_ysDryNoFunction => k_is)
    (case h_ynDryNoText => rfl)
    (case h_ysDryNoText => k_is)
    (case h_ynNoTreeMillError => rfl)
    (case h_ysNoTreeMillError => k_is)
    (case h_ynNotClosedMillError => rfl)
    (case h_ysNotClosedMillError => k_is)
    (case h_ynBadMostMillError => rfl)
    (case h_ysBadMostMillError => k_is)
    (case h_ynDryMillError => rfl)
    (case h_ysDryMillError => k_is)
    (case h_yiNoTree => k_is)
    (case h_yiNotClosed => k_is)
    (case h_yiBadMost => k_is)
    (case h_yiDry => k_is)
    (case h_yiNoNumber => k_is)
    (case h_yiNoFunction => k_is)
    (case h_yiNoText => k_is)
    (case h_yiMillError => k_is)
    (case h_a0 => k_is)
    (case h_l0 => k_is)
    (case h_c0 => k_is)
    (case h_k0 => k_is)
    (case h_a1 => k_is)
    (case h_l1 => k_is)
    (case h_c1 => k_is)
    (case h_k1 => k_is)
    (case h_a2 => k_is)
    (case h_l2 => k_is)
    (case h_c2 => k_is)
    (case h_k2 => k_is)
    (case h_a3 => k_is)
    (case h_l3 => k_is)
    (case h_c3 => k_is)
    (case h_k3 => k_is)
    (case h_a4 => k_is)
    (case h_l4 => k_is)
    (case h_c4 => k_is)
    (case h_k4 => k_is)
    (case h_a5 => k_is)
    (case h_l5 => k_is)
    (case h_c5 => k_is)
    (case h_k5 => k_is)
    (case h_a6 => k_is)
    (case h_l6 => k_is)
    (case h_c6 => k_is)
    (case h_k6 => k_is)
    (case h_a7 => k_is)
    (case h_l7 => k_is)
    (case h_c7 => k_is)
    (case h_k7 => k_is)
    (case h_a8 => k_is)
    (case h_l8 => k_is)
    (case h_c8 => k_is)
    (case h_k8 => k_is)
    (case h_a9 => k_is)
    (case h_l9 => k_is)
    (case h_c9 => k_is)
    (case h_k9 => k_is)
    (case h_a10 => k_is)
    (case h_y10 => k_is)
    (case h_l10 => k_is)
    (case h_c10 => k_is)
    (case h_k10 => k_is)
    (case h_a11 => k_is)
    (case h_y11 => k_is)
    (case h_l11 => k_is)
    (case h_c11 => k_is)
    (case h_k11 => k_is)
    (case h_a12 => k_is)
    (case h_y12 => k_is)
    (case h_l12 => k_is)
    (case h_c12 => k_is)
    (case h_k12 => k_is)
    (case h_a13 => k_is)
    (case h_y13 => k_is)
    (case h_l13 => k_is)
    (case h_c13 => k_is)
    (case h_k13 => k_is)
    (case h_a14 => k_is)
    (case h_y14 => k_is)
    (case h_l14 => k_is)
    (case h_c14 => k_is)
    (case h_k14 => k_is)
    (case h_a15 => k_is)
    (case h_y15 => k_is)
    (case h_l15 => k_is)
    (case h_c15 => k_is)
    (case h_k15 => k_is)
    (case h_a16 => k_is)
    (case h_y16 => k_is)
    (case h_l16 => k_is)
    (case h_c16 => k_is)
    (case h_k16 => k_is)
    (case h_a17 => k_is)
    (case h_y17 => k_is)
    (case h_l17 => k_is)
    (case h_c17 => k_is)
    (case h_k17 => k_is)
    (case h_a18 => k_is)
    (case h_y18 => k_is)
    (case h_l18 => k_is)
    (case h_c18 => k_is)
    (case h_k18 => k_is)
    (case h_a19 => k_is)
    (case h_y19 => k_is)
    (case h_l19 => k_is)
    (case h_c19 => k_is)
    (case h_k19 => k_is)
    (case h_a20 => k_is)
    (case h_y20 => k_is)
    (case h_l20 => k_is)
    (case h_c20 => k_is)
    (case h_k20 => k_is)
    (case h_a21 => k_is)
    (case h_l21 => k_is)
    (case h_c21 => k_is)
    (case h_k21 => k_is)
    (case h_a22 => k_is)
    (case h_l22 => k_is)
    (case h_c22 => k_is)
    (case h_k22 => k_is)
    (case h_a23 => k_is)
    (case h_l23 => k_is)
    (case h_c23 => k_is)
    (case h_k23 => k_is)
    (case h_a24 => k_is)
    (case h_l24 => k_is)
    (case h_c24 => k_is)
    (case h_k24 => k_is)
    (case h_a25 => k_is)
    (case h_l25 => k_is)
    (case h_c25 => k_is)
    (case h_k25 => k_is)
    (case h_a26 => k_is)
    (case h_l26 => k_is)
    (case h_c26 => k_is)
    (case h_k26 => k_is)
    (case h_a27 => k_is)
    (case h_l27 => k_is)
    (case h_c27 => k_is)
    (case h_k27 => k_is)
    (case h_a28 => k_is)
    (case h_l28 => k_is)
    (case h_c28 => k_is)
    (case h_k28 => k_is)
    (case h_a29 => k_is)
    (case h_l29 => k_is)
    (case h_c29 => k_is)
    (case h_k29 => k_is)
    (case h_a30 => k_is)
    (case h_y30 => k_is)
    (case h_l30 => k_is)
    (case h_c30 => k_is)
    (case h_k30 => k_is)
    (case h_a31 => k_is)
    (case h_y31 => k_is)
    (case h_l31 => k_is)
    (case h_c31 => k_is)
    (case h_k31 => k_is)
    (case h_a32 => k_is)
    (case h_y32 => k_is)
    (case h_l32 => k_is)
    (case h_c32 => k_is)
    (case h_k32 => k_is)
    (case h_a33 => k_is)
    (case h_y33 => k_is)
    (case h_l33 => k_is)
    (case h_c33 => k_is)
    (case h_k33 => k_is)
    (case h_a34 => k_is)
    (case h_y34 => k_is)
    (case h_l34 => k_is)
    (case h_c34 => k_is)
    (case h_k34 => k_is)
    (case h_a35 => k_is)
    (case h_y35 => k_is)
    (case h_l35 => k_is)
    (case h_c35 => k_is)
    (case h_k35 => k_is)
    (case h_a36 => k_is)
    (case h_y36 => k_is)
    (case h_l36 => k_is)
    (case h_c36 => k_is)
    (case h_k36 => k_is)
    (case h_a37 => k_is)
    (case h_y37 => k_is)
    (case h_l37 => k_is)
    (case h_c37 => k_is)
    (case h_k37 => k_is)
    (case h_a38 => k_is)
    (case h_l38 => k_is)
    (case h_c38 => k_is)
    (case h_k38 => k_is)
    (case h_a39 => k_is)
    (case h_l39 => k_is)
    (case h_c39 => k_is)
    (case h_k39 => k_is)
    (case h_a40 => k_is)
    (case h_l40 => k_is)
    (case h_c40 => k_is)
    (case h_k40 => k_is)
    (case h_a41 => k_is)
    (case h_l41 => k_is)
    (case h_c41 => k_is)
    (case h_k41 => k_is)
    (case h_a42 => k_is)
    (case h_l42 => k_is)
    (case h_c42 => k_is)
    (case h_k42 => k_is)
    (case h_a43 => k_is)
    (case h_l43 => k_is)
    (case h_c43 => k_is)
    (case h_k43 => k_is)
    (case h_a44 => k_is)
    (case h_l44 => k_is)
    (case h_c44 => k_is)
    (case h_k44 => k_is)
    (case h_a45 => k_is)
    (case h_l45 => k_is)
    (case h_c45 => k_is)
    (case h_k45 => k_is)
    (case h_a46 => k_is)
    (case h_l46 => k_is)
    (case h_c46 => k_is)
    (case h_k46 => k_is)
    (case h_a47 => k_is)
    (case h_l47 => k_is)
    (case h_c47 => k_is)
    (case h_k47 => k_is)
    (case h_a48 => k_is)
    (case h_l48 => k_is)
    (case h_c48 => k_is)
    (case h_k48 => k_is)

