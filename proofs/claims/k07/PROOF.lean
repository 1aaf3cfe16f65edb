import PyProof.Rows.All
import Wide.All
import OpenK.AllK
import Wide.FinOn
import HandS.List
import HandS.Flow
import HandS.DictComp
import HandS.Iter
import HandS.Dict
import KE.KDictZip
import HandS.Style
import KE.KRevSl
import PyProof.DictUpdate
import PyProof.DictDisplay
import HandS.ForMost
import HandS.Exc
import HandS.TryOnly
import HandS.ExcOwn
import HandS.WordsExc
import HandS.IsInst
import HandS.Conv
import HandS.More
import KE.SortData
import HandS.ExcIs
import PyProof.AutoSeq1
import HandS.WordsDict
import HandS.TryMany
import HandS.HotCalls
import KE.KTryMore
import HandS.Text
import HandS.Replace
import HandS.ReplaceLit
import PyProof.Rows.StrLawsPart
import KE.KIntText
import HandS.StrMore
import HandS.CallSlots
import PyProof.EqKinds
import HandS.RaiseFrom
import KE.IntTextLaws
import HandS.SuiteRaise
import HandS.WideBits
import PySem.Challenge.RW_closuremill_k07_texts_refused
set_option Elab.async false
set_option maxRecDepth 100000
set_option linter.all false
/-! xs[-m:] = ys, a list's last m items replaced by another list's -/
namespace My
open PySem L2
open PyProof.Rows
theorem tail_bounds {m n : Nat} (h : m ≤ n) (h1 : 1 ≤ m) : sliceBounds (some (-(m : Int))) none none n = (((n - m : Nat) : Int), (n : Int), 1) := by
  unfold sliceBounds
  dsimp only [Option.getD_none]
  rw [if_pos (show (1 : Int) > 0 by decide), if_pos (show (1 : Int) > 0 by decide)]
  refine Prod.ext ?_ rfl
  show max 0 (min (if -(m : Int) < 0 then -(m : Int) + n else -(m : Int)) n) = _
  rw [if_pos (show -(m : Int) < 0 by omega)]
  omega
theorem tail_splice (its its2 : List Value) (a : Nat) : its.toArray.extract 0 a ++ its2.toArray ++ its.toArray.extract its.length its.toArray.size = (its.take a ++ its2).toArray := by
  apply Array.toList_inj.mp
  simp
section
variable {prog : Program} {w : World} {A : Around} {E : Value → Shared → Prop} {s : Shared}
theorem setItem_tail {l b sl : Addr} {items new : Array Value} {n n2 m : Nat} {t : Tok} {Q : Unit → Shared → Prop}
    (e : s.heap.get? l = some { cls := .type "list", data := .seq items n }) (e2 : s.heap.get? b = some { cls := .type "list", data := .seq new n2 }) (hne : l ≠ b)
    (hs : s.heap.IsSliceOf sl (.int (-(m : Int)) t) .none .none) (h1 : 1 ≤ m) (hm : m ≤ items.size) (hsz : items.size + new.size ≤ sizeLine)
    (h : Q () { s with heap := s.heap.update l (Obj.mapSeq fun xs => xs.extract 0 (items.size - m) ++ new ++ xs.extract items.size xs.size) }) : wpAny (model prog w) A (setItem (.ref l) (.ref sl) (.ref b)) Q E s := by
  have hl : s.heap.IsList l items := PySem.IsL.isList e
  have hb : s.heap.IsList b new := PySem.IsL.isList e2
  obtain ⟨os, hos, hcs, hds⟩ := id hs
  have hTs : s.TypeIs (.ref sl) "slice" := ⟨os, hos, hcs⟩
  have hsame : Builtin.List.listSameRef (.ref l) (.ref b) = false := by unfold Builtin.List.listSameRef; exact beq_eq_false_iff_ne.mpr hne
  have hmx : (max ((items.size - m : Nat) : Int) (items.size : Int)).toNat = items.size := by omega
  have hz' : ((fun xs : Array Value => xs.extract 0 (items.size - m) ++ new ++ xs.extract items.size xs.size) items).size ≤ sizeLine + 1 := by simp only [Array.size_append, Array.size_extract]; omega
  unfold setItem; refine wpAny_holding ?_
  refine wpAny_bind (wpAny_sequenceKey hl.typeIs (by decide) (wpAny_bind (wpAny_callSpecial?_slot (name := Str.ofString "__setitem__") hl.typeIs slot_list_setitem (wpAny_call_entry slot_list_setitem hl.typeIs entry_list_setitem ?_ (args_list_setitem _ _ _)))))
  show wpAny _ _ (Builtin.List.listSubscript? (.ref sl) >>= _) _ _ s
  unfold Builtin.List.listSubscript?
  refine wpAny_bind (wpAny_bind (wpAny_specialOf hTs slice_no_index ?_)); simp only [Option.isNone_none, if_true]
  refine wpAny_pure ?_
  show wpAny _ _ (typeOf (.ref sl) >>= _) _ _ s
  refine wpAny_bind (wpAny_typeOf hTs ?_); rw [if_neg (by decide)]
  rw [listSliceParts_eq]; refine wpAny_bind (wpAny_bind (wpAny_field hos hds (x := .none) rfl (wpAny_bind (wpAny_listPart .none ?_))))
  rw [if_neg (show ¬ ((rawPart none == rawInt 0) = true) from Bool.false_ne_true)]
  refine wpAny_bind (wpAny_field hos hds (x := .int (-(m : Int)) t) rfl (wpAny_bind (wpAny_listPart (.int _ _) (wpAny_bind (wpAny_field hos hds (x := .none) rfl (wpAny_bind (wpAny_listPart .none (wpAny_pure ?_))))))))
  simp only [hsame, Bool.false_eq_true, if_false]
  refine wpAny_bind (m := Builtin.List.listAllItems (.ref b) "must assign iterable to extended slice") ?_; unfold Builtin.List.listAllItems
  refine wpAny_bind (wpAny_typeOf hb.typeIs ?_); simp only [beq_self_eq_true, Bool.true_or, if_true]
  unfold Builtin.List.listItems
  refine wpAny_bind (wpAny_seqItems e2 rfl (wpAny_pure (wpAny_bind (wpAny_bind (wpAny_seqItems e rfl (wpAny_pure ?_))))))
  refine wpAny_bind (wpAny_of_eq ((sliceIndices_raw (some (-(m : Int))) none none items.size (by simp)).trans (congrArg (pure : Int × Int × Int → Sem (Int × Int × Int)) (tail_bounds hm h1))) ?_)
  show wpAny _ _ (if ((1 : Int) == 1) = true then _ else _) _ _ s
  rw [if_pos (by decide)]
  refine wpAny_bind (wpAny_rule ?_)
  simp only [notLongL hsz, Bool.false_eq_true, if_false]
  try refine wpAny_bind (wpAny_pure ?_)
  show wpAny _ _ (updateSeq l (fun xs => xs.extract 0 (((items.size - m : Nat) : Int)).toNat ++ new ++ xs.extract (max ((items.size - m : Nat) : Int) (items.size : Int)).toNat xs.size) >>= _) _ _ s
  rw [hmx, Int.toNat_natCast]
  refine wpAny_bind (wpAny_updateSeq (hz := Nat.le_trans (Nat.le_add_right _ _) hsz) (_hz' := hz') e rfl (wpAny_bind (wpAny_letGo ?_)))
  first
    | exact wpAny_bind (wpAny_pure (wpAny_pure ⟨.none, rfl, wpAny_pure h⟩))
    | exact wpAny_pure ⟨.none, rfl, wpAny_pure h⟩
end
/-- o[-m:] = value -/
def sTail (to tl tv : TE) : TS := fun D σ H => tv σ H fun y H1 => to σ H1 fun x H2 => tl σ H2 fun z H3 => ∃ (l b : Addr) (xs ys : List V) (m : Nat), x = .ref l ∧ y = .ref b ∧ z = .int (-(m : Int)) ∧ 1 ≤ m ∧ m ≤ xs.length ∧ l ≠ b ∧
  H3 l = some (.lst xs) ∧ H3 b = some (.lst ys) ∧ xs.length + ys.length ≤ sizeLine ∧ D.nx σ (upd H3 l (.lst (xs.take (xs.length - m) ++ ys)))
theorem ps_tail {X : Cx} {o lo value : Expr} {to tl tv : TE} {p2 pos' pos : Pos} (ho : PE X o to) (hl : PE X lo tl) (hv : PE X value tv) (hs : swapsWith value (some (.Subscript o (.Slice (some lo) none none p2) pos')) pos.line X.env = pure false) :
    PS X (.Assign [.Subscript o (.Slice (some lo) none none p2) pos'] value pos) (sTail to tl tv) := by
  refine ⟨fun pins s σ H D I h => ?_⟩
  refine wpAny_Assign_Subscript (thn (hv.run pins s σ H _ I h) fun r s1 ⟨y, H1, I1, rv, q1⟩ => thn (ho.run pins s1 σ H1 _ I1 q1) fun u s2 ⟨x, H2, I2, rx, q2⟩ => ?_) hs
  refine wpAny_Slice ?_
  rw [evalPart_some]
  refine thn (hl.run pins s2 σ H2 _ I2 q2) fun vl s3 ⟨z, H3, I3, rz, l, b, xs, ys, m, ex, ey, ez, h1, hm, hne, hl3, hb3, hz, q3⟩ => ?_
  subst ex ey ez
  obtain rfl : u = Value.ref l := rx
  obtain rfl : r = Value.ref b := rv
  obtain ⟨t, rfl⟩ := rz
  refine thn (po_none.run pins s3 σ H3 (fun o H4 => o = none ∧ H4 = H3) I3 ⟨rfl, rfl⟩) fun vu s4 ⟨o, H4, I4, pu, eo, e4⟩ => ?_
  subst eo e4
  cases pu
  rw [evalPart_none]
  refine wpAny_pure ?_
  have I5 : Inv X pins σ H4 { s4 with heap := s4.heap.push { cls := .type "slice", data := .fields #[.int (-(m : Int)) t, .none, .none] } } := I4.kept (t' := s4.toks) fun b ob q => Heap.get?_push_of_some _ q
  obtain ⟨z1, its, n1, r1, l1, e1⟩ := I5.lstM hl3
  obtain ⟨z2, its2, n2, r2, l2, e2⟩ := I5.lstM hb3
  refine setItem_tail e1 e2 hne (Heap.IsSliceOf.new ..) h1 (by rw [List.size_toArray, ← l1]; exact hm) (by rw [List.size_toArray, List.size_toArray, ← l1, ← l2]; exact hz) ?_
  refine ⟨σ, _, I5.lset (its' := its.take (xs.length - m) ++ its2) (t' := _) hl3 e1 ?_ (Vals.append (r1.take _) r2) ?_, q3⟩
  · rw [List.size_toArray, ← l1]
    have := tail_splice its its2 (xs.length - m)
    rw [List.size_toArray, ← l1] at this
    exact this
  · rw [List.length_append, List.length_take]; omega
end My

/-! y = {k: v for target in iter if ..} -/
namespace My
open PySem L2
open PyProof.Rows
section
variable {X : Cx}
theorem swD_true {kx vx : Expr} {gs : List Comprehension} {scope : Scope} {pos py : Pos} {y : Str} {l : Nat} {env : Env} (hk : env.scope.kind = .function) (hy : env.scope.names.lookup y = some .local) (hl : (py.line == pos.line) = true)
    (ha : (scope.names.any fun (n, k) => n == y && (k == .local || k == .cell)) = false) : swapsWith (.DictComp kx vx gs scope pos) (some (.Name y py)) l env = pure true := by
  have ky : env.kindOf y = some .local := hy
  have hb : env.blockKind = .function := by unfold Env.blockKind; rw [hk]; rfl
  unfold swapsWith; simp only [hb, ky, ha, Expr.pos, hl]; rfl
theorem ps_setDc {i : Nat} {y : Str} {py : Pos} {kx vx tg iter : Expr} {ifs : List Expr} {scope : Scope} {own : List (Str × Nat)} {pos spos : Pos} {wi : TI} {g : TG} {tt : TT} {tk tv : TE}
    (hc : X.calm = true) (hN : X.N.Nodup) (hy : X.N[i]? = some y) (hyl : X.env.scope.names.lookup y = some .local) (hsw : swapsWith (.DictComp kx vx [⟨tg, iter, ifs, 0⟩] scope pos) (some (.Name y py)) spos.line X.env = pure true)
    (hi : PI X tg iter wi) (ok : BlkOk X.N X.env.scope scope own) (hg : ∀ s H C cl fp, PG (X.blk s H scope (compEnvC scope cl C X.env) fp) tg g) (ht : ∀ s H C cl fp, PTs (X.blk s H scope (compEnvC scope cl C X.env) fp) ifs tt)
    (hk : ∀ s H C cl fp, PE (X.blk s H scope (compEnvC scope cl C X.env) fp) kx tk) (he : ∀ s H C cl fp, PE (X.blk s H scope (compEnvC scope cl C X.env) fp) vx tv) (hs : ∀ x, foldedSetIterable iter X.env x = pure x := by intro _; rfl) :
    PS X (.Assign [.Name y py] (.DictComp kx vx [⟨tg, iter, ifs, 0⟩] scope pos) spos) (tAsg (tDc wi g tt tk tv (own.map (·.2))) (gName i)) := by
  refine ⟨fun pins s σ H D I h => ?_⟩
  rw [exec_Assign_Name_used _ _ _ _ hsw]
  refine wpAny_bind (wpAny_standAt (wpAny_bind ?_))
  show wpAny _ X.A (do let _ ← comprehension (.DictComp kx vx [⟨tg, iter, ifs, 0⟩] scope pos) scope X.env (firstIterPos [⟨tg, iter, ifs, 0⟩] pos) newDict false (eval iter X.env) (some (assign (.Name y py) X.env))) _ _ s
  have h : tDc wi g tt tk tv (own.map (·.2)) σ H (fun x H1 => gName i x σ H1 D.nx) := h
  refine wpAny_bind (thn (dc_core (Qf := fun _ s' => SP X pins D .next s') hc hN I hi ok hg ht hk he hs h fun L C s' m H' I' q hn f => ?_) fun _ s' hq => wpAny_pure (wpAny_pure hq))
  show wpAny _ _ (assign (.Name y py) X.env (.ref L)) _ _ _
  refine wpAny_assign_Name (store_ok2 (v := V.ref L) I' hN hy (.inl hyl) rfl (fun s2 I2 ⟨a, sb, ha⟩ => ?_) (.inr hyl))
  obtain ⟨f0, f1, f2, f3, f4, f5⟩ := f
  have haC : C ≠ a := by
    rcases ha with z | z
    · exact z ▸ f1
    · intro e; exact f4 y a z e.symm
  refine ⟨m, hn.sameBut sb haC, fun h3 sb3 => ⟨_, H', I2.turned (t' := s2.toks) (fun b o hb e => (sb3.2 b hb).trans e) f0 f1 f3 f4 f5, q⟩⟩
end
theorem lock_set {te : TE} {i : Nat} {D : Ends} {σ : L2.St} {H : Hp} (h : tLockE te σ H fun x H' => D.nx (σ.set i (some x)) H') : tLock (tAsg te (gName i)) D σ H := h
end My

/-! dict(zip(xs, ys)) of two lists -/
namespace My
open PySem L2
open PyProof.Rows
def rDZ (K : PySem.W.Frag) (vs : List V) (H1 : Hp) (Q : VK) : Prop := ∃ (a b : Addr) (ks : List Key) (ys : List V), vs = [.ref a, .ref b] ∧ SqL K H1 a (ks.map kV) ∧ SqL K H1 b ys ∧ ks.length = ys.length ∧
  ∀ p, H1 p = none → Q (.ref p) (upd H1 p (.dK (mergeK [] (ks.zip ys))))
def tDZ (K : PySem.W.Frag) (ta : TA) : TE := fun σ H Q => ta σ H fun vs H1 => rDZ K vs H1 Q
theorem keys_rel {P : Program} {w : World} : ∀ {ks : List Key} {us : List Value} {i : Nat} {u : Value}, Vals (ks.map kV) us → us[i]? = some u → ∃ k, ks[i]? = some k ∧ (mixKind P w).is k u = true
  | [], _, i, u, r, e => by rw [List.map_nil] at r; cases r; simp at e
  | k :: ks, _, i, u, r, e => by
    rw [List.map_cons] at r
    cases r with
    | cons h t =>
      cases i with
      | zero => simp at e; subst e; exact ⟨k, rfl, kV_is h⟩
      | succ i => exact keys_rel (i := i) t (by simpa using e)
theorem kv_zip : ∀ {ks : List Key} {ys : List V} {us : List Value}, Vals ys us → L2.KV (ks.zip ys) (ks.zip us)
  | [], _, _, _ => by simp only [List.zip_nil_left]; exact .nil
  | k :: ks, _, _, .nil => by simp only [List.zip_nil_right]; exact .nil
  | k :: ks, _, _, .cons r t => .cons ⟨rfl, r⟩ (kv_zip t)
section
variable {X : Cx} {e e2 : Expr} {ta : TA} {p p0 pos pos0 : Pos}
theorem pe_dictZip (hg0 : Gl X "dict") (hm0 : X.mg "dict" = none) (hg : Gl X "zip") (hm : X.mg "zip" = none) (ha : PA X [e, e2] ta) (hc : X.calm = true)
    (hs : starEach [e, e2] X.env = (false, eval e X.env) :: starEach [e2] X.env := by rfl) (hpl : (backTo pos (starEach [e2] X.env)).any (·.1) = false := by rfl)
    (hs0 : starEach [.Call (.Name "zip" p) [e, e2] [] pos] X.env = (false, eval (.Call (.Name "zip" p) [e, e2] [] pos) X.env) :: starEach [] X.env := by rfl) :
    PE X (.Call (.Name "dict" p0) [.Call (.Name "zip" p) [e, e2] [] pos] [] pos0) (tDZ X.K ta) := by
  refine ⟨fun pins s σ H Q I h => ?_⟩
  refine wpAny_Call_Name_kw (ld_blt I hg0 hm0 boot_dict ?_)
  refine callWith_type1 ?_ hs0
  rw [hs0]
  show wpAny _ _ (spliced ((false, eval (.Call (.Name "zip" p) [e, e2] [] pos) X.env) :: backTo pos0 (starEach [] X.env))) _ _ s
  refine Calls.spliced_cons (wpAny_Call_Name_kw (ld_blt I hg hm boot_zip (callWith_type1 (thn (ha.run pos pins s σ H _ I h) fun us s1 ⟨vs, H1, I1, r1, q1⟩ => ?_) hs hpl)))
  obtain ⟨a, b, ks, ys, ex, hqx, hqy, hlen, q⟩ := q1
  subst ex
  obtain ⟨u1, u2, eu, ru1, ru2⟩ : ∃ u1 u2, us = [u1, u2] ∧ RelV (.ref a) u1 ∧ RelV (.ref b) u2 := by
    cases r1 with
    | cons r rr =>
      cases rr with
      | cons r' rr => cases rr; exact ⟨_, _, rfl, r, r'⟩
  subst eu
  obtain rfl : u1 = Value.ref a := ru1
  obtain rfl : u2 = Value.ref b := ru2
  obtain ⟨its, rv, p1, hz1⟩ := I1.list hqx
  obtain ⟨its2, rv2, p2, hz2⟩ := I1.list hqy
  have la : a < s1.heap.objs.size := p1.lt
  have lb : b < s1.heap.objs.size := p2.lt
  have li1 : its.length = ks.length := by rw [← rv.length, List.length_map]
  have li2 : its2.length = ys.length := rv2.length.symm
  refine call_zip_2 p1.isList p2.isList fun h' hz hTI hTO h1 h2 hsz hk => ?_
  refine Calls.spliced_nil ?_
  have kl : ∀ {l : Addr} {xs : Array Value}, s1.heap.IsList l xs → h'.IsList l xs := fun ⟨o, ho, r⟩ => ⟨o, hk _ _ ho, r⟩
  refine PySem.call_dict_pairs (knd := mixKind X.prog X.w) (kvs := ks.zip its2) (PairArg.zip _ _ _ _ _ a b (PySem.W.ktu_apart s1.heap.objs.size a b la lb) its.toArray its2.toArray) (I.ok.hd hc)
    ⟨hz, hTI, ⟨_, _, hTO⟩, h1, h2, kl p1.isList, kl p2.isList⟩ ⟨by simp [li1], fun i key v ⟨e1, e2⟩ => ?_⟩ ?_ fun h'' tk hd hk2 => ?_
  · obtain ⟨k, hk1, hk2⟩ := keys_rel (P := X.prog) (w := X.w) (i := i) rv (by simpa using e1)
    exact ⟨k, by rw [List.getElem?_zip_eq_some]; exact ⟨hk1, by simpa using e2⟩, hk2⟩
  · simp only [List.size_toArray]; omega
  · have hfr : ∀ c, s1.heap.objs.size ≤ c → H1 c = none := fun c hc => I1.hok.fresh hc
    have hm : (h'.objs.size == sysModules) = false := beq_eq_false_iff_ne.mpr (Nat.ne_of_gt (Nat.lt_of_lt_of_le I1.big (by rw [hsz]; exact Nat.le_add_right _ _)))
    have hl : (mergeK [] (ks.zip ys)).length ≤ sizeLine := by
      have := length_mergeK (ks.zip ys) ([] : List (Key × V))
      rw [List.length_nil, List.length_zip] at this
      omega
    refine ⟨.ref h'.objs.size, upd H1 h'.objs.size (.dK (mergeK [] (ks.zip ys))), I1.laid (t' := tk) (fun c o e => hk2 c o (fun hc => ?_) (hk c o e)) (by omega) ⟨hl, hm, merged [] (ks.zip its2), KV.merge (kv_zip rv2) .nil, hd⟩, rfl, q _ (hfr _ (by omega))⟩
    have hlt := Heap.lt_size e
    simp only [List.mem_cons, List.not_mem_nil, or_false] at hc
    rcases hc with h | h | h | h
    all_goals (rw [h] at hlt; exact absurd hlt (Nat.not_lt.mpr (by first | exact Nat.le_add_right _ _ | exact Nat.le_refl _)))
end
end My

/-! t[::-1] of a tuple -/
namespace My
open PySem L2
open PyProof.Rows
theorem all_pick (l : List Value) : (List.range l.length).filterMap (fun k => l[k]?) = l := by
  induction l with
  | nil => rfl
  | cons x r ih =>
    rw [List.length_cons, List.range_succ_eq_map, List.filterMap_cons]
    simp only [List.getElem?_cons_zero]
    rw [List.filterMap_map]
    congr 1
theorem fm_congr {α β : Type} {f g : α → Option β} : ∀ {l : List α}, (∀ x ∈ l, f x = g x) → l.filterMap f = l.filterMap g
  | [], _ => rfl
  | x :: r, h => by rw [List.filterMap_cons, List.filterMap_cons, h x List.mem_cons_self, fm_congr fun y hy => h y (List.mem_cons_of_mem _ hy)]
theorem rev_pick (xs : Array Value) : ((List.range xs.size).filterMap fun (k : Nat) => xs[(((xs.size : Int) - 1) + (k : Int) * (-1)).toNat]?) = xs.toList.reverse := by
  have h := all_pick xs.toList.reverse
  rw [List.length_reverse, Array.length_toList] at h
  rw [← h]
  refine fm_congr fun k hk => ?_
  have hk := List.mem_range.mp hk
  rw [List.getElem?_reverse (by simpa using hk), Array.length_toList, Array.getElem?_toList]
  congr 1
  omega
section
variable {prog : Program} {w : World} {A : Around} {E : Value → Shared → Prop} {s : Shared}
theorem getItem_tuple_rev {t sl : Addr} {items : Array Value} {u : Tok} {Q : Value → Shared → Prop} (ht : IsTup s.heap t items) (hs : s.heap.IsSliceOf sl .none .none (.int (-1) u))
    (h : Q (.ref s.heap.objs.size) { s with heap := s.heap.push { cls := .type "tuple", data := .seq items.toList.reverse.toArray } }) (hsz : items.size ≤ sizeLine) : wpAny (model prog w) A (getItem (.ref t) (.ref sl)) Q E s := by
  have hz : sizeOk (.seq items.toList.reverse.toArray) := by show items.toList.reverse.toArray.size ≤ sizeLine; rw [List.size_toArray, List.length_reverse, Array.length_toList]; exact hsz
  obtain ⟨os, hos, hcs, hds⟩ := id hs
  have hTs : s.TypeIs (.ref sl) "slice" := ⟨os, hos, hcs⟩
  unfold getItem; refine wpAny_holding ?_
  refine wpAny_bind (wpAny_sequenceKey ht.typeIs (by decide) (wpAny_bind (wpAny_callSpecial?_slot (name := Str.ofString "__getitem__") ht.typeIs PyProof.Rows.slot_tuple_getitem (wpAny_call_entry PyProof.Rows.slot_tuple_getitem ht.typeIs entry_tuple_getitem ?_ (args_tuple_getitem _ _)))))
  show wpAny _ _ (Builtin.Tuple.tupleItemsOf (.ref t) >>= _) _ _ s
  refine wpAny_bind (tupleItemsOf_ ht (wpAny_bind (wpAny_typeOf hTs ?_))); rw [if_pos (by decide)]
  have happ : ∀ (A : Around) (Q : Int × Int × Nat → Shared → Prop) (E : Value → Shared → Prop), Q ((items.size : Int) - 1, -1, items.size) s → wpAny (model prog w) A (Builtin.Slice.sliceApplied (.ref sl) (pure (items.size : Int))) Q E s := by
    intro A Q E hq
    unfold Builtin.Slice.sliceApplied Builtin.Slice.sliceFields
    refine wpAny_bind (wpAny_bind (wpAny_field hos hds (x := .none) rfl (wpAny_bind (wpAny_field hos hds (x := .none) rfl (wpAny_bind (wpAny_field hos hds (x := .int (-1) u) rfl (wpAny_pure ?_)))))))
    refine wpAny_bind (slicePart_int ?_)
    show wpAny _ _ (if ((-1 : Int) == 0) = true then _ else _) _ _ s
    rw [if_neg (by decide)]; refine wpAny_bind (slicePart_none (wpAny_bind (slicePart_none (wpAny_bind (wpAny_pure ?_)))))
    have hp : Builtin.Slice.slicePlaces ((items.size : Int) - 1) (-1) (-1) = items.size := by
      unfold Builtin.Slice.slicePlaces
      rw [if_neg (by decide)]
      split
      · simp only [Int.neg_neg, Int.ediv_one]; omega
      · omega
    show wpAny _ _ (pure ((items.size : Int) - 1, (-1 : Int), Builtin.Slice.slicePlaces ((items.size : Int) - 1) (-1) (-1))) _ _ s
    rw [hp]
    exact wpAny_pure hq
  refine wpAny_bind (happ _ _ _ ?_)
  show wpAny _ _ (if (((items.size : Int) - 1) == 0 && (-1 : Int) == 1 && items.size == items.size) = true then _ else _) _ _ s
  rw [if_neg (by simp), rev_pick]
  first
    | exact wpAny_bind (m := Builtin.Tuple.tupleExact _) (wpAny_newObj_type (wpAny_pure ⟨_, rfl, wpAny_pure h⟩) hz)
    | exact wpAny_bind (m := Builtin.Tuple.tupleExact _) (wpAny_newObj_type (wpAny_bind (wpAny_pure (wpAny_pure ⟨_, rfl, wpAny_pure h⟩))) hz)
    | exact wpAny_bind (wpAny_bind (m := Builtin.Tuple.tupleExact _) (wpAny_newObj_type (wpAny_pure (wpAny_pure ⟨_, rfl, wpAny_pure h⟩)) hz))
    | exact wpAny_bind (wpAny_bind (m := Builtin.Tuple.tupleExact _) (wpAny_newObj_type (wpAny_pure ⟨_, rfl, wpAny_pure h⟩) hz))
end
def tRevT (K : PySem.W.Frag) (te : TE) : TE := fun σ H Q => te σ H fun x H1 => ∃ a xs, x = .ref a ∧ SqT K H1 a xs ∧ ∀ p, H1 p = none → Q (.ref p) (upd H1 p (.tup xs.reverse))
theorem pe_revT {X : Cx} {e : Expr} {te : TE} {k : Nat} {p1 p2 p3 pos : Pos} (he : PE X e te) : PE X (.Subscript e (.Slice none none (some (.UnaryOp .USub (.Constant (.int 1) k p1) p2)) p3) pos) (tRevT X.K te) := by
  refine ⟨fun pins s σ H Q I h => Subscript_ (thn (he.run pins s σ H _ I h) fun v s1 ⟨x, H1, I1, r1, a, xs, ex, hx, q⟩ => ?_)⟩
  subst ex
  cases r1
  have hst : PO X (some (.UnaryOp .USub (.Constant (.int 1) k p1) p2)) (tPart (tUn (rU fun i => .int (-i)) (tC (.int 1)))) := po_some (pe_un un_neg pe_int)
  refine wpAny_Slice (thn (po_none.run pins s1 σ H1 (fun o H2 => o = none ∧ H2 = H1) I1 ⟨rfl, rfl⟩) fun vl s2 ⟨l, H2, I2, pl, el, e2⟩ => ?_)
  subst el e2
  refine thn (po_none.run pins s2 σ H2 (fun o H3 => o = none ∧ H3 = H2) I2 ⟨rfl, rfl⟩) fun vu s3 ⟨u, H3, I3, pu, eu, e3⟩ => ?_
  subst eu e3
  refine thn (hst.run pins s3 σ H3 (fun o H4 => o = some (-1) ∧ H4 = H3) I3 ⟨1, rfl, -1, rfl, rfl, rfl⟩) fun vs s4 ⟨o, H4, I4, ps, eo, e4⟩ => ?_
  subst eo e4
  cases pl
  cases pu
  cases ps with
  | int i uk =>
  have I5 : Inv X pins σ H4 { s4 with heap := s4.heap.push { cls := .type "slice", data := .fields #[.none, .none, .int (-1) uk] } } := I4.kept (t' := s4.toks) fun b ob q => Heap.get?_push_of_some _ q
  obtain ⟨its, r, ht, hz⟩ := I5.tuple hx
  have hlen := r.length
  refine tail_any (ops := [.ref a, .ref s4.heap.objs.size]) ht.typeIs PyProof.Rows.slot_tuple_getitem.lookup ?_ (by with_unfolding_all rfl)
  refine getItem_tuple_rev ht (Heap.IsSliceOf.new ..) ⟨.ref _, _, I5.laid (t' := s4.toks) (o := .tup xs.reverse) (fun b ob q => Heap.get?_push_of_some _ q) (Nat.le_refl _) ?_, rfl, q _ (I5.hok.fresh (Nat.le_refl _))⟩ (by rw [List.size_toArray]; omega)
  exact ⟨by rw [List.length_reverse]; exact hz, _, r.reverse, IsTup.new _ _⟩
end My

/-! {**d, k: v} -/
namespace My
open PySem L2
section
variable {prog : Program} {w : World} {K : Type} [DecidableEq K] {knd : KeyKind prog w K} {A : Around} {E : Value → Shared → Prop} {s : Shared}
theorem any_idx {kvs : List (K × Value)} {k : K} {i : Nat} (h : (kvs.findIdx? fun kv => decide (kv.1 = k)) = some i) : (kvs.any fun kv => decide (kv.1 = k)) = true := by
  obtain ⟨hi, h1, _⟩ := List.findIdx?_eq_some_iff_getElem.mp h
  exact List.any_eq_true.mpr ⟨_, List.getElem_mem hi, h1⟩
theorem no_idx {kvs : List (K × Value)} {k : K} (h : (kvs.findIdx? fun kv => decide (kv.1 = k)) = none) : k ∉ kvs.map (·.1) := by
  intro hm
  obtain ⟨kv, hkv, he⟩ := List.mem_map.mp hm
  have := List.findIdx?_eq_none_iff.mp h kv hkv
  simp [he] at this
theorem dictPut_pairs {d : Addr} {kvs : List (K × Value)} {k : K} {key v : Value} {Q : Unit → Shared → Prop} (hkey : knd.is k key = true) (hm : s.heap.DictOf knd d kvs)
    (hQ : ∀ h', h'.DictOf knd d (stored kvs k v) → Heap.SameBut d s.heap h' → Q () { s with heap := h' }) (hsz : kvs.length ≤ sizeLine) : wpAny (model prog w) A (dictPut d (knd.hash k) key v) Q E s := by
  obtain ⟨o, es, ep, ho, hc, hd, hk, hp, hn⟩ := hm
  have hes : es.size ≤ sizeLine := by have e1 := hp.length; rw [Array.length_toList] at e1; omega
  have hidx : (es.findIdx? fun e => knd.is k e.key) = kvs.findIdx? fun kv => decide (kv.1 = k) := by rw [← hp.findIdx k]; obtain ⟨l⟩ := es; simp
  unfold dictPut
  refine wpAny_bind (wpAny_dictFind_of hkey ho hd hk ?_)
  cases hi : es.findIdx? fun e => knd.is k e.key with
  | some i =>
    refine wpAny_updateDict ho hd (hQ _ ⟨_, _, ep, Heap.get?_update_self _ ho (Obj.isFreed_of_dict (Obj.data_mapDict hd _)), hc.mapDict _, Obj.data_mapDict hd _, hk.modify _ _, ?_, ?_⟩ (Heap.SameBut.update ..))
    · rw [stored, if_pos (any_idx (hidx ▸ hi))]
      have hl : (es.toList.findIdx? fun e => knd.is k e.key) = some i := by rw [← hi]; obtain ⟨l⟩ := es; simp
      have := hp.modify hn hl v
      obtain ⟨l⟩ := es; simpa using this
    · rw [stored, if_pos (any_idx (hidx ▸ hi)), keys_map_store]; exact hn
  | none =>
    have hnot : k ∉ kvs.map (·.1) := no_idx (hidx ▸ hi)
    have hany : ¬ (kvs.any fun kv => decide (kv.1 = k)) = true := by
      rw [List.any_eq_true]; rintro ⟨kv, hkv, he⟩; exact hnot (List.mem_map.mpr ⟨kv, hkv, of_decide_eq_true he⟩)
    refine wpAny_updateDictKeys (hz := hes) ho hd (hQ _ ⟨_, _, ep + 1, Heap.get?_update_self _ ho (Obj.isFreed_of_dict (Obj.data_mapDictKeys hd _)), hc.mapDictKeys _, Obj.data_mapDictKeys hd _, hk.push hkey _, ?_, ?_⟩ (Heap.SameBut.update ..))
    · rw [stored, if_neg hany]
      have := hp.append hkey (knd.hash k) v
      obtain ⟨l⟩ := es; simpa using this
    · rw [stored, if_neg hany, List.map_append, List.nodup_append]
      refine ⟨hn, by simp, fun a ha b hb => ?_⟩
      simp only [List.map_cons, List.map_nil, List.mem_singleton] at hb
      subst hb; intro e; exact hnot (e ▸ ha)
/-- all entries of another dict, laid one by one -/
theorem merge_of {d o : Addr} {kvs more : List (K × Value)} {Q : Unit → Shared → Prop} (hdo : d ≠ o) (hoS : (o == sysModules) = false) (hd : s.heap.DictOf knd d kvs) (ho : s.heap.DictOf knd o more)
    (hQ : ∀ h', h'.DictOf knd d (merged kvs more) → h'.DictOf knd o more → Heap.SameBut d s.heap h' → Q () { s with heap := h' }) (hsz : kvs.length + more.length ≤ sizeLine) : wpAny (model prog w) A (mergeMapping d (.ref o) false) Q E s := by
  obtain ⟨od, esd, epd, hod, hcd, hdd, hkd, hpd, hnd⟩ := id hd
  obtain ⟨oo, eso, epo, hoo, hco, hdo', hko, hpo, hno⟩ := id ho
  have hlen : more.length = eso.size := by rw [← hpo.length]; simp
  unfold mergeMapping
  refine wpAny_bind (wpAny_bind (wpAny_typeOf ho.typeIs (wpAny_of_eq F.sub_dict_dict ?_)))
  rw [if_pos rfl]
  refine wpAny_bind (wpAny_specialOf ho.typeIs F.slot_dict_iter.lookup (wpAny_bind (wpAny_pure ?_)))
  show wpAny _ _ (if (o == sysModules) = true then _ else _) _ _ s
  rw [if_neg (by rw [hoS]; exact Bool.false_ne_true)]
  have loop : wpAny (model prog w) A (do
      let l ← dictEntries o
      let epoch ← dictEpoch o
      forIn (List.range l.size) PUnit.unit fun i (_ : PUnit) => (do
          let l' ← dictEntries o
          match l'[i]? with
            | some e => do
              holding [e.key, e.val] (dictPut d e.hash e.key e.val)
              let ep' ← dictEpoch o
              if (ep' != epoch) = true then do
                  (unsupported "dict.changed-during-merge" : Sem PUnit)
                  pure (ForInStep.yield PUnit.unit)
                else pure (ForInStep.yield PUnit.unit)
            | _ => do
              (unsupported "dict.changed-during-merge" : Sem PUnit)
              pure (ForInStep.yield PUnit.unit) : Sem (ForInStep PUnit))
      pure ()) Q E s := by
    refine wpAny_bind (wpAny_dictEntries hoo hdo' (wpAny_bind (wpAny_dictEpoch hoo hdo' (wpAny_bind ?_))))
    rw [List.range_eq_range']
    refine wpAny_forIn_list _ (fun rest _ s' => ∃ h' i, s' = { s with heap := h' } ∧ rest = List.range' i (eso.size - i) ∧ i ≤ eso.size ∧ h'.DictOf knd d (merged kvs (more.take i)) ∧ h'.get? o = some oo ∧ Heap.SameBut d s.heap h') _ ?_ ?_ _ _
      ⟨s.heap, 0, rfl, by simp, Nat.zero_le _, by simpa [merged] using hd, hoo, Heap.SameBut.refl _ _⟩
    · rintro x rest b s' ⟨h', i, rfl, hr, hi, hd', hoo', hs'⟩
      have hlt : i < eso.size := by
        apply Classical.byContradiction; intro h
        rw [Nat.sub_eq_zero_of_le (Nat.not_lt.mp h)] at hr; simp at hr
      obtain ⟨rfl, hrest⟩ : x = i ∧ rest = List.range' (i + 1) (eso.size - (i + 1)) := by
        rw [show eso.size - i = (eso.size - (i + 1)) + 1 by omega, List.range'_succ] at hr
        injection hr with h1 h2; exact ⟨h1, h2⟩
      refine wpAny_bind (wpAny_dictEntries hoo' hdo' ?_)
      rw [Array.getElem?_eq_getElem hlt]
      obtain ⟨⟨k, v⟩, hkv⟩ : ∃ kv, more[x]? = some kv := ⟨more[x]'(by rw [hlen]; exact hlt), List.getElem?_eq_getElem _⟩
      obtain ⟨hkey, hval⟩ := hpo.get? (e := eso[x]) (by simp [hlt]) hkv
      obtain ⟨k', hkey', hhash⟩ := hko eso[x] (Array.getElem_mem hlt)
      obtain rfl : k' = k := knd.inj _ _ _ hkey' hkey
      show wpAny _ _ (holding [eso[x].key, eso[x].val] (dictPut d eso[x].hash eso[x].key eso[x].val) >>= _) _ _ _
      rw [hhash, hval]
      have hmx : (merged kvs (more.take x)).length ≤ sizeLine := by
        have e1 := merged_length_le kvs (more.take x)
        rw [List.length_take] at e1; omega
      refine wpAny_bind (wpAny_holding (dictPut_pairs hkey hd' (fun h'' hd'' hs'' => ?_) hmx))
      have hoo'' : h''.get? o = some oo := (hs''.2 o (Ne.symm hdo)).trans hoo'
      refine wpAny_bind (wpAny_dictEpoch hoo'' hdo' ?_)
      rw [if_neg (by simp)]
      exact wpAny_pure ⟨h'', x + 1, rfl, hrest, hlt, by rw [merged_take_succ kvs more x (k', v) hkv]; exact hd'', hoo'', hs'.trans hs''⟩
    · rintro b s' ⟨h', i, rfl, hr, hi, hd', hoo', hs'⟩
      have hin : i = eso.size := by
        apply Classical.byContradiction; intro h
        rw [show eso.size - i = (eso.size - (i + 1)) + 1 by omega, List.range'_succ] at hr; exact nomatch hr
      refine wpAny_pure (hQ h' ?_ ⟨oo, eso, epo, hoo', hco, hdo', hko, hpo, hno⟩ hs')
      rw [hin, ← hlen, List.take_length] at hd'; exact hd'
  refine wpAny_bind (wpAny_dictEntries hod hdd ?_)
  dsimp only
  by_cases hemp : esd.isEmpty = true
  · rw [if_pos hemp]
    refine wpAny_bind (wpAny_dictEntries hoo hdo' ?_)
    have quiet : ∀ (f : DictEntry → PUnit → Sem (ForInStep PUnit)), (∀ e ∈ eso, ∀ u, f e u = pure (.yield u)) → forIn eso PUnit.unit f = pure PUnit.unit := by
      intro f hf
      rw [← Array.forIn_toList]
      exact forIn_yield_id _ fun e he c => hf e (Array.mem_toList_iff.mp he) c
    refine wpAny_bind (wpAny_of_eq (quiet _ fun e he u => ?_) loop)
    obtain ⟨k, hkey, _⟩ := hko e he
    have hb := knd.byValue k _ hkey
    revert hb
    cases e.key <;> intro hb <;> first | rfl | exact absurd hb Bool.false_ne_true
  · rw [if_neg hemp]
    exact loop
end
end My
namespace My
open PySem L2
/-- {**d, k: v}: D the new dict, D2 the one of the pair alone -/
def tMrg (td tk tv : TE) : TE := fun σ H Q => ∀ D, H D = none → td σ (upd H D (.dK [])) fun x H1 => H1 D = some (.dK []) ∧ ∃ (a : Addr) (kvs : List (Key × V)), x = .ref a ∧ H1 a = some (.dK kvs) ∧ a ≠ D ∧ kvs.length < sizeLine ∧
  ∀ D2, upd H1 D (.dK kvs) D2 = none → tk σ (upd (upd H1 D (.dK kvs)) D2 (.dK [])) fun y H2 => tv σ H2 fun z H3 => ∃ k, y = kV k ∧ H3 D = some (.dK kvs) ∧ H3 D2 = some (.dK []) ∧
    Q (.ref D) (upd (upd H3 D2 (.dK [(k, z)])) D (.dK (putK kvs k z)))
theorem pe_mrg {X : Cx} {d k v : Expr} {td tk tv : TE} {pos : Pos} (hd : PE X d td) (hk : PE X k tk) (hv : PE X v tv) : PE X (.Dict [none, some k] [d, v] pos) (tMrg td tk tv) := by
  refine ⟨fun pins s σ H Q I q => ?_⟩
  rw [arm_eval_Dict]
  refine wpAny_bind (wpAny_standAt ?_)
  have hsh : ((evalEachOpt [none, some k] X.env).zip ((evalEach [d, v] X.env).map fun v => do let x ← v; standAt pos; pure x)) =
      [(none, do let x ← eval d X.env; standAt pos; pure x), (some (eval k X.env), do let x ← eval v X.env; standAt pos; pure x)] := by
    rfl
  rw [hsh]
  unfold dictDisplay
  have hn := I.hok.fresh (Nat.le_refl s.heap.objs.size)
  have I1 := I.laid (a := s.heap.objs.size) (o := .dK []) (h' := s.heap.push { cls := .type "dict", data := .dict #[] }) (t' := s.toks) (fun _ _ q => Heap.get?_push_of_some _ q) (Nat.le_refl _) (dk_empty s.heap I.big)
  dsimp only
  rw [List.forIn_cons]
  refine wpAny_bind (wpAny_bind ?_)
  dsimp only
  refine wpAny_bind ?_
  rw [if_pos (by rfl)]
  refine wpAny_pure ?_
  dsimp only
  refine wpAny_bind (wpAny_alloc (wpAny_bind (wpAny_holding (wpAny_bind (thn (hd.run pins _ σ _ _ I1 (q _ hn)) fun u s1 ⟨x, H1, I2, rx, e1, a, kvs, ex, ea, hne, hz, q1⟩ => wpAny_bind (wpAny_standAt (wpAny_pure ?_)))))))
  subst ex
  obtain rfl : u = Value.ref a := rx
  generalize hD : s.heap.objs.size = D at *
  obtain ⟨z0, m0, vs0, r0, d0⟩ := dk_of I2.hok e1
  cases r0
  obtain ⟨za, ma, vsa, ra, da⟩ := dk_of I2.hok ea
  refine wpAny_bind (wpAny_onRaise (wpAny_tryCatch (wpAny_onRaise (wpAny_holding (merge_of (Ne.symm hne) ma d0 da (fun h1 hd1 ha1 sb1 => ?_) (by rw [List.length_nil, ← ra.length]; omega))))))
  have hno : (vsa.map (·.1)).Nodup := let ⟨_, _, _, _, _, _, _, _, n⟩ := da; n
  rw [merged_nil_of_nodup vsa hno] at hd1
  have I3 : Inv X pins σ (upd H1 D (.dK kvs)) { s1 with heap := h1, toks := s1.toks } := d_write I2 (by rw [e1]; exact True.intro) sb1 (let ⟨q, _, _, hq, _⟩ := hd1; ⟨q, hq⟩) (dk_new za m0 ra hd1)
  refine wpAny_pure ?_
  dsimp only
  rw [List.forIn_cons]
  refine wpAny_bind ?_
  dsimp only
  rw [if_neg (by simp)]
  refine wpAny_pure ?_
  dsimp only
  rw [List.forIn_nil]
  refine wpAny_pure ?_
  dsimp only
  rw [if_neg (by simp)]
  refine wpAny_bind (wpAny_bind (wpAny_holding ?_))
  have hn2 : upd H1 D (.dK kvs) ({ s1 with heap := h1, toks := s1.toks } : Shared).heap.objs.size = none := I3.hok.fresh (Nat.le_refl _)
  have I4 := I3.laid (a := h1.objs.size) (o := .dK []) (h' := h1.push { cls := .type "dict", data := .dict #[] }) (t' := s1.toks) (fun _ _ q => Heap.get?_push_of_some _ q) (Nat.le_refl _) (dk_empty h1 I3.big)
  refine wpAny_subDict (knd := mixKind X.prog X.w) (by simp) (evalPairs_cons (thn (hk.run pins _ σ _ _ I4 (q1 _ hn2)) fun uk s2 ⟨y, H2, I5, rk, q2⟩ => wpAny_bind (thn (hv.run pins _ σ _ _ I5 q2) fun uv s3 ⟨z, H3, I6, rv, k', ey, eD, eD2, q3⟩ => wpAny_bind (wpAny_standAt (wpAny_pure (evalPairs_nil ?_))))))
  subst ey
  dsimp only at eD2 q3 ⊢
  generalize h1.objs.size = D2 at *
  obtain ⟨z2, m2, vs2, r2, d2⟩ := dk_of I6.hok eD2
  cases r2
  refine ⟨[(k', uv)], ⟨kV_is rk, rfl, trivial⟩, d2, fun h4 hd4 sb4 => ?_⟩
  have hd4' : h4.DictOf (mixKind X.prog X.w) D2 [(k', uv)] := hd4
  have hl1 : ([(k', z)] : List (Key × V)).length ≤ sizeLine := by rw [sizeLine_eq]; simp
  have I7 : Inv X pins σ (upd H3 D2 (.dK [(k', z)])) { s3 with heap := h4, toks := s3.toks + 1 } := d_write I6 (by rw [eD2]; exact True.intro) sb4 (let ⟨q, _, _, hq, _⟩ := hd4; ⟨q, hq⟩) (dk_new hl1 m2 (.cons ⟨rfl, rv⟩ .nil) hd4')
  have hDD : D ≠ D2 := ne_of_none (upd_same (H := H1) (a := D) (o := .dK kvs)) hn2
  have eD' : upd H3 D2 (.dK [(k', z)]) D = some (.dK kvs) := by rw [upd_ne hDD]; exact eD
  obtain ⟨z5, m5, vs5, r5, d5⟩ := dk_of I7.hok eD'
  have hl5 : vs5.length = kvs.length := r5.length.symm
  refine wpAny_bind (wpAny_onRaise (wpAny_holding (merge_of hDD m2 d5 hd4' (fun h6 hd6 ha6 sb6 => wpAny_pure (wpAny_pure ?_)) (by rw [hl5]; simp; omega))))
  have hput : KV (putK kvs k' z) (stored vs5 k' uv) := KV.put r5 k' rv
  have hl6 : (putK kvs k' z).length ≤ sizeLine := by have := length_putK kvs k' z; omega
  exact ⟨.ref D, _, d_write I7 (by rw [eD']; exact True.intro) sb6 (let ⟨q, _, _, hq, _⟩ := hd6; ⟨q, hq⟩) (dk_new hl6 m5 hput hd6), rfl, q3⟩
end My

namespace My
open PySem L2
open PyProof.Rows (envOfC)

/-! ### a def of the text, called by its name -/
structure Df (P : Program) (w : World) (K : PySem.W.Frag) (mg : Str → Option Value) (base : Heap) (k : Nat) (x : Str) (ps : List Str) (sp : Sp) : Prop where
  ex : ∃ (f : Addr) (fd : FuncData), FnOk P w K mg base CX0 k f fd ps sp ∧ mg x = some (.ref f) ∧ PySem.W.keepIn K (.ref f) = true ∧ Binds K fd ps []
/-- a def stands at the module's name -/
def FunAt (K : PySem.W.Frag) (mg : Str → Option Value) (x : Str) (st : Stmt) : Prop := ∃ (f : Addr) (fd : FuncData), Fun K x x st f fd ∧ mg x = some (.ref f)
/-- how a def's parameters bind -/
def BindAll (x : Str) (st : Stmt) (ps : List Str) : Prop := ∀ (kV doc pm : Value) (an : Option Addr) (cdv ct : Value) (us : List Value), us.length = ps.length → bindArgs (PySem.W.fnOf x x (defArgs st) (defBody st) (defScope st) .none kV doc pm an cdv ct) ⟨us, []⟩ = pure (ps.zip us)
section
variable {P : Program} {w : World} {K : PySem.W.Frag} {mg : Str → Option Value} {base : Heap}
theorem FunAt.df {x : Str} {st : Stmt} {N ps : List Str} {k : Nat} {sp : Sp} (F : FunAt K mg x st) (S : FnScope N ps (defScope st)) (hb : BindAll x st ps) (len : ∀ vs H Q E, sp vs H Q E → vs.length = ps.length)
    (hbody : ∀ (f : Addr) (cdv : Value) (A : Around) (outer : List Env) (s : Shared) (H : Hp) (vs : List V) (Q : VK) (E : XK), Room k (A.deeper (envOfC x (defScope st) s.heap.objs.size f cdv)) → sp vs H Q E →
      ∃ t, PSs (cxOf CX0 P w K mg base N x (defScope st) f cdv A outer s H E).nox (defBody st) t ∧ t { nx := fun _ H' => Q .non H', rt := Q } (start N vs) H) : Df P w K mg base (k + 1) x ps sp := by
  obtain ⟨f, fd, h, m⟩ := F
  exact ⟨f, fd, h.ok S len (hbody f), m, h.kp, h.binds hb⟩
theorem FunAt.mk {l : Heap} {x : Str} {st : Stmt} {f : Addr} {oc : Value} {od an : Option Addr} {osl : Array (Option Value)} {kV doc pm cdv ct : Value} (X : K.In l) (G : l.Ns mainGlobals mg) (a : PySem.W.nsIn K mainGlobals x = some (some (.ref f)))
    (lk : K.lookup f = some ⟨oc, od, .func (PySem.W.fnOf x x (defArgs st) (defBody st) (defScope st) .none kV doc pm an cdv ct), osl⟩) (c : PySem.W.codeIn K cdv x = true) (k : PySem.W.keepIn K (.ref f) = true) : FunAt K mg x st :=
  ⟨f, _, fun_mk (st := st) lk c k, PySem.W.mg_of X G a⟩
theorem Df.imp {k : Nat} {x : Str} {ps : List Str} {sp sp' : Sp} (D : Df P w K mg base k x ps sp) (h : ∀ vs H Q E, sp' vs H Q E → sp vs H Q E) : Df P w K mg base k x ps sp' := by
  obtain ⟨f, fd, F, m, kp, b⟩ := D.ex
  exact ⟨f, fd, F.imp h, m, kp, b⟩
end
def tCallD (sp : Sp) (t : TA) : TE := fun σ H Q => t σ H fun vs H1 => sp vs H1 Q E0
section
variable {X : Cx} {j k : Nat} {x : Str} {ps : List Str} {sp : Sp} {p pos : Pos} {e : Expr} {es : List Expr} {t : TA}
theorem pe_callD (D : Df X.prog X.w X.K X.mg X.base j x ps sp) (hr : Room k X.A) (hj : j ≤ k) (hg : Gl X x) (ha : PA X (e :: es) t) (hdb : (x == ("__debug__" : Str)) = false := by decide)
    (he : starEach (e :: es) X.env = (false, eval e X.env) :: starEach es X.env := by rfl) (hpl : (backTo pos (starEach es X.env)).any (·.1) = false := by rfl) :
    PE X (.Call (.Name x p) (e :: es) [] pos) (tCallD sp t) := by
  obtain ⟨f, fd, F, m, kp, b⟩ := D.ex
  have h : PE X (.Call (.Name x p) (e :: es) [] pos) (tCall sp [] E0 t) := pe_call F (hr.mono hj) hg m kp b .nil pass0 ha hdb he hpl
  refine ⟨fun pins s σ H Q I q => h.run pins s σ H Q I ?_⟩
  unfold tCall
  unfold tCallD at q
  simpa only [List.append_nil] using q
theorem pe_callD0 (D : Df X.prog X.w X.K X.mg X.base j x ps sp) (hr : Room k X.A) (hj : j ≤ k) (hg : Gl X x) (hdb : (x == ("__debug__" : Str)) = false := by decide) :
    PE X (.Call (.Name x p) [] [] pos) (tCallD sp tNil) := by
  obtain ⟨f, fd, F, m, kp, b⟩ := D.ex
  have h : PE X (.Call (.Name x p) [] [] pos) (tCall sp [] E0 tNil) := pe_call0 F (hr.mono hj) hg m kp b .nil pass0 hdb
  refine ⟨fun pins s σ H Q I q => h.run pins s σ H Q I ?_⟩
  unfold tCall
  unfold tCallD at q
  simpa only [List.append_nil] using q
end

/-! ### statements, one at a time -/
theorem seq_ {t u : TS} {D : Ends} {σ : St} {H : Hp} (h : ∀ R : St → Hp → Prop, R = u D → t { D with nx := R } σ H) : tSeq t u D σ H := h _ rfl
theorem while_ {c : TT} {tb : TS} {D : Ends} {σ : St} {H : Hp} (W : Nat → St → Hp → Prop) (m : Nat) (w0 : W m σ H)
    (h : ∀ m σ H, W m σ H → c σ H fun b H1 => if b = true then (∀ N : St → Hp → Prop, (∀ m' σ' H', m' < m → W m' σ' H' → N σ' H') → tb { D with nx := N, ct := N, bk := D.nx } σ H1) else D.nx σ H1)
    (mono : ∀ σ H (Q Q' : Bool → Hp → Prop), (∀ b H1, Q b H1 → Q' b H1) → c σ H Q → c σ H Q') : tWhile c tb D σ H := by
  refine ⟨W, ⟨m, w0⟩, fun m σ H w => mono σ H _ _ (fun b H1 q => ?_) (h m σ H w)⟩
  cases b with
  | true => exact ⟨fun σ' H' => ∃ m', m' < m ∧ W m' σ' H', fun _ _ n => n, q _ fun m' _ _ l w' => ⟨m', l, w'⟩⟩
  | false => exact q
theorem ife {c : Prop} [Decidable c] {A B : Prop} : (if (decide c) = true then A else B) ↔ (if c then A else B) := by by_cases h : c <;> simp [h]

/-! ### heaps -/
/-- tuples are kept -/
def KT (H H' : Hp) : Prop := ∀ a xs, H a = some (.tup xs) → H' a = some (.tup xs)
theorem KT.refl (H : Hp) : KT H H := fun _ _ h => h
theorem KT.trans {H H1 H2 : Hp} (a : KT H H1) (b : KT H1 H2) : KT H H2 := fun c o h => b c o (a c o h)
theorem same_kt {H H' : Hp} (e : Same H H') : KT H H' := fun a _ h => e a _ h
theorem same_new {H : Hp} {p : Addr} {o : HO} (h : H p = none) : Same H (upd H p o) := fun b u q => by rw [upd_ne (ne_of_none q h)]; exact q
theorem kt_new {H : Hp} {p : Addr} {o : HO} (h : H p = none) : KT H (upd H p o) := same_kt (same_new h)
theorem kt_lst {H : Hp} {l : Addr} {xs : List V} {o : HO} (h : H l = some (.lst xs)) : KT H (upd H l o) := fun b u q => by
  rw [upd_ne (ne_of q h (by intro z; cases z))]; exact q
/-- what H did not know may change -/
theorem same_mut {H H' : Hp} {p : Addr} {o : HO} (e : Same H H') (h : H p = none) : Same H (upd H' p o) := fun a u ha => by
  rw [upd_ne (ne_of_none ha h)]
  exact e a u ha
end My
namespace My
open PySem L2
open PyProof.Rows (envOfC)
/-! ### more for the readings -/
def GInt (mg : Str → Option Value) (x : Str) (n : Int) : Prop := ∃ t, mg x = some (.int n t)
theorem pe_gint {X : Cx} {x : Str} {n : Int} {pos : Pos} (hg : Gl X x) (h : GInt X.mg x n) (hd : (x == ("__debug__" : Str)) = false := by decide) : PE X (.Name x pos) (tC (.int n)) := by
  obtain ⟨t, h⟩ := h
  exact pe_glob hg h ⟨t, rfl⟩ hd
def GStr (mg : Str → Option Value) (x : Str) (z : Str) : Prop := ∃ t, mg x = some (.str z t)
theorem pe_gstr {X : Cx} {x z : Str} {pos : Pos} (hg : Gl X x) (h : GStr X.mg x z) (hd : (x == ("__debug__" : Str)) = false := by decide) : PE X (.Name x pos) (tC (.str z)) := by
  obtain ⟨t, h⟩ := h
  exact pe_glob hg h ⟨t, rfl⟩ hd
/-- d[z] of a written dict -/
def RdK (K : PySem.W.Frag) (w : World) (p : Addr) (z : Str) (r : V) : Prop := ∃ (es : Array DictEntry) (n : Nat) (u0 : Value), K.lookup p = some ⟨.type "dict", none, .dict es n, #[]⟩ ∧ PySem.W.KeysLit w.params es.toList ∧ PySem.W.nsIn K p z = some (some u0) ∧ RelV r u0
def rRdK (K : PySem.W.Frag) (w : World) : R2 := fun x y H Q => ∃ (p : Addr) (z : Str) (r : V), x = .ref p ∧ y = .str z ∧ RdK K w p z r ∧ Q r H
theorem ix_kd {X : Cx} : IxR X (rRdK X.K X.w) := ix_kdict
section
variable {CX : CXT} {P : Program} {w : World} {K : PySem.W.Frag} {mg : Str → Option Value} {base : Heap} {N : List Str} {qual : Str} {scope : Scope} {f : Addr} {cd : Value} {A : Around} {outer : List Env} {s : Shared} {H : Hp} {E : XK}
theorem cx_K : (cxOf CX P w K mg base N qual scope f cd A outer s H E).K = K := rfl
theorem cx_w : (cxOf CX P w K mg base N qual scope f cd A outer s H E).w = w := rfl
end

/-! ### trees -/
inductive Tr where
  | num (n : Int) | name (x : Str) | fn (x : Str) (b : Tr) | call (f a : Tr) | plus (a b : Tr) | less (a b : Tr) | ite (c a b : Tr) | lt (x : Str) (e b : Tr)
  deriving DecidableEq
def Tr.kids : Tr → List Tr
  | .num _ => [] | .name _ => [] | .fn _ b => [b] | .call f a => [f, a] | .plus a b => [a, b] | .less a b => [a, b] | .ite c a b => [c, a, b] | .lt _ e b => [e, b]
def Tr.word : Tr → Str
  | .num _ => "num" | .name _ => "name" | .fn _ _ => "fun" | .call _ _ => "call" | .plus _ _ => "plus" | .less _ _ => "less" | .ite _ _ _ => "if" | .lt _ _ _ => "let"
/-- what stands behind the word, ahead of the parts -/
def Tr.own : Tr → List V
  | .num n => [.int n] | .name x => [.str x] | .fn x _ => [.str x] | .lt x _ _ => [.str x] | _ => []
def Tr.size : Tr → Nat
  | .num _ => 1 | .name _ => 1 | .fn _ b => 1 + b.size | .call f a => 1 + f.size + a.size | .plus a b => 1 + a.size + b.size | .less a b => 1 + a.size + b.size
  | .ite c a b => 1 + c.size + a.size + b.size | .lt _ e b => 1 + e.size + b.size
theorem Tr.size_pos : ∀ t : Tr, 0 < t.size := fun t => by cases t <;> simp only [Tr.size] <;> omega
def sizes (ts : List Tr) : Nat := (ts.map Tr.size).sum
theorem sizes_nil : sizes [] = 0 := rfl
theorem sizes_cons (t : Tr) (ts : List Tr) : sizes (t :: ts) = t.size + sizes ts := by simp [sizes]
theorem sizes_append (ts us : List Tr) : sizes (ts ++ us) = sizes ts + sizes us := by simp [sizes]
theorem Tr.size_kids (t : Tr) : t.size = 1 + sizes t.kids := by
  cases t <;> simp only [Tr.size, Tr.kids, sizes_cons, sizes_nil] <;> omega
theorem le_sizes : ∀ ts : List Tr, ts.length ≤ sizes ts
  | [] => Nat.le_refl _
  | t :: ts => by
    have := le_sizes ts
    have := t.size_pos
    rw [sizes_cons, List.length_cons]
    omega
theorem kids_le (t : Tr) : t.kids.length ≤ 3 := by cases t <;> simp [Tr.kids]
/-- the tree stands in the heap at v -/
def At (H : Hp) : Tr → V → Prop
  | .num n, v => ∃ a, v = .ref a ∧ H a = some (.tup [.str "num", .int n])
  | .name x, v => ∃ a, v = .ref a ∧ H a = some (.tup [.str "name", .str x])
  | .fn x b, v => ∃ a u, v = .ref a ∧ H a = some (.tup [.str "fun", .str x, u]) ∧ At H b u
  | .call f g, v => ∃ a u u', v = .ref a ∧ H a = some (.tup [.str "call", u, u']) ∧ At H f u ∧ At H g u'
  | .plus f g, v => ∃ a u u', v = .ref a ∧ H a = some (.tup [.str "plus", u, u']) ∧ At H f u ∧ At H g u'
  | .less f g, v => ∃ a u u', v = .ref a ∧ H a = some (.tup [.str "less", u, u']) ∧ At H f u ∧ At H g u'
  | .ite c f g, v => ∃ a u u' u'', v = .ref a ∧ H a = some (.tup [.str "if", u, u', u'']) ∧ At H c u ∧ At H f u' ∧ At H g u''
  | .lt x f g, v => ∃ a u u', v = .ref a ∧ H a = some (.tup [.str "let", .str x, u, u']) ∧ At H f u ∧ At H g u'
theorem At.mono {H H' : Hp} (k : KT H H') : ∀ {t : Tr} {v : V}, At H t v → At H' t v
  | .num _, _, ⟨a, e, h⟩ => ⟨a, e, k _ _ h⟩
  | .name _, _, ⟨a, e, h⟩ => ⟨a, e, k _ _ h⟩
  | .fn _ _, _, ⟨a, u, e, h, h1⟩ => ⟨a, u, e, k _ _ h, At.mono k h1⟩
  | .call _ _, _, ⟨a, u, u', e, h, h1, h2⟩ => ⟨a, u, u', e, k _ _ h, At.mono k h1, At.mono k h2⟩
  | .plus _ _, _, ⟨a, u, u', e, h, h1, h2⟩ => ⟨a, u, u', e, k _ _ h, At.mono k h1, At.mono k h2⟩
  | .less _ _, _, ⟨a, u, u', e, h, h1, h2⟩ => ⟨a, u, u', e, k _ _ h, At.mono k h1, At.mono k h2⟩
  | .ite _ _ _, _, ⟨a, u, u', u'', e, h, h1, h2, h3⟩ => ⟨a, u, u', u'', e, k _ _ h, At.mono k h1, At.mono k h2, At.mono k h3⟩
  | .lt _ _ _, _, ⟨a, u, u', e, h, h1, h2⟩ => ⟨a, u, u', e, k _ _ h, At.mono k h1, At.mono k h2⟩
abbrev Ats (H : Hp) (ts : List Tr) (vs : List V) : Prop := Paired (At H) ts vs
theorem Ats.mono {H H' : Hp} (k : KT H H') {ts : List Tr} {vs : List V} (h : Ats H ts vs) : Ats H' ts vs := Paired.mapP h fun _ _ => At.mono k
theorem At.view {H : Hp} {t : Tr} {v : V} (h : At H t v) : ∃ a ws, v = .ref a ∧ H a = some (.tup (.str t.word :: t.own ++ ws)) ∧ Ats H t.kids ws := by
  cases t with
  | num n => obtain ⟨a, e, h⟩ := h; exact ⟨a, [], e, h, .nil⟩
  | name x => obtain ⟨a, e, h⟩ := h; exact ⟨a, [], e, h, .nil⟩
  | fn x b => obtain ⟨a, u, e, h, h1⟩ := h; exact ⟨a, [u], e, h, .cons h1 .nil⟩
  | call f g => obtain ⟨a, u, u', e, h, h1, h2⟩ := h; exact ⟨a, [u, u'], e, h, .cons h1 (.cons h2 .nil)⟩
  | plus f g => obtain ⟨a, u, u', e, h, h1, h2⟩ := h; exact ⟨a, [u, u'], e, h, .cons h1 (.cons h2 .nil)⟩
  | less f g => obtain ⟨a, u, u', e, h, h1, h2⟩ := h; exact ⟨a, [u, u'], e, h, .cons h1 (.cons h2 .nil)⟩
  | ite c f g => obtain ⟨a, u, u', u'', e, h, h1, h2, h3⟩ := h; exact ⟨a, [u, u', u''], e, h, .cons h1 (.cons h2 (.cons h3 .nil))⟩
  | lt x f g => obtain ⟨a, u, u', e, h, h1, h2⟩ := h; exact ⟨a, [u, u'], e, h, .cons h1 (.cons h2 .nil)⟩
theorem Ats.append {H : Hp} : ∀ {ts us : List Tr} {vs ws : List V}, Ats H ts vs → Ats H us ws → Ats H (ts ++ us) (vs ++ ws)
  | _, _, _, _, .nil, h => h
  | _, _, _, _, .cons r t, h => .cons r (Ats.append t h)
theorem Ats.snoc_inv {H : Hp} : ∀ {ts : List Tr} {vs : List V} {v : V}, Ats H ts (vs ++ [v]) → ∃ us t, ts = us ++ [t] ∧ Ats H us vs ∧ At H t v
  | _, [], v, .cons r .nil => ⟨[], _, rfl, .nil, r⟩
  | _, u :: vs, v, .cons r t => by
    obtain ⟨us, x, e, h1, h2⟩ := Ats.snoc_inv t
    exact ⟨_ :: us, x, by rw [e]; rfl, .cons r h1, h2⟩
end My
namespace My
open PySem L2
open PyProof.Rows (envOfC)
section
variable {X : Cx}
def rPopL : V → List V → Hp → VK → Prop := fun x vs H Q => ∃ (l : Addr) (ys : List V) (y : V), x = .ref l ∧ vs = [] ∧ H l = some (.lst (ys ++ [y])) ∧ Q y (upd H l (.lst ys))
theorem mt_popL : MtM X "list.pop" rPopL := by
  intro pins s σ H x vs v us Q I rx rv h
  obtain ⟨l, ys, y, e1, e2, hH, q⟩ := h
  refine mt_pop pins s σ H x vs v us Q I rx rv ⟨l, ys ++ [y], y, e1, e2, hH, by simp, ?_⟩
  rw [List.dropLast_concat]
  exact q
end
/-- a loop while a list at a name is not empty -/
theorem whileL_ {K : PySem.W.Frag} {i : Nat} {tb : TS} {D : Ends} {σ : L2.St} {H : Hp} (W : Nat → L2.St → Hp → Prop) (m : Nat) (w0 : W m σ H)
    (h : ∀ m σ H, W m σ H → ∃ (l : Addr) (xs : List V), σ[i]? = some (some (.ref l)) ∧ H l = some (.lst xs) ∧ (xs = [] → D.nx σ H) ∧
      (∀ ys v, xs = ys ++ [v] → ∀ N : L2.St → Hp → Prop, (∀ m' σ' H', m' < m → W m' σ' H' → N σ' H') → tb { D with nx := N, ct := N, bk := D.nx } σ H)) :
    tWhile (fun σ H Q => tVar i σ H fun x H' => ∃ k, TruV K x H' k ∧ Q k H') tb D σ H := by
  refine ⟨W, ⟨m, w0⟩, fun m σ H w => ?_⟩
  obtain ⟨l, xs, e, hl, h0, h1⟩ := h m σ H w
  refine ⟨_, e, !xs.isEmpty, .inl ⟨xs, SqL.of hl, rfl⟩, ?_⟩
  rcases List.eq_nil_or_concat xs with r | ⟨ys, v, r⟩
  · subst r
    exact h0 rfl
  · rw [List.concat_eq_append] at r
    have hne : (!xs.isEmpty) = true := by rw [r]; simp
    rw [hne]
    exact ⟨fun σ' H' => ∃ m', m' < m ∧ W m' σ' H', fun _ _ n => n, h1 ys v r _ fun m' _ _ l w' => ⟨m', l, w'⟩⟩
end My
namespace My
open PySem L2
theorem pe_gref {X : Cx} {x : Str} {a : Addr} {pos : Pos} (hg : Gl X x) (h : X.mg x = some (.ref a)) (hd : (x == ("__debug__" : Str)) = false := by decide) : PE X (.Name x pos) (tC (.ref a)) := pe_glob hg h rfl hd
end My
namespace My
open PySem L2
theorem szL {n : Nat} (h : n ≤ 100000) : n ≤ sizeLine := Nat.le_trans h (by decide)
theorem szLt {n : Nat} (h : n ≤ 100000) : n < sizeLine := Nat.lt_of_le_of_lt h (by decide)
theorem none_ne {H : Hp} {a b : Addr} {o : HO} (h : H a = none) (h' : H b = some o) : a ≠ b := fun e => by rw [e, h'] at h; cases h
end My
namespace My
open PySem L2
/-! ### comprehensions -/
def LcGo (J : It) (g : TG) (tt : TT) (te : TE) (vs : List Nat) (σ : L2.St) (H1 : Hp) (Q : VK) : Prop := ∀ D, H1 D = none → ∃ W : Nat → Nat → Hp → Prop, (∃ m, W 0 m (upd H1 D (.lst []))) ∧ ∀ i m H, W i m H →
  (J.stop i H ∧ Q (.ref D) H) ∨ (J.go i H ∧ ∃ Nx : Hp → Prop, (∀ H', Nx H' → ∃ m', m' < m ∧ W (i + 1) m' H') ∧ ∀ x H', J.yld i H x H' → g x (wipe σ vs) H' fun σ2 H2 => wipe σ2 vs = wipe σ vs ∧ tt σ2 H2 fun b H3 =>
    if b = true then te σ2 H3 fun y H4 => ∃ acc, H4 D = some (.lst acc) ∧ acc.length < sizeLine ∧ Nx (upd H4 D (.lst (acc ++ [y]))) else Nx H3)
theorem tLc_eq {wi : TI} {g : TG} {tt : TT} {te : TE} {vs : List Nat} {σ : L2.St} {H : Hp} {Q : VK} : tLc wi g tt te vs σ H Q = wi σ H fun J H1 => LcGo J g tt te vs σ H1 Q := rfl
section
variable {K : PySem.W.Frag} {a : Addr} {xs : List V} {j : Nat} {tt : TT} {te : TE} {vs : List Nat} {σ : L2.St} {H1 : Hp} {Q : VK}
/-- what a turn has to show -/
def LcTurn (tt : TT) (te : TE) (σ2 : L2.St) (P : Nat → List V → Hp → Prop) (i : Nat) (acc : List V) (H : Hp) : Prop :=
  ∀ Qy : VK, (∀ y H4, Same H H4 → P (i + 1) (acc ++ [y]) H4 → Qy y H4) → ∀ Qn : Hp → Prop, (∀ H3, Same H H3 → P (i + 1) acc H3 → Qn H3) → tt σ2 H fun b H3 => if b = true then te σ2 H3 Qy else Qn H3
/-- the invariant behind i items -/
def LcInv (H1 : Hp) (D : Addr) (P : Nat → List V → Hp → Prop) (i : Nat) (H : Hp) : Prop := ∃ acc, H D = some (.lst acc) ∧ acc.length ≤ i ∧ Same H1 H ∧ P i acc H
theorem lc_turn {D : Addr} {P : Nat → List V → Hp → Prop} (mono : ∀ i acc H H', KT H H' → P i acc H → P i acc H') {i : Nat} {H : Hp} {σ2 : L2.St} (hD : H1 D = none) (hi : i ≤ 100000)
    (hp : LcInv H1 D P i H) (hs : ∀ acc, acc.length ≤ i → Same H1 H → P i acc H → LcTurn tt te σ2 P i acc H) :
    tt σ2 H fun b H3 => if b = true then te σ2 H3 fun y H4 => ∃ acc, H4 D = some (.lst acc) ∧ acc.length < sizeLine ∧ LcInv H1 D P (i + 1) (upd H4 D (.lst (acc ++ [y]))) else LcInv H1 D P (i + 1) H3 := by
  obtain ⟨acc, h1, h2, h3, h4⟩ := hp
  refine hs acc h2 h3 h4 _ (fun y H4 e p => ⟨acc, e _ _ h1, szLt (by omega), acc ++ [y], upd_same, by simp; omega, same_mut (h3.trans e) hD, mono _ _ _ _ (kt_lst (e _ _ h1)) p⟩) _
    (fun H3 e p => ⟨acc, e _ _ h1, by omega, h3.trans e, p⟩)
theorem lcL (P : Nat → List V → Hp → Prop) (mono : ∀ i acc H H', KT H H' → P i acc H → P i acc H') (hx : SqL K H1 a xs) (hl : xs.length ≤ 100000) (hw : ∀ x, wipe ((wipe σ vs).set j (some x)) vs = wipe σ vs) (h0 : P 0 [] H1)
    (hs : ∀ i x acc H, xs[i]? = some x → acc.length ≤ i → Same H1 H → P i acc H → LcTurn tt te ((wipe σ vs).set j (some x)) P i acc H)
    (hq : ∀ D ys H', H1 D = none → Same H1 H' → H' D = some (.lst ys) → P xs.length ys H' → Q (.ref D) H') : LcGo (Itl K a) (gName j) tt te vs σ H1 Q := fun D hD =>
  lc_list (xs := xs) (LcInv H1 D P) ⟨[], upd_same, Nat.zero_le _, same_new hD, mono _ _ _ _ (kt_new hD) h0⟩ (fun i H _ ⟨_, _, _, e, _⟩ => e.seq hx)
    (fun i x H hi p => ⟨hw x, lc_turn mono hD (by have := (List.getElem?_eq_some_iff.mp hi).1; omega) p fun acc h2 h3 h4 => hs i x acc H hi h2 h3 h4⟩)
    (fun H ⟨acc, h1, h2, h3, h4⟩ => hq D acc H hD h3 h1 h4)
theorem Same_seqT {H H' : Hp} (e : Same H H') (h : SqT K H a xs) : SqT K H' a xs := by
  rcases h with (h | ⟨o, h⟩) | h
  · exact .inl (.inl (e _ _ h))
  · exact .inl (.inr ⟨o, e _ _ h⟩)
  · exact .inr h
theorem lcT (P : Nat → List V → Hp → Prop) (mono : ∀ i acc H H', KT H H' → P i acc H → P i acc H') (hx : SqT K H1 a xs) (hl : xs.length ≤ 100000) (hw : ∀ x, wipe ((wipe σ vs).set j (some x)) vs = wipe σ vs) (h0 : P 0 [] H1)
    (hs : ∀ i x acc H, xs[i]? = some x → acc.length ≤ i → Same H1 H → P i acc H → LcTurn tt te ((wipe σ vs).set j (some x)) P i acc H)
    (hq : ∀ D ys H', H1 D = none → Same H1 H' → H' D = some (.lst ys) → P xs.length ys H' → Q (.ref D) H') : LcGo (Itt K a) (gName j) tt te vs σ H1 Q := fun D hD =>
  lc_tup (xs := xs) (LcInv H1 D P) ⟨[], upd_same, Nat.zero_le _, same_new hD, mono _ _ _ _ (kt_new hD) h0⟩ (fun i H _ ⟨_, _, _, e, _⟩ => Same_seqT e hx)
    (fun i x H hi p => ⟨hw x, lc_turn mono hD (by have := (List.getElem?_eq_some_iff.mp hi).1; omega) p fun acc h2 h3 h4 => hs i x acc H hi h2 h3 h4⟩)
    (fun H ⟨acc, h1, h2, h3, h4⟩ => hq D acc H hD h3 h1 h4)
theorem lcR {lo : Int} {n : Nat} (P : Nat → List V → Hp → Prop) (mono : ∀ i acc H H', KT H H' → P i acc H → P i acc H') (hl : n ≤ 100000) (hw : ∀ x, wipe ((wipe σ vs).set j (some x)) vs = wipe σ vs) (h0 : P 0 [] H1)
    (hs : ∀ i acc H, i < n → acc.length ≤ i → Same H1 H → P i acc H → LcTurn tt te ((wipe σ vs).set j (some (.int (lo + i)))) P i acc H)
    (hq : ∀ D ys H', H1 D = none → Same H1 H' → H' D = some (.lst ys) → P n ys H' → Q (.ref D) H') : LcGo (Itr lo n) (gName j) tt te vs σ H1 Q := fun D hD =>
  lc_range (LcInv H1 D P) ⟨[], upd_same, Nat.zero_le _, same_new hD, mono _ _ _ _ (kt_new hD) h0⟩
    (fun i H hi p => ⟨hw _, lc_turn mono hD (by omega) p fun acc h2 h3 h4 => hs i acc H hi h2 h3 h4⟩)
    (fun H ⟨acc, h1, h2, h3, h4⟩ => hq D acc H hD h3 h1 h4)
/-- a copy -/
theorem lcT_copy (hx : SqT K H1 a xs) (hl : xs.length ≤ 100000) (hw : ∀ x, wipe ((wipe σ vs).set j (some x)) vs = wipe σ vs) (hj : ∀ x, ((wipe σ vs).set j (some x))[j]? = some (some x))
    (hq : ∀ D H', H1 D = none → Same H1 H' → H' D = some (.lst xs) → Q (.ref D) H') : LcGo (Itt K a) (gName j) tYes (tVar j) vs σ H1 Q := by
  refine lcT (fun i acc _ => acc = xs.take i) (fun _ _ _ _ _ h => h) hx hl hw rfl (fun i x acc H hi _ _ hp Qy hy Qn hn => ?_) (fun D ys H' hD e h p => hq D H' hD e (by rw [h, p, List.take_length]))
  show tVar j _ H Qy
  refine ⟨x, hj x, hy x H (Same.refl H) ?_⟩
  rw [hp]
  obtain ⟨h1, h2⟩ := List.getElem?_eq_some_iff.mp hi
  rw [List.take_succ, hi]
  rfl
end
end My
namespace My
open PySem L2
def Tr.leaf : Tr → Bool | .num _ => true | .name _ => true | _ => false
def Tr.binds : Tr → Bool | .fn _ _ => true | .lt _ _ _ => true | _ => false
theorem in_leaf (t : Tr) : inV (V.str t.word) [V.str "num", V.str "name"] = t.leaf := by cases t <;> simp only [Tr.word, Tr.leaf] <;> decide +kernel
theorem in_binds (t : Tr) : inV (V.str t.word) [V.str "fun", V.str "let"] = t.binds := by cases t <;> simp only [Tr.word, Tr.binds] <;> decide +kernel
end My
namespace My
open PySem L2
theorem ifs_ {c : TT} {t u : TS} {D : Ends} {σ : L2.St} {H : Hp} (h : ∀ A B : Hp → Prop, A = (fun H1 => t D σ H1) → B = (fun H1 => u D σ H1) → c σ H fun b H1 => if b = true then A H1 else B H1) : tIfS c t u D σ H := h _ _ rfl rfl
theorem ifq_ {c : TT} {t u r : TS} {D : Ends} {σ : L2.St} {H : Hp} (h : ∀ (R : L2.St → Hp → Prop) (A B : Hp → Prop), R = r D → A = (fun H1 => t { D with nx := R } σ H1) → B = (fun H1 => u { D with nx := R } σ H1) → c σ H fun b H1 => if b = true then A H1 else B H1) : tSeq (tIfS c t u) r D σ H := h _ _ _ rfl rfl rfl
/-- xs[m % n], n the length -/
theorem at_mod {α : Type} {xs : List α} (f : α → V) (h : 0 < xs.length) (m : Int) : ∃ x ∈ xs, atI (xs.map f) (m % (xs.length : Int)) = some (f x) := by
  have h0 : 0 ≤ m % (xs.length : Int) := Int.emod_nonneg _ (by omega)
  have h1 : m % (xs.length : Int) < xs.length := Int.emod_lt_of_pos _ (by omega)
  obtain ⟨k, hk⟩ : ∃ k : Nat, m % (xs.length : Int) = (k : Int) := ⟨(m % (xs.length : Int)).toNat, by omega⟩
  rw [hk] at h1 ⊢
  have hk' : k < xs.length := by omega
  refine ⟨xs[k], List.getElem_mem _, atI_nat ?_⟩
  rw [List.getElem?_map, List.getElem?_eq_getElem hk']
  rfl
theorem ixN_last {α : Type} (xs : List α) (v : α) : ixN (xs ++ [v]).length (-1) = some xs.length := by
  have hl : (xs ++ [v]).length = xs.length + 1 := by simp
  unfold ixN
  rw [hl, if_neg (by decide), if_pos (by omega)]
  congr 1
  omega
theorem set_last {α : Type} (xs : List α) (v w : α) : (xs ++ [v]).set xs.length w = xs ++ [w] := by simp
/-! ### what stands in a tree -/
def Tr.all (S : Str → Prop) (N : Int → Prop) : Tr → Prop
  | .num n => N n | .name x => S x | .fn x b => S x ∧ b.all S N | .call f a => f.all S N ∧ a.all S N | .plus a b => a.all S N ∧ b.all S N | .less a b => a.all S N ∧ b.all S N
  | .ite c a b => c.all S N ∧ a.all S N ∧ b.all S N | .lt x e b => S x ∧ e.all S N ∧ b.all S N
/-- a list of trees at l, over a heap H0 that did not know l -/
structure Stk (H0 : Hp) (l : Addr) (S : Str → Prop) (N : Int → Prop) (H : Hp) (vs : List V) (ts : List Tr) : Prop where
  same : Same H0 H
  at_ : H l = some (.lst vs)
  ats : Ats H ts vs
  all : ∀ t ∈ ts, t.all S N
section
variable {H0 H H' : Hp} {l : Addr} {S : Str → Prop} {N : Int → Prop} {vs : List V} {ts : List Tr} {t u : Tr} {r v : V}
theorem Stk.ext (s : Stk H0 l S N H vs ts) (e : Same H H') : Stk H0 l S N H' vs ts := ⟨s.same.trans e, e _ _ s.at_, s.ats.mono (same_kt e), s.all⟩
theorem Stk.len (s : Stk H0 l S N H vs ts) : ts.length = vs.length := Paired.length s.ats
theorem Stk.push (s : Stk H0 l S N H vs ts) (hl : H0 l = none) (h : At H t r) (ha : t.all S N) : Stk H0 l S N (upd H l (.lst (vs ++ [r]))) (vs ++ [r]) (ts ++ [t]) :=
  ⟨same_mut s.same hl, upd_same, (Ats.append s.ats (.cons h .nil)).mono (kt_lst s.at_), fun x hx => by
    rcases List.mem_append.mp hx with hx | hx
    · exact s.all x hx
    · rw [List.mem_singleton.mp hx]; exact ha⟩
theorem Stk.top (s : Stk H0 l S N H (vs ++ [v]) ts) : ∃ us t, ts = us ++ [t] ∧ At H t v ∧ t.all S N ∧ Ats H us vs ∧ ∀ x ∈ us, x.all S N := by
  obtain ⟨us, t, e, h1, h2⟩ := Ats.snoc_inv s.ats
  exact ⟨us, t, e, h2, s.all t (by rw [e]; simp), h1, fun x hx => s.all x (by rw [e]; simp [hx])⟩
theorem Stk.pop (s : Stk H0 l S N H (vs ++ [v]) (ts ++ [t])) (hl : H0 l = none) : Stk H0 l S N (upd H l (.lst vs)) vs ts ∧ At H t v ∧ t.all S N := by
  obtain ⟨us, u, e, h2, h3, h1, h4⟩ := s.top
  obtain ⟨rfl, e2⟩ := List.append_inj' e rfl
  obtain rfl : t = u := by simpa using e2
  exact ⟨⟨same_mut s.same hl, upd_same, h1.mono (kt_lst s.at_), h4⟩, h2, h3⟩
theorem Stk.put (s : Stk H0 l S N H (vs ++ [v]) (ts ++ [t])) (hl : H0 l = none) (h : At H u r) (ha : u.all S N) : Stk H0 l S N (upd H l (.lst (vs ++ [r]))) (vs ++ [r]) (ts ++ [u]) := by
  obtain ⟨us, u', e, h2, h3, h1, h4⟩ := s.top
  obtain ⟨rfl, e2⟩ := List.append_inj' e rfl
  refine ⟨same_mut s.same hl, upd_same, (Ats.append h1 (.cons h .nil)).mono (kt_lst s.at_), fun x hx => ?_⟩
  rcases List.mem_append.mp hx with hx | hx
  · exact h4 x hx
  · rw [List.mem_singleton.mp hx]; exact ha
end
end My
namespace My
open PySem L2
/-! ### a new object -/
def New (H : Hp) (o : HO) (G : Addr → Hp → Prop) : Prop := ∀ p, H p = none → G p (upd H p o)
theorem new_ {H : Hp} {o : HO} {G : Addr → Hp → Prop} (h : ∀ p H', H p = none → Same H H' → H' p = some o → G p H') : New H o G := fun p hp => h p _ hp (same_new hp) upd_same
theorem tTup_eq {t : TA} {σ : L2.St} {H : Hp} {Q : VK} : tTup t σ H Q = t σ H fun xs H1 => xs.length ≤ sizeLine ∧ New H1 (.tup xs) fun p H2 => Q (.ref p) H2 := rfl
theorem tLst_eq {t : TA} {σ : L2.St} {H : Hp} {Q : VK} : tLst t σ H Q = t σ H fun xs H1 => xs.length ≤ sizeLine ∧ New H1 (.lst xs) fun p H2 => Q (.ref p) H2 := rfl
theorem rSlT_eq {K : PySem.W.Frag} {x : V} {lo hi : Option Int} {H : Hp} {Q : VK} : rSlT K x lo hi H Q = ∃ a xs, x = .ref a ∧ SqT K H a xs ∧
  ¬ (HT.sIx xs.length 0 lo = 0 ∧ HT.sIx xs.length xs.length hi = xs.length) ∧ New H (.tup (cutV xs lo hi)) fun p H2 => Q (.ref p) H2 := rfl
theorem rSlL_eq {K : PySem.W.Frag} {x : V} {lo hi : Option Int} {H : Hp} {Q : VK} : rSlL K x lo hi H Q = ∃ a xs, x = .ref a ∧ SqL K H a xs ∧ New H (.lst (cutV xs lo hi)) fun p H2 => Q (.ref p) H2 := rfl
theorem tDNewK_eq {σ : L2.St} {H : Hp} {Q : VK} : tDNewK σ H Q = New H (.dK []) fun p H2 => Q (.ref p) H2 := rfl
theorem tRevL_eq {K : PySem.W.Frag} {te : TE} {σ : L2.St} {H : Hp} {Q : VK} : tRevL K te σ H Q = te σ H fun x H1 => ∃ a xs, x = .ref a ∧ SqL K H1 a xs ∧ New H1 (.lst xs.reverse) fun p H2 => Q (.ref p) H2 := rfl
/-- 1 ≤ the line, for written displays -/
theorem sz0 : ([] : List V).length ≤ sizeLine := szL (by simp)
theorem sz1 {a : V} : [a].length ≤ sizeLine := szL (by simp)
theorem sz2 {a b : V} : [a, b].length ≤ sizeLine := szL (by simp)
theorem sz3 {a b c : V} : [a, b, c].length ≤ sizeLine := szL (by simp)
theorem sz4 {a b c d : V} : [a, b, c, d].length ≤ sizeLine := szL (by simp)
theorem sz5 {a b c d e : V} : [a, b, c, d, e].length ≤ sizeLine := szL (by simp)
theorem sz8 {a b c d e f g h : V} : [a, b, c, d, e, f, g, h].length ≤ sizeLine := szL (by simp)
end My
namespace My
open PySem L2
theorem whileB_ {c : TT} {tb : TS} {D : Ends} {σ : L2.St} {H : Hp} (W : Nat → L2.St → Hp → Prop) (m : Nat) (w0 : W m σ H)
    (h : ∀ m σ H, W m σ H → ∀ A B : Hp → Prop, (∀ H1, (∀ N : L2.St → Hp → Prop, (∀ m' σ' H', m' < m → W m' σ' H' → N σ' H') → tb { D with nx := N, ct := N, bk := D.nx } σ H1) → A H1) → (∀ H1, D.nx σ H1 → B H1) →
      c σ H fun b H1 => if b = true then A H1 else B H1) : tWhile c tb D σ H :=
  ⟨W, ⟨m, w0⟩, fun m σ H w => h m σ H w (fun H1 => ∃ N : L2.St → Hp → Prop, (∀ σ' H', N σ' H' → ∃ m', m' < m ∧ W m' σ' H') ∧ tb { D with nx := N, ct := N, bk := D.nx } σ H1) (fun H1 => D.nx σ H1)
    (fun H1 a => ⟨fun σ' H' => ∃ m', m' < m ∧ W m' σ' H', fun _ _ n => n, a _ fun m' _ _ l w' => ⟨m', l, w'⟩⟩) fun _ b => b⟩
end My
namespace My
open PySem L2
theorem pr_append {α β : Type} {R : α → β → Prop} : ∀ {ts us : List α} {vs ws : List β}, Paired R ts vs → Paired R us ws → Paired R (ts ++ us) (vs ++ ws)
  | _, _, _, _, .nil, h => h
  | _, _, _, _, .cons r t, h => .cons r (pr_append t h)
theorem pr_snoc {α β : Type} {R : α → β → Prop} : ∀ {ts : List α} {vs : List β} {v : β}, Paired R ts (vs ++ [v]) → ∃ us t, ts = us ++ [t] ∧ Paired R us vs ∧ R t v
  | _, [], v, .cons r .nil => ⟨[], _, rfl, .nil, r⟩
  | _, u :: vs, v, .cons r t => by
    obtain ⟨us, x, e, h1, h2⟩ := pr_snoc t
    exact ⟨_ :: us, x, by rw [e]; rfl, .cons r h1, h2⟩
theorem pr_len {α β : Type} {R : α → β → Prop} {ts : List α} {vs : List β} (h : Paired R ts vs) : ts.length = vs.length := Paired.length h
theorem pr_mono {α β : Type} {R S : α → β → Prop} {ts : List α} {vs : List β} (h : Paired R ts vs) (f : ∀ a b, R a b → S a b) : Paired S ts vs := Paired.mapP h f
/-- a list, changed at its end alone; what H0 did not know -/
theorem same_put {H0 H : Hp} {l : Addr} {o : HO} (e : Same H0 H) (hl : H0 l = none) : Same H0 (upd H l o) := same_mut e hl
end My
namespace My
open PySem L2
theorem scal_ii {i j : Int} : scal (.int i) (.int j) = true := rfl
theorem scal_ss {i j : Str} : scal (.str i) (.str j) = true := rfl
theorem scal_bb {i j : Bool} : scal (.bl i) (.bl j) = true := rfl
theorem scal_is {i : Int} {j : Str} : scal (.int i) (.str j) = true := rfl
theorem scal_si {i : Str} {j : Int} : scal (.str i) (.int j) = true := rfl
theorem word_name {t : Tr} (h : t.word = "name") : ∃ y, t = .name y := by
  cases t <;> first
    | exact ⟨_, rfl⟩
    | exact absurd h (by simp only [Tr.word]; decide +kernel)
theorem word_fun {t : Tr} (h : t.word = "fun") : ∃ y b, t = .fn y b := by
  cases t <;> first
    | exact ⟨_, _, rfl⟩
    | exact absurd h (by simp only [Tr.word]; decide +kernel)
theorem word_let {t : Tr} (h : t.word = "let") : ∃ y e b, t = .lt y e b := by
  cases t <;> first
    | exact ⟨_, _, _, rfl⟩
    | exact absurd h (by simp only [Tr.word]; decide +kernel)
theorem at0 (x : V) (xs : List V) : atI (x :: xs) 0 = some x := atI_nat (j := 0) rfl
theorem at1 (x y : V) (xs : List V) : atI (x :: y :: xs) 1 = some y := atI_nat (j := 1) rfl
theorem at2 (x y z : V) (xs : List V) : atI (x :: y :: z :: xs) 2 = some z := atI_nat (j := 2) rfl
theorem at3 (x y z u : V) (xs : List V) : atI (x :: y :: z :: u :: xs) 3 = some u := atI_nat (j := 3) rfl
end My
namespace My
open PySem L2
/-! ### a tuple compared with itself -/
def rNeSelf (K : PySem.W.Frag) : R2 := fun x y H Q => ∃ (a : Addr) (xs : List V), x = .ref a ∧ y = .ref a ∧ SqT K H a xs ∧ Q (.bl false) H
theorem op_ne_self {X : Cx} (hu : X.A.units < cLine) : OpR X (compareOp .NotEq) (rNeSelf X.K) := by
  intro pins s σ H x y v u Q I rx ry h
  obtain ⟨a, xs, rfl, rfl, ha, q⟩ := h
  cases rx
  cases ry
  obtain ⟨its, r1, p1, _⟩ := I.tuple ha
  refine SeqAt.RcNeAt.tuples (e := fun _ => true) (show s.heap.IsTuple a its.toArray from p1) (show s.heap.IsTuple a its.toArray from p1) hu (fun j h1 h2 => SeqAt.EqAt.same _) X.prog X.w X.xe _ ?_
  refine ⟨.bl false, H, I, ?_, q⟩
  show Value.bool _ = Value.bool false
  congr 1
  simp
end My
namespace My
open PySem L2
section
variable {K : PySem.W.Frag} {H : Hp} {a : Addr} {xs : List V}
theorem isi_ll (h : H a = some (.lst xs)) : TyX K H (.ref a) (.type "list") ∧ PySem.W.kitOne K (.type "list") (.type "list") = some true := ⟨.base (.lst h), kit_ty (by decide +kernel)⟩
theorem isi_tt (h : H a = some (.tup xs)) : TyX K H (.ref a) (.type "tuple") ∧ PySem.W.kitOne K (.type "tuple") (.type "tuple") = some true := ⟨.base (.tup h), kit_ty (by decide +kernel)⟩
theorem isi_ss (x : Str) : TyX K H (.str x) (.type "str") ∧ PySem.W.kitOne K (.type "str") (.type "str") = some true := ⟨.base (.str x), kit_ty (by decide +kernel)⟩
theorem isi_ii (i : Int) : TyX K H (.int i) (.type "int") ∧ PySem.W.kitOne K (.type "int") (.type "int") = some true := ⟨.base (.int i), kit_ty (by decide +kernel)⟩
theorem isi_ib (i : Int) : TyX K H (.int i) (.type "int") ∧ PySem.W.kitOne K (.type "int") (.type "bool") = some false := ⟨.base (.int i), kit_ty (by decide +kernel)⟩
/-- what isinstance asks, answered -/
theorem isi_ {x : V} {T n : String} {b : Bool} {G : Bool → Prop} (h : TyX K H x (.type T) ∧ PySem.W.kitOne K (.type T) (.type n) = some b) (g : G b) :
    ∃ t u, ClsV (.ty n) u ∧ TyX K H x t ∧ ∃ b, PySem.W.kitOne K t u = some b ∧ G b := ⟨_, _, .ty _, h.1, b, h.2, g⟩
end
/-- a list of ints, of texts, by its places -/
theorem map_at {α : Type} {xs : List α} {f : α → V} {i : Nat} {y : V} (h : (xs.map f)[i]? = some y) : ∃ (hi : i < xs.length), y = f xs[i] := by
  obtain ⟨h1, h2⟩ := List.getElem?_eq_some_iff.mp h
  have h3 : i < xs.length := by rwa [List.length_map] at h1
  exact ⟨h3, by rw [← h2, List.getElem_map]⟩
end My
namespace My
open PySem L2
def ForGo (J : It) (g : TG) (tb : TS) (D : Ends) (σ : L2.St) (H1 : Hp) : Prop := ∃ W : Nat → Nat → L2.St → Hp → Prop, (∃ m, W 0 m σ H1) ∧ ∀ i m σ H, W i m σ H →
  (J.stop i H ∧ D.nx σ H) ∨ (J.go i H ∧ ∃ N : L2.St → Hp → Prop, (∀ σ' H', N σ' H' → ∃ m', m' < m ∧ W (i + 1) m' σ' H') ∧ ∀ x H', J.yld i H x H' → g x σ H' fun σ2 H2 => tb { D with nx := N, ct := N, bk := D.nx } σ2 H2)
theorem tFor_eq {wi : TI} {g : TG} {tb : TS} {D : Ends} {σ : L2.St} {H : Hp} : tFor wi g tb D σ H = wi σ H fun J H1 => ForGo J g tb D σ H1 := rfl
theorem forR {lo : Int} {n : Nat} {g : TG} {tb : TS} {D : Ends} {σ : L2.St} {H : Hp} (Pv : Nat → L2.St → Hp → Prop) (h0 : Pv 0 σ H)
    (hs : ∀ i σ H, i < n → Pv i σ H → ∀ N : L2.St → Hp → Prop, (∀ σ' H', Pv (i + 1) σ' H' → N σ' H') → g (.int (lo + i)) σ H fun σ2 H2 => tb { D with nx := N, ct := N, bk := D.nx } σ2 H2) (hd : ∀ σ H, Pv n σ H → D.nx σ H) : ForGo (Itr lo n) g tb D σ H :=
  for_range Pv h0 (fun i σ H hi p => hs i σ H hi p _ fun _ _ z => z) hd
theorem forL {K : PySem.W.Frag} {a : Addr} {xs : List V} {g : TG} {tb : TS} {D : Ends} {σ : L2.St} {H : Hp} (Pv : Nat → L2.St → Hp → Prop) (h0 : Pv 0 σ H) (hl : ∀ i σ H, i ≤ xs.length → Pv i σ H → SqL K H a xs)
    (hs : ∀ i x σ H, xs[i]? = some x → Pv i σ H → ∀ N : L2.St → Hp → Prop, (∀ σ' H', Pv (i + 1) σ' H' → N σ' H') → g x σ H fun σ2 H2 => tb { D with nx := N, ct := N, bk := D.nx } σ2 H2) (hd : ∀ σ H, Pv xs.length σ H → D.nx σ H) : ForGo (Itl K a) g tb D σ H :=
  for_list Pv h0 hl (fun i x σ H hi p => hs i x σ H hi p _ fun _ _ z => z) hd
theorem forT {K : PySem.W.Frag} {a : Addr} {xs : List V} {g : TG} {tb : TS} {D : Ends} {σ : L2.St} {H : Hp} (Pv : Nat → L2.St → Hp → Prop) (h0 : Pv 0 σ H) (hl : ∀ i σ H, i ≤ xs.length → Pv i σ H → SqT K H a xs)
    (hs : ∀ i x σ H, xs[i]? = some x → Pv i σ H → ∀ N : L2.St → Hp → Prop, (∀ σ' H', Pv (i + 1) σ' H' → N σ' H') → g x σ H fun σ2 H2 => tb { D with nx := N, ct := N, bk := D.nx } σ2 H2) (hd : ∀ σ H, Pv xs.length σ H → D.nx σ H) : ForGo (Itt K a) g tb D σ H :=
  for_tup Pv h0 hl (fun i x σ H hi p => hs i x σ H hi p _ fun _ _ z => z) hd
end My
namespace My
open PySem L2
theorem pr_right {α β : Type} {R : α → β → Prop} : ∀ {xs : List α} {ys : List β} {i : Nat} {y : β}, Paired R xs ys → ys[i]? = some y → ∃ x, xs[i]? = some x ∧ R x y
  | _, _, _, _, .nil, e => by simp at e
  | _, _, 0, _, .cons r _, e => by simp at e; subst e; exact ⟨_, rfl, r⟩
  | _, _, i + 1, y, .cons _ t, e => by
    obtain ⟨u, h1, h2⟩ := pr_right (i := i) (y := y) t (by simpa using e)
    exact ⟨u, by simpa using h1, h2⟩
theorem pr_left {α β : Type} {R : α → β → Prop} : ∀ {xs : List α} {ys : List β} {i : Nat} {x : α}, Paired R xs ys → xs[i]? = some x → ∃ y, ys[i]? = some y ∧ R x y
  | _, _, _, _, .nil, e => by simp at e
  | _, _, 0, _, .cons r _, e => by simp at e; subst e; exact ⟨_, rfl, r⟩
  | _, _, i + 1, y, .cons _ t, e => by
    obtain ⟨u, h1, h2⟩ := pr_left (i := i) (x := y) t (by simpa using e)
    exact ⟨u, by simpa using h1, h2⟩
end My
namespace My
open PySem L2
/-- xs[:-1] -/
theorem cut_butlast (xs : List V) (v : V) : cutV (xs ++ [v]) none (some (-1)) = xs := by
  unfold cutV
  have hl : (xs ++ [v]).length = xs.length + 1 := by simp
  have e : HT.sIx (xs ++ [v]).length (xs ++ [v]).length (some (-1)) = xs.length := by
    show (if (-1 : Int) < 0 then ((-1 : Int) + ((xs ++ [v]).length : Int)).toNat else min (-1 : Int).toNat (xs ++ [v]).length) = xs.length
    rw [if_pos (by decide), hl]
    omega
  rw [HT.sIx_none, e]
  simp
theorem new2 {H : Hp} {G : Addr → Hp → Prop} {o : Addr → HO} (h : ∀ p H', H p = none → Same H H' → H' p = some (o p) → G p H') : ∀ p, H p = none → G p (upd H p (o p)) := fun p hp => h p _ hp (same_new hp) upd_same
end My
namespace My
open PySem L2
/-! ### texts by their signs -/
def mkS (l : List Nat) : Str := ⟨l.toArray⟩
theorem mkS_of (z : Str) : z = mkS z.cps.toList := by cases z; rfl
theorem mkS_cps (l : List Nat) : (mkS l).cps.toList = l := rfl
theorem mkS_len (l : List Nat) : (mkS l).length = l.length := by show l.toArray.size = _; simp
theorem mkS_inj {a b : List Nat} (h : mkS a = mkS b) : a = b := by
  have := congrArg (fun z : Str => z.cps.toList) h
  exact this
theorem mkS_app (a b : List Nat) : mkS a ++ mkS b = mkS (a ++ b) := by
  show (⟨a.toArray ++ b.toArray⟩ : Str) = _
  simp [mkS]
theorem mkS_nil : mkS [] = Str.ofString "" := by decide +kernel
theorem mkS_hi (l : List Nat) (k : Nat) (h : k ≤ l.length) : cutS (mkS l) none (some (k : Int)) = mkS (l.take k) := by
  unfold cutS
  rw [mkS_len, HT.sIx_none, HT.sIx_nat, Nat.min_eq_left h, mkS_cps]
  simp [mkS]
theorem mkS_lo (l : List Nat) (k : Nat) (h : k ≤ l.length) : cutS (mkS l) (some (k : Int)) none = mkS (l.drop k) := by
  unfold cutS
  rw [mkS_len, HT.sIx_none, HT.sIx_nat, Nat.min_eq_left h, mkS_cps]
  have : (l.drop k).take (l.length - k) = l.drop k := List.take_of_length_le (by rw [List.length_drop]; exact Nat.le_refl _)
  rw [this]
  rfl
/-- the letters -/
def abc : List Nat := List.range' 97 26
theorem abc_eq : Str.ofString "abcdefghijklmnopqrstuvwxyz" = mkS abc := by decide +kernel
/-- the letter at a place -/
def lett (m : Int) : Nat := 97 + (m % 26).toNat
theorem lett_at (m : Int) : atI (mkS abc).cps.toList (m % 26) = some (lett m) := by
  have h0 : 0 ≤ m % 26 := Int.emod_nonneg _ (by decide)
  have h1 : m % 26 < 26 := Int.emod_lt_of_pos _ (by decide)
  obtain ⟨k, hk⟩ : ∃ k : Nat, m % 26 = (k : Int) := ⟨(m % 26).toNat, by omega⟩
  unfold lett
  rw [hk, Int.toNat_natCast, mkS_cps]
  refine atI_nat ?_
  rw [abc, List.getElem?_range' (by omega)]
  simp
theorem lett_lt (m : Int) : 97 ≤ lett m ∧ lett m < 123 := by
  have h0 : 0 ≤ m % 26 := Int.emod_nonneg _ (by decide)
  have h1 : m % 26 < 26 := Int.emod_lt_of_pos _ (by decide)
  unfold lett
  omega
theorem one_sign (c : Nat) : (⟨#[c]⟩ : Str) = mkS [c] := rfl
def reserved : List (List Nat) := [[110, 117, 109], [110, 97, 109, 101], [102, 117, 110], [99, 97, 108, 108], [112, 108, 117, 115], [108, 101, 115, 115], [105, 102], [108, 101, 116]]
theorem reserved_eq : [V.str "num", V.str "name", V.str "fun", V.str "call", V.str "plus", V.str "less", V.str "if", V.str "let"] = reserved.map fun l => V.str (mkS l) := by decide +kernel
theorem in_reserved (l : List Nat) : inV (V.str (mkS l)) [V.str "num", V.str "name", V.str "fun", V.str "call", V.str "plus", V.str "less", V.str "if", V.str "let"] = decide (l ∈ reserved) := by
  rw [reserved_eq]
  unfold inV
  rw [List.any_map, Bool.eq_iff_iff]
  simp only [List.any_eq_true, decide_eq_true_eq, Function.comp]
  constructor
  · rintro ⟨x, hx, h⟩
    have h : (mkS x == mkS l) = true := h
    rw [← mkS_inj (eq_of_beq h)]
    exact hx
  · intro h
    exact ⟨l, h, (show (mkS l == mkS l) = true from beq_self_eq_true _)⟩
/-- a word of a letter within others -/
def wordOf (o : List Nat) (k c : Nat) : List Nat := if o.take k ++ [c] ++ o.drop k ∈ reserved then [c] else o.take k ++ [c] ++ o.drop k
theorem wordOf_len (o : List Nat) (k c : Nat) : (wordOf o k c).length ≤ o.length + 1 ∧ 1 ≤ (wordOf o k c).length := by
  unfold wordOf
  split
  · simp
  · simp only [List.length_append, List.length_singleton, List.length_take, List.length_drop]
    omega
theorem wordOf_inj {o : List Nat} {k c c' : Nat} (h : wordOf o k c = wordOf o k c') : c = c' := by
  have key : ∀ {a b : Nat}, [a] = o.take k ++ [b] ++ o.drop k → a = b := by
    intro a b e
    have hl := congrArg List.length e
    simp only [List.length_append, List.length_singleton, List.length_take, List.length_drop] at hl
    have h0 : o = [] := List.length_eq_zero_iff.mp (by omega)
    subst h0
    simpa using e
  unfold wordOf at h
  split at h
  · split at h
    · simpa using h
    · exact key h
  · split at h
    · exact (key h.symm).symm
    · rw [List.append_assoc, List.append_assoc] at h
      have := List.append_cancel_left h
      simpa using this
/-- the names that the laws make of a cell; m is the law's own step -/
def othersOf (m : Int) (c : Int) : List Nat := (List.range (c / 26 % 8).toNat).map fun (t : Nat) => lett (c / 208 + m * (t : Int))
def nameBy (m : Int) (c : Int) : List Nat := wordOf (othersOf m c) (c / 208 % ((othersOf m c).length + 1 : Int)).toNat (lett c)
theorem othersOf_len (m c : Int) : (othersOf m c).length ≤ 7 := by
  have h0 : 0 ≤ c / 26 % 8 := Int.emod_nonneg _ (by decide)
  have h1 : c / 26 % 8 < 8 := Int.emod_lt_of_pos _ (by decide)
  simp only [othersOf, List.length_map, List.length_range]
  omega
end My
namespace My
open PySem L2
open PyProof.Rows
/-! ### s[::-1] -/
def tRevS (te : TE) : TE := fun σ H Q => te σ H fun x H1 => ∃ z : Str, x = .str z ∧ z.length ≤ sizeLine ∧ Q (.str (mkS z.cps.toList.reverse)) H1
theorem pe_revS {X : Cx} {e : Expr} {te : TE} {k : Nat} {p1 p2 p3 pos : Pos} (he : PE X e te) : PE X (.Subscript e (.Slice none none (some (.UnaryOp .USub (.Constant (.int 1) k p1) p2)) p3) pos) (tRevS te) := by
  refine ⟨fun pins s σ H Q I h => ?_⟩
  refine Subscript_ (thn (he.run pins s σ H _ I h) fun v s1 ⟨x, H1, I1, r1, q1⟩ => ?_)
  obtain ⟨z, ex, hx, q⟩ := q1
  subst ex
  obtain ⟨t, rfl⟩ := r1
  have hst : PO X (some (.UnaryOp .USub (.Constant (.int 1) k p1) p2)) (tPart (tUn (rU fun i => .int (-i)) (tC (.int 1)))) := po_some (pe_un un_neg pe_int)
  refine wpAny_Slice (thn (po_none.run pins s1 σ H1 (fun o H2 => o = none ∧ H2 = H1) I1 ⟨rfl, rfl⟩) fun vl s2 ⟨l, H2, I2, pl, el, e2⟩ => ?_)
  subst el e2
  refine thn (po_none.run pins s2 σ H2 (fun o H3 => o = none ∧ H3 = H2) I2 ⟨rfl, rfl⟩) fun vu s3 ⟨u, H3, I3, pu, eu, e3⟩ => ?_
  subst eu e3
  refine thn (hst.run pins s3 σ H3 (fun o H4 => o = some (-1) ∧ H4 = H3) I3 ⟨1, rfl, -1, rfl, rfl, rfl⟩) fun vs s4 ⟨o, H4, I4, ps, eo, e4⟩ => ?_
  subst eo e4
  cases pl
  cases pu
  cases ps with
  | int i uk =>
  show wpAny (model X.prog X.w) X.A (subscriptTail e (.Slice none none (some (.UnaryOp .USub (.Constant (.int 1) k p1) p2)) p3) (.str z t) (.ref s4.heap.objs.size)) (EP X pins σ Q) X.xe { s4 with heap := s4.heap.push { cls := .type "slice", data := .fields #[.none, .none, .int (-1) uk] } }
  have hrev : (Txt.sliceBy z none none (-1, uk)) = mkS z.cps.toList.reverse := by
    rw [mkS_of (Txt.sliceBy z none none (-1, uk)), step_rev_list]
    congr 1
    apply List.ext_getElem
    · simp [Str.length]
    · intro n h1 h2
      simp only [List.length_map, List.length_range] at h1
      simp only [List.getElem_map, List.getElem_range, List.getElem_reverse, Array.length_toList, Array.getElem_toList]
      have hz : z.length = z.cps.size := rfl
      rw [hz] at h1
      rw [Array.getD_eq_getD_getElem?, hz, Array.getElem?_eq_getElem (by omega)]
      rfl
  refine tail_any (ops := [.ref s4.heap.objs.size, .str z t]) (typeIs_str _ _ _) F.slot_str_getitem.lookup ?_ (by with_unfolding_all rfl)
  refine wpAny_getItem_str_slice (l := none) (u := none) (st := some (-1, uk)) ⟨_, Heap.get?_push_size _ rfl, rfl, rfl⟩ rfl (post_val_or_str ⟨Nat.le_trans (Txt.sliceBy_le z none none (-1, uk) (by show (-1 : Int) ≠ 0; decide)) hx, fun t' c => ?_⟩)
  show EP X pins σ Q (.str (Txt.sliceBy z none none (-1, uk)) t') _
  rw [hrev]
  exact ⟨.str _, H4, I4.kept (t' := c) fun b o e => Heap.get?_push_of_some _ e, ⟨t', rfl⟩, q⟩
end My
namespace My
open PySem L2
theorem mkS_app0 (a : List Nat) : mkS a ++ Str.ofString "" = mkS a := by rw [← mkS_nil, mkS_app, List.append_nil]
end My
namespace My
open PySem L2
theorem sjoin_nil : ∀ parts : List (List Nat), Str.join (Str.ofString "") (parts.map mkS) = mkS parts.flatten
  | [] => rfl
  | [x] => by show mkS x = mkS (x ++ []); rw [List.append_nil]
  | x :: y :: r => by
    show mkS x ++ Str.ofString "" ++ Str.join (Str.ofString "") ((y :: r).map mkS) = _
    rw [sjoin_nil (y :: r), mkS_app0, mkS_app]
    rfl
theorem join_nil (parts : List (List Nat)) : Txt.join (Str.ofString "") (parts.map mkS) = mkS parts.flatten := by rw [TL.join_eq, sjoin_nil]
theorem join_signs (l : List Nat) : Txt.join (Str.ofString "") (l.map fun c => mkS [c]) = mkS l := by
  have := join_nil (l.map fun c => [c])
  rw [List.map_map] at this
  rw [show (fun c => mkS [c]) = mkS ∘ (fun c => [c]) from rfl, this]
  have : ∀ l : List Nat, (l.map fun c => [c]).flatten = l := fun l => by
    induction l with
    | nil => rfl
    | cons c r ih => simpa using ih
  rw [this]
end My
namespace My
open PySem L2
theorem cut_hi (xs : List V) (k : Nat) : cutV xs none (some (k : Int)) = xs.take k := by
  unfold cutV
  rw [HT.sIx_none, HT.sIx_nat, List.drop_zero, Nat.sub_zero]
  by_cases h : k ≤ xs.length
  · rw [Nat.min_eq_left h]
  · rw [Nat.min_eq_right (by omega), List.take_length, List.take_of_length_le (by omega)]
theorem cut_lohi (xs : List V) (j k : Nat) : cutV xs (some (j : Int)) (some (k : Int)) = (xs.take k).drop j := by
  unfold cutV
  rw [HT.sIx_nat, HT.sIx_nat]
  apply List.ext_getElem?
  intro n
  simp only [List.getElem?_take, List.getElem?_drop]
  by_cases h1 : j ≤ xs.length <;> by_cases h2 : k ≤ xs.length
  · rw [Nat.min_eq_left h1, Nat.min_eq_left h2]
    by_cases h : n < k - j
    · rw [if_pos h, if_pos (by omega)]
    · rw [if_neg h, if_neg (by omega)]
  · rw [Nat.min_eq_left h1, Nat.min_eq_right (show xs.length ≤ k by omega)]
    by_cases h : n < xs.length - j
    · rw [if_pos h, if_pos (by omega)]
    · rw [if_neg h]
      split
      · rw [List.getElem?_eq_none (by omega)]
      · rfl
  · rw [Nat.min_eq_right (show xs.length ≤ j by omega), Nat.min_eq_left h2, if_neg (by omega)]
    split
    · rw [List.getElem?_eq_none (by omega)]
    · rfl
  · rw [Nat.min_eq_right (show xs.length ≤ j by omega), Nat.min_eq_right (show xs.length ≤ k by omega), if_neg (by omega)]
    split
    · rw [List.getElem?_eq_none (by omega)]
    · rfl
end My

namespace My
open PySem L2
open PySem.W
/-! ### sorted of pairs (int, text) -/
abbrev SRow := Addr × Int × Str
def encR (b : SRow) : PyData := .tuple [.int b.2.1, .str b.2.2]
def rSortIS (K : PySem.W.Frag) : List V → Hp → VK → Prop := fun vs H Q => ∃ (a : Addr) (bs : List SRow), vs = [.ref a] ∧ SqL K H a (bs.map fun b => .ref b.1) ∧ (∀ b ∈ bs, SqT K H b.1 [.int b.2.1, .str b.2.2]) ∧ bs.length ≤ 1000 ∧
  ∀ (cs : List SRow) (p : Addr), cs.Perm bs → cs.Pairwise (fun b c => b.2.1 ≤ c.2.1) → H p = none → Q (.ref p) (upd H p (.lst (cs.map fun c => .ref c.1)))
theorem encR_le {b c : SRow} (h : dataLe false encR b c = true) : b.2.1 ≤ c.2.1 := by
  have h1 : (!dataLt (encR c) (encR b)) = true := by rw [PySem.W.dataLe_eq] at h; exact h
  have h2 : dataLt (encR c) (encR b) = false := by simpa using h1
  unfold encR at h2
  rw [PySem.W.dataLt_pair (by simp [alike]) (by simp [alike]), PySem.W.dataLt_int] at h2
  by_cases e : PyData.eqv (.int c.2.1) (.int b.2.1) = true
  · simp only [PyData.eqv, beq_iff_eq] at e
    omega
  · rw [if_neg e] at h2
    have := of_decide_eq_false h2
    omega
theorem cr_sortedIS {X : Cx} (hu : X.A.units + 64 < cLine) : CallR X (.builtin "sorted") (rSortIS X.K) := by
  intro pins s σ H xs us Q I r h
  obtain ⟨a, bs, rfl, ha, hb, hl, q⟩ := h
  rw [Vals.ref1 r]
  obtain ⟨its, rv, p, hz⟩ := I.list ha
  have its_eq : its = bs.map fun b => Value.ref b.1 := by
    have : ∀ (bs : List SRow) (its : List Value), Vals (bs.map fun b => V.ref b.1) its → its = bs.map fun b => Value.ref b.1 := by
      intro bs
      induction bs with
      | nil => intro its h; cases h; rfl
      | cons b r ih =>
        intro its h
        cases h with
        | cons h1 h2 => rw [ih _ h2, show _ = Value.ref b.1 from h1]; rfl
    exact this bs its rv
  subst its_eq
  have e : ∀ (bs : List SRow), EachIs (fun v (b : SRow) => v = Value.ref b.1) (bs.map fun b => Value.ref b.1) bs := by
    intro bs
    induction bs with
    | nil => exact .nil
    | cons b r ih => exact .cons rfl ih
  have er : ∀ (cs : List SRow), (∀ b ∈ cs, b ∈ bs) → EachIs (fun v (b : SRow) => ∃ as, Reads s.heap v (encR b) as) (cs.map fun b => Value.ref b.1) cs := by
    intro cs
    induction cs with
    | nil => intro _; exact .nil
    | cons b r ih =>
      intro hm
      refine .cons ?_ (ih fun x hx => hm x (List.mem_cons_of_mem _ hx))
      obtain ⟨ts, rt, ⟨o, ho, hc, n, hd⟩, _⟩ := I.tuple (hb b (hm b (List.mem_cons_self)))
      cases rt with
      | cons r1 rt =>
        cases rt with
        | cons r2 rt =>
          cases rt
          obtain ⟨t1, rfl⟩ := r1
          obtain ⟨t2, rfl⟩ := r2
          exact ⟨_, Reads.tuple ho hc hd (.cons (.int _ _) (.cons (.str _ _) .nil))⟩
  refine sorted_data (R := fun v (b : SRow) => v = Value.ref b.1) (enc := encR) (bs := bs) p.isList (e bs) (er bs fun _ h => h) (AllAlike.of fun b c => by simp [encR, alike, PySem.W.alikeAll]) (Sortable.tuples fun b => ⟨_, _, rfl⟩) (szL (by omega)) (fun b _ => ?_) (fun out ho eo => ?_)
  · have : (encR b).depth ≤ 2 := by show PyData.depth (.tuple [.int b.2.1, .str b.2.2]) ≤ 2; simp [PyData.depth, PyData.depthAll]
    omega
  · obtain ⟨c, hc⟩ := PyProof.Rows.sortedAll_at s.heap (bs.map fun b => Value.ref b.1) out.toArray
    have hp : s.heap.objs.size ≤ s.heap.objs.size + 1 := Nat.le_succ _
    have hn : H (s.heap.objs.size + 1) = none := I.hok.fresh hp
    have hperm : (bs.mergeSort (dataLe false encR)).Perm bs := List.mergeSort_perm _ _
    have hpw : (bs.mergeSort (dataLe false encR)).Pairwise (fun b c => b.2.1 ≤ c.2.1) :=
      (PySem.W.sort_pairwise (PySem.W.sortLe_total _ false _) bs).imp fun h => encR_le h
    have hv : Vals ((bs.mergeSort (dataLe false encR)).map fun c => V.ref c.1) out := by
      clear hc ho hperm hpw
      generalize bs.mergeSort (dataLe false encR) = cs at eo
      induction eo with
      | nil => exact .nil
      | cons h1 h2 ih => exact .cons h1 ih
    refine ⟨.ref _, _, I.laid (a := s.heap.objs.size + 1) (o := .lst ((bs.mergeSort (dataLe false encR)).map fun c => V.ref c.1)) (t' := s.toks) (fun b o q => PyProof.Rows.sortedAll_old q) hp ⟨?_, out, c, hv, hc⟩, rfl, q _ _ hperm hpw hn⟩
    rw [List.length_map, hperm.length_eq]
    exact szL (by omega)
end My
namespace My
open PySem L2
/-! ### the rules within a comprehension's block: the written part told by name -/
section
variable {X : Cx} {K : PySem.W.Frag}
theorem ix_tupK (h : X.K = K := by rfl) : IxR X (rIxT K) := h ▸ ix_tup
theorem ix_listK (h : X.K = K := by rfl) : IxR X (rIxL K) := h ▸ ix_list
theorem sl_tupK (h : X.K = K := by rfl) : SlR X (rSlT K) := h ▸ sl_tup
theorem sl_listK (h : X.K = K := by rfl) : SlR X (rSlL K) := h ▸ sl_list
theorem op_in_seqK (h : X.K = K := by rfl) : OpR X (compareOp .In) (rIn K false) := h ▸ op_in_seq
theorem op_notIn_seqK (h : X.K = K := by rfl) : OpR X (compareOp .NotIn) (rIn K true) := h ▸ op_notIn_seq
end
end My
namespace My
open PySem L2
theorem pr_zip {α β : Type} {R : α → β → Prop} : ∀ {as : List α} {bs : List β}, Paired R as bs → ∀ p ∈ as.zip bs, R p.1 p.2
  | _, _, .nil, p, h => by simp at h
  | _, _, .cons r t, p, h => by
    rcases List.mem_cons.mp h with e | h
    · subst e; exact r
    · exact pr_zip t p h
end My
namespace My
open PySem L2
open PyProof.Rows (envOfC)
/-- the law's def, by its address -/
theorem law_of {P : Program} {w : World} {K : PySem.W.Frag} {mg : Str → Option Value} {st : Stmt} {fa : Addr} {x y : Str} {k : Nat} {sp : Sp} {CX : CXT} (F : FunAt K mg x st) (hfa : mg x = some (.ref fa))
    (hb : ∀ (kV doc pm : Value) (an : Option Addr) (cdv ct : Value) (v : Value), bindArgs (PySem.W.fnOf x x (defArgs st) (defBody st) (defScope st) .none kV doc pm an cdv ct) ⟨[v], []⟩ = pure [(y, v)])
    {H : Heap → Prop} (h : ∀ fd : FuncData, Fun K x x st fa fd → ∀ base : Heap, H base → FnOk P w K mg base CX k fa fd [y] sp) :
    ∃ fd : FuncData, (∀ (s : Shared) (v : Value), BindsTo s fd ⟨[v], []⟩ [(y, v)]) ∧ ∀ base : Heap, H base → FnOk P w K mg base CX k fa fd [y] sp := by
  obtain ⟨f, fd, Fn, m⟩ := F
  cases hfa.symm.trans m
  refine ⟨fd, fun s v => ?_, h fd Fn⟩
  obtain ⟨oc, od, kV, doc, pm, an, cdv, ct, osl, rfl, lk, hcd⟩ := Fn.ex
  exact .of_eq (hb kV doc pm an cdv ct v)
end My

namespace My
open PySem L2
open PyProof.Rows (envOfC)
/-! ### a def that may raise -/
structure DfX (P : Program) (w : World) (K : PySem.W.Frag) (mg : Str → Option Value) (base : Heap) (k : Nat) (x : Str) (ps : List Str) (sp : Sp) : Prop where
  ex : ∃ (f : Addr) (fd : FuncData), FnOk P w K mg base (L2.CX P w) k f fd ps sp ∧ mg x = some (.ref f) ∧ PySem.W.keepIn K (.ref f) = true ∧ Binds K fd ps []
section
variable {P : Program} {w : World} {K : PySem.W.Frag} {mg : Str → Option Value} {base : Heap}
theorem FunAt.dfX {x : Str} {st : Stmt} {N ps : List Str} {k : Nat} {sp : Sp} (F : FunAt K mg x st) (S : FnScope N ps (defScope st)) (hb : BindAll x st ps) (len : ∀ vs H Q E, sp vs H Q E → vs.length = ps.length)
    (hbody : ∀ (f : Addr) (cdv : Value) (A : Around) (outer : List Env) (s : Shared) (H : Hp) (vs : List V) (Q : VK) (E : XK), Room k (A.deeper (envOfC x (defScope st) s.heap.objs.size f cdv)) → sp vs H Q E →
      ∃ t, PSs (cxOf (L2.CX P w) P w K mg base N x (defScope st) f cdv A outer s H E) (defBody st) t ∧ t { nx := fun _ H' => Q .non H', rt := Q } (start N vs) H) : DfX P w K mg base (k + 1) x ps sp := by
  obtain ⟨f, fd, h, m⟩ := F
  exact ⟨f, fd, h.okX S len (hbody f), m, h.kp, h.binds hb⟩
end
section
variable {X : Cx} {j k : Nat} {x : Str} {ps : List Str} {sp : Sp} {p pos : Pos} {e : Expr} {es : List Expr} {t : TA} {E : St → XK}
/-- called where nothing is let out -/
theorem pe_callX (D : DfX X.prog X.w X.K X.mg X.base j x ps sp) (hr : Room k X.A) (hj : j ≤ k) (hg : Gl X x) (ha : PA X (e :: es) t) (hdb : (x == ("__debug__" : Str)) = false := by decide)
    (he : starEach (e :: es) X.env = (false, eval e X.env) :: starEach es X.env := by rfl) (hpl : (backTo pos (starEach es X.env)).any (·.1) = false := by rfl) :
    PE X (.Call (.Name x p) (e :: es) [] pos) (tCallD sp t) := by
  obtain ⟨f, fd, F, m, kp, b⟩ := D.ex
  have h : PE X (.Call (.Name x p) (e :: es) [] pos) (tCall sp [] E0 t) := pe_call F (hr.mono hj) hg m kp b .nil passL ha hdb he hpl
  refine ⟨fun pins s σ H Q I q => h.run pins s σ H Q I ?_⟩
  unfold tCall
  unfold tCallD at q
  simpa only [List.append_nil] using q
/-- called where what it lets out is taken -/
theorem pe_callXS (D : DfX X.prog X.w X.K X.mg X.base j x ps sp) (hr : Room k X.A) (hj : j ≤ k) (hg : Gl X x) (hx : ∀ σ, PassesAt (L2.CX X.prog X.w) X σ (E σ)) (ha : PA X (e :: es) t) (hdb : (x == ("__debug__" : Str)) = false := by decide)
    (he : starEach (e :: es) X.env = (false, eval e X.env) :: starEach es X.env := by rfl) (hpl : (backTo pos (starEach es X.env)).any (·.1) = false := by rfl) :
    PE X (.Call (.Name x p) (e :: es) [] pos) (tCallS sp E t) := by
  obtain ⟨f, fd, F, m, kp, b⟩ := D.ex
  exact pe_callS F (hr.mono hj) hg m kp b hx ha hdb he hpl
end
/-- isinstance of the error that a suite holds -/
def rIsEc (K : PySem.W.Frag) (D a : Addr) (cls : Value) (d : Option Addr) : List V → Hp → VK → Prop := fun xs H Q => cls = .ref D ∧ d = none ∧ ∃ (c : V) (b : Bool), xs = [.ref a, c] ∧ (∃ cv, (∀ u, RelV c u → u = cv) ∧ PySem.W.kitOne K (.ref D) cv = some b) ∧ Q (.bl b) H
theorem call_isEc {X : Cx} {a D : Addr} {cls : Value} {d : Option Addr} {oe : Obj} {pn : List (Addr × Obj)} (C : ExcC X.K D) (hz : Zc cls d oe) (hf : ∃ vs, oe.data = .fields vs) : CallR (X.suite a ((a, oe) :: pn)) (.builtin "isinstance") (rIsEc X.K D a cls d) := by
  intro pins s σ H xs us Q I r h
  obtain ⟨rfl, rfl, c, b, e, ⟨cv, h1, h2⟩, q⟩ := h
  exact call_isE C hz hf pins s σ H xs us Q I r ⟨c, cv, b, e, h1, h2, q⟩
/-! ### a text a number of times -/
def rMulS : R2 := fun x y H Q => ∃ (l : List Nat) (n : Nat), x = .str (mkS l) ∧ y = .int n ∧ 1 ≤ n ∧ n ≤ 1000 ∧ l.length ≤ 1000 ∧ Q (.str (mkS (List.replicate n l).flatten)) H
theorem foldl_app : ∀ (xs : List (Array Nat)) (a : Array Nat), (xs.foldl (· ++ ·) a).toList = a.toList ++ (xs.map Array.toList).flatten
  | [], a => by simp
  | x :: xs, a => by rw [List.foldl_cons, foldl_app xs (a ++ x)]; simp
theorem rep_len (l : List Nat) : ∀ n : Nat, (List.replicate n l).flatten.length = n * l.length
  | 0 => by simp
  | n + 1 => by rw [List.replicate_succ, List.flatten_cons, List.length_append, rep_len l n, Nat.succ_mul, Nat.add_comm]
theorem op_mul_str {X : Cx} : OpR X (binaryOp .Mult) rMulS := by
  intro pins s σ H x y v u Q I rx ry h
  obtain ⟨l, n, rfl, rfl, h1, h2, h3, q⟩ := h
  obtain ⟨t, rfl⟩ := rx
  obtain ⟨t', rfl⟩ := ry
  have hm : l.length * n ≤ 1000000 := Nat.mul_le_mul h3 h2
  have hlen : (mkS l).length = l.length := mkS_len l
  have hz : (⟨(List.replicate n (mkS l).cps).foldl (· ++ ·) #[]⟩ : Str) = mkS (List.replicate n l).flatten := by
    rw [mkS_of ⟨_⟩]
    show mkS ((List.replicate n (mkS l).cps).foldl (· ++ ·) #[]).toList = _
    rw [foldl_app, List.map_replicate]
    rfl
  refine PySem.P.mul_str ?_ ?_ ?_ ?_
  · simp; omega
  · intro _ _
    rw [hlen]
    have : (1000000 : Int) ≤ (2 ^ 63 - 1) / n := by
      rw [Int.le_ediv_iff_mul_le (by omega)]
      omega
    omega
  · intro _ _
    rw [hlen, Int.toNat_natCast]
    show decide (l.length * n > sizeLine) = false
    exact decide_eq_false (Nat.not_lt.mpr (Nat.le_trans hm (by decide)))
  · rw [if_neg (by omega), Int.toNat_natCast, hz]
    by_cases h : ((n : Int) == 1 || (mkS l).length == 0) = true
    · have e : mkS (List.replicate n l).flatten = mkS l := by
        simp only [Bool.or_eq_true, beq_iff_eq] at h
        rcases h with h | h
        · have : n = 1 := by omega
          subst this
          simp
        · rw [hlen] at h
          have : l = [] := List.length_eq_zero_iff.mp h
          subst this
          congr 1
          simp
      rw [if_pos h]
      rw [e] at q
      exact ⟨.str _, H, I, ⟨t, rfl⟩, q⟩
    · rw [if_neg h]
      refine ⟨?_, .str _, H, I.tok _, ⟨_, rfl⟩, q⟩
      rw [mkS_len, rep_len]
      have : n * l.length ≤ 1000000 := by rw [Nat.mul_comm]; exact hm
      exact Nat.le_trans this (by decide)
/-! ### a comprehension over a text -/
section
variable {z : Str} {j : Nat} {tt : TT} {te : TE} {vs : List Nat} {σ : L2.St} {H1 : Hp} {Q : VK}
theorem lcS (P : Nat → List V → Hp → Prop) (mono : ∀ i acc H H', KT H H' → P i acc H → P i acc H') (hl : z.cps.size ≤ 100000) (hw : ∀ x, wipe ((wipe σ vs).set j (some x)) vs = wipe σ vs) (h0 : P 0 [] H1)
    (hs : ∀ i c acc H, z.cps[i]? = some c → acc.length ≤ i → Same H1 H → P i acc H → LcTurn tt te ((wipe σ vs).set j (some (.str (mkS [c])))) P i acc H)
    (hq : ∀ D ys H', H1 D = none → Same H1 H' → H' D = some (.lst ys) → P z.cps.size ys H' → Q (.ref D) H') : LcGo (Its z) (gName j) tt te vs σ H1 Q := by
  intro D hD
  refine ⟨fun i m H => m = z.cps.size - i ∧ i ≤ z.cps.size ∧ LcInv H1 D P i H, ⟨z.cps.size, by simp, Nat.zero_le _, [], upd_same, Nat.zero_le _, same_new hD, mono _ _ _ _ (kt_new hD) h0⟩, ?_⟩
  rintro i m H ⟨rfl, hi, p⟩
  by_cases hlt : i < z.cps.size
  · refine .inr ⟨hlt, LcInv H1 D P (i + 1), fun H' p' => ⟨z.cps.size - (i + 1), by omega, rfl, hlt, p'⟩, ?_⟩
    rintro x H' ⟨rfl, c, hc, rfl⟩
    exact ⟨hw _, lc_turn mono hD (by omega) p fun acc h2 h3 h4 => hs i c acc _ hc h2 h3 h4⟩
  · have e : i = z.cps.size := by omega
    subst e
    obtain ⟨acc, h1, h2, h3, h4⟩ := p
    exact .inl ⟨Nat.le_refl _, hq D acc H hD h3 h1 h4⟩
end
/-! ### a written dict, also asked for what it does not hold -/
def rInK (K : PySem.W.Frag) (d : Addr) (neg : Bool) : R2 := fun x y H Q => ∃ (z : Str) (b : Bool), x = .str z ∧ y = .ref d ∧ (∃ r, PySem.W.nsIn K d z = some r ∧ r.isSome = b) ∧ Q (.bl (if neg = true then !b else b)) H
abbrev KDE (K : PySem.W.Frag) (w : World) (d : Addr) : Prop := ∃ es n, KDict K w d es n
theorem op_in_kde {X : Cx} {d : Addr} (D : KDE X.K X.w d) : OpR X (compareOp .In) (rInK X.K d false) := by
  obtain ⟨es, n, D⟩ := D
  intro pins s σ H x y v u Q I rx ry h
  obtain ⟨z, b, e1, e2, ⟨r, h1, rfl⟩, q⟩ := h
  exact op_in_kd D pins s σ H x y v u Q I rx ry ⟨z, r, e1, e2, h1, q⟩
theorem op_notIn_kde {X : Cx} {d : Addr} (D : KDE X.K X.w d) : OpR X (compareOp .NotIn) (rInK X.K d true) := by
  obtain ⟨es, n, D⟩ := D
  intro pins s σ H x y v u Q I rx ry h
  obtain ⟨z, b, e1, e2, ⟨r, h1, rfl⟩, q⟩ := h
  exact op_notIn_kd D pins s σ H x y v u Q I rx ry ⟨z, r, e1, e2, h1, q⟩
/-- what a written dict does not hold -/
theorem nsIn_none {K : PySem.W.Frag} {a : Addr} {c : Value} {od : Option Addr} {es : Array DictEntry} {n : Nat} {sl : Array (Option Value)} {ws : List Str} (h : K.lookup a = some ⟨c, od, .dict es n, sl⟩)
    (hk : es.toList.all (fun e => match e.key with | .str z _ => ws.contains z | _ => false) = true) {x : Str} (hx : ws.contains x = false) : PySem.W.nsIn K a x = some none := by
  unfold PySem.W.nsIn
  rw [h]
  have hk' := List.all_eq_true.mp hk
  have h1 : es.toList.find? (fun e => e.key.isStr x) = none := by
    rw [List.find?_eq_none]
    intro e he hs
    have := hk' e he
    split at this
    · rename_i z t ez
      rw [ez] at hs
      have hzx : z = x := by simpa [Value.isStr] using hs
      rw [hzx, hx] at this
      cases this
    · cases this
  have h2 : es.toList.any (fun e => e.refKey) = false := by
    rw [List.any_eq_false]
    intro e he hs
    have := hk' e he
    split at this
    · rename_i z t ez
      unfold DictEntry.refKey at hs
      rw [ez] at hs
      cases hs
    · cases this
  dsimp only
  rw [h1]
  dsimp only
  rw [h2]
  rfl
end My
namespace My
open PySem L2
theorem cut_from {xs : List V} {n : Nat} (h : n ≤ xs.length) : cutV xs (some (n : Int)) none = xs.drop n := by
  unfold cutV
  rw [HT.sIx_nat, HT.sIx_none, Nat.min_eq_left h]
  exact List.take_of_length_le (by rw [List.length_drop]; exact Nat.le_refl _)
theorem not_whole {n m : Nat} (h : 0 < n) (hm : n ≤ m) : ¬ (HT.sIx m 0 (some (n : Int)) = 0 ∧ HT.sIx m m none = m) := by
  rw [HT.sIx_nat]
  omega
/-- the script's number at a place, 0 behind its end -/
def cell (ns : List Int) (k : Nat) : Int := ns.getD k 0
theorem cell_at {ns : List Int} {k : Nat} (h : (k : Int) < ((ns.map V.int).length : Int)) : atI (ns.map V.int) (k : Int) = some (.int (cell ns k)) := by
  rw [List.length_map] at h
  have h' : k < ns.length := by omega
  refine atI_nat ?_
  rw [List.getElem?_map, List.getElem?_eq_getElem h']
  simp [cell, List.getD_eq_getElem?_getD, List.getElem?_eq_getElem h']
theorem cell_out {ns : List Int} {k : Nat} (h : ¬ (k : Int) < ((ns.map V.int).length : Int)) : cell ns k = 0 := by
  rw [List.length_map] at h
  have h' : ns.length ≤ k := by omega
  simp [cell, List.getD_eq_getElem?_getD, List.getElem?_eq_none h']
def spCellA (K : PySem.W.Frag) : Sp := fun vs H Q _ => ∃ (a : Addr) (ns : List Int) (k : Nat), vs = [.ref a, .int k] ∧ SqL K H a (ns.map V.int) ∧ Q (.int (cell ns k)) H
end My
namespace My
open PySem L2
section
variable {lo c : Int} {n : Nat} {j : Nat} {tt : TT} {te : TE} {vs : List Nat} {σ : L2.St} {H1 : Hp} {Q : VK}
theorem lcC (P : Nat → List V → Hp → Prop) (mono : ∀ i acc H H', KT H H' → P i acc H → P i acc H') (hl : n ≤ 100000) (hw : ∀ x, wipe ((wipe σ vs).set j (some x)) vs = wipe σ vs) (h0 : P 0 [] H1)
    (hs : ∀ i acc H, i < n → acc.length ≤ i → Same H1 H → P i acc H → LcTurn tt te ((wipe σ vs).set j (some (.int (lo + (i : Nat) * c)))) P i acc H)
    (hq : ∀ D ys H', H1 D = none → Same H1 H' → H' D = some (.lst ys) → P n ys H' → Q (.ref D) H') : LcGo (Itc lo c n) (gName j) tt te vs σ H1 Q := by
  intro D hD
  refine ⟨fun i m H => m = n - i ∧ i ≤ n ∧ LcInv H1 D P i H, ⟨n, by simp, Nat.zero_le _, [], upd_same, Nat.zero_le _, same_new hD, mono _ _ _ _ (kt_new hD) h0⟩, ?_⟩
  rintro i m H ⟨rfl, hi, p⟩
  by_cases hlt : i < n
  · refine .inr ⟨hlt, LcInv H1 D P (i + 1), fun H' p' => ⟨n - (i + 1), by omega, rfl, hlt, p'⟩, ?_⟩
    rintro x H' ⟨rfl, rfl⟩
    exact ⟨hw _, lc_turn mono hD (by omega) p fun acc h2 h3 h4 => hs i acc _ hlt h2 h3 h4⟩
  · have e : i = n := by omega
    subst e
    obtain ⟨acc, h1, h2, h3, h4⟩ := p
    exact .inl ⟨Nat.le_refl _, hq D acc H hD h3 h1 h4⟩
end
theorem RgC.two {m : Nat} (h0 : 0 < m) (h1 : m ≤ 100000) : RgC 0 ((m : Int) - 1) 2 (m / 2) := by
  refine ⟨by decide, by decide, ?_, ?_⟩
  · have hz : Builtin.Range.rangeSize 0 ((m : Int) - 1) 2 = ((m / 2 : Nat) : Int) := by
      unfold Builtin.Range.rangeSize
      rw [if_pos (by decide)]
      split <;> omega
    unfold Builtin.Range.small
    rw [hz]
    simp only [Builtin.Range.rangeFitsLong, Bool.and_eq_true, Bool.or_eq_true, decide_eq_true_eq, beq_iff_eq, show (2 : Int) > 0 by decide, if_true]
    omega
  · unfold Builtin.Range.rangeSize
    rw [if_pos (by decide)]
    split <;> omega
end My
namespace My
open PySem L2
theorem kit_own {K : PySem.W.Frag} {t : Value} {C : Addr} (h1 : PySem.W.isClsIn K C = true) (h2 : PySem.W.typeIn K (.ref C) = some (.type "type")) (h3 : PySem.W.subIn K t (.ref C) = some true) : PySem.W.kitOne K t (.ref C) = some true := by
  unfold PySem.W.kitOne
  split
  · rfl
  · have h1' : (PySem.W.clsIn K C).isSome = true := h1
    show (if ((PySem.W.clsIn K C).isSome && PySem.W.typeIn K (.ref C) == some (.type "type")) = true then PySem.W.subIn K t (.ref C) else none) = some true
    rw [h1', h2]
    exact (if_pos (by rfl)).trans h3
theorem kit_blt {K : PySem.W.Frag} {t : Value} {T : String} (h1 : PySem.W.kitMeta T = true) (h3 : PySem.W.subIn K t (.type T) = some true) : PySem.W.kitOne K t (.type T) = some true := by
  unfold PySem.W.kitOne
  split
  · rfl
  · show (if PySem.W.kitMeta T = true then PySem.W.subIn K t (.type T) else none) = some true
    rw [if_pos h1]
    exact h3
end My

namespace My
open PySem L2
/-! ### free names and putting in -/
/-- x stands free in the tree -/
def Tr.fr (x : Str) : Tr → Prop
  | .num _ => False
  | .name y => y = x
  | .fn y b => y ≠ x ∧ b.fr x
  | .call f a => f.fr x ∨ a.fr x
  | .plus f a => f.fr x ∨ a.fr x
  | .less f a => f.fr x ∨ a.fr x
  | .ite c f a => c.fr x ∨ f.fr x ∨ a.fr x
  | .lt y e b => e.fr x ∨ (y ≠ x ∧ b.fr x)
def Tr.closed (t : Tr) : Prop := ∀ x, ¬ t.fr x
/-- what stands for names -/
abbrev Sb := Str → Option Tr
def Sb.none : Sb := fun _ => Option.none
def Sb.one (x : Str) (v : Tr) : Sb := fun y => if y = x then some v else Option.none
def Sb.del (s : Sb) (x : Str) : Sb := fun y => if y = x then Option.none else s y
def Sb.add (s : Sb) (x : Str) (v : Tr) : Sb := fun y => if y = x then some v else s y
def Sb.or (s r : Sb) : Sb := fun y => (s y).or (r y)
/-- put in for all of them at once -/
def Tr.sub (s : Sb) : Tr → Tr
  | .num n => .num n
  | .name y => (s y).getD (.name y)
  | .fn y b => .fn y (b.sub (s.del y))
  | .call f a => .call (f.sub s) (a.sub s)
  | .plus f a => .plus (f.sub s) (a.sub s)
  | .less f a => .less (f.sub s) (a.sub s)
  | .ite c f a => .ite (c.sub s) (f.sub s) (a.sub s)
  | .lt y e b => .lt y (e.sub s) (b.sub (s.del y))
def Tr.put (t : Tr) (x : Str) (v : Tr) : Tr := t.sub (Sb.one x v)
def Sb.Cl (s : Sb) : Prop := ∀ x v, s x = some v → v.closed
theorem Sb.Cl.del {s : Sb} (h : s.Cl) (x : Str) : (s.del x).Cl := fun y v e => by
  unfold Sb.del at e
  split at e
  · cases e
  · exact h y v e
theorem Sb.Cl.add {s : Sb} (h : s.Cl) {x : Str} {v : Tr} (hv : v.closed) : (s.add x v).Cl := fun y u e => by
  unfold Sb.add at e
  split at e
  · cases e; exact hv
  · exact h y u e
theorem Sb.Cl.one {x : Str} {v : Tr} (hv : v.closed) : (Sb.one x v).Cl := fun y u e => by
  unfold Sb.one at e
  split at e
  · cases e; exact hv
  · cases e
theorem Tr.sub_congr : ∀ {t : Tr} {s r : Sb}, (∀ x, t.fr x → s x = r x) → t.sub s = t.sub r
  | .num _, s, r, h => rfl
  | .name y, s, r, h => by simp only [Tr.sub]; rw [h y rfl]
  | .fn y b, s, r, h => by
    simp only [Tr.sub]
    rw [Tr.sub_congr (t := b) (s := s.del y) (r := r.del y) fun x hx => by
      unfold Sb.del
      split
      · rfl
      · rename_i ne; exact h x ⟨fun e => ne e.symm, hx⟩]
  | .call f a, s, r, h => by simp only [Tr.sub]; rw [Tr.sub_congr fun x hx => h x (.inl hx), Tr.sub_congr fun x hx => h x (.inr hx)]
  | .plus f a, s, r, h => by simp only [Tr.sub]; rw [Tr.sub_congr fun x hx => h x (.inl hx), Tr.sub_congr fun x hx => h x (.inr hx)]
  | .less f a, s, r, h => by simp only [Tr.sub]; rw [Tr.sub_congr fun x hx => h x (.inl hx), Tr.sub_congr fun x hx => h x (.inr hx)]
  | .ite c f a, s, r, h => by simp only [Tr.sub]; rw [Tr.sub_congr fun x hx => h x (.inl hx), Tr.sub_congr fun x hx => h x (.inr (.inl hx)), Tr.sub_congr fun x hx => h x (.inr (.inr hx))]
  | .lt y e b, s, r, h => by
    simp only [Tr.sub]
    rw [Tr.sub_congr (t := e) fun x hx => h x (.inl hx), Tr.sub_congr (t := b) (s := s.del y) (r := r.del y) fun x hx => by
      unfold Sb.del
      split
      · rfl
      · rename_i ne; exact h x (.inr ⟨fun e => ne e.symm, hx⟩)]
theorem Sb.none_del (x : Str) : Sb.none.del x = Sb.none := by
  funext y
  unfold Sb.del Sb.none
  split <;> rfl
theorem Tr.sub_none : ∀ t : Tr, t.sub Sb.none = t
  | .num _ => rfl
  | .name _ => rfl
  | .fn y b => by simp only [Tr.sub]; rw [Sb.none_del, Tr.sub_none b]
  | .call f a => by simp only [Tr.sub]; rw [Tr.sub_none f, Tr.sub_none a]
  | .plus f a => by simp only [Tr.sub]; rw [Tr.sub_none f, Tr.sub_none a]
  | .less f a => by simp only [Tr.sub]; rw [Tr.sub_none f, Tr.sub_none a]
  | .ite c f a => by simp only [Tr.sub]; rw [Tr.sub_none c, Tr.sub_none f, Tr.sub_none a]
  | .lt y e b => by simp only [Tr.sub]; rw [Sb.none_del, Tr.sub_none e, Tr.sub_none b]
theorem Tr.sub_id {t : Tr} {s : Sb} (h : ∀ x, t.fr x → s x = none) : t.sub s = t := (Tr.sub_congr (r := Sb.none) h).trans t.sub_none
theorem Tr.sub_closed {t : Tr} (h : t.closed) (s : Sb) : t.sub s = t := Tr.sub_id fun x hx => absurd hx (h x)
theorem Tr.put_id {t : Tr} {x : Str} {v : Tr} (h : ¬ t.fr x) : t.put x v = t := Tr.sub_id fun y hy => by
  unfold Sb.one
  rw [if_neg]
  intro e
  exact h (e ▸ hy)
theorem Sb.or_del (s r : Sb) (x : Str) : (s.or r).del x = (s.del x).or (r.del x) := by
  funext y
  unfold Sb.del Sb.or
  by_cases h : y = x <;> simp [h]
/-- first s, then r: closed things stand for names in s -/
theorem Tr.sub_sub : ∀ {t : Tr} {s r : Sb}, s.Cl → (t.sub s).sub r = t.sub (s.or r)
  | .num _, s, r, h => rfl
  | .name y, s, r, h => by
    simp only [Tr.sub, Sb.or]
    cases e : s y with
    | none => rfl
    | some v => exact Tr.sub_closed (h y v e) r
  | .fn y b, s, r, h => by simp only [Tr.sub]; rw [Tr.sub_sub (h.del y), Sb.or_del]
  | .call f a, s, r, h => by simp only [Tr.sub]; rw [Tr.sub_sub h, Tr.sub_sub h]
  | .plus f a, s, r, h => by simp only [Tr.sub]; rw [Tr.sub_sub h, Tr.sub_sub h]
  | .less f a, s, r, h => by simp only [Tr.sub]; rw [Tr.sub_sub h, Tr.sub_sub h]
  | .ite c f a, s, r, h => by simp only [Tr.sub]; rw [Tr.sub_sub h, Tr.sub_sub h, Tr.sub_sub h]
  | .lt y e b, s, r, h => by simp only [Tr.sub]; rw [Tr.sub_sub h, Tr.sub_sub (h.del y), Sb.or_del]
/-- what is free behind it -/
theorem Tr.fr_sub : ∀ {t : Tr} {s : Sb} {x : Str}, s.Cl → ((t.sub s).fr x ↔ t.fr x ∧ s x = none)
  | .num _, s, x, h => by simp [Tr.sub, Tr.fr]
  | .name y, s, x, h => by
    simp only [Tr.sub, Tr.fr]
    cases e : s y with
    | none =>
      show y = x ↔ _
      constructor
      · intro h; exact ⟨h, h ▸ e⟩
      · exact fun h => h.1
    | some v =>
      show v.fr x ↔ _
      constructor
      · intro hx; exact absurd hx (h y v e x)
      · rintro ⟨rfl, h2⟩; rw [e] at h2; cases h2
  | .fn y b, s, x, h => by
    simp only [Tr.sub, Tr.fr]
    rw [Tr.fr_sub (h.del y)]
    unfold Sb.del
    constructor
    · rintro ⟨h1, h2, h3⟩
      rw [if_neg (fun e => h1 e.symm)] at h3
      exact ⟨⟨h1, h2⟩, h3⟩
    · rintro ⟨⟨h1, h2⟩, h3⟩
      exact ⟨h1, h2, by rw [if_neg (fun e => h1 e.symm)]; exact h3⟩
  | .call f a, s, x, h => by simp only [Tr.sub, Tr.fr]; rw [Tr.fr_sub h, Tr.fr_sub h]; exact ⟨fun | .inl p => ⟨.inl p.1, p.2⟩ | .inr p => ⟨.inr p.1, p.2⟩, fun | ⟨.inl p, q⟩ => .inl ⟨p, q⟩ | ⟨.inr p, q⟩ => .inr ⟨p, q⟩⟩
  | .plus f a, s, x, h => by simp only [Tr.sub, Tr.fr]; rw [Tr.fr_sub h, Tr.fr_sub h]; exact ⟨fun | .inl p => ⟨.inl p.1, p.2⟩ | .inr p => ⟨.inr p.1, p.2⟩, fun | ⟨.inl p, q⟩ => .inl ⟨p, q⟩ | ⟨.inr p, q⟩ => .inr ⟨p, q⟩⟩
  | .less f a, s, x, h => by simp only [Tr.sub, Tr.fr]; rw [Tr.fr_sub h, Tr.fr_sub h]; exact ⟨fun | .inl p => ⟨.inl p.1, p.2⟩ | .inr p => ⟨.inr p.1, p.2⟩, fun | ⟨.inl p, q⟩ => .inl ⟨p, q⟩ | ⟨.inr p, q⟩ => .inr ⟨p, q⟩⟩
  | .ite c f a, s, x, h => by
    simp only [Tr.sub, Tr.fr]
    rw [Tr.fr_sub h, Tr.fr_sub h, Tr.fr_sub h]
    exact ⟨fun | .inl p => ⟨.inl p.1, p.2⟩ | .inr (.inl p) => ⟨.inr (.inl p.1), p.2⟩ | .inr (.inr p) => ⟨.inr (.inr p.1), p.2⟩, fun | ⟨.inl p, q⟩ => .inl ⟨p, q⟩ | ⟨.inr (.inl p), q⟩ => .inr (.inl ⟨p, q⟩) | ⟨.inr (.inr p), q⟩ => .inr (.inr ⟨p, q⟩)⟩
  | .lt y e b, s, x, h => by
    simp only [Tr.sub, Tr.fr]
    rw [Tr.fr_sub h, Tr.fr_sub (h.del y)]
    unfold Sb.del
    constructor
    · rintro (p | ⟨h1, h2, h3⟩)
      · exact ⟨.inl p.1, p.2⟩
      · rw [if_neg (fun e => h1 e.symm)] at h3
        exact ⟨.inr ⟨h1, h2⟩, h3⟩
    · rintro ⟨p | ⟨h1, h2⟩, h3⟩
      · exact .inl ⟨p, h3⟩
      · exact .inr ⟨h1, h2, by rw [if_neg (fun e => h1 e.symm)]; exact h3⟩
theorem Sb.del_or_one (s : Sb) (x : Str) (v : Tr) : (s.del x).or (Sb.one x v) = s.add x v := by
  funext y
  unfold Sb.del Sb.or Sb.one Sb.add
  by_cases h : y = x
  · simp [h]
  · simp [h]
/-- the body of a function round which s was put in, with v for its name -/
theorem Tr.put_body {b : Tr} {s : Sb} {x : Str} {v : Tr} (h : s.Cl) : (b.sub (s.del x)).put x v = b.sub (s.add x v) := by
  unfold Tr.put
  rw [Tr.sub_sub (h.del x), Sb.del_or_one]
end My

namespace My
open PySem L2
/-! ### what a deed is refused for -/
inductive Er where
  | number | function | closed
  deriving DecidableEq
/-! ### one deed -/
inductive St1 where
  | val | to (t : Tr) | err (e : Er)
def Tr.isV : Tr → Bool
  | .num _ => true
  | .fn _ _ => true
  | _ => false
def Tr.step : Tr → St1
  | .num _ => .val
  | .fn _ _ => .val
  | .name _ => .err .closed
  | .plus a b => match a.step with
    | .to a' => .to (.plus a' b)
    | .err e => .err e
    | .val => match b.step with
      | .to b' => .to (.plus a b')
      | .err e => .err e
      | .val => match a, b with
        | .num m, .num n => .to (.num (m + n))
        | _, _ => .err .number
  | .less a b => match a.step with
    | .to a' => .to (.less a' b)
    | .err e => .err e
    | .val => match b.step with
      | .to b' => .to (.less a b')
      | .err e => .err e
      | .val => match a, b with
        | .num m, .num n => .to (.num (m - n))
        | _, _ => .err .number
  | .call a b => match a.step with
    | .to a' => .to (.call a' b)
    | .err e => .err e
    | .val => match b.step with
      | .to b' => .to (.call a b')
      | .err e => .err e
      | .val => match a with
        | .fn x t => .to (t.put x b)
        | _ => .err .function
  | .ite c a b => match c.step with
    | .to c' => .to (.ite c' a b)
    | .err e => .err e
    | .val => match c with
      | .num n => .to (if n = 0 then b else a)
      | _ => .err .number
  | .lt x e b => match e.step with
    | .to e' => .to (.lt x e' b)
    | .err e => .err e
    | .val => .to (b.put x e)
theorem Tr.step_val {t : Tr} : t.step = .val ↔ t.isV = true := by
  cases t with
  | num n => simp [Tr.step, Tr.isV]
  | fn x b => simp [Tr.step, Tr.isV]
  | name x => simp [Tr.step, Tr.isV]
  | plus a b =>
    simp only [Tr.step, Tr.isV]
    repeat' split
    all_goals simp
  | less a b =>
    simp only [Tr.step, Tr.isV]
    repeat' split
    all_goals simp
  | call a b =>
    simp only [Tr.step, Tr.isV]
    repeat' split
    all_goals simp
  | ite c a b =>
    simp only [Tr.step, Tr.isV]
    repeat' split
    all_goals simp
  | lt x e b =>
    simp only [Tr.step, Tr.isV]
    repeat' split
    all_goals simp
/-! ### deed behind deed -/
/-- what comes of a whole work: a value and the deeds left; refused; dry -/
inductive Rs (α : Type) where
  | ok (v : α) (m : Nat) | err (e : Er) | dry
def work : Nat → Tr → Rs Tr
  | 0, t => match t.step with
    | .val => .ok t 0
    | _ => .dry
  | m + 1, t => match t.step with
    | .val => .ok t (m + 1)
    | .to t' => work m t'
    | .err e => .err e
/-! ### the machine -/
mutual
inductive Val where
  | num (n : Int) | fn (x : Str) (b : Tr) (e : Env)
inductive Env where
  | nil | cons (y : Str) (v : Val) (e : Env)
end
def Env.look : Env → Str → Option Val
  | .nil, _ => none
  | .cons y v e, x => if x = y then some v else e.look x
def Env.keep (e : Env) : List Str → Env
  | [] => .nil
  | y :: r => match e.look y with
    | some v => .cons y v (e.keep r)
    | none => e.keep r
inductive Rv where
  | ok (v : Val) (m : Nat) (l : List Val) | err (e : Er) | dry
def Rv.left : Rv → Nat
  | .ok _ m _ => m
  | _ => 0
def Rv.log (l : List Val) : Rv → Rv
  | .ok v m l' => .ok v m (l ++ l')
  | r => r
theorem Rv.left_log (l : List Val) (r : Rv) : (r.log l).left = r.left := by cases r <;> rfl
def Val.add : Val → Val → Rv
  | .num m, .num n => .ok (.num (m + n)) 0 []
  | _, _ => .err .number
/-- a sum's or a difference's deed, with m deeds left behind it -/
def arith (f : Int → Int → Int) (v w : Val) (m : Nat) (l : List Val) : Rv := match v, w with
  | .num a, .num b => .ok (.num (f a b)) m l
  | _, _ => .err .number
theorem arith_left (f : Int → Int → Int) (v w : Val) (m : Nat) (l : List Val) : (arith f v w m l).left ≤ m := by
  unfold arith
  split
  · exact Nat.le_refl _
  · exact Nat.zero_le _
theorem lexle {a b c d : Nat} (h : a ≤ b) (g : c < d) : Prod.Lex (fun x y => x < y) (fun x y => x < y) (a, c) (b, d) := by
  rcases Nat.lt_or_eq_of_le h with h | h
  · exact Prod.Lex.left _ _ h
  · subst h; exact Prod.Lex.right _ g
variable (fl : Tr → List Str)
def evA : (m : Nat) → (e : Env) → (t : Tr) → {r : Rv // r.left ≤ m}
  | m, e, .num n => ⟨.ok (.num n) m [], Nat.le_refl _⟩
  | m, e, .name x => match e.look x with
    | some v => ⟨.ok v m [], Nat.le_refl _⟩
    | none => ⟨.err .closed, Nat.zero_le _⟩
  | m, e, .fn x b => ⟨.ok (.fn x b (e.keep (fl (.fn x b)))) m [.fn x b (e.keep (fl (.fn x b)))], Nat.le_refl _⟩
  | m, e, .plus a b => match evA m e a with
    | ⟨.ok v m1 l1, h1⟩ => match evA m1 e b with
      | ⟨.ok _ 0 _, _⟩ => ⟨.dry, Nat.zero_le _⟩
      | ⟨.ok w (m2 + 1) l2, h2⟩ => ⟨arith (· + ·) v w m2 (l1 ++ l2), Nat.le_trans (arith_left _ _ _ _ _) (by simp only [Rv.left] at h1 h2; omega)⟩
      | ⟨.err c, _⟩ => ⟨.err c, Nat.zero_le _⟩
      | ⟨.dry, _⟩ => ⟨.dry, Nat.zero_le _⟩
    | ⟨.err c, _⟩ => ⟨.err c, Nat.zero_le _⟩
    | ⟨.dry, _⟩ => ⟨.dry, Nat.zero_le _⟩
  | m, e, .less a b => match evA m e a with
    | ⟨.ok v m1 l1, h1⟩ => match evA m1 e b with
      | ⟨.ok _ 0 _, _⟩ => ⟨.dry, Nat.zero_le _⟩
      | ⟨.ok w (m2 + 1) l2, h2⟩ => ⟨arith (· - ·) v w m2 (l1 ++ l2), Nat.le_trans (arith_left _ _ _ _ _) (by simp only [Rv.left] at h1 h2; omega)⟩
      | ⟨.err c, _⟩ => ⟨.err c, Nat.zero_le _⟩
      | ⟨.dry, _⟩ => ⟨.dry, Nat.zero_le _⟩
    | ⟨.err c, _⟩ => ⟨.err c, Nat.zero_le _⟩
    | ⟨.dry, _⟩ => ⟨.dry, Nat.zero_le _⟩
  | m, e, .call a b => match evA m e a with
    | ⟨.ok v m1 l1, h1⟩ => match evA m1 e b with
      | ⟨.ok _ 0 _, _⟩ => ⟨.dry, Nat.zero_le _⟩
      | ⟨.ok w (m2 + 1) l2, h2⟩ => match v with
        | .fn x t e' => ⟨(evA m2 (.cons x w e') t).1.log (l1 ++ l2), by rw [Rv.left_log]; exact Nat.le_trans (evA m2 (.cons x w e') t).2 (by simp only [Rv.left] at h1 h2; omega)⟩
        | .num _ => ⟨.err .function, Nat.zero_le _⟩
      | ⟨.err c, _⟩ => ⟨.err c, Nat.zero_le _⟩
      | ⟨.dry, _⟩ => ⟨.dry, Nat.zero_le _⟩
    | ⟨.err c, _⟩ => ⟨.err c, Nat.zero_le _⟩
    | ⟨.dry, _⟩ => ⟨.dry, Nat.zero_le _⟩
  | m, e, .ite c a b => match evA m e c with
    | ⟨.ok _ 0 _, _⟩ => ⟨.dry, Nat.zero_le _⟩
    | ⟨.ok v (m1 + 1) l1, h1⟩ => match v with
      | .num n => if n = 0 then ⟨(evA m1 e b).1.log l1, by rw [Rv.left_log]; exact Nat.le_trans (evA m1 e b).2 (by simp only [Rv.left] at h1; omega)⟩
        else ⟨(evA m1 e a).1.log l1, by rw [Rv.left_log]; exact Nat.le_trans (evA m1 e a).2 (by simp only [Rv.left] at h1; omega)⟩
      | .fn _ _ _ => ⟨.err .number, Nat.zero_le _⟩
    | ⟨.err c, _⟩ => ⟨.err c, Nat.zero_le _⟩
    | ⟨.dry, _⟩ => ⟨.dry, Nat.zero_le _⟩
  | m, e, .lt x a b => match evA m e a with
    | ⟨.ok _ 0 _, _⟩ => ⟨.dry, Nat.zero_le _⟩
    | ⟨.ok v (m1 + 1) l1, h1⟩ => ⟨(evA m1 (.cons x v e) b).1.log l1, by rw [Rv.left_log]; exact Nat.le_trans (evA m1 (.cons x v e) b).2 (by simp only [Rv.left] at h1; omega)⟩
    | ⟨.err c, _⟩ => ⟨.err c, Nat.zero_le _⟩
    | ⟨.dry, _⟩ => ⟨.dry, Nat.zero_le _⟩
termination_by m _ t => (m, t.size)
decreasing_by
  all_goals simp_wf
  all_goals (simp only [Rv.left, Tr.size] at *; first | exact lexle (by omega) (by omega) | exact Prod.Lex.left _ _ (by omega))
def ev (m : Nat) (e : Env) (t : Tr) : Rv := (evA fl m e t).1
section
variable {fl : Tr → List Str} {m : Nat} {e : Env} {x : Str} {n : Int} {a b c : Tr}
theorem ev_num : ev fl m e (.num n) = .ok (.num n) m [] := by unfold ev; rw [evA]
theorem ev_name : ev fl m e (.name x) = match e.look x with | some v => .ok v m [] | none => .err .closed := by
  unfold ev; rw [evA]
  split <;> rfl
theorem ev_fn : ev fl m e (.fn x b) = .ok (.fn x b (e.keep (fl (.fn x b)))) m [.fn x b (e.keep (fl (.fn x b)))] := by unfold ev; rw [evA]
/-- behind a first part -/
def Rv.bind (r : Rv) (k : Val → Nat → List Val → Rv) : Rv := match r with
  | .ok v m l => k v m l
  | .err c => .err c
  | .dry => .dry
/-- a deed, where one is left -/
def deed (m : Nat) (k : Nat → Rv) : Rv := match m with
  | 0 => .dry
  | m + 1 => k m
theorem ev_plus : ev fl m e (.plus a b) = (ev fl m e a).bind fun v m1 l1 => (ev fl m1 e b).bind fun w m2 l2 => deed m2 fun m3 => arith (· + ·) v w m3 (l1 ++ l2) := by
  unfold ev; rw [evA]
  generalize evA fl m e a = A
  obtain ⟨r, hr⟩ := A
  cases r with
  | ok v m1 l1 =>
    dsimp only [Rv.bind]
    generalize evA fl m1 e b = B
    obtain ⟨r2, hr2⟩ := B
    cases r2 with
    | ok w m2 l2 => cases m2 <;> first | rfl | (cases v <;> rfl)
    | _ => rfl
  | _ => rfl
theorem ev_less : ev fl m e (.less a b) = (ev fl m e a).bind fun v m1 l1 => (ev fl m1 e b).bind fun w m2 l2 => deed m2 fun m3 => arith (· - ·) v w m3 (l1 ++ l2) := by
  unfold ev; rw [evA]
  generalize evA fl m e a = A
  obtain ⟨r, hr⟩ := A
  cases r with
  | ok v m1 l1 =>
    dsimp only [Rv.bind]
    generalize evA fl m1 e b = B
    obtain ⟨r2, hr2⟩ := B
    cases r2 with
    | ok w m2 l2 => cases m2 <;> first | rfl | (cases v <;> rfl)
    | _ => rfl
  | _ => rfl
theorem ev_call : ev fl m e (.call a b) = (ev fl m e a).bind fun v m1 l1 => (ev fl m1 e b).bind fun w m2 l2 => deed m2 fun m3 => match v with | .fn x t e' => (ev fl m3 (.cons x w e') t).log (l1 ++ l2) | .num _ => .err .function := by
  unfold ev; rw [evA]
  generalize evA fl m e a = A
  obtain ⟨r, hr⟩ := A
  cases r with
  | ok v m1 l1 =>
    dsimp only [Rv.bind]
    generalize evA fl m1 e b = B
    obtain ⟨r2, hr2⟩ := B
    cases r2 with
    | ok w m2 l2 => cases m2 <;> first | rfl | (cases v <;> rfl)
    | _ => rfl
  | _ => rfl
theorem ev_ite : ev fl m e (.ite c a b) = (ev fl m e c).bind fun v m1 l1 => deed m1 fun m2 => match v with | .num n => (ev fl m2 e (if n = 0 then b else a)).log l1 | .fn _ _ _ => .err .number := by
  unfold ev; rw [evA]
  generalize evA fl m e c = A
  obtain ⟨r, hr⟩ := A
  cases r with
  | ok v m1 l1 => cases m1 <;> first | rfl | (cases v <;> first | rfl | (rename_i n; dsimp only [Rv.bind, deed]; split <;> rfl))
  | _ => rfl
theorem ev_lt : ev fl m e (.lt x a b) = (ev fl m e a).bind fun v m1 l1 => deed m1 fun m2 => (ev fl m2 (.cons x v e) b).log l1 := by
  unfold ev; rw [evA]
  generalize evA fl m e a = A
  obtain ⟨r, hr⟩ := A
  cases r with
  | ok v m1 l1 => cases m1 <;> first | rfl | (cases v <;> first | rfl | (rename_i n; dsimp only [Rv.bind, deed]; split <;> rfl))
  | _ => rfl
theorem ev_left : (ev fl m e a).left ≤ m := (evA fl m e a).2
end
end My

namespace My
open PySem L2
mutual
def Val.told : Val → Tr
  | .num n => .num n
  | .fn x b e => .fn x (b.sub (e.sb.del x))
def Env.sb : Env → Sb
  | .nil => Sb.none
  | .cons y v e => e.sb.add y v.told
end
mutual
def Val.ok : Val → Prop
  | .num _ => True
  | .fn x b e => (∀ y, (Tr.fn x b).fr y → ∃ v, e.look y = some v) ∧ e.ok
def Env.ok : Env → Prop
  | .nil => True
  | .cons _ v e => v.ok ∧ e.ok
end
def Env.Cov (e : Env) (t : Tr) : Prop := ∀ y, t.fr y → ∃ v, e.look y = some v
theorem Env.sb_look : ∀ (e : Env) (y : Str), e.sb y = (e.look y).map Val.told
  | .nil, y => rfl
  | .cons z v e, y => by
    show (if y = z then some v.told else e.sb y) = Option.map Val.told (if y = z then some v else e.look y)
    split
    · rfl
    · exact Env.sb_look e y
mutual
theorem Val.closed_told : ∀ {v : Val}, v.ok → v.told.closed
  | .num n, _ => fun x h => h
  | .fn x b e, h => fun y hy => by
    have hc : e.sb.Cl := Env.cl_sb h.2
    have hy : ((Tr.fn x b).sub e.sb).fr y := hy
    obtain ⟨h1, h2⟩ := (Tr.fr_sub hc).mp hy
    obtain ⟨v, hv⟩ := h.1 y h1
    rw [Env.sb_look, hv] at h2
    cases h2
theorem Env.cl_sb : ∀ {e : Env}, e.ok → e.sb.Cl
  | .nil, _ => fun x v h => by cases h
  | .cons y v e, h => (Env.cl_sb h.2).add (Val.closed_told h.1)
end
theorem Val.isV_told (v : Val) : v.told.isV = true := by cases v <;> rfl
theorem Val.step_told (v : Val) : v.told.step = .val := Tr.step_val.mpr v.isV_told
theorem Env.ok_look : ∀ {e : Env} {y : Str} {v : Val}, e.ok → e.look y = some v → v.ok
  | .nil, y, v, _, h => by cases h
  | .cons z u e, y, v, k, h => by
    have h : (if y = z then some u else e.look y) = some v := h
    split at h
    · cases h; exact k.1
    · exact Env.ok_look k.2 h
theorem Env.look_keep {e : Env} : ∀ {ns : List Str} {y : Str}, (e.keep ns).look y = if y ∈ ns then e.look y else none
  | [], y => by simp [Env.keep, Env.look]
  | z :: r, y => by
    have ih := Env.look_keep (e := e) (ns := r) (y := y)
    show (match e.look z with | some v => Env.cons z v (e.keep r) | none => e.keep r).look y = _
    cases h : e.look z with
    | none =>
      dsimp only
      rw [ih]
      by_cases hy : y = z
      · subst hy
        simp [h]
      · simp [hy]
    | some v =>
      show (if y = z then some v else (e.keep r).look y) = _
      by_cases hy : y = z
      · subst hy
        simp [h]
      · rw [if_neg hy, ih]
        simp [hy]
theorem Env.ok_keep {e : Env} (k : e.ok) : ∀ ns : List Str, (e.keep ns).ok
  | [] => trivial
  | z :: r => by
    show (match e.look z with | some v => Env.cons z v (e.keep r) | none => e.keep r).ok
    cases h : e.look z with
    | none => exact Env.ok_keep k r
    | some v => exact ⟨Env.ok_look k h, Env.ok_keep k r⟩
/-- a place in which a part is worked out next -/
structure Ctx (F : Tr → Tr) : Prop where
  to : ∀ T T', T.step = .to T' → (F T).step = .to (F T')
  err : ∀ T c, T.step = .err c → (F T).step = .err c
theorem Ctx.id : Ctx fun T => T := ⟨fun _ _ h => h, fun _ _ h => h⟩
theorem Ctx.comp {F G : Tr → Tr} (f : Ctx F) (g : Ctx G) : Ctx fun T => F (G T) := ⟨fun T T' h => f.to _ _ (g.to _ _ h), fun T c h => f.err _ _ (g.err _ _ h)⟩
theorem ctx_plus1 (b : Tr) : Ctx fun T => .plus T b := ⟨fun T T' h => by simp only [Tr.step, h], fun T c h => by simp only [Tr.step, h]⟩
theorem ctx_less1 (b : Tr) : Ctx fun T => .less T b := ⟨fun T T' h => by simp only [Tr.step, h], fun T c h => by simp only [Tr.step, h]⟩
theorem ctx_call1 (b : Tr) : Ctx fun T => .call T b := ⟨fun T T' h => by simp only [Tr.step, h], fun T c h => by simp only [Tr.step, h]⟩
theorem ctx_ite (a b : Tr) : Ctx fun T => .ite T a b := ⟨fun T T' h => by simp only [Tr.step, h], fun T c h => by simp only [Tr.step, h]⟩
theorem ctx_lt (x : Str) (b : Tr) : Ctx fun T => .lt x T b := ⟨fun T T' h => by simp only [Tr.step, h], fun T c h => by simp only [Tr.step, h]⟩
theorem ctx_plus2 {a : Tr} (k : a.step = .val) : Ctx fun T => .plus a T := ⟨fun T T' h => by simp only [Tr.step, k, h], fun T c h => by simp only [Tr.step, k, h]⟩
theorem ctx_less2 {a : Tr} (k : a.step = .val) : Ctx fun T => .less a T := ⟨fun T T' h => by simp only [Tr.step, k, h], fun T c h => by simp only [Tr.step, k, h]⟩
theorem ctx_call2 {a : Tr} (k : a.step = .val) : Ctx fun T => .call a T := ⟨fun T T' h => by simp only [Tr.step, k, h], fun T c h => by simp only [Tr.step, k, h]⟩
theorem work_to {m : Nat} {t t' : Tr} (h : t.step = .to t') : work (m + 1) t = work m t' := by rw [work, h]
theorem work_err {m : Nat} {t : Tr} {c : Er} (h : t.step = .err c) : work (m + 1) t = .err c := by rw [work, h]
theorem work_to0 {t t' : Tr} (h : t.step = .to t') : work 0 t = .dry := by rw [work, h]
theorem work_err0 {t : Tr} {c : Er} (h : t.step = .err c) : work 0 t = .dry := by rw [work, h]
theorem work_val {m : Nat} {t : Tr} (h : t.step = .val) : work m t = .ok t m := by
  cases m <;> rw [work, h]
/-- what ev tells of the work on the tree -/
def Agree (m : Nat) (T : Tr) (F : Tr → Tr) : Rv → Prop
  | .ok v m' l => v.ok ∧ (∀ u ∈ l, u.ok) ∧ work m (F T) = work m' (F v.told)
  | .err c => work m (F T) = .err c
  | .dry => work m (F T) = .dry
theorem Agree.trans {m m1 : Nat} {T T1 : Tr} {F F1 : Tr → Tr} {r : Rv} (h : work m (F T) = work m1 (F1 T1)) (g : Agree m1 T1 F1 r) (k : ∀ v, r = v → True) (hF : ∀ u : Val, F1 u.told = F u.told) : Agree m T F r := by
  cases r with
  | ok v m' l => exact ⟨g.1, g.2.1, by rw [h, g.2.2, hF]⟩
  | err c => exact h.trans g
  | dry => exact h.trans g
theorem Agree.log {m : Nat} {T : Tr} {F : Tr → Tr} {r : Rv} {l : List Val} (g : Agree m T F r) (hl : ∀ u ∈ l, u.ok) : Agree m T F (r.log l) := by
  cases r with
  | ok v m' l' => exact ⟨g.1, fun u hu => by
      rcases List.mem_append.mp hu with hu | hu
      · exact hl u hu
      · exact g.2.1 u hu, g.2.2⟩
  | err c => exact g
  | dry => exact g
variable {fl : Tr → List Str}
theorem agree (hfl : ∀ t y, t.fr y → y ∈ fl t) : ∀ (m : Nat) (e : Env) (t : Tr), e.ok → e.Cov t → ∀ F, Ctx F → Agree m (t.sub e.sb) F (ev fl m e t)
  | m, e, .num n, ho, hc, F, hF => by rw [ev_num]; exact ⟨trivial, (fun u hu => by cases hu), rfl⟩
  | m, e, .name x, ho, hc, F, hF => by
    obtain ⟨v, hv⟩ := hc x rfl
    rw [ev_name, hv]
    refine ⟨Env.ok_look ho hv, (fun u hu => by cases hu), ?_⟩
    simp only [Tr.sub]
    rw [Env.sb_look, hv]
    rfl
  | m, e, .fn x b, ho, hc, F, hF => by
    rw [ev_fn]
    have hok : (Val.fn x b (e.keep (fl (.fn x b)))).ok := ⟨fun y hy => by
      obtain ⟨v, hv⟩ := hc y hy
      exact ⟨v, by rw [Env.look_keep, if_pos (hfl _ _ hy), hv]⟩, Env.ok_keep ho _⟩
    refine ⟨hok, fun u hu => by rw [List.mem_singleton.mp hu]; exact hok, ?_⟩
    have : (Tr.fn x b).sub e.sb = (Tr.fn x b).sub (e.keep (fl (.fn x b))).sb := Tr.sub_congr fun y hy => by
      rw [Env.sb_look, Env.sb_look, Env.look_keep, if_pos (hfl _ _ hy)]
    rw [this]
    rfl
  | m, e, .plus a b, ho, hc, F, hF => by
    rw [ev_plus]
    have g1 := agree hfl m e a ho (fun y hy => hc y (.inl hy)) _ (hF.comp (ctx_plus1 (b.sub e.sb)))
    have l1 := ev_left (fl := fl) (m := m) (e := e) (a := a)
    cases h1 : ev fl m e a with
    | err c => rw [h1] at g1; exact g1
    | dry => rw [h1] at g1; exact g1
    | ok v m1 L1 =>
      rw [h1] at g1 l1
      have hle : m1 ≤ m := l1
      have g2 := agree hfl m1 e b ho (fun y hy => hc y (.inr hy)) _ (hF.comp (ctx_plus2 v.step_told))
      have q : work m (F (.plus (a.sub e.sb) (b.sub e.sb))) = work m1 (F (.plus v.told (b.sub e.sb))) := g1.2.2
      dsimp only [Rv.bind]
      cases h2 : ev fl m1 e b with
      | err c => rw [h2] at g2; exact q.trans g2
      | dry => rw [h2] at g2; exact q.trans g2
      | ok w m2 L2 =>
        rw [h2] at g2
        have q2 := q.trans g2.2.2
        have hst : ∀ m2 v w, (Tr.plus (Val.told v) (Val.told w)).step = match arith (· + ·) v w m2 (L1 ++ L2) with | .ok u _ _ => .to u.told | _ => .err .number := by
          intro m2 v w
          simp only [Tr.step, Val.step_told]
          cases v <;> cases w <;> rfl
        have hst := hst m2 v w
        cases m2 with
        | zero =>
          show work m (F (.plus (a.sub e.sb) (b.sub e.sb))) = .dry
          rw [q2]
          cases v <;> cases w <;> first | exact work_to0 (hF.to _ _ hst) | exact work_err0 (hF.err _ _ hst)
        | succ m3 =>
          cases v <;> cases w <;> first
            | exact ⟨trivial, fun u hu => by
                rcases List.mem_append.mp hu with hu | hu
                · exact g1.2.1 u hu
                · exact g2.2.1 u hu, q2.trans (work_to (hF.to _ _ hst))⟩
            | exact q2.trans (work_err (hF.err _ _ hst))
  | m, e, .less a b, ho, hc, F, hF => by
    rw [ev_less]
    have g1 := agree hfl m e a ho (fun y hy => hc y (.inl hy)) _ (hF.comp (ctx_less1 (b.sub e.sb)))
    have l1 := ev_left (fl := fl) (m := m) (e := e) (a := a)
    cases h1 : ev fl m e a with
    | err c => rw [h1] at g1; exact g1
    | dry => rw [h1] at g1; exact g1
    | ok v m1 L1 =>
      rw [h1] at g1 l1
      have hle : m1 ≤ m := l1
      have g2 := agree hfl m1 e b ho (fun y hy => hc y (.inr hy)) _ (hF.comp (ctx_less2 v.step_told))
      have q : work m (F (.less (a.sub e.sb) (b.sub e.sb))) = work m1 (F (.less v.told (b.sub e.sb))) := g1.2.2
      dsimp only [Rv.bind]
      cases h2 : ev fl m1 e b with
      | err c => rw [h2] at g2; exact q.trans g2
      | dry => rw [h2] at g2; exact q.trans g2
      | ok w m2 L2 =>
        rw [h2] at g2
        have q2 := q.trans g2.2.2
        have hst : ∀ m2 v w, (Tr.less (Val.told v) (Val.told w)).step = match arith (· - ·) v w m2 (L1 ++ L2) with | .ok u _ _ => .to u.told | _ => .err .number := by
          intro m2 v w
          simp only [Tr.step, Val.step_told]
          cases v <;> cases w <;> rfl
        have hst := hst m2 v w
        cases m2 with
        | zero =>
          show work m (F (.less (a.sub e.sb) (b.sub e.sb))) = .dry
          rw [q2]
          cases v <;> cases w <;> first | exact work_to0 (hF.to _ _ hst) | exact work_err0 (hF.err _ _ hst)
        | succ m3 =>
          cases v <;> cases w <;> first
            | exact ⟨trivial, fun u hu => by
                rcases List.mem_append.mp hu with hu | hu
                · exact g1.2.1 u hu
                · exact g2.2.1 u hu, q2.trans (work_to (hF.to _ _ hst))⟩
            | exact q2.trans (work_err (hF.err _ _ hst))
  | m, e, .call a b, ho, hc, F, hF => by
    rw [ev_call]
    have g1 := agree hfl m e a ho (fun y hy => hc y (.inl hy)) _ (hF.comp (ctx_call1 (b.sub e.sb)))
    have l1 := ev_left (fl := fl) (m := m) (e := e) (a := a)
    cases h1 : ev fl m e a with
    | err c => rw [h1] at g1; exact g1
    | dry => rw [h1] at g1; exact g1
    | ok v m1 L1 =>
      rw [h1] at g1 l1
      have hle : m1 ≤ m := l1
      have g2 := agree hfl m1 e b ho (fun y hy => hc y (.inr hy)) _ (hF.comp (ctx_call2 v.step_told))
      have l2 := ev_left (fl := fl) (m := m1) (e := e) (a := b)
      have q : work m (F (.call (a.sub e.sb) (b.sub e.sb))) = work m1 (F (.call v.told (b.sub e.sb))) := g1.2.2
      dsimp only [Rv.bind]
      cases h2 : ev fl m1 e b with
      | err c => rw [h2] at g2; exact q.trans g2
      | dry => rw [h2] at g2; exact q.trans g2
      | ok w m2 L2 =>
        rw [h2] at g2 l2
        have q2 := q.trans g2.2.2
        have hL : ∀ u ∈ L1 ++ L2, u.ok := fun u hu => by
          rcases List.mem_append.mp hu with hu | hu
          · exact g1.2.1 u hu
          · exact g2.2.1 u hu
        cases v with
        | num n =>
          have hst : (Tr.call (Val.num n).told w.told).step = .err .function := by
            simp only [Tr.step, Val.step_told]; rfl
          cases m2 with
          | zero => exact q2.trans (work_err0 (hF.err _ _ hst))
          | succ m3 => exact q2.trans (work_err (hF.err _ _ hst))
        | fn x t e' =>
          have hst : (Tr.call (Val.fn x t e').told w.told).step = .to (t.sub (Env.cons x w e').sb) := by
            simp only [Tr.step, Val.step_told]
            show St1.to ((t.sub (e'.sb.del x)).put x w.told) = _
            rw [Tr.put_body (Env.cl_sb g1.1.2)]
            rfl
          cases m2 with
          | zero => exact q2.trans (work_to0 (hF.to _ _ hst))
          | succ m3 =>
            have hlt : m3 < m := by simp only [Rv.left] at l1 l2; omega
            have g3 := agree hfl m3 (.cons x w e') t ⟨g2.1, g1.1.2⟩ (fun y hy => by
              by_cases hxy : y = x
              · exact ⟨w, by show (if y = x then some w else _) = _; rw [if_pos hxy]⟩
              · obtain ⟨u, hu⟩ := g1.1.1 y ⟨fun e => hxy e.symm, hy⟩
                exact ⟨u, by show (if y = x then some w else e'.look y) = _; rw [if_neg hxy]; exact hu⟩) F hF
            have q3 := q2.trans (work_to (m := m3) (hF.to _ _ hst))
            exact (Agree.trans (F := F) (F1 := F) (T := Tr.call (a.sub e.sb) (b.sub e.sb)) q3 g3 (fun _ _ => trivial) fun _ => rfl).log hL
  | m, e, .ite c a b, ho, hc, F, hF => by
    rw [ev_ite]
    have g1 := agree hfl m e c ho (fun y hy => hc y (.inl hy)) _ (hF.comp (ctx_ite (a.sub e.sb) (b.sub e.sb)))
    have l1 := ev_left (fl := fl) (m := m) (e := e) (a := c)
    cases h1 : ev fl m e c with
    | err c => rw [h1] at g1; exact g1
    | dry => rw [h1] at g1; exact g1
    | ok v m1 L1 =>
      rw [h1] at g1 l1
      have q : work m (F (.ite (c.sub e.sb) (a.sub e.sb) (b.sub e.sb))) = work m1 (F (.ite v.told (a.sub e.sb) (b.sub e.sb))) := g1.2.2
      cases v with
      | fn x t e' =>
        have hst : (Tr.ite (Val.fn x t e').told (a.sub e.sb) (b.sub e.sb)).step = .err .number := by
          simp only [Tr.step, Val.step_told]; rfl
        cases m1 with
        | zero => exact q.trans (work_err0 (hF.err _ _ hst))
        | succ m3 => exact q.trans (work_err (hF.err _ _ hst))
      | num n =>
        have hst : (Tr.ite (Val.num n).told (a.sub e.sb) (b.sub e.sb)).step = .to ((if n = 0 then b else a).sub e.sb) := by
          simp only [Tr.step, Val.step_told, Val.told]
          split <;> rfl
        cases m1 with
        | zero => exact q.trans (work_to0 (hF.to _ _ hst))
        | succ m3 =>
          have hlt : m3 < m := by simp only [Rv.left] at l1; omega
          have g3 := agree hfl m3 e (if n = 0 then b else a) ho (fun y hy => by
            by_cases h0 : n = 0
            · rw [if_pos h0] at hy; exact hc y (.inr (.inr hy))
            · rw [if_neg h0] at hy; exact hc y (.inr (.inl hy))) F hF
          have q3 := q.trans (work_to (m := m3) (hF.to _ _ hst))
          exact (Agree.trans (F := F) (F1 := F) (T := Tr.ite (c.sub e.sb) (a.sub e.sb) (b.sub e.sb)) q3 g3 (fun _ _ => trivial) fun _ => rfl).log g1.2.1
  | m, e, .lt x a b, ho, hc, F, hF => by
    rw [ev_lt]
    have g1 := agree hfl m e a ho (fun y hy => hc y (.inl hy)) _ (hF.comp (ctx_lt x (b.sub (e.sb.del x))))
    have l1 := ev_left (fl := fl) (m := m) (e := e) (a := a)
    cases h1 : ev fl m e a with
    | err c => rw [h1] at g1; exact g1
    | dry => rw [h1] at g1; exact g1
    | ok v m1 L1 =>
      rw [h1] at g1 l1
      have q : work m (F (.lt x (a.sub e.sb) (b.sub (e.sb.del x)))) = work m1 (F (.lt x v.told (b.sub (e.sb.del x)))) := g1.2.2
      have hst : (Tr.lt x v.told (b.sub (e.sb.del x))).step = .to (b.sub (Env.cons x v e).sb) := by
        simp only [Tr.step, Val.step_told]
        rw [Tr.put_body (Env.cl_sb ho)]
        rfl
      cases m1 with
      | zero => exact q.trans (work_to0 (hF.to _ _ hst))
      | succ m3 =>
        have hlt : m3 < m := by simp only [Rv.left] at l1; omega
        have g3 := agree hfl m3 (.cons x v e) b ⟨g1.1, ho⟩ (fun y hy => by
          by_cases hxy : y = x
          · exact ⟨v, by show (if y = x then some v else _) = _; rw [if_pos hxy]⟩
          · obtain ⟨u, hu⟩ := hc y (.inr ⟨fun e => hxy e.symm, hy⟩)
            exact ⟨u, by show (if y = x then some v else e.look y) = _; rw [if_neg hxy]; exact hu⟩) F hF
        have q3 := q.trans (work_to (m := m3) (hF.to _ _ hst))
        exact (Agree.trans (F := F) (F1 := F) (T := Tr.lt x (a.sub e.sb) (b.sub (e.sb.del x))) q3 g3 (fun _ _ => trivial) fun _ => rfl).log g1.2.1
termination_by m _ t => (m, t.size)
decreasing_by
  all_goals simp_wf
  all_goals (try simp only [Rv.left] at *)
  all_goals (try simp only [Tr.size])
  all_goals first | exact Prod.Lex.left _ _ (by omega) | exact lexle (by omega) (by omega)
/-- run and worked come to the same -/
theorem run_work (hfl : ∀ t y, t.fr y → y ∈ fl t) {m : Nat} {t : Tr} (hc : t.closed) : work m t = match ev fl m .nil t with | .ok v m' _ => .ok v.told m' | .err c => .err c | .dry => .dry := by
  have g := agree hfl m .nil t trivial (fun y hy => absurd hy (hc y)) _ Ctx.id
  have e : t.sub Env.nil.sb = t := t.sub_none
  rw [e] at g
  cases h : ev fl m .nil t with
  | ok v m' l =>
    rw [h] at g
    exact g.2.2.trans (work_val v.step_told)
  | err c => rw [h] at g; exact g
  | dry => rw [h] at g; exact g
end My

namespace My
open PySem L2
/-- the names that the module has no own for -/
structure Bt (mg : Str → Option Value) : Prop where
  len : mg "len" = none
  list : mg "list" = none
  range : mg "range" = none
  isinstance : mg "isinstance" = none
  type : mg "type" = none
  all : mg "all" = none
  any : mg "any" = none
  str : mg "str" = none
  int : mg "int" = none
  bool : mg "bool" = none
  tuple : mg "tuple" = none
  sorted : mg "sorted" = none
  reversed : mg "reversed" = none
  zip : mg "zip" = none
  dict : mg "dict" = none
  min : mg "min" = none
  max : mg "max" = none
  sum : mg "sum" = none
  set : mg "set" = none
  repr : mg "repr" = none
  abs : mg "abs" = none
  enumerate : mg "enumerate" = none
  ValueError : mg "ValueError" = none
def kinWord (c : Int) : List Nat := (List.range 8).map fun (k : Nat) => lett (c + 3 * (k : Int))
def kinTurned (c : Int) : List (List Nat) := (List.range 8).map fun k => (kinWord c).drop k ++ (kinWord c).take k
def kinBy (c : Int) (many : Nat) : List (List Nat) :=
  if c / 26 % 2 = 0 ∧ many < 9 then (List.range many).map fun k => (kinWord c).take (k + 1) else (kinTurned c ++ (kinTurned c).map List.reverse).take many
def spKin : Sp := fun vs H Q _ => ∃ (c : Int) (many : Nat), vs = [.int c, .int many] ∧ many ≤ 16 ∧ ∀ (l : Addr) (H' : Hp), H l = none → Same H H' → H' l = some (.lst ((kinBy c many).map fun x => .str (mkS x))) → Q (.ref l) H'
def spName (m : Int) : Sp := fun vs H Q _ => ∃ (c : Int), vs = [.int c] ∧ ∀ H', Same H H' → Q (.str (mkS (nameBy m c))) H'
/-- what the law's _law_joined makes -/
def joined (k : Int) (x : Str) (a b : Tr) : Tr :=
  if k = 6 then .call (.fn x a) b else if k = 7 then .plus a b else if k = 8 then .less a b else if k = 9 then .ite a b (.name x) else .lt x a b
def spJoined : Sp := fun vs H Q _ => ∃ (k : Int) (x : Str) (a b : Tr) (u v : V), vs = [.int k, .str x, u, v] ∧ At H a u ∧ At H b v ∧ ∀ (r : V) (H' : Hp), Same H H' → At H' (joined k x a b) r → Q r H'
def N60 (n : Int) : Prop := -(10 ^ 60) < n ∧ n < 10 ^ 60
theorem n60a (m : Int) : N60 (m % (2 * 10 ^ (60 : Int).toNat - 1) - 10 ^ (60 : Int).toNat + 1) := by
  show -(10 ^ 60) < m % (2 * 10 ^ 60 - 1) - 10 ^ 60 + 1 ∧ m % (2 * 10 ^ 60 - 1) - 10 ^ 60 + 1 < 10 ^ 60
  omega
theorem n60b (m : Int) : N60 (m % 10 ^ (60 : Int).toNat) := by
  show -(10 ^ 60) < m % 10 ^ 60 ∧ m % 10 ^ 60 < 10 ^ 60
  omega
def spTreeN (K : PySem.W.Frag) (nn g : Nat) : Sp := fun vs H Q _ => ∃ (a b : Addr) (ns : List Int) (xs : List Str), vs = [.ref a, .ref b] ∧ SqL K H a (ns.map V.int) ∧ ns.length ≤ 60 ∧ SqL K H b (xs.map V.str) ∧ xs.length = nn ∧
  ∀ (t : Tr) (r : V) (H' : Hp), Same H H' → At H' t r → t.all (· ∈ xs) N60 → t.size ≤ g * ns.length + 2 → Q r H'
theorem n60n (m : Int) : N60 (m % 10 ^ (60 : Int).toNat) := n60b m
theorem n60s (m : Int) : N60 (m % 7 - 3) := by
  show -(10 ^ 60) < m % 7 - 3 ∧ m % 7 - 3 < 10 ^ 60
  omega
theorem at_nm {xs : List Str} {nn : Nat} (h : xs.length = nn) (h0 : 0 < nn) (m : Int) : ∃ x ∈ xs, atI (xs.map V.str) (m % (nn : Int)) = some (.str x) := by
  subst h
  exact at_mod V.str h0 m
theorem joined_all {S : Str → Prop} {N : Int → Prop} {k : Int} {x : Str} {a b : Tr} (hx : S x) (ha : a.all S N) (hb : b.all S N) : (joined k x a b).all S N := by
  unfold joined
  split
  · exact ⟨⟨hx, ha⟩, hb⟩
  split
  · exact ⟨ha, hb⟩
  split
  · exact ⟨ha, hb⟩
  split
  · exact ⟨ha, hb, hx⟩
  · exact ⟨hx, ha, hb⟩
theorem joined_size (k : Int) (x : Str) (a b : Tr) : (joined k x a b).size ≤ a.size + b.size + 2 := by
  unfold joined
  split
  · simp only [Tr.size]; omega
  split
  · simp only [Tr.size]; omega
  split
  · simp only [Tr.size]; omega
  split
  · simp only [Tr.size]; omega
  · simp only [Tr.size]; omega
def joined11 (k : Int) (x : Str) (a b : Tr) : Tr := if k = 6 then .call (.fn x a) b else if k = 7 then .plus a b else if k = 8 then .ite a b (.name x) else .lt x a b
def spJoined11 : Sp := fun vs H Q _ => ∃ (k : Int) (x : Str) (a b : Tr) (u v : V), vs = [.int k, .str x, u, v] ∧ At H a u ∧ At H b v ∧ ∀ (r : V) (H' : Hp), Same H H' → At H' (joined11 k x a b) r → Q r H'
theorem joined_all11 {S : Str → Prop} {N : Int → Prop} {k : Int} {x : Str} {a b : Tr} (hx : S x) (ha : a.all S N) (hb : b.all S N) : (joined11 k x a b).all S N := by
  unfold joined11
  repeat' split
  all_goals simp only [Tr.all]
  all_goals simp only [hx, ha, hb, and_self]
theorem joined_size11 (k : Int) (x : Str) (a b : Tr) : (joined11 k x a b).size ≤ a.size + b.size + 2 := by
  unfold joined11
  repeat' split
  all_goals simp only [Tr.size]
  all_goals omega
def joined13 (k : Int) (x : Str) (a b : Tr) : Tr := if k = 5 then .call (.fn x a) b else if k = 6 then .plus a b else if k = 7 then .less a b else if k = 8 then .ite a (.fn x (.name x)) b else .lt x a b
def spJoined13 : Sp := fun vs H Q _ => ∃ (k : Int) (x : Str) (a b : Tr) (u v : V), vs = [.int k, .str x, u, v] ∧ At H a u ∧ At H b v ∧ ∀ (r : V) (H' : Hp), Same H H' → At H' (joined13 k x a b) r → Q r H'
theorem joined_all13 {S : Str → Prop} {N : Int → Prop} {k : Int} {x : Str} {a b : Tr} (hx : S x) (ha : a.all S N) (hb : b.all S N) : (joined13 k x a b).all S N := by
  unfold joined13
  repeat' split
  all_goals simp only [Tr.all]
  all_goals simp only [hx, ha, hb, and_self]
theorem joined_size13 (k : Int) (x : Str) (a b : Tr) : (joined13 k x a b).size ≤ a.size + b.size + 3 := by
  unfold joined13
  repeat' split
  all_goals simp only [Tr.size]
  all_goals omega
/-- two leaves that are one -/
def spLeaf : Sp := fun vs H Q _ => ∃ (v : V), ((∃ i, v = .int i) ∨ ∃ x, v = .str x) ∧ vs = [v, v] ∧ Q (.bl true) H
theorem isi_it {K : PySem.W.Frag} {H : Hp} (i : Int) : TyX K H (.int i) (.type "int") ∧ PySem.W.kitOne K (.type "int") (.type "tuple") = some false := ⟨.base (.int i), kit_ty (by decide +kernel)⟩
theorem isi_st {K : PySem.W.Frag} {H : Hp} (i : Str) : TyX K H (.str i) (.type "str") ∧ PySem.W.kitOne K (.type "str") (.type "tuple") = some false := ⟨.base (.str i), kit_ty (by decide +kernel)⟩
theorem isi_sb {K : PySem.W.Frag} {H : Hp} (i : Str) : TyX K H (.str i) (.type "str") ∧ PySem.W.kitOne K (.type "str") (.type "bool") = some false := ⟨.base (.str i), kit_ty (by decide +kernel)⟩
theorem isi_is {K : PySem.W.Frag} {H : Hp} (i : Int) : TyX K H (.int i) (.type "int") ∧ PySem.W.kitOne K (.type "int") (.type "str") = some false := ⟨.base (.int i), kit_ty (by decide +kernel)⟩
/-! ### two trees, walked down at once -/
def Tr.dep : Tr → Nat
  | .num _ => 1 | .name _ => 1 | .fn _ b => 1 + b.dep | .call a b => 1 + max a.dep b.dep | .plus a b => 1 + max a.dep b.dep | .less a b => 1 + max a.dep b.dep
  | .ite c a b => 1 + max c.dep (max a.dep b.dep) | .lt _ a b => 1 + max a.dep b.dep
theorem Tr.dep_pos (t : Tr) : 1 ≤ t.dep := by cases t <;> simp only [Tr.dep] <;> omega
structure Rw where
  u : V
  v : V
  b : Bool
  d : Nat
  n : Nat
/-- v is u with w in the place of x, where b doesn't tell that x is bound -/
def RowR (x : Str) (w : Tr) (H : Hp) (r : Rw) : Prop :=
  (((∃ i, r.u = .int i) ∨ ∃ z, r.u = .str z) ∧ r.v = r.u ∧ r.d = 0 ∧ r.n = 1) ∨
  ∃ t t' : Tr, At H t r.u ∧ At H t' r.v ∧ t' = (if r.b = true then t else t.put x w) ∧ r.d = t'.dep ∧ r.n = 8 * t'.size + (if r.b = true then 0 else 1)
def nsum (rs : List Rw) : Nat := (rs.map Rw.n).sum
theorem nsum_append (a b : List Rw) : nsum (a ++ b) = nsum a + nsum b := by simp [nsum]
theorem nsum_cons (a : Rw) (b : List Rw) : nsum (a :: b) = a.n + nsum b := by simp [nsum]
theorem RowR.pos {x : Str} {w : Tr} {H : Hp} {r : Rw} (h : RowR x w H r) : 1 ≤ r.n := by
  rcases h with ⟨_, _, _, e⟩ | ⟨t, t', _, _, _, _, e⟩
  · omega
  · have := t'.size_pos; omega
/-- is x bound at the k-th place of a node? -/
def flagAt (x : Str) (b : Bool) (t : Tr) (k : Nat) : Bool := match t with
  | .fn z _ => b || decide (z = x)
  | .lt z _ _ => b || (decide (z = x) && decide (k = 3))
  | _ => b
/-- a node's own row, taken apart -/
structure Apart (x : Str) (w : Tr) (H : Hp) (r : Rw) (t : Tr) (a a' : Addr) (xs ys : List V) (ks : List Rw) : Prop where
  u : r.u = .ref a
  v : r.v = .ref a'
  xs_ : H a = some (.tup xs)
  ys_ : H a' = some (.tup ys)
  mu : ks.map Rw.u = xs
  mv : ks.map Rw.v = ys
  b : ∀ k s, ks[k]? = some s → s.b = flagAt x r.b t k
  row : ∀ s ∈ ks, RowR x w H s
  d : ∀ s ∈ ks, s.d + 1 ≤ r.d
  n : nsum ks < r.n
  le : ks.length ≤ 4
  word : xs[0]? = some (.str t.word)
  name : t.binds = true → ∃ z, xs[1]? = some (.str z) ∧ ((∃ c, t = .fn z c) ∨ ∃ e c, t = .lt z e c)
theorem row_leaf {x : Str} {w : Tr} {H : Hp} {v : V} (b : Bool) (h : (∃ i, v = .int i) ∨ ∃ z, v = .str z) : RowR x w H ⟨v, v, b, 0, 1⟩ := .inl ⟨h, rfl, rfl, rfl⟩
theorem row_tree {x : Str} {w : Tr} {H : Hp} {t t' : Tr} {u v : V} (b : Bool) (h1 : At H t u) (h2 : At H t' v) (h : t' = (if b = true then t else t.put x w)) : RowR x w H ⟨u, v, b, t'.dep, 8 * t'.size + (if b = true then 0 else 1)⟩ := .inr ⟨t, t', h1, h2, h, rfl, rfl⟩
theorem put_fn {z x : Str} {c w : Tr} : (Tr.fn z c).put x w = .fn z (if z = x then c else c.put x w) := by
  unfold Tr.put
  simp only [Tr.sub]
  by_cases h : z = x
  · subst h
    rw [if_pos rfl, Tr.sub_id]
    intro y hy
    unfold Sb.del Sb.one
    by_cases e : y = z <;> simp [e]
  · rw [if_neg h]
    congr 2
    funext y
    unfold Sb.del Sb.one
    by_cases e : y = z
    · subst e; rw [if_pos rfl, if_neg h]
    · rw [if_neg e]
theorem put_lt {z x : Str} {e c w : Tr} : (Tr.lt z e c).put x w = .lt z (e.put x w) (if z = x then c else c.put x w) := by
  have h := put_fn (z := z) (x := x) (c := c) (w := w)
  unfold Tr.put at h ⊢
  simp only [Tr.sub] at h ⊢
  injection h with h1 h2
  rw [h2]
theorem put_call {x : Str} {a b w : Tr} : (Tr.call a b).put x w = .call (a.put x w) (b.put x w) := rfl
theorem put_plus {x : Str} {a b w : Tr} : (Tr.plus a b).put x w = .plus (a.put x w) (b.put x w) := rfl
theorem put_less {x : Str} {a b w : Tr} : (Tr.less a b).put x w = .less (a.put x w) (b.put x w) := rfl
theorem put_ite {x : Str} {c a b w : Tr} : (Tr.ite c a b).put x w = .ite (c.put x w) (a.put x w) (b.put x w) := rfl
theorem put_num {x : Str} {n : Int} {w : Tr} : (Tr.num n).put x w = .num n := rfl
theorem put_name {x y : Str} {w : Tr} : (Tr.name y).put x w = if y = x then w else .name y := by
  unfold Tr.put
  simp only [Tr.sub, Sb.one]
  split <;> rfl
local macro_rules | `(tactic| walk_at "ap_b") => `(tactic| (rintro (_ | _ | _ | _ | k) s hs <;> first | (simp at hs; done) | (cases hs; simp [flagAt])))
local macro_rules | `(tactic| walk_at "ap_d") => `(tactic| (simp only [List.mem_cons, List.not_mem_nil, or_false, forall_eq_or_imp, forall_eq, Tr.dep]; omega))
local macro_rules | `(tactic| walk_at "ap_n") => `(tactic| (simp only [nsum, List.map_cons, List.map_nil, List.sum_cons, List.sum_nil, Tr.size]; (repeat' split) <;> first | omega | (exfalso; simp_all; done)))
local macro_rules | `(tactic| walk_at "ap_m") => `(tactic| simp only [List.mem_cons, List.not_mem_nil, or_false, forall_eq_or_imp, forall_eq])
theorem apart {x : Str} {w : Tr} {H : Hp} {r : Rw} {t t' : Tr} (h1 : At H t r.u) (h2 : At H t' r.v) (ht : t' = (if r.b = true then t else t.put x w)) (hd : r.d = t'.dep) (hn : r.n = 8 * t'.size + (if r.b = true then 0 else 1)) (hx : r.b = false → t ≠ .name x) :
    ∃ a a' xs ys ks, Apart x w H r t a a' xs ys ks := by
  obtain ⟨u, v, b, d, n⟩ := r
  change At H t u at h1
  change At H t' v at h2
  change t' = (if b = true then t else t.put x w) at ht
  change d = t'.dep at hd
  change n = 8 * t'.size + (if b = true then 0 else 1) at hn
  change b = false → t ≠ .name x at hx
  cases t with
  | num i =>
    have e : t' = .num i := by
      rw [ht]; cases b <;> rfl
    subst e
    subst hd
    subst hn
    obtain ⟨a, rfl, ha⟩ := h1
    obtain ⟨a', rfl, ha'⟩ := h2
    exact ⟨a, a', _, _, [⟨.str "num", .str "num", b, 0, 1⟩, ⟨.int i, .int i, b, 0, 1⟩], rfl, rfl, ha, ha', rfl, rfl, (by walk_at "ap_b"),
      (by walk_at "ap_m"; exact ⟨row_leaf _ (.inr ⟨_, rfl⟩), row_leaf _ (.inl ⟨_, rfl⟩)⟩), (by walk_at "ap_d"), (by walk_at "ap_n"), (by simp), rfl, (fun h => by cases h)⟩
  | name y =>
    have e : t' = .name y := by
      rw [ht]
      cases b with
      | true => rfl
      | false =>
        rw [if_neg (by decide), put_name, if_neg]
        intro e
        exact hx rfl (by rw [e])
    subst e
    subst hd
    subst hn
    obtain ⟨a, rfl, ha⟩ := h1
    obtain ⟨a', rfl, ha'⟩ := h2
    exact ⟨a, a', _, _, [⟨.str "name", .str "name", b, 0, 1⟩, ⟨.str y, .str y, b, 0, 1⟩], rfl, rfl, ha, ha', rfl, rfl, (by walk_at "ap_b"),
      (by walk_at "ap_m"; exact ⟨row_leaf _ (.inr ⟨_, rfl⟩), row_leaf _ (.inr ⟨_, rfl⟩)⟩), (by walk_at "ap_d"), (by walk_at "ap_n"), (by simp), rfl, (fun h => by cases h)⟩
  | fn z c =>
    have e : t' = .fn z (if (b || decide (z = x)) = true then c else c.put x w) := by
      rw [ht]
      cases b with
      | true => rfl
      | false => rw [if_neg (by decide), put_fn]; by_cases h : z = x <;> simp [h]
    subst e
    subst hd
    subst hn
    obtain ⟨a, u1, rfl, ha, c1⟩ := h1
    obtain ⟨a', v1, rfl, ha', d1⟩ := h2
    exact ⟨a, a', _, _, [⟨.str "fun", .str "fun", (b || decide (z = x)), 0, 1⟩, ⟨.str z, .str z, (b || decide (z = x)), 0, 1⟩, ⟨u1, v1, (b || decide (z = x)), Tr.dep (if (b || decide (z = x)) = true then c else c.put x w), 8 * Tr.size (if (b || decide (z = x)) = true then c else c.put x w) + (if ((b || decide (z = x))) = true then 0 else 1)⟩], rfl, rfl, ha, ha', rfl, rfl, (by walk_at "ap_b"),
      (by walk_at "ap_m"; exact ⟨row_leaf _ (.inr ⟨_, rfl⟩), row_leaf _ (.inr ⟨_, rfl⟩), row_tree (b || decide (z = x)) c1 d1 rfl⟩), (by walk_at "ap_d"), (by walk_at "ap_n"), (by simp), rfl, (fun _ => ⟨z, rfl, .inl ⟨c, rfl⟩⟩)⟩
  | call f g =>
    have e : t' = .call (if b = true then f else f.put x w) (if b = true then g else g.put x w) := by
      rw [ht]; cases b <;> rfl
    subst e
    subst hd
    subst hn
    obtain ⟨a, u1, u2, rfl, ha, c1, c2⟩ := h1
    obtain ⟨a', v1, v2, rfl, ha', d1, d2⟩ := h2
    exact ⟨a, a', _, _, [⟨.str "call", .str "call", b, 0, 1⟩, ⟨u1, v1, b, Tr.dep (if b = true then f else f.put x w), 8 * Tr.size (if b = true then f else f.put x w) + (if (b) = true then 0 else 1)⟩, ⟨u2, v2, b, Tr.dep (if b = true then g else g.put x w), 8 * Tr.size (if b = true then g else g.put x w) + (if (b) = true then 0 else 1)⟩], rfl, rfl, ha, ha', rfl, rfl, (by walk_at "ap_b"),
      (by walk_at "ap_m"; exact ⟨row_leaf _ (.inr ⟨_, rfl⟩), row_tree b c1 d1 rfl, row_tree b c2 d2 rfl⟩), (by walk_at "ap_d"), (by walk_at "ap_n"), (by simp), rfl, (fun h => by cases h)⟩
  | plus f g =>
    have e : t' = .plus (if b = true then f else f.put x w) (if b = true then g else g.put x w) := by
      rw [ht]; cases b <;> rfl
    subst e
    subst hd
    subst hn
    obtain ⟨a, u1, u2, rfl, ha, c1, c2⟩ := h1
    obtain ⟨a', v1, v2, rfl, ha', d1, d2⟩ := h2
    exact ⟨a, a', _, _, [⟨.str "plus", .str "plus", b, 0, 1⟩, ⟨u1, v1, b, Tr.dep (if b = true then f else f.put x w), 8 * Tr.size (if b = true then f else f.put x w) + (if (b) = true then 0 else 1)⟩, ⟨u2, v2, b, Tr.dep (if b = true then g else g.put x w), 8 * Tr.size (if b = true then g else g.put x w) + (if (b) = true then 0 else 1)⟩], rfl, rfl, ha, ha', rfl, rfl, (by walk_at "ap_b"),
      (by walk_at "ap_m"; exact ⟨row_leaf _ (.inr ⟨_, rfl⟩), row_tree b c1 d1 rfl, row_tree b c2 d2 rfl⟩), (by walk_at "ap_d"), (by walk_at "ap_n"), (by simp), rfl, (fun h => by cases h)⟩
  | less f g =>
    have e : t' = .less (if b = true then f else f.put x w) (if b = true then g else g.put x w) := by
      rw [ht]; cases b <;> rfl
    subst e
    subst hd
    subst hn
    obtain ⟨a, u1, u2, rfl, ha, c1, c2⟩ := h1
    obtain ⟨a', v1, v2, rfl, ha', d1, d2⟩ := h2
    exact ⟨a, a', _, _, [⟨.str "less", .str "less", b, 0, 1⟩, ⟨u1, v1, b, Tr.dep (if b = true then f else f.put x w), 8 * Tr.size (if b = true then f else f.put x w) + (if (b) = true then 0 else 1)⟩, ⟨u2, v2, b, Tr.dep (if b = true then g else g.put x w), 8 * Tr.size (if b = true then g else g.put x w) + (if (b) = true then 0 else 1)⟩], rfl, rfl, ha, ha', rfl, rfl, (by walk_at "ap_b"),
      (by walk_at "ap_m"; exact ⟨row_leaf _ (.inr ⟨_, rfl⟩), row_tree b c1 d1 rfl, row_tree b c2 d2 rfl⟩), (by walk_at "ap_d"), (by walk_at "ap_n"), (by simp), rfl, (fun h => by cases h)⟩
  | ite f g k =>
    have e : t' = .ite (if b = true then f else f.put x w) (if b = true then g else g.put x w) (if b = true then k else k.put x w) := by
      rw [ht]; cases b <;> rfl
    subst e
    subst hd
    subst hn
    obtain ⟨a, u1, u2, u3, rfl, ha, c1, c2, c3⟩ := h1
    obtain ⟨a', v1, v2, v3, rfl, ha', d1, d2, d3⟩ := h2
    exact ⟨a, a', _, _, [⟨.str "if", .str "if", b, 0, 1⟩, ⟨u1, v1, b, Tr.dep (if b = true then f else f.put x w), 8 * Tr.size (if b = true then f else f.put x w) + (if (b) = true then 0 else 1)⟩, ⟨u2, v2, b, Tr.dep (if b = true then g else g.put x w), 8 * Tr.size (if b = true then g else g.put x w) + (if (b) = true then 0 else 1)⟩, ⟨u3, v3, b, Tr.dep (if b = true then k else k.put x w), 8 * Tr.size (if b = true then k else k.put x w) + (if (b) = true then 0 else 1)⟩], rfl, rfl, ha, ha', rfl, rfl, (by walk_at "ap_b"),
      (by walk_at "ap_m"; exact ⟨row_leaf _ (.inr ⟨_, rfl⟩), row_tree b c1 d1 rfl, row_tree b c2 d2 rfl, row_tree b c3 d3 rfl⟩), (by walk_at "ap_d"), (by walk_at "ap_n"), (by simp), rfl, (fun h => by cases h)⟩
  | lt z f c =>
    have e : t' = .lt z (if b = true then f else f.put x w) (if (b || decide (z = x)) = true then c else c.put x w) := by
      rw [ht]
      cases b with
      | true => rfl
      | false => rw [if_neg (by decide), put_lt]; by_cases h : z = x <;> simp [h]
    subst e
    subst hd
    subst hn
    obtain ⟨a, u1, u2, rfl, ha, c1, c2⟩ := h1
    obtain ⟨a', v1, v2, rfl, ha', d1, d2⟩ := h2
    exact ⟨a, a', _, _, [⟨.str "let", .str "let", b, 0, 1⟩, ⟨.str z, .str z, b, 0, 1⟩, ⟨u1, v1, b, Tr.dep (if b = true then f else f.put x w), 8 * Tr.size (if b = true then f else f.put x w) + (if (b) = true then 0 else 1)⟩, ⟨u2, v2, (b || decide (z = x)), Tr.dep (if (b || decide (z = x)) = true then c else c.put x w), 8 * Tr.size (if (b || decide (z = x)) = true then c else c.put x w) + (if ((b || decide (z = x))) = true then 0 else 1)⟩], rfl, rfl, ha, ha', rfl, rfl, (by walk_at "ap_b"),
      (by walk_at "ap_m"; exact ⟨row_leaf _ (.inr ⟨_, rfl⟩), row_leaf _ (.inr ⟨_, rfl⟩), row_tree b c1 d1 rfl, row_tree (b || decide (z = x)) c2 d2 rfl⟩), (by walk_at "ap_d"), (by walk_at "ap_n"), (by simp), rfl, (fun _ => ⟨z, rfl, .inr ⟨f, c, rfl⟩⟩)⟩
theorem map_snoc {α : Type} {f : α → V} {xs : List α} {ys : List V} {y : V} (h : xs.map f = ys ++ [y]) : ∃ zs z, xs = zs ++ [z] ∧ ys = zs.map f ∧ y = f z := by
  rcases List.eq_nil_or_concat xs with r | ⟨zs, z, r⟩
  · subst r
    simp at h
  · rw [List.concat_eq_append] at r
    subst r
    rw [List.map_append] at h
    obtain ⟨h1, h2⟩ := List.append_inj' h rfl
    exact ⟨zs, z, rfl, h1.symm, by simpa using h2.symm⟩
/-- found is the tree with w in the place of x -/
def spLed : Sp := fun vs H Q _ => ∃ (r : Rw) (x : Str) (wv : V) (w : Tr) (_ : True), vs = [r.u, r.v, .str x, wv] ∧ RowR x w H r ∧ r.b = false ∧ At H w wv ∧ r.d ≤ 1000000 ∧ ∀ H', Same H H' → Q (.bl true) H'
/-- what _law_led's first look at a row tells -/
def innerB (x : Str) (b : Bool) (t : Tr) : Bool := match t with
  | .fn z _ => b || decide (z = x)
  | _ => b
def letB (x : Str) (t : Tr) (k : Nat) : Bool := match t with
  | .lt z _ _ => decide (z = x) && decide (k = 3)
  | _ => false
theorem flag_inner (x : Str) (b : Bool) (t : Tr) (k : Nat) : flagAt x b t k = (innerB x b t || letB x t k) := by
  cases t <;> simp [flagAt, innerB, letB]
theorem szLt5 {n : Nat} (h : n ≤ 5000000) : n < sizeLine := Nat.lt_of_le_of_lt h (by decide)
theorem tru_bl {K : PySem.W.Frag} {b c : Bool} {H : Hp} (h : b = c) : TruV K (.bl b) H c := h ▸ rfl
theorem Tr.dep_size : ∀ t : Tr, t.dep ≤ t.size
  | .num _ => Nat.le_refl _
  | .name _ => Nat.le_refl _
  | .fn _ b => by have := b.dep_size; simp only [Tr.dep, Tr.size]; omega
  | .call a b => by have := a.dep_size; have := b.dep_size; simp only [Tr.dep, Tr.size]; omega
  | .plus a b => by have := a.dep_size; have := b.dep_size; simp only [Tr.dep, Tr.size]; omega
  | .less a b => by have := a.dep_size; have := b.dep_size; simp only [Tr.dep, Tr.size]; omega
  | .ite c a b => by have := c.dep_size; have := a.dep_size; have := b.dep_size; simp only [Tr.dep, Tr.size]; omega
  | .lt _ a b => by have := a.dep_size; have := b.dep_size; simp only [Tr.dep, Tr.size]; omega
theorem Tr.dep_sub {s : Sb} {d : Nat} (h : ∀ x v, s x = some v → v.dep ≤ d) : ∀ t : Tr, (t.sub s).dep ≤ t.dep + d
  | .num _ => by simp only [Tr.sub, Tr.dep]; omega
  | .name y => by
    simp only [Tr.sub, Tr.dep]
    cases e : s y with
    | none => show (Tr.name y).dep ≤ _; simp only [Tr.dep]; omega
    | some v => show v.dep ≤ _; have := h y v e; omega
  | .fn y b => by
    have := Tr.dep_sub (s := s.del y) (d := d) (fun x v e => by unfold Sb.del at e; split at e; cases e; exact h x v e) b
    simp only [Tr.sub, Tr.dep]; omega
  | .call a b => by have := Tr.dep_sub h a; have := Tr.dep_sub h b; simp only [Tr.sub, Tr.dep]; omega
  | .plus a b => by have := Tr.dep_sub h a; have := Tr.dep_sub h b; simp only [Tr.sub, Tr.dep]; omega
  | .less a b => by have := Tr.dep_sub h a; have := Tr.dep_sub h b; simp only [Tr.sub, Tr.dep]; omega
  | .ite c a b => by have := Tr.dep_sub h c; have := Tr.dep_sub h a; have := Tr.dep_sub h b; simp only [Tr.sub, Tr.dep]; omega
  | .lt y a b => by
    have := Tr.dep_sub h a
    have := Tr.dep_sub (s := s.del y) (d := d) (fun x v e => by unfold Sb.del at e; split at e; cases e; exact h x v e) b
    simp only [Tr.sub, Tr.dep]; omega
theorem Tr.dep_put (t : Tr) (x : Str) (w : Tr) : (t.put x w).dep ≤ t.dep + w.dep := Tr.dep_sub (fun y v e => by unfold Sb.one at e; split at e; cases e; exact Nat.le_refl _; cases e) t
/-! ### the program's promises -/
def spPut : Sp := fun vs H Q _ => ∃ (t w : Tr) (x : Str) (u v : V), vs = [u, .str x, v] ∧ At H t u ∧ At H w v ∧ w.closed ∧ t.dep ≤ 100000 ∧ w.dep ≤ 100000 ∧ ∀ r H', Same H H' → At H' (t.put x w) r → Q r H'
/-- the law: true, whatever the script -/
def spLaw (K : PySem.W.Frag) : Sp := fun vs H Q _ => ∃ (a : Addr) (ns : List Int), vs = [.ref a] ∧ SqL K H a (ns.map V.int) ∧ ns.length ≤ 63 ∧ ∀ H', Q (.bl true) H'
def cellK (first : Int) (k : Nat) (s : Int) : Int := first - first % 26 + (first + s * (k : Int)) % 26
theorem kinBy_len (c : Int) {many : Nat} (hm : many ≤ 16) : (kinBy c many).length = many := by
  unfold kinBy
  split
  · simp
  · rw [List.length_take]
    simp only [kinTurned, List.length_append, List.length_map, List.length_range]
    omega
theorem none_ne' {H : Hp} {a b : Addr} {o : HO} (h : H b = none) (h' : H a = some o) : a ≠ b := fun e => by rw [e, h] at h'; cases h'
/-- does x stand free in the tree? -/
def spHas : Sp := fun vs H Q _ => ∃ (t : Tr) (x : Str) (v : V), vs = [v, .str x] ∧ At H t v ∧ t.size ≤ 1000 ∧ ∀ (b : Bool) (H' : Hp), Same H H' → (b = true ↔ t.fr x) → Q (.bl b) H'
end My
namespace My
open PySem L2
open PyProof.Rows
/-! ### l.extend(a tuple) -/
def rExtendT (K : PySem.W.Frag) : V → List V → Hp → VK → Prop := fun x vs H Q => ∃ l b xs zs, x = .ref l ∧ vs = [.ref b] ∧ H l = some (.lst xs) ∧ SqT K H b zs ∧ xs.length + zs.length ≤ sizeLine ∧ Q .non (upd H l (.lst (xs ++ zs)))
theorem ext_tup (l : Addr) (ys : Array Value) (c : Nat) (b : Addr) (zs : Array Value) (d : Nat) (od : Option Addr) (sl : Array (Option Value)) (g1 : ¬(!ys.isEmpty && Builtin.List.listTooLong (ys.size + zs.size)) = true) (g2 : ys.size ≤ sizeLine) (g3 : (ys ++ zs).size ≤ sizeLine + 1) :
    Meets (Builtin.«list.extend» ⟨[.ref l, .ref b], []⟩) (fun _ R s => s.heap.get? l = some { cls := .type "list", data := .seq ys c } ∧ s.heap.get? b = some { cls := .type "tuple", dict := od, data := .seq zs d, slots := sl } ∧
      R (.ok (.ret .none)) { s with heap := s.heap.update l (Obj.mapSeq fun x => x ++ zs) }) :=
  .of_wp fun pg wd A R s0 k => by
    obtain ⟨hp, gs, dr, tk, os⟩ := s0
    obtain ⟨k1, k2, k3⟩ := k
    have i1 := AutoSeq1.idx_int
    have i2 := AutoSeq1.sub_tuple_tuple
    have i3 := AutoSeq1.sub_list_list
    have i4 := AutoSeq1.sub_tuple_list
    have i5 := AutoSeq1.sub_list_tuple
    wp_walk using (wpAny_updateSeq k1 rfl (hz := g2) (_hz' := g3)), AutoSeq1.wpAny_loadPart' k1, AutoSeq1.wpAny_loadPart' k2
    exact ⟨_, rfl, k3⟩
theorem mt_extendT {X : Cx} : MtM X "list.extend" (rExtendT X.K) := by
  intro pins s σ H x vs v us Q I rx rv h
  obtain ⟨l, b, xs, zs, rfl, rfl, hH, hB, hz, q⟩ := h
  cases rx
  obtain ⟨u, rfl, ru⟩ := rv.one
  cases ru
  obtain ⟨z, its, n, r, hl, e⟩ := I.lstM hH
  obtain ⟨its2, r2, ⟨o2, e2, c2, n2, d2⟩, _⟩ := I.tuple hB
  obtain ⟨oc, od, oa, sl⟩ := o2
  dsimp only at c2 d2
  subst c2 d2
  have h1 := r.length
  have h2 := r2.length
  have g1 : ¬ (!its.toArray.isEmpty && Builtin.List.listTooLong (its.toArray.size + its2.toArray.size)) = true := by
    have : Builtin.List.listTooLong (its.toArray.size + its2.toArray.size) = false := by
      unfold Builtin.List.listTooLong
      exact decide_eq_false (by simp only [List.size_toArray]; omega)
    rw [this, Bool.and_false]
    decide
  refine call_meets PySem.F.slot_list_extend ⟨_, e, rfl⟩ PySem.F.entry_list_extend (PySem.F.args_list_extend_2 _ _) (ext_tup l its.toArray n b its2.toArray n2 od sl g1 (by simp only [List.size_toArray]; omega) (by simp only [Array.size_append, List.size_toArray]; omega)) ⟨e, e2, ?_⟩
  refine ⟨.non, _, I.lset (its' := its ++ its2) hH e (by simp) (r.append r2) ?_, rfl, q⟩
  rw [List.length_append]
  omega
/-- one tree, twice -/
def spSameT : Sp := fun vs H Q _ => ∃ (t : Tr) (u v : V), vs = [u, v] ∧ At H t u ∧ At H t v ∧ t.dep ≤ 1000000 ∧ ∀ H', Same H H' → Q (.bl true) H'
end My

namespace My
open PySem L2
/-! ### the eight words -/
inductive Wd where
  | num | name | fn | call | plus | less | ite | lt
  deriving DecidableEq
def Wd.str : Wd → Str
  | .num => "num" | .name => "name" | .fn => "fun" | .call => "call" | .plus => "plus" | .less => "less" | .ite => "if" | .lt => "let"
def Wd.len : Wd → Int
  | .num => 2 | .name => 2 | .fn => 3 | .call => 3 | .plus => 3 | .less => 3 | .ite => 4 | .lt => 4
def Wd.start : Wd → Int
  | .num => 2 | .name => 2 | .fn => 2 | .lt => 2 | _ => 1
def wordsL : List Str := ["num", "name", "fun", "call", "plus", "less", "if", "let"]
def Wd.find (x : Str) : Option Wd :=
  if x = "num" then some .num else if x = "name" then some .name else if x = "fun" then some .fn else if x = "call" then some .call else if x = "plus" then some .plus else if x = "less" then some .less
  else if x = "if" then some .ite else if x = "let" then some .lt else none
theorem Wd.find_str (t : Wd) : Wd.find t.str = some t := by cases t <;> decide +kernel
theorem Wd.of_find {x : Str} {t : Wd} (h : Wd.find x = some t) : x = t.str := by
  unfold Wd.find at h
  repeat' split at h
  all_goals first
    | (cases h; assumption)
    | cases h
theorem Wd.find_none {x : Str} (h : Wd.find x = none) : wordsL.contains x = false := by
  unfold Wd.find at h
  repeat' split at h
  all_goals first
    | cases h
    | skip
  simp only [wordsL, List.contains_cons, List.contains_nil, Bool.or_false, Bool.or_eq_false_iff, beq_eq_false_iff_ne]
  exact ⟨by assumption, by assumption, by assumption, by assumption, by assumption, by assumption, by assumption, by assumption⟩
/-- the addresses of the classes of refusals -/
structure Ers where
  mill : Addr
  tree : Addr
  closed : Addr
  most : Addr
  number : Addr
  function : Addr
  dry : Addr
  text : Addr
/-- a class of refusals, straight under MillError -/
structure ErrC (K : PySem.W.Frag) (mg : Str → Option Value) (x : Str) (c : Addr) : Prop where
  c_ : mg x = some (.ref c)
  k : PySem.W.keepIn K (.ref c) = true
  inn : PySem.W.excIn K c [.type "ValueError", .type "Exception", .type "BaseException", .type "object"] "ValueError.__new__" = true
  ex : PySem.W.subIn K (.ref c) (.type "BaseException") = some true
  ty : PySem.W.typeIn K (.ref c) = some (.type "type")
theorem ErrC.r {K : PySem.W.Frag} {mg : Str → Option Value} {x : Str} {c : Addr} (T : ErrC K mg x c) {X : Cx} (h : X.K = K := by rfl) : Raises X (.ref c) := raises_own (by rw [h]; exact T.ex) (by rw [h]; exact T.ty)
/-- what trees.py's top has written -/
structure PTxt (K : PySem.W.Frag) (w : World) (mg : Str → Option Value) (aL aS cT : Addr) : Prop extends Bt mg where
  MOST_NODES : GInt mg "MOST_NODES" 400
  MOST_SIGNS : GInt mg "MOST_SIGNS" 8
  TOO_GREAT : GInt mg "TOO_GREAT" (10 ^ 60)
  SIGNS : GStr mg "SIGNS" "abcdefghijklmnopqrstuvwxyz"
  STARTS : mg "STARTS" = some (.ref aS)
  starts : ∀ t : Wd, RdK K w aS t.str (.int t.start)
  LENGTHS : mg "LENGTHS" = some (.ref aL)
  lengths : ∀ t : Wd, RdK K w aL t.str (.int t.len)
  nolen : ∀ x, Wd.find x = none → PySem.W.nsIn K aL x = some none
  KLENGTHS : KDE K w aL
  NoTree : ErrC K mg "NoTree" cT
/-- what free's part of trees.py's top has written -/
structure FTxt (K : PySem.W.Frag) (w : World) (mg : Str → Option Value) (aS : Addr) : Prop extends Bt mg where
  LOOK : GInt mg "LOOK" 0
  BIND : GInt mg "BIND" 1
  LOOSE : GInt mg "LOOSE" 2
  STARTS : mg "STARTS" = some (.ref aS)
  starts : ∀ t : Wd, RdK K w aS t.str (.int t.start)
theorem PTxt.has {K : PySem.W.Frag} {w : World} {mg : Str → Option Value} {aL aS cT : Addr} (T : PTxt K w mg aL aS cT) (x : Str) : ∃ r, PySem.W.nsIn K aL x = some r ∧ r.isSome = (Wd.find x).isSome := by
  cases h : Wd.find x with
  | none => exact ⟨none, T.nolen x h, rfl⟩
  | some t =>
    obtain ⟨es, n, u0, h1, h2, h3, h4⟩ := T.lengths t
    rw [Wd.of_find h]
    exact ⟨_, h3, rfl⟩
/-! ### what _is_node answers -/
def numV : V → Bool
  | .int n => decide (-(10 ^ 60) < n) && decide (n < 10 ^ 60)
  | _ => false
def isLet (c : Nat) : Bool := decide (97 ≤ c) && decide (c < 123)
theorem in_abc (c : Nat) : decide (c ∈ (Str.ofString "abcdefghijklmnopqrstuvwxyz").cps.toList) = isLet c := by
  rw [abc_eq, mkS_cps, Bool.eq_iff_iff]
  simp only [decide_eq_true_eq, isLet, Bool.and_eq_true, abc, List.mem_range'_1]
def isName (x : Str) : Bool := decide (1 ≤ x.length) && decide (x.length ≤ 8) && (Wd.find x).isNone && x.cps.toList.all isLet
def nameV : V → Bool
  | .str x => isName x
  | _ => false
def Wd.ownOk : Wd → List V → Bool
  | .num, v :: _ => numV v
  | .name, v :: _ => nameV v
  | .fn, v :: _ => nameV v
  | .lt, v :: _ => nameV v
  | _, _ => true
def nodeC : List V → Bool
  | .str w :: r => match Wd.find w with | none => false | some t => decide ((r.length : Int) + 1 = t.len) && t.ownOk r
  | _ => false
theorem nodeC_str (x : Str) (r : List V) : nodeC (.str x :: r) = (match Wd.find x with | none => false | some t => decide ((r.length : Int) + 1 = t.len) && t.ownOk r) := rfl
theorem nodeC_str_app (x : Str) (r s : List V) : nodeC (.str x :: r ++ s) = (match Wd.find x with | none => false | some t => decide (((r ++ s).length : Int) + 1 = t.len) && t.ownOk (r ++ s)) := rfl
def nodeV (H : Hp) (v : V) : Bool := match v with
  | .ref a => (match H a with | some (.tup xs) => nodeC xs | _ => false)
  | _ => false
/-- of a kind that type() tells -/
def Kd (H : Hp) (v : V) : Prop := ∃ n, zTyV v H = some n
/-- a value that need_tree may come to -/
def Kn (H : Hp) (v : V) : Prop := Kd H v ∧ ∀ a xs, v = .ref a → H a = some (.tup xs) → xs.length ≤ 10000 ∧ ∀ x ∈ xs, Kd H x
theorem zTy_tup {H : Hp} {v : V} (h : zTyV v H = some "tuple") : ∃ a xs, v = .ref a ∧ H a = some (.tup xs) := by
  unfold zTyV at h
  split at h
  all_goals first
    | (cases h; done)
    | skip
  all_goals first
    | (exact absurd h (by decide))
    | skip
  rename_i p
  split at h
  · exact absurd h (by decide)
  · exact ⟨p, _, rfl, by assumption⟩
  · cases h
theorem zTy_int {H : Hp} {v : V} (h : zTyV v H = some "int") : ∃ i, v = .int i := by
  unfold zTyV at h
  split at h
  all_goals first
    | exact ⟨_, rfl⟩
    | (cases h; done)
    | (exact absurd h (by decide))
    | skip
  split at h
  all_goals first
    | (cases h; done)
    | (exact absurd h (by decide))
theorem zTy_str {H : Hp} {v : V} (h : zTyV v H = some "str") : ∃ i, v = .str i := by
  unfold zTyV at h
  split at h
  all_goals first
    | exact ⟨_, rfl⟩
    | (cases h; done)
    | (exact absurd h (by decide))
    | skip
  split at h
  all_goals first
    | (cases h; done)
    | (exact absurd h (by decide))
theorem num_no {H : Hp} {v : V} {n : String} (h : zTyV v H = some n) (hn : n ≠ "int") : numV v = false := by
  cases v with
  | int i => exact absurd (Option.some.inj h).symm hn
  | _ => rfl
theorem name_no {H : Hp} {v : V} {n : String} (h : zTyV v H = some n) (hn : n ≠ "str") : nameV v = false := by
  cases v with
  | str i => exact absurd (Option.some.inj h).symm hn
  | _ => rfl
theorem node_no {H : Hp} {v : V} (h : zTyV v H ≠ some "tuple") : nodeV H v = false := by
  unfold nodeV
  split
  · split
    · rename_i a _ xs e
      exact absurd (show (match H a with | some (.lst _) => some "list" | some (.tup _) => some "tuple" | _ => none) = some "tuple" by rw [e]) h
    · rfl
  · rfl
def spNum : Sp := fun vs H Q _ => ∃ v, vs = [v] ∧ Kd H v ∧ Q (.bl (numV v)) H
def spIsName : Sp := fun vs H Q _ => ∃ v, vs = [v] ∧ Kd H v ∧ (∀ x, v = .str x → x.length ≤ 10000) ∧ ∀ H', Same H H' → Q (.bl (nameV v)) H'
/-- a tuple of a node's form is given: its parts, in a new list -/
def spParts : Sp := fun vs H Q _ => ∃ (t : Wd) (a : Addr) (own ws : List V), vs = [.ref a] ∧ H a = some (.tup (.str t.str :: own ++ ws)) ∧ ((own.length : Int) + 1 = t.start) ∧ ws.length ≤ 3 ∧ ∀ (l : Addr) (H' : Hp), H l = none → Same H H' → H' l = some (.lst ws) → Q (.ref l) H'
def spIsNode : Sp := fun vs H Q _ => ∃ v, vs = [v] ∧ Kn H v ∧ (∀ a xs x, v = .ref a → H a = some (.tup xs) → V.str x ∈ xs → x.length ≤ 10000) ∧ ∀ H', Same H H' → Q (.bl (nodeV H v)) H'
theorem own_at {t : Wd} {own ws : List V} (h : (own.length : Int) + 1 = t.start) : ∃ n : Nat, t.start = (n : Int) ∧ 0 < n ∧ (V.str t.str :: own ++ ws).drop n = ws ∧ n ≤ (V.str t.str :: own ++ ws).length :=
  ⟨own.length + 1, by omega, by omega, by simp, by simp⟩
/-! ### what need_tree walks over -/
structure Bad (H : Hp) (v : V) : Prop where
  kn : Kn H v
  st : ∀ x, v = .str x → x.length ≤ 10000
  sts : ∀ a xs x, v = .ref a → H a = some (.tup xs) → V.str x ∈ xs → x.length ≤ 10000
  no : nodeV H v = false
/-- a good node's own head -/
def OwnV (v : V) : Prop := (∃ n, v = .int n) ∨ ∃ x, v = .str x ∧ x.length ≤ 10000
/-- values, one behind another, that are nodes as they ought to be, all the way down, or (then b is true) things that are none; n nodes and things in all -/
inductive Wks (H : Hp) : List V → Nat → Bool → Prop
  | nil : Wks H [] 0 false
  | nd {a : Addr} {t : Wd} {own ws vs : List V} {m n : Nat} {b c : Bool} (h : H a = some (.tup (.str t.str :: own ++ ws))) (ho : (own.length : Int) + 1 = t.start) (hn : nodeC (.str t.str :: own ++ ws) = true) (hw : ∀ x ∈ own, OwnV x) (hl : ws.length ≤ 3)
      (h1 : Wks H ws m b) (h2 : Wks H vs n c) : Wks H (.ref a :: vs) (1 + m + n) (b || c)
  | odd {v : V} {vs : List V} {n : Nat} {c : Bool} (h : Bad H v) (h2 : Wks H vs n c) : Wks H (v :: vs) (1 + n) true
theorem Wks.append {H : Hp} {xs : List V} {m : Nat} {b : Bool} (h : Wks H xs m b) {ys : List V} {n : Nat} {c : Bool} (g : Wks H ys n c) : Wks H (xs ++ ys) (m + n) (b || c) := by
  induction h with
  | nil => simpa using g
  | nd h ho hn hw hl h1 h2 ih1 ih2 =>
    rw [List.cons_append, Nat.add_assoc, Bool.or_assoc]
    exact .nd h ho hn hw hl h1 ih2
  | odd h h2 ih =>
    rw [List.cons_append, Nat.add_assoc, Bool.true_or]
    exact .odd h ih
theorem Wks.snoc {H : Hp} {v : V} : ∀ {ys : List V} {n : Nat} {b : Bool}, Wks H (ys ++ [v]) n b → ∃ n1 b1 n2 b2, Wks H ys n1 b1 ∧ Wks H [v] n2 b2 ∧ n = n1 + n2 ∧ b = (b1 || b2)
  | [], n, b, h => ⟨0, false, n, b, .nil, h, by omega, by simp⟩
  | u :: ys, n, b, h => by
    cases h with
    | nd h ho hn hw hl h1 h2 =>
      obtain ⟨n1, b1, n2, b2, g1, g2, rfl, rfl⟩ := Wks.snoc h2
      exact ⟨_, _, n2, b2, .nd h ho hn hw hl h1 g1, g2, by omega, by rw [Bool.or_assoc]⟩
    | odd h h2 =>
      obtain ⟨n1, b1, n2, b2, g1, g2, rfl, rfl⟩ := Wks.snoc h2
      exact ⟨_, _, n2, b2, .odd h g1, g2, by omega, by rw [Bool.true_or]⟩
theorem zTy_same {H H' : Hp} (e : Same H H') {v : V} {n : String} (h : zTyV v H = some n) : zTyV v H' = some n := by
  cases v with
  | ref p =>
    have h' : (match H p with | some (.lst _) => some "list" | some (.tup _) => some "tuple" | _ => none) = some n := h
    show (match H' p with | some (.lst _) => some "list" | some (.tup _) => some "tuple" | _ => none) = some n
    cases q : H p with
    | none => rw [q] at h'; cases h'
    | some o => rw [e _ _ q]; rw [q] at h'; exact h'
  | _ => exact h
theorem Kd.same {H H' : Hp} (e : Same H H') {v : V} (h : Kd H v) : Kd H' v := ⟨h.choose, zTy_same e h.choose_spec⟩
theorem zTy_known {H : Hp} {a : Addr} (h : Kd H (.ref a)) : ∃ o, H a = some o := by
  obtain ⟨n, h⟩ := h
  have h' : (match H a with | some (.lst _) => some "list" | some (.tup _) => some "tuple" | _ => none) = some n := h
  cases q : H a with
  | none => rw [q] at h'; cases h'
  | some o => exact ⟨o, rfl⟩
theorem same_at {H H' : Hp} (e : Same H H') {a : Addr} (k : Kd H (.ref a)) : H' a = H a := by
  obtain ⟨o, h⟩ := zTy_known k
  rw [h]
  exact e _ _ h
theorem Bad.same {H H' : Hp} (e : Same H H') {v : V} (h : Bad H v) : Bad H' v where
  kn := ⟨h.kn.1.same e, fun a xs ev ha => by
    subst ev
    rw [same_at e h.kn.1] at ha
    obtain ⟨h1, h2⟩ := h.kn.2 a xs rfl ha
    exact ⟨h1, fun x hx => (h2 x hx).same e⟩⟩
  st := h.st
  sts := fun a xs x ev ha => by
    subst ev
    rw [same_at e h.kn.1] at ha
    exact h.sts a xs x rfl ha
  no := by
    cases v with
    | ref a =>
      show (match H' a with | some (.tup xs) => nodeC xs | _ => false) = false
      rw [same_at e h.kn.1]
      exact h.no
    | _ => rfl
theorem Wks.same {H H' : Hp} (e : Same H H') {vs : List V} {n : Nat} {b : Bool} (h : Wks H vs n b) : Wks H' vs n b := by
  induction h with
  | nil => exact .nil
  | nd h ho hn hw hl h1 h2 ih1 ih2 => exact .nd (e _ _ h) ho hn hw hl ih1 ih2
  | odd h h2 ih => exact .odd (h.same e) ih
theorem kd_tup {H : Hp} {a : Addr} {xs : List V} (h : H a = some (.tup xs)) : Kd H (.ref a) :=
  ⟨"tuple", show (match H a with | some (.lst _) => some "list" | some (.tup _) => some "tuple" | _ => none) = some "tuple" by rw [h]⟩
theorem Wks.kd {H : Hp} {vs : List V} {n : Nat} {b : Bool} (h : Wks H vs n b) : ∀ v ∈ vs, Kd H v ∧ ∀ x, v = .str x → x.length ≤ 10000 := by
  induction h with
  | nil => intro v hv; cases hv
  | nd h ho hn hw hl h1 h2 ih1 ih2 =>
    intro v hv
    rcases List.mem_cons.mp hv with e | hv
    · subst e
      exact ⟨kd_tup h, fun x e => by cases e⟩
    · exact ih2 v hv
  | odd h h2 ih =>
    intro v hv
    rcases List.mem_cons.mp hv with e | hv
    · subst e
      exact ⟨h.kn.1, h.st⟩
    · exact ih v hv
/-- one thing: a good node with its parts, or none -/
theorem Wks.one {H : Hp} {v : V} {n : Nat} {b : Bool} (h : Wks H [v] n b) : (Bad H v ∧ n = 1 ∧ b = true) ∨
    (∃ (a : Addr) (t : Wd) (own ws : List V) (m : Nat), v = .ref a ∧ H a = some (.tup (.str t.str :: own ++ ws)) ∧ (own.length : Int) + 1 = t.start ∧ nodeV H v = true ∧ Kn H v ∧ (∀ a xs x, v = .ref a → H a = some (.tup xs) → V.str x ∈ xs → x.length ≤ 10000) ∧ ws.length ≤ 3 ∧ Wks H ws m b ∧ n = 1 + m) := by
  cases h with
  | @nd a t own ws _ m _ b' _ h ho hn hw hl h1 h2 =>
    cases h2
    have hkd := h1.kd
    have key : ∀ x ∈ (V.str t.str :: own ++ ws), Kd H x ∧ ∀ z, x = .str z → z.length ≤ 10000 := by
      intro x hx
      rcases List.mem_append.mp hx with hx | hx
      · rcases List.mem_cons.mp hx with e | hx
        · subst e
          exact ⟨⟨"str", rfl⟩, fun z e => by cases e; cases t <;> decide +kernel⟩
        · rcases hw x hx with ⟨n, rfl⟩ | ⟨z, rfl, hz⟩
          · exact ⟨⟨"int", rfl⟩, fun z e => by cases e⟩
          · exact ⟨⟨"str", rfl⟩, fun z' e => by cases e; exact hz⟩
      · exact hkd x hx
    have hlen : (V.str t.str :: own ++ ws).length ≤ 10000 := by
      have : t.start ≤ 2 := by cases t <;> decide
      simp only [List.length_append, List.length_cons]
      omega
    refine .inr ⟨a, t, own, ws, m, rfl, h, ho, ?_, ⟨kd_tup h, fun a' xs e ha => ?_⟩, fun a' xs x e ha hx => ?_, hl, ?_, by omega⟩
    · show (match H a with | some (.tup xs) => nodeC xs | _ => false) = true
      rw [h]
      exact hn
    · cases e
      rw [h] at ha
      cases ha
      exact ⟨hlen, fun x hx => (key x hx).1⟩
    · cases e
      rw [h] at ha
      cases ha
      exact (key _ hx).2 x rfl
    · simpa using h1
  | odd h h2 =>
    cases h2
    exact .inl ⟨h, rfl, rfl⟩
def spNeed (cN : Addr) : Sp := fun vs H Q E => ∃ (v : V) (n : Nat) (b : Bool), vs = [v] ∧ Wks H [v] n b ∧ (n ≤ 400 → b = false → ∀ H', Same H H' → Q v H') ∧ ((400 < n ∨ b = true) → ∀ H', Same H H' → E (.ref cN) none H')
/-- a tree as the document asks -/
def Good (t : Tr) : Prop := t.all (fun x => isName x = true) N60
/-! ### one thing, with whether it holds something that is none -/
def W1 (H : Hp) (v : V) (b : Bool) : Prop := ∃ n, Wks H [v] n b
theorem nodeW {H : Hp} {a : Addr} (t : Wd) (own ws : List V) {n : Nat} {b : Bool} (h : H a = some (.tup (.str t.str :: own ++ ws))) (ho : (own.length : Int) + 1 = t.start) (hn : nodeC (.str t.str :: own ++ ws) = true) (hw : ∀ x ∈ own, OwnV x) (hl : ws.length ≤ 3)
    (h1 : Wks H ws n b) : Wks H [.ref a] (1 + n) b := by
  have := Wks.nd h ho hn hw hl h1 .nil
  simpa using this
theorem wks2 {H : Hp} {u v : V} {m n : Nat} {b c : Bool} (h1 : Wks H [u] m b) (h2 : Wks H [v] n c) : Wks H [u, v] (m + n) (b || c) := h1.append h2
theorem wks3 {H : Hp} {u v x : V} {m n k : Nat} {b c d : Bool} (h1 : Wks H [u] m b) (h2 : Wks H [v] n c) (h3 : Wks H [x] k d) : Wks H [u, v, x] (m + n + k) (b || c || d) := (wks2 h1 h2).append h3
theorem name_own {x : Str} (h : isName x = true) : ∀ v ∈ [V.str x], OwnV v := fun v hv => by
  rw [List.mem_singleton.mp hv]
  refine .inr ⟨x, rfl, ?_⟩
  unfold isName at h
  simp only [Bool.and_eq_true, decide_eq_true_eq] at h
  omega
theorem wks_of {H : Hp} : ∀ {t : Tr} {v : V}, At H t v → Good t → Wks H [v] t.size false
  | .num n, _, ⟨a, rfl, h⟩, g => nodeW .num [.int n] [] h rfl (by rw [nodeC_str_app, Wd.find_str]; show (true && (decide (-(10 ^ 60) < n) && decide (n < 10 ^ 60))) = true; rw [decide_eq_true g.1, decide_eq_true g.2]; rfl) (fun v hv => by rw [List.mem_singleton.mp hv]; exact .inl ⟨n, rfl⟩) (by simp) .nil
  | .name x, _, ⟨a, rfl, h⟩, g => nodeW .name [.str x] [] h rfl (by rw [nodeC_str_app, Wd.find_str]; show (true && isName x) = true; rw [show isName x = true from g]; rfl) (name_own g) (by simp) .nil
  | .fn x b, _, ⟨a, u, rfl, h, h1⟩, g => by
    have := nodeW .fn [.str x] [u] h rfl (by rw [nodeC_str_app, Wd.find_str]; show (true && isName x) = true; rw [g.1]; rfl) (name_own g.1) (by simp) (wks_of h1 g.2)
    exact this
  | .call f b, _, ⟨a, u, u', rfl, h, h1, h2⟩, g => by
    have := nodeW .call [] [u, u'] h rfl rfl (fun v hv => by cases hv) (by simp) (wks2 (wks_of h1 g.1) (wks_of h2 g.2))
    rw [show (Tr.call f b).size = 1 + (f.size + b.size) by simp only [Tr.size]; omega]; exact this
  | .plus f b, _, ⟨a, u, u', rfl, h, h1, h2⟩, g => by
    have := nodeW .plus [] [u, u'] h rfl rfl (fun v hv => by cases hv) (by simp) (wks2 (wks_of h1 g.1) (wks_of h2 g.2))
    rw [show (Tr.plus f b).size = 1 + (f.size + b.size) by simp only [Tr.size]; omega]; exact this
  | .less f b, _, ⟨a, u, u', rfl, h, h1, h2⟩, g => by
    have := nodeW .less [] [u, u'] h rfl rfl (fun v hv => by cases hv) (by simp) (wks2 (wks_of h1 g.1) (wks_of h2 g.2))
    rw [show (Tr.less f b).size = 1 + (f.size + b.size) by simp only [Tr.size]; omega]; exact this
  | .ite c f b, _, ⟨a, u, u', u'', rfl, h, h1, h2, h3⟩, g => by
    have := nodeW .ite [] [u, u', u''] h rfl rfl (fun v hv => by cases hv) (by simp) (wks3 (wks_of h1 g.1) (wks_of h2 g.2.1) (wks_of h3 g.2.2))
    rw [show (Tr.ite c f b).size = 1 + (c.size + f.size + b.size) by simp only [Tr.size]; omega]; exact this
  | .lt x f b, _, ⟨a, u, u', rfl, h, h1, h2⟩, g => by
    have := nodeW .lt [.str x] [u, u'] h rfl (by rw [nodeC_str_app, Wd.find_str]; show (true && isName x) = true; rw [g.1]; rfl) (name_own g.1) (by simp) (wks2 (wks_of h1 g.2.1) (wks_of h2 g.2.2))
    rw [show (Tr.lt x f b).size = 1 + (f.size + b.size) by simp only [Tr.size]; omega]; exact this
/-- what free has to do -/
inductive Td where
  | look (t : Tr) | bind (x : Str) | loose (x : Str)
def At3 (H : Hp) : Td → V → Prop
  | .look t, v => ∃ a u, v = .ref a ∧ H a = some (.tup [.int 0, u]) ∧ At H t u
  | .bind x, v => ∃ a, v = .ref a ∧ H a = some (.tup [.int 1, .str x])
  | .loose x, v => ∃ a, v = .ref a ∧ H a = some (.tup [.int 2, .str x])
theorem At3.mono {H H' : Hp} (k : KT H H') : ∀ {d : Td} {v : V}, At3 H d v → At3 H' d v
  | .look _, _, ⟨a, u, e, h, h1⟩ => ⟨a, u, e, k _ _ h, h1.mono k⟩
  | .bind _, _, ⟨a, e, h⟩ => ⟨a, e, k _ _ h⟩
  | .loose _, _, ⟨a, e, h⟩ => ⟨a, e, k _ _ h⟩
/-- what a node that is no name sets going -/
def reading (t : Tr) : List Td := match t with
  | .fn x b => [.bind x, .look b, .loose x]
  | .lt x e b => [.look e, .bind x, .look b, .loose x]
  | t => t.kids.map .look
def spReading : Sp := fun vs H Q _ => ∃ (t : Tr) (a : Addr), vs = [.ref a] ∧ At H t (.ref a) ∧ ∀ (l : Addr) (ws : List V) (H' : Hp), H l = none → Same H H' → H' l = some (.lst ws) → Paired (At3 H') (reading t) ws → Q (.ref l) H'
/-- the free ones, in the order of reading, each as often as it stands; b tells how often a name is bound round it -/
def inc (x : Str) (b : Str → Nat) : Str → Nat := fun y => if y = x then b y + 1 else b y
def dec (x : Str) (b : Str → Nat) : Str → Nat := fun y => if y = x then b y - 1 else b y
theorem dec_inc (x : Str) (b : Str → Nat) : dec x (inc x b) = b := by
  funext y
  unfold dec inc
  by_cases h : y = x
  · simp [h]
  · simp [h]
def frees (b : Str → Nat) : Tr → List Str
  | .num _ => []
  | .name y => if b y = 0 then [y] else []
  | .fn x t => frees (inc x b) t
  | .call f a => frees b f ++ frees b a
  | .plus f a => frees b f ++ frees b a
  | .less f a => frees b f ++ frees b a
  | .ite c f a => frees b c ++ (frees b f ++ frees b a)
  | .lt x e t => frees b e ++ frees (inc x b) t
def rem : List Td → (Str → Nat) → List Str
  | [], _ => []
  | .look t :: r, b => frees b t ++ rem r b
  | .bind x :: r, b => rem r (inc x b)
  | .loose x :: r, b => rem r (dec x b)
def wf : List Td → (Str → Nat) → Prop
  | [], _ => True
  | .look _ :: r, b => wf r b
  | .bind x :: r, b => wf r (inc x b)
  | .loose x :: r, b => 1 ≤ b x ∧ wf r (dec x b)
def isNm : Tr → Bool | .name _ => true | _ => false
theorem rem_reading (t : Tr) (h : isNm t = false) (r : List Td) (b : Str → Nat) : rem (reading t ++ r) b = frees b t ++ rem r b := by
  cases t <;> simp [reading, rem, frees, Tr.kids, dec_inc, isNm] at h ⊢
theorem wf_reading (t : Tr) (r : List Td) (b : Str → Nat) : wf (reading t ++ r) b ↔ wf r b := by
  cases t <;> simp [reading, wf, Tr.kids, dec_inc, inc]
def wt1 : Td → Nat | .look t => 3 * t.size | _ => 1
def wt (ds : List Td) : Nat := (ds.map wt1).sum
theorem wt_append (a b : List Td) : wt (a ++ b) = wt a + wt b := by simp [wt]
theorem wt_reverse (a : List Td) : wt a.reverse = wt a := by simp [wt, List.sum_reverse]
theorem wt_one (d : Td) : wt [d] = wt1 d := by simp [wt]
theorem le_wt : ∀ a : List Td, a.length ≤ wt a
  | [] => Nat.le_refl _
  | d :: r => by
    have := le_wt r
    have h : 1 ≤ wt1 d := by
      cases d with
      | look t => have := t.size_pos; simp only [wt1]; omega
      | _ => exact Nat.le_refl _
    simp only [wt, List.map_cons, List.sum_cons, List.length_cons] at *
    omega
theorem wt_reading (t : Tr) : wt (reading t) + 1 ≤ 3 * t.size := by
  cases t <;> simp [reading, wt, wt1, Tr.kids, Tr.size] <;> omega
/-- each once -/
def dd (fs : List Str) : List Str → List Str
  | [] => fs
  | x :: r => dd (if x ∈ fs then fs else fs ++ [x]) r
def freeNames (t : Tr) : List Str := dd [] (frees (fun _ => 0) t)
/-- the dict of the names that are bound -/
def Bd (kvs : List (Key × V)) (b : Str → Nat) : Prop := ∀ x : Str, match valV kvs (Sum.inr x : Key) with | none => b x = 0 | some v => v = .int (b x)
theorem Bd.get {kvs : List (Key × V)} {b : Str → Nat} (h : Bd kvs b) (x : Str) : (valV kvs (Sum.inr x : Key)).getD (.int 0) = .int (b x) := by
  have := h x
  cases e : valV kvs (Sum.inr x : Key) with
  | none => rw [e] at this; simp only at this; rw [this]; rfl
  | some v => rw [e] at this; exact this
theorem Bd.there {kvs : List (Key × V)} {b : Str → Nat} (h : Bd kvs b) {x : Str} (hx : 1 ≤ b x) : valV kvs (Sum.inr x : Key) = some (.int (b x)) := by
  have := h x
  cases e : valV kvs (Sum.inr x : Key) with
  | none => rw [e] at this; simp only at this; omega
  | some v => rw [e] at this; simp only at this; rw [this]
theorem Bd.put {kvs : List (Key × V)} {b b' : Str → Nat} (h : Bd kvs b) (x : Str) (hb : ∀ y, y ≠ x → b' y = b y) : Bd (putK kvs (Sum.inr x) (.int (b' x))) b' := by
  intro y
  rw [valV_put]
  by_cases e : y = x
  · subst e; rw [if_pos rfl]
  · rw [if_neg (fun z => e (Sum.inr.inj z))]
    have := h y
    rw [hb y e]
    exact this
def foundK (fs : List Str) : List (Key × V) := fs.map fun x => (Sum.inr x, V.bl true)
theorem foundK_val (fs : List Str) (x : Str) : valV (foundK fs) (Sum.inr x : Key) = if x ∈ fs then some (.bl true) else none := by
  induction fs with
  | nil => rfl
  | cons y r ih =>
    show valV ((Sum.inr y, V.bl true) :: foundK r) (Sum.inr x : Key) = _
    by_cases e : y = x
    · subst e
      rw [valV_pos rfl]; simp
    · rw [valV_neg (fun z => e (Sum.inr.inj z)), ih]
      have : ¬ x = y := fun z => e z.symm
      simp [this]
theorem foundK_put (fs : List Str) (x : Str) : putK (foundK fs) (Sum.inr x) (.bl true) = foundK (if x ∈ fs then fs else fs ++ [x]) := by
  by_cases h : x ∈ fs
  · rw [if_pos h]
    have e : (foundK fs).any (fun kv => decide (kv.1 = (Sum.inr x : Key))) = true := by
      rw [valV_any, foundK_val, if_pos h]; rfl
    unfold putK
    rw [if_pos e]
    unfold foundK
    rw [List.map_map]
    refine List.map_congr_left fun y _ => ?_
    simp only [Function.comp]
    split
    · rename_i e; rw [Sum.inr.inj e]
    · rfl
  · rw [if_neg h, putK_new _ (by rw [foundK_val, if_neg h])]
    simp [foundK]
def spFree : Sp := fun vs H Q _ => ∃ (t : Tr) (v : V), vs = [v] ∧ At H t v ∧ t.size ≤ 30000 ∧ ∀ (l : Addr) (H' : Hp), H l = none → Same H H' → H' l = some (.lst ((freeNames t).map V.str)) → Q (.ref l) H'
def Tr.wd : Tr → Wd
  | .num _ => .num | .name _ => .name | .fn _ _ => .fn | .call _ _ => .call | .plus _ _ => .plus | .less _ _ => .less | .ite _ _ _ => .ite | .lt _ _ _ => .lt
theorem Tr.wd_str (t : Tr) : t.wd.str = t.word := by cases t <;> rfl
theorem Tr.wd_start (t : Tr) : (t.own.length : Int) + 1 = t.wd.start := by cases t <;> rfl
/-- parts, asked of a tree -/
def spPartsT : Sp := fun vs H Q _ => ∃ (t : Tr) (a : Addr) (ws : List V), vs = [.ref a] ∧ H a = some (.tup (.str t.word :: t.own ++ ws)) ∧ ws.length ≤ 3 ∧ ∀ (l : Addr) (H' : Hp), H l = none → Same H H' → H' l = some (.lst ws) → Q (.ref l) H'
theorem parts_t {P : Program} {w : World} {K : PySem.W.Frag} {mg : Str → Option Value} {base : Heap} (D : Df P w K mg base 1 "parts" ["tree"] spParts) : Df P w K mg base 1 "parts" ["tree"] spPartsT :=
  D.imp fun vs H Q E ⟨t, a, ws, h1, h2, h3, h4⟩ => ⟨t.wd, a, t.own, ws, h1, by rw [t.wd_str]; exact h2, t.wd_start, h3, h4⟩
end My

namespace My
open PySem L2
/-! ### what the program promises -/
def Ers.cls (E : Ers) : Er → Addr
  | .number => E.number
  | .function => E.function
  | .closed => E.closed
abbrev evF := ev freeNames
/-- a closed tree and a count of deeds, as they ought to be -/
structure OkIn (H : Hp) (t : Tr) (v : V) (m : Nat) : Prop where
  at_ : At H t v
  good : Good t
  closed : t.closed
  size : t.size ≤ 400
  most : m ≤ 1000
def spRun (E : Ers) (KV : Hp → Val → V → Prop) : Sp := fun vs H Q X => ∃ (v : V) (t : Tr) (m : Nat), vs = [v, .int m] ∧ OkIn H t v m ∧
  match evF m .nil t with
  | .ok u m' _ => ∀ (r : V) (p : Addr) (H' : Hp), Same H H' → KV H' u r → H' p = some (.tup [r, .int ((m : Int) - m')]) → Q (.ref p) H'
  | .err c => ∀ H', Same H H' → X (.ref (E.cls c)) none H'
  | .dry => ∀ H', Same H H' → X (.ref E.dry) none H'
def spWorked (E : Ers) : Sp := fun vs H Q X => ∃ (v : V) (t : Tr) (m : Nat), vs = [v, .int m] ∧ OkIn H t v m ∧
  match work m t with
  | .ok u m' => ∀ (r : V) (p : Addr) (H' : Hp), Same H H' → At H' u r → H' p = some (.tup [r, .int ((m : Int) - m')]) → Q (.ref p) H'
  | .err c => ∀ H', Same H H' → X (.ref (E.cls c)) none H'
  | .dry => ∀ H', Same H H' → X (.ref E.dry) none H'
/-- the trees on the way -/
def path : Nat → Tr → List Tr
  | 0, t => [t]
  | m + 1, t => match t.step with
    | .to t' => t :: path m t'
    | _ => [t]
def spSteps (E : Ers) : Sp := fun vs H Q X => ∃ (v : V) (t : Tr) (m : Nat), vs = [v, .int m] ∧ OkIn H t v m ∧
  match work m t with
  | .ok _ _ => ∀ (rs : List V) (l : Addr) (H' : Hp), Same H H' → Ats H' (path m t) rs → H' l = some (.lst rs) → Q (.ref l) H'
  | .err c => ∀ H', Same H H' → X (.ref (E.cls c)) none H'
  | .dry => ∀ H', Same H H' → X (.ref E.dry) none H'
def spTold (KV : Hp → Val → V → Prop) : Sp := fun vs H Q _ => ∃ (u : Val) (v : V), vs = [v] ∧ KV H u v ∧ u.ok ∧ ∀ (r : V) (H' : Hp), Same H H' → At H' u.told r → Q r H'
theorem path_ok : ∀ {m : Nat} {t u : Tr} {m' : Nat}, work m t = .ok u m' → m' ≤ m ∧ (path m t).length = m - m' + 1 ∧ (path m t).getLast? = some u
  | 0, t, u, m', h => by
    rw [work] at h
    split at h
    · cases h; exact ⟨Nat.le_refl _, rfl, rfl⟩
    · cases h
  | m + 1, t, u, m', h => by
    rw [work] at h
    split at h
    · rename_i hs
      cases h
      refine ⟨Nat.le_refl _, ?_, ?_⟩ <;> (rw [path, hs]; simp)
    · rename_i t' hs
      obtain ⟨h1, h2, h3⟩ := path_ok h
      refine ⟨by omega, ?_, ?_⟩
      · rw [path, hs]; simp only [List.length_cons]; omega
      · rw [path, hs]
        dsimp only
        cases hp : path m t' with
        | nil => rw [hp] at h3; cases h3
        | cons a r => rw [hp] at h3; rw [List.getLast?_cons_cons]; exact h3
    · cases h
/-- with just as many deeds as there are it is done, with one fewer it is dry -/
theorem work_less : ∀ {m : Nat} {t u : Tr} {m' : Nat}, work m t = .ok u m' → work (m - m') t = .ok u 0 ∧ (0 < m - m' → work (m - m' - 1) t = .dry)
  | 0, t, u, m', h => by
    rw [work] at h
    split at h
    · rename_i hs
      cases h
      exact ⟨by rw [work, hs], fun h => by omega⟩
    · cases h
  | m + 1, t, u, m', h => by
    have hle := (path_ok h).1
    rw [work] at h
    split at h
    · rename_i hs
      cases h
      rw [Nat.sub_self]
      exact ⟨by rw [work, hs], fun h => by omega⟩
    · rename_i t' hs
      obtain ⟨h1, h2⟩ := work_less h
      have hle2 := (path_ok h).1
      have e : m + 1 - m' = (m - m') + 1 := by omega
      rw [e]
      refine ⟨by rw [work, hs]; exact h1, fun _ => ?_⟩
      rw [Nat.add_sub_cancel]
      by_cases h0 : m - m' = 0
      · rw [h0, work, hs]
      · obtain ⟨k, hk⟩ : ∃ k, m - m' = k + 1 := ⟨m - m' - 1, by omega⟩
        have := h2 (by omega)
        rw [hk] at this ⊢
        rw [work, hs]
        exact this
    · cases h
/-- freeNames tells the free ones -/
theorem frees_mem : ∀ (t : Tr) (b : Str → Nat) (x : Str), x ∈ frees b t ↔ t.fr x ∧ b x = 0
  | .num _, b, x => by simp [frees, Tr.fr]
  | .name y, b, x => by
    simp only [frees, Tr.fr]
    split
    · rename_i h
      simp only [List.mem_singleton]
      constructor
      · intro e; subst e; exact ⟨rfl, h⟩
      · exact fun e => e.1.symm
    · rename_i h
      simp only [List.not_mem_nil, false_iff]
      rintro ⟨rfl, h2⟩
      exact h h2
  | .fn y t, b, x => by
    simp only [frees, Tr.fr]
    rw [frees_mem t (inc y b) x]
    unfold inc
    by_cases h : x = y
    · subst h; simp
    · rw [if_neg h]
      constructor
      · rintro ⟨h1, h2⟩; exact ⟨⟨fun e => h e.symm, h1⟩, h2⟩
      · rintro ⟨⟨_, h1⟩, h2⟩; exact ⟨h1, h2⟩
  | .call f a, b, x => by simp only [frees, Tr.fr, List.mem_append]; rw [frees_mem f b x, frees_mem a b x]; exact ⟨fun h => h.elim (fun h => ⟨.inl h.1, h.2⟩) fun h => ⟨.inr h.1, h.2⟩, fun ⟨h1, h2⟩ => h1.elim (fun h => .inl ⟨h, h2⟩) fun h => .inr ⟨h, h2⟩⟩
  | .plus f a, b, x => by simp only [frees, Tr.fr, List.mem_append]; rw [frees_mem f b x, frees_mem a b x]; exact ⟨fun h => h.elim (fun h => ⟨.inl h.1, h.2⟩) fun h => ⟨.inr h.1, h.2⟩, fun ⟨h1, h2⟩ => h1.elim (fun h => .inl ⟨h, h2⟩) fun h => .inr ⟨h, h2⟩⟩
  | .less f a, b, x => by simp only [frees, Tr.fr, List.mem_append]; rw [frees_mem f b x, frees_mem a b x]; exact ⟨fun h => h.elim (fun h => ⟨.inl h.1, h.2⟩) fun h => ⟨.inr h.1, h.2⟩, fun ⟨h1, h2⟩ => h1.elim (fun h => .inl ⟨h, h2⟩) fun h => .inr ⟨h, h2⟩⟩
  | .ite c f a, b, x => by
    simp only [frees, Tr.fr, List.mem_append]
    rw [frees_mem c b x, frees_mem f b x, frees_mem a b x]
    exact ⟨fun h => h.elim (fun h => ⟨.inl h.1, h.2⟩) fun h => h.elim (fun h => ⟨.inr (.inl h.1), h.2⟩) fun h => ⟨.inr (.inr h.1), h.2⟩, fun ⟨h1, h2⟩ => h1.elim (fun h => .inl ⟨h, h2⟩) fun h => h.elim (fun h => .inr (.inl ⟨h, h2⟩)) fun h => .inr (.inr ⟨h, h2⟩)⟩
  | .lt y e t, b, x => by
    simp only [frees, Tr.fr, List.mem_append]
    rw [frees_mem e b x, frees_mem t (inc y b) x]
    unfold inc
    by_cases h : x = y
    · subst h; simp
    · rw [if_neg h]
      constructor
      · rintro (⟨h1, h2⟩ | ⟨h1, h2⟩)
        · exact ⟨.inl h1, h2⟩
        · exact ⟨.inr ⟨fun e => h e.symm, h1⟩, h2⟩
      · rintro ⟨h1 | ⟨_, h1⟩, h2⟩
        · exact .inl ⟨h1, h2⟩
        · exact .inr ⟨h1, h2⟩
theorem dd_mem : ∀ (ys fs : List Str) (x : Str), x ∈ dd fs ys ↔ x ∈ fs ∨ x ∈ ys
  | [], fs, x => by simp [dd]
  | y :: r, fs, x => by
    simp only [dd]
    rw [dd_mem r _ x]
    by_cases h : y ∈ fs
    · rw [if_pos h]
      constructor
      · rintro (h1 | h1)
        · exact .inl h1
        · exact .inr (List.mem_cons_of_mem _ h1)
      · rintro (h1 | h1)
        · exact .inl h1
        · rcases List.mem_cons.mp h1 with e | h1
          · exact .inl (e ▸ h)
          · exact .inr h1
    · rw [if_neg h]
      simp only [List.mem_append, List.mem_cons, List.not_mem_nil, or_false]
      exact ⟨fun h => h.elim (fun h => h.elim .inl fun e => .inr (.inl e)) fun h => .inr (.inr h), fun h => h.elim (fun h => .inl (.inl h)) fun h => h.elim (fun e => .inl (.inr e)) .inr⟩
theorem fl_iff (t : Tr) (x : Str) : x ∈ freeNames t ↔ t.fr x := by
  unfold freeNames
  rw [dd_mem, frees_mem]
  simp
theorem fl_mem : ∀ t y, Tr.fr y t → y ∈ freeNames t := fun t y h => (fl_iff t y).mpr h
theorem put_closed {b w : Tr} {x : Str} (hw : w.closed) (hb : ∀ y, b.fr y → y = x) : (b.put x w).closed := fun y hy => by
  obtain ⟨h1, h2⟩ := (Tr.fr_sub (Sb.Cl.one hw)).mp hy
  have := hb y h1
  subst this
  unfold Sb.one at h2
  rw [if_pos rfl] at h2
  cases h2
theorem step_closed : ∀ {t : Tr}, t.closed → t.step ≠ .err .closed ∧ ∀ t', t.step = .to t' → t'.closed
  | .num n, _ => ⟨by simp [Tr.step], fun t' h => by simp [Tr.step] at h⟩
  | .fn x b, _ => ⟨by simp [Tr.step], fun t' h => by simp [Tr.step] at h⟩
  | .name x, h => absurd rfl (h x)
  | .plus a b, h => by
    have ha := step_closed (t := a) fun x hx => h x (.inl hx)
    have hb := step_closed (t := b) fun x hx => h x (.inr hx)
    simp only [Tr.step]
    split
    · rename_i a' e
      exact ⟨by simp, fun t' ht => by cases ht; exact fun x hx => hx.elim (ha.2 _ e x) fun hx => h x (.inr hx)⟩
    · rename_i c e
      exact ⟨fun hc => by cases hc; exact ha.1 e, fun t' ht => by cases ht⟩
    · split
      · rename_i b' e
        exact ⟨by simp, fun t' ht => by cases ht; exact fun x hx => hx.elim (fun hx => h x (.inl hx)) (hb.2 _ e x)⟩
      · rename_i c e
        exact ⟨fun hc => by cases hc; exact hb.1 e, fun t' ht => by cases ht⟩
      · split
        · exact ⟨by simp, fun t' ht => by cases ht; exact fun x hx => hx⟩
        · exact ⟨by simp, fun t' ht => by cases ht⟩
  | .less a b, h => by
    have ha := step_closed (t := a) fun x hx => h x (.inl hx)
    have hb := step_closed (t := b) fun x hx => h x (.inr hx)
    simp only [Tr.step]
    split
    · rename_i a' e
      exact ⟨by simp, fun t' ht => by cases ht; exact fun x hx => hx.elim (ha.2 _ e x) fun hx => h x (.inr hx)⟩
    · rename_i c e
      exact ⟨fun hc => by cases hc; exact ha.1 e, fun t' ht => by cases ht⟩
    · split
      · rename_i b' e
        exact ⟨by simp, fun t' ht => by cases ht; exact fun x hx => hx.elim (fun hx => h x (.inl hx)) (hb.2 _ e x)⟩
      · rename_i c e
        exact ⟨fun hc => by cases hc; exact hb.1 e, fun t' ht => by cases ht⟩
      · split
        · exact ⟨by simp, fun t' ht => by cases ht; exact fun x hx => hx⟩
        · exact ⟨by simp, fun t' ht => by cases ht⟩
  | .call a b, h => by
    have ha := step_closed (t := a) fun x hx => h x (.inl hx)
    have hb := step_closed (t := b) fun x hx => h x (.inr hx)
    simp only [Tr.step]
    split
    · rename_i a' e
      exact ⟨by simp, fun t' ht => by cases ht; exact fun x hx => hx.elim (ha.2 _ e x) fun hx => h x (.inr hx)⟩
    · rename_i c e
      exact ⟨fun hc => by cases hc; exact ha.1 e, fun t' ht => by cases ht⟩
    · split
      · rename_i b' e
        exact ⟨by simp, fun t' ht => by cases ht; exact fun x hx => hx.elim (fun hx => h x (.inl hx)) (hb.2 _ e x)⟩
      · rename_i c e
        exact ⟨fun hc => by cases hc; exact hb.1 e, fun t' ht => by cases ht⟩
      · split
        · rename_i x t e
          exact ⟨by simp, fun t' ht => by
            cases ht
            exact put_closed (fun y hy => h y (.inr hy)) fun y hy => by
              by_cases e : x = y
              · exact e.symm
              · exact absurd (.inl ⟨e, hy⟩) (h y)⟩
        · exact ⟨by simp, fun t' ht => by cases ht⟩
  | .ite c a b, h => by
    have hc := step_closed (t := c) fun x hx => h x (.inl hx)
    simp only [Tr.step]
    split
    · rename_i a' e
      exact ⟨by simp, fun t' ht => by cases ht; exact fun x hx => hx.elim (hc.2 _ e x) fun hx => h x (.inr hx)⟩
    · rename_i k e
      exact ⟨fun hk => by cases hk; exact hc.1 e, fun t' ht => by cases ht⟩
    · split
      · refine ⟨by simp, fun t' ht => ?_⟩
        injection ht with ht
        subst ht
        split
        · exact fun x hx => h x (.inr (.inr hx))
        · exact fun x hx => h x (.inr (.inl hx))
      · exact ⟨by simp, fun t' ht => by cases ht⟩
  | .lt x a b, h => by
    have ha := step_closed (t := a) fun y hy => h y (.inl hy)
    simp only [Tr.step]
    split
    · rename_i a' e
      exact ⟨by simp, fun t' ht => by cases ht; exact fun y hy => hy.elim (ha.2 _ e y) fun hy => h y (.inr hy)⟩
    · rename_i k e
      exact ⟨fun hk => by cases hk; exact ha.1 e, fun t' ht => by cases ht⟩
    · exact ⟨by simp, fun t' ht => by
        cases ht
        exact put_closed (fun y hy => h y (.inl hy)) fun y hy => by
          by_cases e : x = y
          · exact e.symm
          · exact absurd (.inr ⟨e, hy⟩) (h y)⟩
theorem work_closed : ∀ {m : Nat} {t : Tr}, t.closed → work m t ≠ .err .closed ∧ ∀ u m', work m t = .ok u m' → u.closed
  | 0, t, h => by
    rw [work]
    split
    · exact ⟨by simp, fun u m' e => by cases e; exact h⟩
    · exact ⟨by simp, fun u m' e => by cases e⟩
  | m + 1, t, h => by
    have hs := step_closed h
    rw [work]
    split
    · exact ⟨by simp, fun u m' e => by cases e; exact h⟩
    · rename_i t' e
      exact work_closed (hs.2 t' e)
    · rename_i c e
      exact ⟨fun hc => by cases hc; exact hs.1 e, fun u m' e => by cases e⟩
theorem ev_closed {m : Nat} {t : Tr} (h : t.closed) : evF m .nil t ≠ .err .closed := fun e => by
  have := run_work (fl := freeNames) fl_mem (m := m) h
  rw [show ev freeNames m .nil t = .err .closed from e] at this
  exact (work_closed h).1 this
/-- how the classes of refusals are told apart -/
structure MeetsT (K : PySem.W.Frag) (E : Ers) : Prop where
  nn : PySem.W.exmOne K (.ref E.number) (.ref E.number) = some true
  fn : PySem.W.exmOne K (.ref E.function) (.ref E.number) = some false
  ff : PySem.W.exmOne K (.ref E.function) (.ref E.function) = some true
  dn : PySem.W.exmOne K (.ref E.dry) (.ref E.number) = some false
  df : PySem.W.exmOne K (.ref E.dry) (.ref E.function) = some false
  dd : PySem.W.exmOne K (.ref E.dry) (.ref E.dry) = some true
/-- what the law's three ways of asking need of the text -/
structure ATxt (K : PySem.W.Frag) (mg : Str → Option Value) (E : Ers) : Prop extends Bt mg where
  NoNumber : ErrC K mg "NoNumber" E.number
  NoFunction : ErrC K mg "NoFunction" E.function
  Dry : ErrC K mg "Dry" E.dry
  meets : MeetsT K E
def Er.word : Er → Str
  | .number => "number"
  | .function => "function"
  | .closed => "closed"
def spRunW (KV : Hp → Val → V → Prop) : Sp := fun vs H Q _ => ∃ (v : V) (t : Tr) (m : Nat), vs = [v, .int m] ∧ OkIn H t v m ∧
  match evF m .nil t with
  | .ok u m' _ => ∀ (r : V) (p : Addr) (H' : Hp), Same H H' → KV H' u r → H' p = some (.tup [r, .int ((m : Int) - m')]) → Q (.ref p) H'
  | .err c => ∀ H', Same H H' → Q (.str c.word) H'
  | .dry => ∀ H', Same H H' → Q (.str "dry") H'
def spWorkedW : Sp := fun vs H Q _ => ∃ (v : V) (t : Tr) (m : Nat), vs = [v, .int m] ∧ OkIn H t v m ∧
  match work m t with
  | .ok u m' => ∀ (r : V) (p : Addr) (H' : Hp), Same H H' → At H' u r → H' p = some (.tup [r, .int ((m : Int) - m')]) → Q (.ref p) H'
  | .err c => ∀ H', Same H H' → Q (.str c.word) H'
  | .dry => ∀ H', Same H H' → Q (.str "dry") H'
def spStepsW : Sp := fun vs H Q _ => ∃ (v : V) (t : Tr) (m : Nat), vs = [v, .int m] ∧ OkIn H t v m ∧
  match work m t with
  | .ok _ _ => ∀ (rs : List V) (l : Addr) (H' : Hp), Same H H' → Ats H' (path m t) rs → H' l = some (.lst rs) → Q (.ref l) H'
  | .err c => ∀ H', Same H H' → Q (.str c.word) H'
  | .dry => ∀ H', Same H H' → Q (.str "dry") H'
structure KTxt (K : PySem.W.Frag) (mg : Str → Option Value) (E : Ers) (cK : Addr) : Prop extends ATxt K mg E where
  cKept : mg "Kept" = some (.ref cK)
  kint : PySem.W.kitOne K (.type "int") (.ref cK) = some false
/-- what a machine's value is in the heap, as far as the laws ask for it -/
structure KVok (K : PySem.W.Frag) (cK : Addr) (KV : Hp → Val → V → Prop) : Prop where
  num : ∀ {H n r}, KV H (.num n) r → r = .int n
  fn : ∀ {H x b e r}, KV H (.fn x b e) r → ∃ t, TyX K H r t ∧ PySem.W.kitOne K t (.ref cK) = some true
  same : ∀ {H H' u r}, Same H H' → KV H u r → KV H' u r
/-- a pair with a count -/
def spPair : Sp := fun vs H Q _ => ∃ (p : Addr) (r : V) (n : Int), vs = [.ref p] ∧ H p = some (.tup [r, .int n]) ∧ Q (.bl true) H
theorem OkIn.same {H H' : Hp} {t : Tr} {v : V} {m : Nat} (h : OkIn H t v m) (e : Same H H') : OkIn H' t v m := ⟨h.at_.mono (same_kt e), h.good, h.closed, h.size, h.most⟩
end My

namespace My
open PySem L2
/-! ### how deep the trees become -/
/-- each free x stands at most d deep -/
def Oc (x : Str) : Nat → Tr → Prop
  | _, .num _ => True
  | _, .name _ => True
  | d, .fn y b => y = x ∨ match d with | 0 => ¬ b.fr x | d + 1 => Oc x d b
  | d, .call f a => match d with | 0 => ¬ f.fr x ∧ ¬ a.fr x | d + 1 => Oc x d f ∧ Oc x d a
  | d, .plus f a => match d with | 0 => ¬ f.fr x ∧ ¬ a.fr x | d + 1 => Oc x d f ∧ Oc x d a
  | d, .less f a => match d with | 0 => ¬ f.fr x ∧ ¬ a.fr x | d + 1 => Oc x d f ∧ Oc x d a
  | d, .ite c f a => match d with | 0 => ¬ c.fr x ∧ ¬ f.fr x ∧ ¬ a.fr x | d + 1 => Oc x d c ∧ Oc x d f ∧ Oc x d a
  | d, .lt y e b => match d with | 0 => ¬ e.fr x ∧ (y = x ∨ ¬ b.fr x) | d + 1 => Oc x d e ∧ (y = x ∨ Oc x d b)
theorem oc_not {x : Str} : ∀ {t : Tr} {d : Nat}, ¬ t.fr x → Oc x d t
  | .num _, d, h => by unfold Oc; trivial
  | .name _, d, h => by unfold Oc; trivial
  | .fn y b, d, h => by
    unfold Oc
    by_cases e : y = x
    · exact .inl e
    · have hb : ¬ b.fr x := fun hb => h ⟨e, hb⟩
      right
      cases d with
      | zero => exact hb
      | succ d => exact oc_not hb
  | .call f a, d, h => by
    have h1 : ¬ f.fr x := fun k => h (.inl k)
    have h2 : ¬ a.fr x := fun k => h (.inr k)
    unfold Oc
    cases d with
    | zero => exact ⟨h1, h2⟩
    | succ d => exact ⟨oc_not h1, oc_not h2⟩
  | .plus f a, d, h => by
    have h1 : ¬ f.fr x := fun k => h (.inl k)
    have h2 : ¬ a.fr x := fun k => h (.inr k)
    unfold Oc
    cases d with
    | zero => exact ⟨h1, h2⟩
    | succ d => exact ⟨oc_not h1, oc_not h2⟩
  | .less f a, d, h => by
    have h1 : ¬ f.fr x := fun k => h (.inl k)
    have h2 : ¬ a.fr x := fun k => h (.inr k)
    unfold Oc
    cases d with
    | zero => exact ⟨h1, h2⟩
    | succ d => exact ⟨oc_not h1, oc_not h2⟩
  | .ite c f a, d, h => by
    have h0 : ¬ c.fr x := fun k => h (.inl k)
    have h1 : ¬ f.fr x := fun k => h (.inr (.inl k))
    have h2 : ¬ a.fr x := fun k => h (.inr (.inr k))
    unfold Oc
    cases d with
    | zero => exact ⟨h0, h1, h2⟩
    | succ d => exact ⟨oc_not h0, oc_not h1, oc_not h2⟩
  | .lt y e b, d, h => by
    have h1 : ¬ e.fr x := fun k => h (.inl k)
    unfold Oc
    by_cases q : y = x
    · cases d with
      | zero => exact ⟨h1, .inl q⟩
      | succ d => exact ⟨oc_not h1, .inl q⟩
    · have h2 : ¬ b.fr x := fun k => h (.inr ⟨q, k⟩)
      cases d with
      | zero => exact ⟨h1, .inr h2⟩
      | succ d => exact ⟨oc_not h1, .inr (oc_not h2)⟩
/-- a tree is as deep as that -/
theorem oc_dep {x : Str} : ∀ {t : Tr} {d : Nat}, t.dep ≤ d → Oc x d t
  | .num _, d, h => by unfold Oc; trivial
  | .name _, d, h => by unfold Oc; trivial
  | .fn y b, 0, h => by simp only [Tr.dep] at h; omega
  | .fn y b, d + 1, h => by unfold Oc; simp only [Tr.dep] at h; exact .inr (oc_dep (by omega))
  | .call f a, 0, h => by simp only [Tr.dep] at h; omega
  | .call f a, d + 1, h => by unfold Oc; simp only [Tr.dep] at h; exact ⟨oc_dep (by omega), oc_dep (by omega)⟩
  | .plus f a, 0, h => by simp only [Tr.dep] at h; omega
  | .plus f a, d + 1, h => by unfold Oc; simp only [Tr.dep] at h; exact ⟨oc_dep (by omega), oc_dep (by omega)⟩
  | .less f a, 0, h => by simp only [Tr.dep] at h; omega
  | .less f a, d + 1, h => by unfold Oc; simp only [Tr.dep] at h; exact ⟨oc_dep (by omega), oc_dep (by omega)⟩
  | .ite c f a, 0, h => by simp only [Tr.dep] at h; omega
  | .ite c f a, d + 1, h => by unfold Oc; simp only [Tr.dep] at h; exact ⟨oc_dep (by omega), oc_dep (by omega), oc_dep (by omega)⟩
  | .lt y e b, 0, h => by simp only [Tr.dep] at h; omega
  | .lt y e b, d + 1, h => by unfold Oc; simp only [Tr.dep] at h; exact ⟨oc_dep (by omega), .inr (oc_dep (by omega))⟩
theorem put_dep {x : Str} {w : Tr} : ∀ {t : Tr} {d : Nat}, Oc x d t → (t.put x w).dep ≤ max t.dep (d + w.dep)
  | .num _, d, h => by rw [put_num]; omega
  | .name y, d, h => by rw [put_name]; split <;> omega
  | .fn y b, d, h => by
    unfold Oc at h
    rw [put_fn]
    by_cases e : y = x
    · rw [if_pos e]; omega
    · rw [if_neg e]
      have h := h.resolve_left e
      cases d with
      | zero =>
        rw [Tr.put_id h]; omega
      | succ d => have := put_dep (w := w) h; simp only [Tr.dep]; omega
  | .call f a, 0, h => by unfold Oc at h; rw [put_call, Tr.put_id h.1, Tr.put_id h.2]; omega
  | .call f a, d + 1, h => by unfold Oc at h; have := put_dep (w := w) h.1; have := put_dep (w := w) h.2; rw [put_call]; simp only [Tr.dep]; omega
  | .plus f a, 0, h => by unfold Oc at h; rw [put_plus, Tr.put_id h.1, Tr.put_id h.2]; omega
  | .plus f a, d + 1, h => by unfold Oc at h; have := put_dep (w := w) h.1; have := put_dep (w := w) h.2; rw [put_plus]; simp only [Tr.dep]; omega
  | .less f a, 0, h => by unfold Oc at h; rw [put_less, Tr.put_id h.1, Tr.put_id h.2]; omega
  | .less f a, d + 1, h => by unfold Oc at h; have := put_dep (w := w) h.1; have := put_dep (w := w) h.2; rw [put_less]; simp only [Tr.dep]; omega
  | .ite c f a, 0, h => by unfold Oc at h; rw [put_ite, Tr.put_id h.1, Tr.put_id h.2.1, Tr.put_id h.2.2]; omega
  | .ite c f a, d + 1, h => by unfold Oc at h; have := put_dep (w := w) h.1; have := put_dep (w := w) h.2.1; have := put_dep (w := w) h.2.2; rw [put_ite]; simp only [Tr.dep]; omega
  | .lt y e b, d, h => by
    unfold Oc at h
    rw [put_lt]
    cases d with
    | zero =>
      rw [Tr.put_id h.1]
      by_cases q : y = x
      · rw [if_pos q]; omega
      · rw [if_neg q, Tr.put_id (h.2.resolve_left q)]; omega
    | succ d =>
      have := put_dep (w := w) h.1
      by_cases q : y = x
      · rw [if_pos q]; simp only [Tr.dep]; omega
      · rw [if_neg q]
        have := put_dep (w := w) (h.2.resolve_left q)
        simp only [Tr.dep]; omega
/-- putting closed things in changes nothing of that -/
theorem oc_sub {x : Str} : ∀ {t : Tr} {d : Nat} {s : Sb}, s.Cl → Oc x d t → Oc x d (t.sub s)
  | .num _, d, s, hs, h => by simp only [Tr.sub]; unfold Oc; trivial
  | .name y, d, s, hs, h => by
    simp only [Tr.sub]
    cases e : s y with
    | none => show Oc x d (.name y); unfold Oc; trivial
    | some v => exact oc_not (hs y v e x)
  | .fn y b, d, s, hs, h => by
    simp only [Tr.sub]
    unfold Oc at h ⊢
    rcases h with h | h
    · exact .inl h
    · right
      cases d with
      | zero => exact fun k => h ((Tr.fr_sub (hs.del y)).mp k).1
      | succ d => exact oc_sub (hs.del y) h
  | .call f a, d, s, hs, h => by
    simp only [Tr.sub]
    unfold Oc at h ⊢
    cases d with
    | zero => exact ⟨fun k => h.1 ((Tr.fr_sub hs).mp k).1, fun k => h.2 ((Tr.fr_sub hs).mp k).1⟩
    | succ d => exact ⟨oc_sub hs h.1, oc_sub hs h.2⟩
  | .plus f a, d, s, hs, h => by
    simp only [Tr.sub]
    unfold Oc at h ⊢
    cases d with
    | zero => exact ⟨fun k => h.1 ((Tr.fr_sub hs).mp k).1, fun k => h.2 ((Tr.fr_sub hs).mp k).1⟩
    | succ d => exact ⟨oc_sub hs h.1, oc_sub hs h.2⟩
  | .less f a, d, s, hs, h => by
    simp only [Tr.sub]
    unfold Oc at h ⊢
    cases d with
    | zero => exact ⟨fun k => h.1 ((Tr.fr_sub hs).mp k).1, fun k => h.2 ((Tr.fr_sub hs).mp k).1⟩
    | succ d => exact ⟨oc_sub hs h.1, oc_sub hs h.2⟩
  | .ite c f a, d, s, hs, h => by
    simp only [Tr.sub]
    unfold Oc at h ⊢
    cases d with
    | zero => exact ⟨fun k => h.1 ((Tr.fr_sub hs).mp k).1, fun k => h.2.1 ((Tr.fr_sub hs).mp k).1, fun k => h.2.2 ((Tr.fr_sub hs).mp k).1⟩
    | succ d => exact ⟨oc_sub hs h.1, oc_sub hs h.2.1, oc_sub hs h.2.2⟩
  | .lt y e b, d, s, hs, h => by
    simp only [Tr.sub]
    unfold Oc at h ⊢
    cases d with
    | zero => exact ⟨fun k => h.1 ((Tr.fr_sub hs).mp k).1, h.2.imp id fun g k => g ((Tr.fr_sub (hs.del y)).mp k).1⟩
    | succ d => exact ⟨oc_sub hs h.1, h.2.imp id fun g => oc_sub (hs.del y) g⟩
/-- each bound name stands at most c deep in what it is bound in -/
def Bo (c : Nat) : Tr → Prop
  | .num _ => True
  | .name _ => True
  | .fn y b => Oc y c b ∧ Bo c b
  | .call f a => Bo c f ∧ Bo c a
  | .plus f a => Bo c f ∧ Bo c a
  | .less f a => Bo c f ∧ Bo c a
  | .ite k f a => Bo c k ∧ Bo c f ∧ Bo c a
  | .lt y e b => Oc y c b ∧ Bo c e ∧ Bo c b
theorem bo_dep : ∀ {t : Tr} {c : Nat}, t.dep ≤ c → Bo c t
  | .num _, c, h => trivial
  | .name _, c, h => trivial
  | .fn y b, c, h => by simp only [Tr.dep] at h; exact ⟨oc_dep (by omega), bo_dep (by omega)⟩
  | .call f a, c, h => by simp only [Tr.dep] at h; exact ⟨bo_dep (by omega), bo_dep (by omega)⟩
  | .plus f a, c, h => by simp only [Tr.dep] at h; exact ⟨bo_dep (by omega), bo_dep (by omega)⟩
  | .less f a, c, h => by simp only [Tr.dep] at h; exact ⟨bo_dep (by omega), bo_dep (by omega)⟩
  | .ite k f a, c, h => by simp only [Tr.dep] at h; exact ⟨bo_dep (by omega), bo_dep (by omega), bo_dep (by omega)⟩
  | .lt y e b, c, h => by simp only [Tr.dep] at h; exact ⟨oc_dep (by omega), bo_dep (by omega), bo_dep (by omega)⟩
theorem bo_sub {c : Nat} : ∀ {t : Tr} {s : Sb}, s.Cl → (∀ x v, s x = some v → Bo c v) → Bo c t → Bo c (t.sub s)
  | .num _, s, hs, hb, h => trivial
  | .name y, s, hs, hb, h => by
    simp only [Tr.sub]
    cases e : s y with
    | none => exact trivial
    | some v => exact hb y v e
  | .fn y b, s, hs, hb, h => ⟨oc_sub (hs.del y) h.1, bo_sub (hs.del y) (fun x v e => by unfold Sb.del at e; split at e; cases e; exact hb x v e) h.2⟩
  | .call f a, s, hs, hb, h => ⟨bo_sub hs hb h.1, bo_sub hs hb h.2⟩
  | .plus f a, s, hs, hb, h => ⟨bo_sub hs hb h.1, bo_sub hs hb h.2⟩
  | .less f a, s, hs, hb, h => ⟨bo_sub hs hb h.1, bo_sub hs hb h.2⟩
  | .ite k f a, s, hs, hb, h => ⟨bo_sub hs hb h.1, bo_sub hs hb h.2.1, bo_sub hs hb h.2.2⟩
  | .lt y e b, s, hs, hb, h => ⟨oc_sub (hs.del y) h.1, bo_sub hs hb h.2.1, bo_sub (hs.del y) (fun x v e => by unfold Sb.del at e; split at e; cases e; exact hb x v e) h.2.2⟩
theorem bo_put {c : Nat} {t w : Tr} {x : Str} (hw : w.closed) (hb : Bo c w) (h : Bo c t) : Bo c (t.put x w) :=
  bo_sub (Sb.Cl.one hw) (fun y v e => by unfold Sb.one at e; split at e; cases e; exact hb; cases e) h
/-- a step makes it deeper by c at most -/
theorem step_dep {c : Nat} : ∀ {t t' : Tr}, t.closed → Bo c t → t.step = .to t' → Bo c t' ∧ t'.dep ≤ t.dep + c
  | .num n, t', _, _, h => by simp [Tr.step] at h
  | .fn x b, t', _, _, h => by simp [Tr.step] at h
  | .name x, t', _, _, h => by simp [Tr.step] at h
  | .plus a b, t', hc, hb, h => by
    simp only [Tr.step] at h
    split at h
    · rename_i a' e
      cases h
      have := step_dep (fun x hx => hc x (.inl hx)) hb.1 e
      exact ⟨⟨this.1, hb.2⟩, by simp only [Tr.dep]; omega⟩
    · cases h
    · split at h
      · rename_i b' e
        cases h
        have := step_dep (fun x hx => hc x (.inr hx)) hb.2 e
        exact ⟨⟨hb.1, this.1⟩, by simp only [Tr.dep]; omega⟩
      · cases h
      · split at h
        · cases h; exact ⟨trivial, by simp only [Tr.dep]; omega⟩
        · cases h
  | .less a b, t', hc, hb, h => by
    simp only [Tr.step] at h
    split at h
    · rename_i a' e
      cases h
      have := step_dep (fun x hx => hc x (.inl hx)) hb.1 e
      exact ⟨⟨this.1, hb.2⟩, by simp only [Tr.dep]; omega⟩
    · cases h
    · split at h
      · rename_i b' e
        cases h
        have := step_dep (fun x hx => hc x (.inr hx)) hb.2 e
        exact ⟨⟨hb.1, this.1⟩, by simp only [Tr.dep]; omega⟩
      · cases h
      · split at h
        · cases h; exact ⟨trivial, by simp only [Tr.dep]; omega⟩
        · cases h
  | .call a b, t', hc, hb, h => by
    simp only [Tr.step] at h
    split at h
    · rename_i a' e
      cases h
      have := step_dep (fun x hx => hc x (.inl hx)) hb.1 e
      exact ⟨⟨this.1, hb.2⟩, by simp only [Tr.dep]; omega⟩
    · cases h
    · split at h
      · rename_i b' e
        cases h
        have := step_dep (fun x hx => hc x (.inr hx)) hb.2 e
        exact ⟨⟨hb.1, this.1⟩, by simp only [Tr.dep]; omega⟩
      · cases h
      · split at h
        · rename_i x t e
          cases h
          have := put_dep (w := b) hb.1.1
          exact ⟨bo_put (fun y hy => hc y (.inr hy)) hb.2 hb.1.2, by simp only [Tr.dep]; omega⟩
        · cases h
  | .ite k a b, t', hc, hb, h => by
    simp only [Tr.step] at h
    split at h
    · rename_i a' e
      cases h
      have := step_dep (fun x hx => hc x (.inl hx)) hb.1 e
      exact ⟨⟨this.1, hb.2⟩, by simp only [Tr.dep]; omega⟩
    · cases h
    · split at h
      · injection h with h
        subst h
        split
        · exact ⟨hb.2.2, by simp only [Tr.dep]; omega⟩
        · exact ⟨hb.2.1, by simp only [Tr.dep]; omega⟩
      · cases h
  | .lt x a b, t', hc, hb, h => by
    simp only [Tr.step] at h
    split at h
    · rename_i a' e
      cases h
      have := step_dep (fun x hx => hc x (.inl hx)) hb.2.1 e
      exact ⟨⟨hb.1, this.1, hb.2.2⟩, by simp only [Tr.dep]; omega⟩
    · cases h
    · cases h
      have := put_dep (w := a) hb.1
      exact ⟨bo_put (fun y hy => hc y (.inl hy)) hb.2.1 hb.2.2, by simp only [Tr.dep]; omega⟩
theorem work_dep {c : Nat} : ∀ {m : Nat} {t u : Tr} {m' : Nat}, t.closed → Bo c t → work m t = .ok u m' → u.dep ≤ t.dep + m * c
  | 0, t, u, m', hc, hb, h => by
    rw [work] at h
    split at h
    · cases h; omega
    · cases h
  | m + 1, t, u, m', hc, hb, h => by
    rw [work] at h
    split at h
    · cases h; omega
    · rename_i t' e
      have h1 := step_dep hc hb e
      have h2 := work_dep ((step_closed hc).2 t' e) h1.1 h
      rw [Nat.succ_mul]
      omega
    · cases h
/-- the value of a tree of 400 nodes behind 1000 deeds -/
theorem work_dep' {m : Nat} {t u : Tr} {m' : Nat} (hc : t.closed) (hs : t.size ≤ 400) (hm : m ≤ 1000) (h : work m t = .ok u m') : u.dep ≤ 500000 := by
  have hd := t.dep_size
  have h1 := work_dep (c := 400) hc (bo_dep (by omega)) h
  have : m * 400 ≤ 400000 := by omega
  omega
theorem ev_ok {m : Nat} {t : Tr} (hc : t.closed) {u : Val} {m' : Nat} {l : List Val} (h : evF m .nil t = .ok u m' l) : u.ok := by
  have g := agree (fl := freeNames) fl_mem m .nil t trivial (fun y hy => absurd hy (hc y)) _ Ctx.id
  rw [show ev freeNames m .nil t = _ from h] at g
  exact g.1
theorem not_bang {p : Prop} {i : Decidable p} (h : p) : ¬ (!(@decide p i)) = true := by simp [h]
end My

namespace My
open PySem L2
/-! ### trees in which a name may be a number -/
inductive Sh where
  | num (n : Int) | name (k : Key) | fn (x : Str) (b : Sh) | call (f a : Sh) | plus (a b : Sh) | less (a b : Sh) | ite (c a b : Sh) | lt (x : Str) (e b : Sh)
def Tr.sh : Tr → Sh
  | .num n => .num n
  | .name x => .name (.inr x)
  | .fn x b => .fn x b.sh
  | .call f a => .call f.sh a.sh
  | .plus f a => .plus f.sh a.sh
  | .less f a => .less f.sh a.sh
  | .ite c f a => .ite c.sh f.sh a.sh
  | .lt x e b => .lt x e.sh b.sh
namespace Sh
def kids : Sh → List Sh
  | .num _ => [] | .name _ => [] | .fn _ b => [b] | .call f a => [f, a] | .plus a b => [a, b] | .less a b => [a, b] | .ite c a b => [c, a, b] | .lt _ e b => [e, b]
def word : Sh → Str
  | .num _ => "num" | .name _ => "name" | .fn _ _ => "fun" | .call _ _ => "call" | .plus _ _ => "plus" | .less _ _ => "less" | .ite _ _ _ => "if" | .lt _ _ _ => "let"
def own : Sh → List V
  | .num n => [.int n] | .name k => [kV k] | .fn x _ => [.str x] | .lt x _ _ => [.str x] | _ => []
def size : Sh → Nat
  | .num _ => 1 | .name _ => 1 | .fn _ b => 1 + b.size | .call f a => 1 + f.size + a.size | .plus a b => 1 + a.size + b.size | .less a b => 1 + a.size + b.size
  | .ite c a b => 1 + c.size + a.size + b.size | .lt _ e b => 1 + e.size + b.size
def dep : Sh → Nat
  | .num _ => 1 | .name _ => 1 | .fn _ b => 1 + b.dep | .call f a => 1 + max f.dep a.dep | .plus a b => 1 + max a.dep b.dep | .less a b => 1 + max a.dep b.dep
  | .ite c a b => 1 + max c.dep (max a.dep b.dep) | .lt _ e b => 1 + max e.dep b.dep
theorem size_pos : ∀ t : Sh, 0 < t.size := fun t => by cases t <;> simp only [size] <;> omega
theorem dep_pos : ∀ t : Sh, 0 < t.dep := fun t => by cases t <;> simp only [dep] <;> omega
theorem kids_le (t : Sh) : t.kids.length ≤ 3 := by cases t <;> simp [kids]
/-- other parts in the place of its own -/
def build : Sh → List Sh → Sh
  | .fn x _, [b] => .fn x b
  | .call _ _, [f, a] => .call f a
  | .plus _ _, [f, a] => .plus f a
  | .less _ _, [f, a] => .less f a
  | .ite _ _ _, [c, f, a] => .ite c f a
  | .lt x _ _, [e, b] => .lt x e b
  | t, _ => t
end Sh
abbrev Ss := Key → Option Sh
def Ss.none : Ss := fun _ => Option.none
def Ss.one (k : Key) (v : Sh) : Ss := fun j => if j = k then some v else Option.none
def Ss.del (s : Ss) (x : Str) : Ss := fun j => if j = .inr x then Option.none else s j
def Sh.sub (s : Ss) : Sh → Sh
  | .num n => .num n
  | .name k => (s k).getD (.name k)
  | .fn y b => .fn y (b.sub (s.del y))
  | .call f a => .call (f.sub s) (a.sub s)
  | .plus f a => .plus (f.sub s) (a.sub s)
  | .less f a => .less (f.sub s) (a.sub s)
  | .ite c f a => .ite (c.sub s) (f.sub s) (a.sub s)
  | .lt y e b => .lt y (e.sub s) (b.sub (s.del y))
def Sh.pars (s : Ss) : Sh → List (Sh × Ss)
  | .num _ => []
  | .name _ => []
  | .fn y b => [(b, s.del y)]
  | .call f a => [(f, s), (a, s)]
  | .plus f a => [(f, s), (a, s)]
  | .less f a => [(f, s), (a, s)]
  | .ite c f a => [(c, s), (f, s), (a, s)]
  | .lt y e b => [(e, s), (b, s.del y)]
theorem Ss.none_del (x : Str) : Ss.none.del x = Ss.none := by
  funext y
  unfold Ss.del Ss.none
  split <;> rfl
theorem Ss.del_id {s : Ss} {x : Str} (h : s (.inr x) = Option.none) : s.del x = s := by
  funext y
  unfold Ss.del
  split
  · rename_i e; rw [e, h]
  · rfl
theorem Sh.sub_none : ∀ t : Sh, t.sub Ss.none = t
  | .num _ => rfl
  | .name _ => rfl
  | .fn y b => by simp only [Sh.sub]; rw [Ss.none_del, Sh.sub_none b]
  | .call f a => by simp only [Sh.sub]; rw [Sh.sub_none f, Sh.sub_none a]
  | .plus f a => by simp only [Sh.sub]; rw [Sh.sub_none f, Sh.sub_none a]
  | .less f a => by simp only [Sh.sub]; rw [Sh.sub_none f, Sh.sub_none a]
  | .ite c f a => by simp only [Sh.sub]; rw [Sh.sub_none c, Sh.sub_none f, Sh.sub_none a]
  | .lt y e b => by simp only [Sh.sub]; rw [Ss.none_del, Sh.sub_none e, Sh.sub_none b]
theorem Sh.pars_len (s : Ss) (t : Sh) : (t.pars s).length = t.kids.length := by cases t <;> rfl
theorem Sh.pars_fst (s : Ss) (t : Sh) : (t.pars s).map (·.1) = t.kids := by cases t <;> rfl
theorem Sh.sub_pars {s : Ss} {t : Sh} (hn : t.word ≠ "name") : t.sub s = t.build ((t.pars s).map fun p => p.1.sub p.2) := by
  cases t <;> first | rfl | exact absurd rfl hn
theorem Sh.dep_kid {t u : Sh} (h : u ∈ t.kids) : u.dep + 1 ≤ t.dep := by
  cases t <;> simp only [Sh.kids, List.mem_cons, List.not_mem_nil, or_false] at h
  all_goals (try exact h.elim)
  all_goals simp only [Sh.dep]
  · subst h; omega
  · rcases h with rfl | rfl <;> omega
  · rcases h with rfl | rfl <;> omega
  · rcases h with rfl | rfl <;> omega
  · rcases h with rfl | rfl | rfl <;> omega
  · rcases h with rfl | rfl <;> omega
/-- the tree stands in the heap at v -/
def AtS (H : Hp) : Sh → V → Prop
  | .num n, v => ∃ a, v = .ref a ∧ H a = some (.tup [.str "num", .int n])
  | .name k, v => ∃ a, v = .ref a ∧ H a = some (.tup [.str "name", kV k])
  | .fn x b, v => ∃ a u, v = .ref a ∧ H a = some (.tup [.str "fun", .str x, u]) ∧ AtS H b u
  | .call f g, v => ∃ a u u', v = .ref a ∧ H a = some (.tup [.str "call", u, u']) ∧ AtS H f u ∧ AtS H g u'
  | .plus f g, v => ∃ a u u', v = .ref a ∧ H a = some (.tup [.str "plus", u, u']) ∧ AtS H f u ∧ AtS H g u'
  | .less f g, v => ∃ a u u', v = .ref a ∧ H a = some (.tup [.str "less", u, u']) ∧ AtS H f u ∧ AtS H g u'
  | .ite c f g, v => ∃ a u u' u'', v = .ref a ∧ H a = some (.tup [.str "if", u, u', u'']) ∧ AtS H c u ∧ AtS H f u' ∧ AtS H g u''
  | .lt x f g, v => ∃ a u u', v = .ref a ∧ H a = some (.tup [.str "let", .str x, u, u']) ∧ AtS H f u ∧ AtS H g u'
theorem at_sh {H : Hp} : ∀ {t : Tr} {v : V}, AtS H t.sh v ↔ At H t v
  | .num _, _ => Iff.rfl
  | .name _, _ => Iff.rfl
  | .fn _ b, _ => by simp only [Tr.sh, AtS, At, at_sh (t := b)]
  | .call f g, _ => by simp only [Tr.sh, AtS, At, at_sh (t := f), at_sh (t := g)]
  | .plus f g, _ => by simp only [Tr.sh, AtS, At, at_sh (t := f), at_sh (t := g)]
  | .less f g, _ => by simp only [Tr.sh, AtS, At, at_sh (t := f), at_sh (t := g)]
  | .ite c f g, _ => by simp only [Tr.sh, AtS, At, at_sh (t := c), at_sh (t := f), at_sh (t := g)]
  | .lt _ f g, _ => by simp only [Tr.sh, AtS, At, at_sh (t := f), at_sh (t := g)]
theorem AtS.mono {H H' : Hp} (k : KT H H') : ∀ {t : Sh} {v : V}, AtS H t v → AtS H' t v
  | .num _, _, ⟨a, e, h⟩ => ⟨a, e, k _ _ h⟩
  | .name _, _, ⟨a, e, h⟩ => ⟨a, e, k _ _ h⟩
  | .fn _ _, _, ⟨a, u, e, h, h1⟩ => ⟨a, u, e, k _ _ h, AtS.mono k h1⟩
  | .call _ _, _, ⟨a, u, u', e, h, h1, h2⟩ => ⟨a, u, u', e, k _ _ h, AtS.mono k h1, AtS.mono k h2⟩
  | .plus _ _, _, ⟨a, u, u', e, h, h1, h2⟩ => ⟨a, u, u', e, k _ _ h, AtS.mono k h1, AtS.mono k h2⟩
  | .less _ _, _, ⟨a, u, u', e, h, h1, h2⟩ => ⟨a, u, u', e, k _ _ h, AtS.mono k h1, AtS.mono k h2⟩
  | .ite _ _ _, _, ⟨a, u, u', u'', e, h, h1, h2, h3⟩ => ⟨a, u, u', u'', e, k _ _ h, AtS.mono k h1, AtS.mono k h2, AtS.mono k h3⟩
  | .lt _ _ _, _, ⟨a, u, u', e, h, h1, h2⟩ => ⟨a, u, u', e, k _ _ h, AtS.mono k h1, AtS.mono k h2⟩
theorem AtS.view {H : Hp} {t : Sh} {v : V} (h : AtS H t v) : ∃ a ws, v = .ref a ∧ H a = some (.tup (.str t.word :: t.own ++ ws)) ∧ Paired (AtS H) t.kids ws := by
  cases t with
  | num n => obtain ⟨a, e, h⟩ := h; exact ⟨a, [], e, h, .nil⟩
  | name x => obtain ⟨a, e, h⟩ := h; exact ⟨a, [], e, h, .nil⟩
  | fn x b => obtain ⟨a, u, e, h, h1⟩ := h; exact ⟨a, [u], e, h, .cons h1 .nil⟩
  | call f g => obtain ⟨a, u, u', e, h, h1, h2⟩ := h; exact ⟨a, [u, u'], e, h, .cons h1 (.cons h2 .nil)⟩
  | plus f g => obtain ⟨a, u, u', e, h, h1, h2⟩ := h; exact ⟨a, [u, u'], e, h, .cons h1 (.cons h2 .nil)⟩
  | less f g => obtain ⟨a, u, u', e, h, h1, h2⟩ := h; exact ⟨a, [u, u'], e, h, .cons h1 (.cons h2 .nil)⟩
  | ite c f g => obtain ⟨a, u, u', u'', e, h, h1, h2, h3⟩ := h; exact ⟨a, [u, u', u''], e, h, .cons h1 (.cons h2 (.cons h3 .nil))⟩
  | lt x f g => obtain ⟨a, u, u', e, h, h1, h2⟩ := h; exact ⟨a, [u, u'], e, h, .cons h1 (.cons h2 .nil)⟩
theorem AtS.build {H : Hp} {t : Sh} {ks : List Sh} {a : Addr} {ws : List V} (hl : ks.length = t.kids.length) (h : H a = some (.tup (.str t.word :: t.own ++ ws))) (hw : Paired (AtS H) ks ws) : AtS H (t.build ks) (.ref a) := by
  cases t <;> simp only [Sh.kids, List.length_cons, List.length_nil] at hl
  · cases hw with
    | nil => exact ⟨a, rfl, h⟩
    | cons _ _ => simp at hl
  · cases hw with
    | nil => exact ⟨a, rfl, h⟩
    | cons _ _ => simp at hl
  · cases hw with
    | nil => simp at hl
    | cons h1 t1 =>
      cases t1 with
      | nil => exact ⟨a, _, rfl, h, h1⟩
      | cons _ _ => simp at hl
  all_goals
    cases hw with
    | nil => simp at hl
    | cons h1 t1 =>
      cases t1 with
      | nil => simp at hl
      | cons h2 t2 =>
        cases t2 with
        | nil => first | exact ⟨a, _, _, rfl, h, h1, h2⟩ | simp at hl
        | cons h3 t3 =>
          cases t3 with
          | nil => first | exact ⟨a, _, _, _, rfl, h, h1, h2, h3⟩ | simp at hl
          | cons _ _ => simp at hl
/-! ### what put_all has yet to do -/
structure PIt where
  t : Sh
  s : Ss
  r : Bool
def PIt.wt (i : PIt) : Nat := if i.r then 1 else 2 * i.t.size
def wtP (W : List PIt) : Nat := (W.map PIt.wt).sum
theorem wtP_cons (i : PIt) (W : List PIt) : wtP (i :: W) = i.wt + wtP W := by simp [wtP]
theorem wtP_append (V W : List PIt) : wtP (V ++ W) = wtP V + wtP W := by simp [wtP]
theorem wtP_reverse (W : List PIt) : wtP W.reverse = wtP W := by simp [wtP, List.map_reverse, List.sum_reverse]
/-- W from its top -/
def finP : List PIt → List Sh → List Sh
  | [], D => D
  | ⟨t, s, false⟩ :: W, D => finP W (D ++ [t.sub s])
  | ⟨t, _, true⟩ :: W, D => finP W (D.take (D.length - t.kids.length) ++ [t.build (D.drop (D.length - t.kids.length))])
def okP : List PIt → Nat → Prop
  | [], n => n = 1
  | ⟨_, _, false⟩ :: W, n => okP W (n + 1)
  | ⟨t, _, true⟩ :: W, n => t.kids.length ≤ n ∧ 1 ≤ t.kids.length ∧ okP W (n - t.kids.length + 1)
def dpP (N : Nat) : List PIt → Prop
  | [] => True
  | i :: W => W.length + 4 * i.t.dep ≤ N ∧ dpP N W
theorem dpP.len {N : Nat} {W : List PIt} (h : dpP N W) : W.length ≤ N + 1 := by
  cases W with
  | nil => exact Nat.zero_le _
  | cons i W => have := h.1; rw [List.length_cons]; omega
theorem okP.le : ∀ {W : List PIt} {n : Nat}, okP W n → n ≤ 1 + 2 * W.length
  | [], n, h => by have h : n = 1 := h; omega
  | ⟨t, s, false⟩ :: W, n, h => by
    have := okP.le (W := W) (n := n + 1) h
    rw [List.length_cons]; omega
  | ⟨t, s, true⟩ :: W, n, h => by
    have h3 := okP.le h.2.2
    have := t.kids_le
    have := h.1
    rw [List.length_cons]; omega
def itemsP (ps : List (Sh × Ss)) : List PIt := ps.map fun p => ⟨p.1, p.2, false⟩
theorem itemsP_len (ps : List (Sh × Ss)) : (itemsP ps).length = ps.length := List.length_map _
theorem finP_items : ∀ (ps : List (Sh × Ss)) (W : List PIt) (D : List Sh), finP (itemsP ps ++ W) D = finP W (D ++ ps.map fun p => p.1.sub p.2)
  | [], W, D => by simp [itemsP]
  | p :: ps, W, D => by
    show finP (itemsP ps ++ W) (D ++ [p.1.sub p.2]) = _
    rw [finP_items ps W]
    simp
theorem okP_items : ∀ (ps : List (Sh × Ss)) (W : List PIt) (n : Nat), okP (itemsP ps ++ W) n ↔ okP W (n + ps.length)
  | [], W, n => Iff.rfl
  | p :: ps, W, n => by
    show okP (itemsP ps ++ W) (n + 1) ↔ _
    rw [okP_items ps W, List.length_cons]
    rw [show n + 1 + ps.length = n + (ps.length + 1) by omega]
theorem dpP_items {N : Nat} : ∀ (ps : List (Sh × Ss)) (W : List PIt) (d : Nat), (∀ p ∈ ps, p.1.dep + 1 ≤ d) → W.length + ps.length + 4 * d ≤ N + 4 → dpP N W → dpP N (itemsP ps ++ W)
  | [], W, d, _, _, h => h
  | p :: ps, W, d, hp, hl, h => by
    rw [List.length_cons] at hl
    refine ⟨?_, dpP_items ps W d (fun q hq => hp q (List.mem_cons_of_mem _ hq)) (by omega) h⟩
    have := hp p List.mem_cons_self
    show (itemsP ps ++ W).length + 4 * p.1.dep ≤ N
    rw [List.length_append, itemsP_len]
    omega
theorem wtP_items (s : Ss) (t : Sh) : wtP (itemsP (t.pars s)) + 2 = 2 * t.size := by
  cases t <;> simp [itemsP, Sh.pars, wtP, PIt.wt, Sh.size] <;> omega
theorem finP_ready {t : Sh} {s : Ss} {W : List PIt} {D : List Sh} (hn : t.word ≠ "name") : finP (itemsP (t.pars s) ++ ⟨t, s, true⟩ :: W) D = finP (⟨t, s, false⟩ :: W) D := by
  rw [finP_items]
  have hl : ((t.pars s).map fun p => p.1.sub p.2).length = t.kids.length := by rw [List.length_map, Sh.pars_len]
  show finP W _ = finP W _
  rw [List.length_append, hl, Nat.add_sub_cancel, List.take_left, List.drop_left, ← Sh.sub_pars hn]
theorem okP_ready {t : Sh} {s : Ss} {W : List PIt} {n : Nat} (hk : 1 ≤ t.kids.length) : okP (itemsP (t.pars s) ++ ⟨t, s, true⟩ :: W) n ↔ okP (⟨t, s, false⟩ :: W) n := by
  rw [okP_items, Sh.pars_len]
  show _ ∧ _ ∧ okP W _ ↔ okP W _
  rw [Nat.add_sub_cancel]
  exact ⟨fun h => h.2.2, fun h => ⟨by omega, hk, h⟩⟩
theorem dpP_ready {N : Nat} {t : Sh} {s : Ss} {W : List PIt} (h : dpP N (⟨t, s, false⟩ :: W)) : dpP N (itemsP (t.pars s) ++ ⟨t, s, true⟩ :: W) := by
  refine dpP_items _ _ t.dep (fun p hp => ?_) ?_ ⟨h.1, h.2⟩
  · exact Sh.dep_kid (by rw [← Sh.pars_fst s t]; exact List.mem_map_of_mem hp)
  · have h1 := h.1
    have := t.kids_le
    dsimp only at h1
    rw [List.length_cons, Sh.pars_len]
    omega
/-! ### a dict of trees -/
structure DictS (H : Hp) (d : Addr) (s : Ss) : Prop where
  ex : ∃ kvs : List (Key × V), H d = some (.dK kvs) ∧ kvs.length ≤ 100000 ∧ ∀ k, (valV kvs k = none ∧ s k = none) ∨ ∃ r t, valV kvs k = some r ∧ s k = some t ∧ AtS H t r
/-- tuples and dicts are kept -/
def KD (H H' : Hp) : Prop := (∀ a xs, H a = some (.tup xs) → H' a = some (.tup xs)) ∧ ∀ a kvs, H a = some (.dK kvs) → H' a = some (.dK kvs)
theorem KD.kt {H H' : Hp} (k : KD H H') : KT H H' := k.1
theorem KD.refl (H : Hp) : KD H H := ⟨fun _ _ h => h, fun _ _ h => h⟩
theorem KD.trans {H H1 H2 : Hp} (a : KD H H1) (b : KD H1 H2) : KD H H2 := ⟨fun c o h => b.1 c o (a.1 c o h), fun c o h => b.2 c o (a.2 c o h)⟩
theorem same_kd {H H' : Hp} (e : Same H H') : KD H H' := ⟨fun a _ h => e a _ h, fun a _ h => e a _ h⟩
theorem kd_lst {H : Hp} {l : Addr} {xs : List V} {o : HO} (h : H l = some (.lst xs)) : KD H (upd H l o) :=
  ⟨fun b u q => by rw [upd_ne (ne_of q h (by intro z; cases z))]; exact q, fun b u q => by rw [upd_ne (ne_of q h (by intro z; cases z))]; exact q⟩
theorem DictS.mono {H H' : Hp} (k : KD H H') {d : Addr} {s : Ss} (h : DictS H d s) : DictS H' d s := by
  obtain ⟨kvs, h1, h2, h3⟩ := h.ex
  exact ⟨kvs, k.2 _ _ h1, h2, fun j => (h3 j).imp id fun ⟨r, t, a, b, c⟩ => ⟨r, t, a, b, c.mono k.kt⟩⟩
def AtP (H : Hp) (i : PIt) (v : V) : Prop := ∃ p tv d, v = .ref p ∧ H p = some (.tup [tv, .ref d, .bl i.r]) ∧ AtS H i.t tv ∧ DictS H d i.s
theorem AtP.mono {H H' : Hp} (k : KD H H') {i : PIt} {v : V} : AtP H i v → AtP H' i v := fun ⟨p, tv, d, e, h1, h2, h3⟩ => ⟨p, tv, d, e, k.1 _ _ h1, h2.mono k.kt, h3.mono k⟩
/-! ### a tree of names alone -/
def Sb.ss (s : Sb) : Ss := fun k => match k with
  | .inr x => (s x).map Tr.sh
  | .inl _ => Option.none
theorem Sb.ss_del (s : Sb) (x : Str) : (s.del x).ss = s.ss.del x := by
  funext k
  cases k with
  | inl i => unfold Ss.del; split <;> rfl
  | inr y =>
    show (s.del x y).map Tr.sh = if (Sum.inr y : Key) = Sum.inr x then Option.none else (s y).map Tr.sh
    unfold Sb.del
    by_cases e : y = x
    · subst e; simp
    · rw [if_neg e, if_neg (fun q => e (Sum.inr.inj q))]
theorem Tr.sub_sh : ∀ (t : Tr) (s : Sb), (t.sub s).sh = t.sh.sub s.ss
  | .num _, s => rfl
  | .name x, s => by
    show ((s x).getD (.name x)).sh = ((s x).map Tr.sh).getD (.name (.inr x))
    cases s x <;> rfl
  | .fn x b, s => by simp only [Tr.sub, Tr.sh, Sh.sub]; rw [b.sub_sh, Sb.ss_del]
  | .call f a, s => by simp only [Tr.sub, Tr.sh, Sh.sub]; rw [f.sub_sh, a.sub_sh]
  | .plus f a, s => by simp only [Tr.sub, Tr.sh, Sh.sub]; rw [f.sub_sh, a.sub_sh]
  | .less f a, s => by simp only [Tr.sub, Tr.sh, Sh.sub]; rw [f.sub_sh, a.sub_sh]
  | .ite c f a, s => by simp only [Tr.sub, Tr.sh, Sh.sub]; rw [c.sub_sh, f.sub_sh, a.sub_sh]
  | .lt x e b, s => by simp only [Tr.sub, Tr.sh, Sh.sub]; rw [e.sub_sh, b.sub_sh, Sb.ss_del]
theorem Sb.one_ss (x : Str) (v : Tr) : (Sb.one x v).ss = Ss.one (.inr x) v.sh := by
  funext k
  cases k with
  | inl i => unfold Ss.one; split <;> first | rfl | (rename_i e; cases e)
  | inr y =>
    show (if y = x then some v else Option.none).map Tr.sh = if (Sum.inr y : Key) = Sum.inr x then some v.sh else Option.none
    by_cases e : y = x
    · subst e; simp
    · rw [if_neg e, if_neg (fun q => e (Sum.inr.inj q))]; rfl
theorem Tr.put_sh (t : Tr) (x : Str) (v : Tr) : (t.put x v).sh = t.sh.sub (Ss.one (.inr x) v.sh) := by rw [← Sb.one_ss]; exact t.sub_sh _
theorem Tr.dep_sh : ∀ t : Tr, t.sh.dep = t.dep
  | .num _ => rfl
  | .name _ => rfl
  | .fn _ b => by simp only [Tr.sh, Sh.dep, Tr.dep, b.dep_sh]
  | .call f a => by simp only [Tr.sh, Sh.dep, Tr.dep, f.dep_sh, a.dep_sh]
  | .plus f a => by simp only [Tr.sh, Sh.dep, Tr.dep, f.dep_sh, a.dep_sh]
  | .less f a => by simp only [Tr.sh, Sh.dep, Tr.dep, f.dep_sh, a.dep_sh]
  | .ite c f a => by simp only [Tr.sh, Sh.dep, Tr.dep, c.dep_sh, f.dep_sh, a.dep_sh]
  | .lt _ e b => by simp only [Tr.sh, Sh.dep, Tr.dep, e.dep_sh, b.dep_sh]
end My

namespace My
open PySem L2
/-! ### {k: v for k in d if ..} over a dict that is locked meanwhile -/
theorem lock_dc {td tk tv : TE} {tt : TT} {j : Nat} {vs : List Nat} {σ : L2.St} {H : Hp} {d : Addr} {kvs : List (Key × V)} {Q : VK} (p : Key → Bool) (hd : H d = some (.dK kvs)) (hz : kvs.length < sizeLine)
    (htd : ∀ H' (Q : VK), Q (.ref d) H' → td σ H' Q) (hw : ∀ x, wipe ((wipe σ vs).set j (some x)) vs = wipe σ vs)
    (hk : ∀ (k : Key) (o : Obj) (H' : Hp), Same (upd H d (.frz o (.dK kvs))) H' → (∀ Qt, Qt (p k) H' → tt ((wipe σ vs).set j (some (kV k))) H' Qt) ∧ (∀ Q : VK, Q (kV k) H' → tk ((wipe σ vs).set j (some (kV k))) H' Q) ∧
      ∀ (v : V) (Q : VK), valV kvs k = some v → Q v H' → tv ((wipe σ vs).set j (some (kV k))) H' Q)
    (hq : ∀ D acc H', H D = none → Same H H' → H' D = some (.dK acc) → acc.length ≤ kvs.length → (∀ k, valV acc k = if p k = true then valV kvs k else none) → Q (.ref D) H') :
    tLockE (tDc (iKeys td) (gName j) tt tk tv vs) σ H Q := by
  refine ⟨d, _, hd, trivial, fun od => ?_⟩
  refine htd _ _ ⟨d, od, rfl, .inl ⟨kvs, upd_same, fun D hD => ?_⟩⟩
  have hdD : D ≠ d := fun e => by rw [e, upd_same] at hD; cases hD
  have hD0 : H D = none := by rw [upd_ne hdD] at hD; exact hD
  let In (i : Nat) (k : Key) : Prop := ∃ j v, j < i ∧ kvs[j]? = some (k, v)
  refine ⟨fun i m H' => m = kvs.length - i ∧ i ≤ kvs.length ∧ Same (upd H d (.frz od (.dK kvs))) H' ∧ ∃ acc, H' D = some (.dK acc) ∧ acc.length ≤ i ∧ ∀ k, (p k = true → In i k → valV acc k = valV kvs k) ∧ (¬ (p k = true ∧ In i k) → valV acc k = none),
    ⟨kvs.length, by simp, Nat.zero_le _, same_new hD, [], upd_same, Nat.zero_le _, fun k => ⟨fun _ ⟨j, v, h, _⟩ => absurd h (Nat.not_lt_zero _), fun _ => rfl⟩⟩, ?_⟩
  rintro i m H' ⟨rfl, hi, e, acc, hA, hl, hv⟩
  have hd' := e _ _ (upd_same (H := H) (a := d))
  by_cases hlt : i < kvs.length
  · refine .inr ⟨⟨hd', hlt⟩, fun H'' => Same (upd H d (.frz od (.dK kvs))) H'' ∧ ∃ acc, H'' D = some (.dK acc) ∧ acc.length ≤ i + 1 ∧ ∀ k, (p k = true → In (i + 1) k → valV acc k = valV kvs k) ∧ (¬ (p k = true ∧ In (i + 1) k) → valV acc k = none),
      fun H'' h => ⟨kvs.length - (i + 1), by omega, rfl, hlt, h⟩, ?_⟩
    rintro x H'' ⟨rfl, k, v, hkv, rfl⟩
    refine ⟨hw _, ?_⟩
    obtain ⟨ht, hk1, hv1⟩ := hk k od H'' e
    refine ht _ ?_
    have inS : ∀ k', In (i + 1) k' ↔ In i k' ∨ k' = k := fun k' => by
      constructor
      · rintro ⟨j, u, h1, h2⟩
        by_cases hj : j = i
        · subst hj; rw [hkv] at h2; cases h2; exact .inr rfl
        · exact .inl ⟨j, u, by omega, h2⟩
      · rintro (⟨j, u, h1, h2⟩ | rfl)
        · exact ⟨j, u, by omega, h2⟩
        · exact ⟨i, v, by omega, hkv⟩
    have hs : ∃ u, valV kvs k = some u := by
      cases h : valV kvs k with
      | some u => exact ⟨u, rfl⟩
      | none =>
        have h1 := valV_any k kvs
        rw [h] at h1
        have : (kvs.any fun kv => decide (kv.1 = k)) = true := List.any_eq_true.mpr ⟨(k, v), List.mem_of_getElem? hkv, by simp⟩
        rw [this] at h1
        cases h1
    by_cases hp : p k = true
    · rw [if_pos hp]
      refine hk1 _ ?_
      obtain ⟨u, hu⟩ := hs
      refine hv1 u _ hu ?_
      refine ⟨acc, k, rfl, hA, by omega, ?_, putK acc k u, upd_same, ?_, fun k' => ?_⟩
      · exact same_mut e hD
      · have := length_putK acc k u; omega
      · rw [valV_put]
        by_cases e1 : k' = k
        · subst e1
          exact ⟨fun _ _ => by rw [if_pos rfl, hu], fun h => absurd ⟨hp, (inS k').mpr (.inr rfl)⟩ h⟩
        · rw [if_neg e1]
          exact ⟨fun h1 h2 => (hv k').1 h1 (((inS k').mp h2).resolve_right e1), fun h => (hv k').2 fun h' => h ⟨h'.1, (inS k').mpr (.inl h'.2)⟩⟩
    · rw [if_neg hp]
      refine ⟨e, acc, hA, by omega, fun k' => ⟨fun h1 h2 => (hv k').1 h1 (((inS k').mp h2).resolve_right fun e1 => hp (e1 ▸ h1)), fun h => (hv k').2 fun h' => h ⟨h'.1, (inS k').mpr (.inl h'.2)⟩⟩⟩
  · have hi' : i = kvs.length := by omega
    refine .inl ⟨⟨hd', by omega⟩, hd', hq D acc _ hD0 ?_ ?_ (by omega) fun k => ?_⟩
    · intro b o hb
      by_cases e1 : b = d
      · subst e1; rw [upd_same]; rw [hd] at hb; exact hb
      · rw [upd_ne e1]; exact e b o (by rw [upd_ne e1]; exact hb)
    · rw [upd_ne hdD]; exact hA
    · by_cases hp : p k = true
      · rw [if_pos hp]
        by_cases hin : In i k
        · exact (hv k).1 hp hin
        · rw [(hv k).2 fun h => hin h.2]
          cases h : valV kvs k with
          | none => rfl
          | some u =>
            have h1 := valV_any k kvs
            rw [h] at h1
            obtain ⟨q, hq1, hq2⟩ := List.any_eq_true.mp h1
            obtain ⟨j, hj, e2⟩ := List.mem_iff_getElem.mp hq1
            exact absurd ⟨j, q.2, by omega, by rw [List.getElem?_eq_getElem hj, e2, ← of_decide_eq_true hq2]⟩ hin
      · rw [if_neg hp]
        exact (hv k).2 fun h => hp h.1
/-! ### what putting.py's putting in promises -/
def Sh.wd : Sh → Wd
  | .num _ => .num | .name _ => .name | .fn _ _ => .fn | .call _ _ => .call | .plus _ _ => .plus | .less _ _ => .less | .ite _ _ _ => .ite | .lt _ _ _ => .lt
theorem Sh.wd_str (t : Sh) : t.wd.str = t.word := by cases t <;> rfl
theorem Sh.wd_start (t : Sh) : ((t.own.length : Nat) : Int) + 1 = t.wd.start := by cases t <;> rfl
structure UTxt (K : PySem.W.Frag) (w : World) (mg : Str → Option Value) (aS : Addr) : Prop extends Bt mg where
  STARTS : mg "STARTS" = some (.ref aS)
  starts : ∀ t : Wd, RdK K w aS t.str (.int t.start)
def spPartsS : Sp := fun vs H Q _ => ∃ (t : Sh) (a : Addr) (ws : List V), vs = [.ref a] ∧ H a = some (.tup (.str t.word :: t.own ++ ws)) ∧ ws.length ≤ 3 ∧ ∀ (l : Addr) (H' : Hp), H l = none → Same H H' → H' l = some (.lst ws) → Q (.ref l) H'
theorem parts_s {P : Program} {w : World} {K : PySem.W.Frag} {mg : Str → Option Value} {base : Heap} (D : Df P w K mg base 1 "parts" ["tree"] spParts) : Df P w K mg base 1 "parts" ["tree"] spPartsS :=
  D.imp fun vs H Q E ⟨t, a, ws, h1, h2, h3, h4⟩ => ⟨t.wd, a, t.own, ws, h1, by rw [t.wd_str]; exact h2, t.wd_start, h3, h4⟩
theorem Df.mono {P : Program} {w : World} {K : PySem.W.Frag} {mg : Str → Option Value} {base : Heap} {j k : Nat} {x : Str} {ps : List Str} {sp : Sp} (D : Df P w K mg base j x ps sp) (h : j ≤ k) : Df P w K mg base k x ps sp := by
  obtain ⟨f, fd, F, m, kp, b⟩ := D.ex
  exact ⟨f, fd, F.mono h, m, kp, b⟩
def spPutting : Sp := fun vs H Q _ => ∃ (t : Sh) (s : Ss) (u : V) (d : Addr), vs = [u, .ref d] ∧ AtS H t u ∧ DictS H d s ∧
  ∀ (l : Addr) (rs : List V) (H' : Hp), H l = none → Same H H' → H' l = some (.lst rs) → Paired (AtP H') (itemsP (t.pars s)) rs → Q (.ref l) H'
def spPutAll : Sp := fun vs H Q _ => ∃ (t : Sh) (s : Ss) (u : V) (d : Addr), vs = [u, .ref d] ∧ AtS H t u ∧ DictS H d s ∧ t.dep ≤ 1000000 ∧ ∀ r H', Same H H' → AtS H' (t.sub s) r → Q r H'
def spPutS : Sp := fun vs H Q _ => ∃ (t v : Sh) (k : Key) (u y : V), vs = [u, kV k, y] ∧ AtS H t u ∧ AtS H v y ∧ t.dep ≤ 1000000 ∧ ∀ r H', Same H H' → AtS H' (t.sub (Ss.one k v)) r → Q r H'
theorem put_t {P : Program} {w : World} {K : PySem.W.Frag} {mg : Str → Option Value} {base : Heap} {j : Nat} (D : Df P w K mg base j "put" ["tree", "name", "value"] spPutS) : Df P w K mg base j "put" ["tree", "name", "value"] spPut :=
  D.imp fun vs H Q E ⟨t, v, x, u, y, h1, h2, h3, _, h4, _, q⟩ => ⟨t.sh, v.sh, .inr x, u, y, h1, at_sh.mpr h2, at_sh.mpr h3, by rw [t.dep_sh]; omega, fun r H' e h => q r H' e (at_sh.mp (by rw [t.put_sh]; exact h))⟩
theorem DictS.one {H : Hp} {d : Addr} {k : Key} {v : Sh} {y : V} (h : H d = some (.dK [(k, y)])) (hv : AtS H v y) : DictS H d (Ss.one k v) := ⟨_, h, by simp, fun j => by
  unfold Ss.one
  by_cases e : j = k
  · subst e; exact .inr ⟨y, v, valV_pos rfl, if_pos rfl, hv⟩
  · exact .inl ⟨valV_neg fun z => e z.symm, if_neg e⟩⟩
end My
namespace My
open PySem L2
def AtK (d : Addr) (H : Hp) (k : Sh) (v : V) : Prop := ∃ p tv, v = .ref p ∧ H p = some (.tup [tv, .ref d, .bl false]) ∧ AtS H k tv
theorem AtK.mono {H H' : Hp} (k : KT H H') {d : Addr} {t : Sh} {v : V} : AtK d H t v → AtK d H' t v := fun ⟨p, tv, e, h1, h2⟩ => ⟨p, tv, e, k _ _ h1, h2.mono k⟩
theorem AtK.items {H : Hp} {d : Addr} {s : Ss} (hs : DictS H d s) : ∀ {ts : List Sh} {vs : List V}, Paired (AtK d H) ts vs → Paired (AtP H) (itemsP (ts.map fun k => (k, s))) vs
  | _, _, .nil => .nil
  | _, _, .cons ⟨p, tv, e, h1, h2⟩ t => .cons ⟨p, tv, d, e, h1, h2, hs⟩ (AtK.items hs t)
/-- nothing is bound again: all parts as the whole -/
theorem Sh.pars_same {s : Ss} {t : Sh} (h : ∀ x, (t.word = "fun" ∨ t.word = "let") → t.own = [.str x] → s (.inr x) = none) : t.pars s = t.kids.map fun k => (k, s) := by
  cases t with
  | fn x b => simp only [Sh.pars, Sh.kids, List.map_cons, List.map_nil]; rw [Ss.del_id (h x (.inl rfl) rfl)]
  | lt x e b => simp only [Sh.pars, Sh.kids, List.map_cons, List.map_nil]; rw [Ss.del_id (h x (.inr rfl) rfl)]
  | _ => rfl
/-- the last one with another dict -/
theorem Sh.pars_last {s : Ss} {t : Sh} {x : Str} (hw : t.word = "fun" ∨ t.word = "let") (ho : t.own = [.str x]) : ∃ us b, t.kids = us ++ [b] ∧ t.pars s = (us.map fun k => (k, s)) ++ [(b, s.del x)] := by
  cases t with
  | fn y b => cases ho; exact ⟨[], b, rfl, rfl⟩
  | lt y e b => cases ho; exact ⟨[e], b, rfl, rfl⟩
  | num n => (simp only [Sh.word] at hw; exact absurd hw (by decide +kernel))
  | name k => (simp only [Sh.word] at hw; exact absurd hw (by decide +kernel))
  | call _ _ => (simp only [Sh.word] at hw; exact absurd hw (by decide +kernel))
  | plus _ _ => (simp only [Sh.word] at hw; exact absurd hw (by decide +kernel))
  | less _ _ => (simp only [Sh.word] at hw; exact absurd hw (by decide +kernel))
  | ite _ _ _ => (simp only [Sh.word] at hw; exact absurd hw (by decide +kernel))
theorem DictS.look {H : Hp} {d : Addr} {s : Ss} (h : DictS H d s) : ∃ kvs : List (Key × V), H d = some (.dK kvs) ∧ kvs.length ≤ 100000 ∧ ∀ k, (valV kvs k = none ∧ s k = none) ∨ ∃ r t, valV kvs k = some r ∧ s k = some t ∧ AtS H t r := h.ex
theorem Sh.bind_own {t : Sh} (h : t.word = "fun" ∨ t.word = "let") : ∃ x, t.own = [.str x] := by
  cases t with
  | fn y b => exact ⟨y, rfl⟩
  | lt y e b => exact ⟨y, rfl⟩
  | num n => (simp only [Sh.word] at h; exact absurd h (by decide +kernel))
  | name k => (simp only [Sh.word] at h; exact absurd h (by decide +kernel))
  | call _ _ => (simp only [Sh.word] at h; exact absurd h (by decide +kernel))
  | plus _ _ => (simp only [Sh.word] at h; exact absurd h (by decide +kernel))
  | less _ _ => (simp only [Sh.word] at h; exact absurd h (by decide +kernel))
  | ite _ _ _ => (simp only [Sh.word] at h; exact absurd h (by decide +kernel))
end My
namespace My
open PySem L2
theorem pr_take {α β : Type} {R : α → β → Prop} : ∀ {xs : List α} {ys : List β} (_ : Paired R xs ys) (n : Nat), Paired R (xs.take n) (ys.take n)
  | _, _, _, 0 => .nil
  | _, _, .nil, _ + 1 => .nil
  | _, _, .cons r t, n + 1 => .cons r (pr_take t n)
theorem pr_drop {α β : Type} {R : α → β → Prop} : ∀ {xs : List α} {ys : List β} (_ : Paired R xs ys) (n : Nat), Paired R (xs.drop n) (ys.drop n)
  | _, _, h, 0 => h
  | _, _, .nil, _ + 1 => .nil
  | _, _, .cons _ t, n + 1 => pr_drop t n
/-- xs[-k:] -/
theorem cut_tail {xs : List V} {k : Nat} (h : k ≤ xs.length) (h1 : 1 ≤ k) : cutV xs (some (-(k : Int))) none = xs.drop (xs.length - k) := by
  have e : HT.sIx xs.length 0 (some (-(k : Int))) = xs.length - k := by
    show (if -(k : Int) < 0 then (-(k : Int) + (xs.length : Int)).toNat else min (-(k : Int)).toNat xs.length) = _
    rw [if_pos (by omega)]
    omega
  unfold cutV
  rw [e, HT.sIx_none]
  exact List.take_of_length_le (by rw [List.length_drop]; exact Nat.le_refl _)
end My
namespace My
open PySem L2
theorem pr_rev {α β : Type} {R : α → β → Prop} {xs : List α} {ys : List β} (h : Paired R xs ys) : Paired R xs.reverse ys.reverse := by
  induction h with
  | nil => exact .nil
  | cons r t ih =>
    rw [List.reverse_cons, List.reverse_cons]
    exact pr_append ih (.cons r .nil)
end My
namespace My
theorem wtP_r {us : List PIt} {t : Sh} {s : Ss} : wtP (us ++ [⟨t, s, true⟩]) = wtP us + 1 := by rw [wtP_append]; rfl
theorem wtP_f {us : List PIt} {t : Sh} {s : Ss} : wtP (us ++ [⟨t, s, false⟩]) = wtP us + 2 * t.size := by rw [wtP_append]; rfl
end My

namespace My
open PySem L2
/-! ### trees within a tree -/
inductive Tr.In (t0 : Tr) : Tr → Prop where
  | here : Tr.In t0 t0
  | kid {t u : Tr} : Tr.In t0 t → u ∈ t.kids → Tr.In t0 u
theorem Tr.kid_size {t u : Tr} (h : u ∈ t.kids) : u.size < t.size := by
  cases t <;> simp only [Tr.kids, List.mem_cons, List.not_mem_nil, or_false] at h <;> (try exact h.elim) <;> simp only [Tr.size]
  · subst h; omega
  · rcases h with rfl | rfl <;> omega
  · rcases h with rfl | rfl <;> omega
  · rcases h with rfl | rfl <;> omega
  · rcases h with rfl | rfl | rfl <;> omega
  · rcases h with rfl | rfl <;> omega
theorem Tr.In.size {t0 t : Tr} (h : t0.In t) : t.size ≤ t0.size := by
  induction h with
  | here => exact Nat.le_refl _
  | kid _ hk ih => have := Tr.kid_size hk; omega
mutual
def Val.all (p : Tr → Prop) : Val → Prop
  | .num _ => True
  | .fn x b e => p (.fn x b) ∧ e.all p
def Env.all (p : Tr → Prop) : Env → Prop
  | .nil => True
  | .cons _ v e => v.all p ∧ e.all p
end
theorem Env.all_look {p : Tr → Prop} : ∀ {e : Env} {x : Str} {v : Val}, e.all p → e.look x = some v → v.all p
  | .nil, x, v, _, h => by cases h
  | .cons y u e, x, v, ha, h => by
    have h : (if x = y then some u else e.look x) = some v := h
    split at h
    · cases h; exact ha.1
    · exact Env.all_look ha.2 h
theorem Env.all_keep {p : Tr → Prop} {e : Env} (ha : e.all p) : ∀ ns : List Str, (e.keep ns).all p
  | [] => trivial
  | y :: r => by
    show (match e.look y with | some v => Env.cons y v (e.keep r) | none => e.keep r).all p
    cases h : e.look y with
    | none => exact Env.all_keep ha r
    | some v => exact ⟨Env.all_look ha h, Env.all_keep ha r⟩
/-! ### the machine, turn by turn -/
structure MI where
  t : Tr
  e : Env
  r : Bool
def Tr.two : Tr → Bool
  | .plus _ _ => true | .less _ _ => true | .call _ _ => true | _ => false
def Tr.one : Tr → Bool
  | .ite _ _ _ => true | .lt _ _ _ => true | _ => false
inductive Do where
  | err (c : Er) | val (v : Val) | look (e : Env) (b : Tr)
/-- the deed of a node, its parts' values told -/
def do2 : Tr → Val → Val → Do
  | .plus _ _, .num a, .num b => .val (.num (a + b))
  | .less _ _, .num a, .num b => .val (.num (a - b))
  | .call _ _, .fn x t e, w => .look (.cons x w e) t
  | .call _ _, .num _, _ => .err .function
  | _, _, _ => .err .number
def do1 (t : Tr) (e : Env) (w : Val) : Do := match t, w with
  | .ite _ a b, .num n => .look e (if n = 0 then b else a)
  | .lt x _ b, w => .look (.cons x w e) b
  | _, _ => .err .number
/-- what comes of all that waits (W from its top) -/
def finM : List MI → List Val → Nat → List Val → Rv
  | [], F, m, L => match F with
    | [v] => .ok v m L
    | _ => .dry
  | ⟨t, e, false⟩ :: W, F, m, L => (evF m e t).bind fun v m1 l => finM W (F ++ [v]) m1 (L ++ l)
  | ⟨t, e, true⟩ :: W, F, m, L => deed m fun m1 =>
    if t.two then match F.dropLast.getLast?, F.getLast? with
      | some v, some w => match do2 t v w with
        | .err c => .err c
        | .val u => finM W (F.dropLast.dropLast ++ [u]) m1 L
        | .look e' b => (evF m1 e' b).bind fun u m2 l => finM W (F.dropLast.dropLast ++ [u]) m2 (L ++ l)
      | _, _ => .dry
    else match F.getLast? with
      | some w => match do1 t e w with
        | .err c => .err c
        | .val u => finM W (F.dropLast ++ [u]) m1 L
        | .look e' b => (evF m1 e' b).bind fun u m2 l => finM W (F.dropLast ++ [u]) m2 (L ++ l)
      | _ => .dry
def needM : List MI → Nat → Prop
  | [], n => n = 1
  | ⟨_, _, false⟩ :: W, n => needM W (n + 1)
  | ⟨t, _, true⟩ :: W, n => (t.two = true ∧ 2 ≤ n ∧ needM W (n - 1)) ∨ (t.one = true ∧ 1 ≤ n ∧ needM W n)
def wM (i : MI) : Nat := if i.r then 1 else 3 * i.t.size
def wtM (W : List MI) : Nat := (W.map wM).sum
theorem wtM_cons (i : MI) (W : List MI) : wtM (i :: W) = wM i + wtM W := by simp [wtM]
theorem wM_pos (i : MI) : 1 ≤ wM i := by
  unfold wM
  split
  · exact Nat.le_refl _
  · have := i.t.size_pos; omega
theorem len_wtM : ∀ W : List MI, W.length ≤ wtM W
  | [] => Nat.zero_le _
  | i :: W => by
    have := wM_pos i
    have := len_wtM W
    rw [wtM_cons, List.length_cons]; omega
theorem finM_two {t : Tr} {e : Env} {W : List MI} {F : List Val} {v w : Val} {m : Nat} {L : List Val} (h : t.two = true) : finM (⟨t, e, true⟩ :: W) (F ++ [v] ++ [w]) (m + 1) L = match do2 t v w with
    | .err c => .err c
    | .val u => finM W (F ++ [u]) m L
    | .look e' b => finM (⟨b, e', false⟩ :: W) F m L := by
  show (if t.two = true then _ else _) = _
  rw [if_pos h]
  simp only [List.dropLast_concat, List.getLast?_concat]
  cases do2 t v w <;> rfl
theorem finM_one {t : Tr} {e : Env} {W : List MI} {F : List Val} {w : Val} {m : Nat} {L : List Val} (h : t.two = false) : finM (⟨t, e, true⟩ :: W) (F ++ [w]) (m + 1) L = match do1 t e w with
    | .err c => .err c
    | .val u => finM W (F ++ [u]) m L
    | .look e' b => finM (⟨b, e', false⟩ :: W) F m L := by
  show (if t.two = true then _ else _) = _
  rw [if_neg (by rw [h]; exact Bool.false_ne_true)]
  simp only [List.dropLast_concat, List.getLast?_concat]
  cases do1 t e w <;> rfl
theorem finM_dry {t : Tr} {e : Env} {W : List MI} {F L : List Val} : finM (⟨t, e, true⟩ :: W) F 0 L = .dry := rfl
theorem bind_bind (r : Rv) (k : Val → Nat → List Val → Rv) (j : Val → Nat → List Val → Rv) : (r.bind k).bind j = r.bind fun v m l => (k v m l).bind j := by cases r <;> rfl
theorem log_bind (r : Rv) (l : List Val) (j : Val → Nat → List Val → Rv) : (r.log l).bind j = r.bind fun v m l' => j v m (l ++ l') := by cases r <;> rfl
theorem deed_bind (m : Nat) (k : Nat → Rv) (j : Val → Nat → List Val → Rv) : (deed m k).bind j = deed m fun m1 => (k m1).bind j := by cases m <;> rfl
theorem finM_look2 {t a b : Tr} {e : Env} {W : List MI} {F : List Val} {m : Nat} {L : List Val} (h : t = .plus a b ∨ t = .less a b ∨ t = .call a b) :
    finM (⟨t, e, false⟩ :: W) F m L = finM (⟨a, e, false⟩ :: ⟨b, e, false⟩ :: ⟨t, e, true⟩ :: W) F m L := by
  have h2 : t.two = true := by rcases h with rfl | rfl | rfl <;> rfl
  have key : ∀ (k : Val → Val → Nat → List Val → Rv), (∀ v w m3 l, (k v w m3 l).bind (fun u m' l' => finM W (F ++ [u]) m' (L ++ l')) = match do2 t v w with
      | .err c => .err c
      | .val u => finM W (F ++ [u]) m3 (L ++ l)
      | .look e' b => finM (⟨b, e', false⟩ :: W) F m3 (L ++ l)) → evF m e t = ((evF m e a).bind fun v m1 l1 => (evF m1 e b).bind fun w m2 l2 => deed m2 fun m3 => k v w m3 (l1 ++ l2)) →
      finM (⟨t, e, false⟩ :: W) F m L = finM (⟨a, e, false⟩ :: ⟨b, e, false⟩ :: ⟨t, e, true⟩ :: W) F m L := by
    intro k hk he
    show (evF m e t).bind _ = (evF m e a).bind fun v m1 l => (evF m1 e b).bind fun w m2 l2 => finM (⟨t, e, true⟩ :: W) (F ++ [v] ++ [w]) m2 (L ++ l ++ l2)
    rw [he, bind_bind]
    congr 1
    funext v m1 l1
    rw [bind_bind]
    congr 1
    funext w m2 l2
    rw [deed_bind]
    cases m2 with
    | zero => rfl
    | succ m3 =>
      rw [finM_two h2]
      show (k v w m3 (l1 ++ l2)).bind _ = _
      rw [hk, List.append_assoc]
  rcases h with rfl | rfl | rfl
  · refine key (fun v w m l => arith (· + ·) v w m l) (fun v w m3 l => ?_) ev_plus
    cases v <;> cases w <;> rfl
  · refine key (fun v w m l => arith (· - ·) v w m l) (fun v w m3 l => ?_) ev_less
    cases v <;> cases w <;> rfl
  · refine key (fun v w m l => match v with | .fn x t e' => (evF m (.cons x w e') t).log l | .num _ => .err .function) (fun v w m3 l => ?_) ev_call
    cases v with
    | num n => rfl
    | fn x t e' =>
      show ((evF m3 (.cons x w e') t).log l).bind _ = _
      rw [log_bind]
      show _ = (evF m3 (.cons x w e') t).bind _
      congr 1
      funext u m4 l4
      rw [List.append_assoc]
theorem finM_ite {c a b : Tr} {e : Env} {W : List MI} {F : List Val} {m : Nat} {L : List Val} : finM (⟨.ite c a b, e, false⟩ :: W) F m L = finM (⟨c, e, false⟩ :: ⟨.ite c a b, e, true⟩ :: W) F m L := by
  show (evF m e (.ite c a b)).bind _ = (evF m e c).bind fun v m1 l => finM (⟨.ite c a b, e, true⟩ :: W) (F ++ [v]) m1 (L ++ l)
  rw [show evF m e (.ite c a b) = _ from ev_ite, bind_bind]
  congr 1
  funext v m1 l1
  rw [deed_bind]
  cases m1 with
  | zero => rfl
  | succ m3 =>
    rw [finM_one rfl]
    show Rv.bind (match v with | .num n => (evF m3 e (if n = 0 then b else a)).log l1 | .fn _ _ _ => .err .number) _ = _
    cases v with
    | fn _ _ _ => rfl
    | num n =>
      show ((evF m3 e (if n = 0 then b else a)).log l1).bind _ = (evF m3 e (if n = 0 then b else a)).bind _
      rw [log_bind]
      congr 1
      funext u m4 l4
      rw [List.append_assoc]
theorem finM_lt {x : Str} {a b : Tr} {e : Env} {W : List MI} {F : List Val} {m : Nat} {L : List Val} : finM (⟨.lt x a b, e, false⟩ :: W) F m L = finM (⟨a, e, false⟩ :: ⟨.lt x a b, e, true⟩ :: W) F m L := by
  show (evF m e (.lt x a b)).bind _ = (evF m e a).bind fun v m1 l => finM (⟨.lt x a b, e, true⟩ :: W) (F ++ [v]) m1 (L ++ l)
  rw [show evF m e (.lt x a b) = _ from ev_lt, bind_bind]
  congr 1
  funext v m1 l1
  rw [deed_bind]
  cases m1 with
  | zero => rfl
  | succ m3 =>
    rw [finM_one rfl]
    show ((evF m3 (.cons x v e) b).log l1).bind _ = (match do1 (.lt x a b) e v with
      | .err c => .err c
      | .val u => finM W (F ++ [u]) m3 (L ++ l1)
      | .look e' b => finM (⟨b, e', false⟩ :: W) F m3 (L ++ l1))
    rw [log_bind, show do1 (.lt x a b) e v = .look (.cons x v e) b from by cases v <;> rfl]
    show _ = (evF m3 (.cons x v e) b).bind _
    congr 1
    funext u m4 l4
    rw [List.append_assoc]
end My

namespace My
open PySem L2
def Tr.comp (t : Tr) : Bool := t.two || t.one
structure ItOk (t0 : Tr) (i : MI) : Prop where
  t_in : t0.In i.t
  ok : i.e.ok
  cov : i.e.Cov i.t
  all : i.e.all t0.In
structure VOk (t0 : Tr) (v : Val) : Prop where
  ok : v.ok
  all : v.all t0.In
structure MInv (t0 : Tr) (most : Nat) (R : Rv) (W : List MI) (F : List Val) (m : Nat) (L : List Val) : Prop where
  items : ∀ i ∈ W, ItOk t0 i
  found : ∀ v ∈ F, VOk t0 v
  log : ∀ v ∈ L, VOk t0 v
  need : needM W F.length
  fin : finM W F m L = R
  le : m ≤ most
  wt : wtM W + F.length + L.length ≤ 1200 * (most - m + 1)
  small : t0.size ≤ 400
section
variable {t0 : Tr} {most m : Nat} {R : Rv} {W : List MI} {F L : List Val} {e : Env} {t : Tr}
theorem MInv.start (hc : t0.closed) (hs : t0.size ≤ 400) : MInv t0 most (evF most .nil t0) [⟨t0, .nil, false⟩] [] most [] := by
  refine ⟨fun i hi => ?_, (fun v hv => by cases hv), (fun v hv => by cases hv), rfl, ?_, Nat.le_refl _, ?_, hs⟩
  · rw [List.mem_singleton.mp hi]
    exact ⟨.here, trivial, fun y hy => absurd hy (hc y), trivial⟩
  · show (evF most .nil t0).bind (fun v m' l => Rv.ok v m' ([] ++ l)) = _
    cases evF most .nil t0 <;> rfl
  · show 3 * t0.size + 0 + 0 + 0 ≤ _
    omega
theorem MInv.item (h : MInv t0 most R (⟨t, e, false⟩ :: W) F m L) : ItOk t0 ⟨t, e, false⟩ := h.items _ List.mem_cons_self
/-- a value is found -/
theorem MInv.value (h : MInv t0 most R (⟨t, e, false⟩ :: W) F m L) {v : Val} {l : List Val} (hv : VOk t0 v) (hl : ∀ u ∈ l, VOk t0 u) (he : evF m e t = .ok v m l) (hz : 1 + l.length ≤ 3 * t.size) : MInv t0 most R W (F ++ [v]) m (L ++ l) := by
  refine ⟨fun i hi => h.items i (List.mem_cons_of_mem _ hi), fun u hu => ?_, fun u hu => ?_, ?_, ?_, h.le, ?_, h.small⟩
  · rcases List.mem_append.mp hu with hu | hu
    · exact h.found u hu
    · rw [List.mem_singleton.mp hu]; exact hv
  · rcases List.mem_append.mp hu with hu | hu
    · exact h.log u hu
    · exact hl u hu
  · rw [List.length_append, List.length_singleton]; exact h.need
  · rw [← h.fin]
    show _ = (evF m e t).bind _
    rw [he]
    rfl
  · have := h.wt
    rw [wtM_cons] at this
    have : wM ⟨t, e, false⟩ = 3 * t.size := rfl
    rw [List.length_append, List.length_append, List.length_singleton]
    omega
theorem MInv.num {n : Int} (h : MInv t0 most R (⟨.num n, e, false⟩ :: W) F m L) : MInv t0 most R W (F ++ [.num n]) m L := by
  have := h.value (v := .num n) (l := []) ⟨trivial, trivial⟩ (fun u hu => by cases hu) ev_num (by simp [Tr.size])
  rwa [List.append_nil] at this
theorem MInv.look {x : Str} {v : Val} (h : MInv t0 most R (⟨.name x, e, false⟩ :: W) F m L) (hv : e.look x = some v) : MInv t0 most R W (F ++ [v]) m L := by
  have := h.value (v := v) (l := []) ⟨Env.ok_look h.item.ok hv, Env.all_look h.item.all hv⟩ (fun u hu => by cases hu) (by rw [show evF m e (.name x) = _ from ev_name, hv]) (by simp [Tr.size])
  rwa [List.append_nil] at this
theorem MInv.there {x : Str} (h : MInv t0 most R (⟨.name x, e, false⟩ :: W) F m L) : ∃ v, e.look x = some v := h.item.cov x rfl
theorem MInv.keep {x : Str} {b : Tr} (h : MInv t0 most R (⟨.fn x b, e, false⟩ :: W) F m L) : MInv t0 most R W (F ++ [.fn x b (e.keep (freeNames (.fn x b)))]) m (L ++ [.fn x b (e.keep (freeNames (.fn x b)))]) := by
  have hok : VOk t0 (.fn x b (e.keep (freeNames (.fn x b)))) := ⟨⟨fun y hy => by
    obtain ⟨v, hv⟩ := h.item.cov y hy
    exact ⟨v, by rw [Env.look_keep, if_pos (fl_mem _ _ hy), hv]⟩, Env.ok_keep h.item.ok _⟩, h.item.t_in, Env.all_keep h.item.all _⟩
  exact h.value hok (fun u hu => by rw [List.mem_singleton.mp hu]; exact hok) ev_fn (by have := b.size_pos; simp only [Tr.size, List.length_singleton]; omega)
theorem kid_ok (h : ItOk t0 ⟨t, e, false⟩) {u : Tr} (hu : u ∈ t.kids) (hf : ∀ x, u.fr x → t.fr x) : ItOk t0 ⟨u, e, false⟩ := ⟨.kid h.t_in hu, h.ok, fun y hy => h.cov y (hf y hy), h.all⟩
theorem MInv.look2 {a b : Tr} (h : MInv t0 most R (⟨t, e, false⟩ :: W) F m L) (ht : t = .plus a b ∨ t = .less a b ∨ t = .call a b) : MInv t0 most R (⟨a, e, false⟩ :: ⟨b, e, false⟩ :: ⟨t, e, true⟩ :: W) F m L := by
  refine ⟨fun i hi => ?_, h.found, h.log, ?_, ?_, h.le, ?_, h.small⟩
  · rcases List.mem_cons.mp hi with rfl | hi
    · rcases ht with rfl | rfl | rfl <;> exact kid_ok h.item (by simp [Tr.kids]) fun x hx => .inl hx
    rcases List.mem_cons.mp hi with rfl | hi
    · rcases ht with rfl | rfl | rfl <;> exact kid_ok h.item (by simp [Tr.kids]) fun x hx => .inr hx
    rcases List.mem_cons.mp hi with rfl | hi
    · exact ⟨h.item.t_in, h.item.ok, h.item.cov, h.item.all⟩
    · exact h.items i (List.mem_cons_of_mem _ hi)
  · have := h.need
    show (t.two = true ∧ 2 ≤ F.length + 1 + 1 ∧ needM W (F.length + 1 + 1 - 1)) ∨ _
    exact .inl ⟨by rcases ht with rfl | rfl | rfl <;> rfl, by omega, this⟩
  · rw [← finM_look2 ht]; exact h.fin
  · have := h.wt
    rw [wtM_cons] at this ⊢
    rw [wtM_cons, wtM_cons]
    have e1 : wM ⟨t, e, false⟩ = 3 * t.size := rfl
    have e2 : wM ⟨a, e, false⟩ = 3 * a.size := rfl
    have e3 : wM ⟨b, e, false⟩ = 3 * b.size := rfl
    have e4 : wM ⟨t, e, true⟩ = 1 := rfl
    have e5 : t.size = 1 + a.size + b.size := by rcases ht with rfl | rfl | rfl <;> rfl
    omega
theorem MInv.look1 {a : Tr} (h : MInv t0 most R (⟨t, e, false⟩ :: W) F m L) (ht : (∃ b c, t = .ite a b c) ∨ ∃ x b, t = .lt x a b) : MInv t0 most R (⟨a, e, false⟩ :: ⟨t, e, true⟩ :: W) F m L := by
  refine ⟨fun i hi => ?_, h.found, h.log, ?_, ?_, h.le, ?_, h.small⟩
  · rcases List.mem_cons.mp hi with rfl | hi
    · rcases ht with ⟨b, c, rfl⟩ | ⟨x, b, rfl⟩ <;> exact kid_ok h.item (by simp [Tr.kids]) fun x hx => .inl hx
    rcases List.mem_cons.mp hi with rfl | hi
    · exact ⟨h.item.t_in, h.item.ok, h.item.cov, h.item.all⟩
    · exact h.items i (List.mem_cons_of_mem _ hi)
  · have := h.need
    refine .inr ⟨?_, by omega, this⟩
    rcases ht with ⟨b, c, rfl⟩ | ⟨x, b, rfl⟩ <;> rfl
  · rw [← h.fin]
    rcases ht with ⟨b, c, rfl⟩ | ⟨x, b, rfl⟩
    · exact finM_ite.symm
    · exact finM_lt.symm
  · have := h.wt
    rw [wtM_cons] at this ⊢
    rw [wtM_cons]
    have e1 : wM ⟨t, e, false⟩ = 3 * t.size := rfl
    have e2 : wM ⟨a, e, false⟩ = 3 * a.size := rfl
    have e4 : wM ⟨t, e, true⟩ = 1 := rfl
    have e5 : 1 + a.size ≤ t.size := by rcases ht with ⟨b, c, rfl⟩ | ⟨x, b, rfl⟩ <;> simp only [Tr.size] <;> omega
    omega
theorem MInv.dry (h : MInv t0 most R (⟨t, e, true⟩ :: W) F 0 L) : R = .dry := by rw [← h.fin]; rfl
/-- two values, or one, wait -/
theorem MInv.split2 (h : MInv t0 most R (⟨t, e, true⟩ :: W) F m L) (ht : t.two = true) : ∃ F' v w, F = F' ++ [v] ++ [w] ∧ needM W (F'.length + 1) := by
  have hn := h.need
  have h1 : t.one = false := by cases t <;> first | rfl | cases ht
  rcases hn with ⟨_, h2, h3⟩ | ⟨h2, _⟩
  · rcases List.eq_nil_or_concat F with e0 | ⟨G, w, e0⟩
    · subst e0; simp at h2
    rw [List.concat_eq_append] at e0
    subst e0
    rcases List.eq_nil_or_concat G with e0 | ⟨G', v, e0⟩
    · subst e0; simp at h2
    rw [List.concat_eq_append] at e0
    subst e0
    refine ⟨G', v, w, rfl, ?_⟩
    simp only [List.length_append, List.length_singleton] at h3
    exact h3
  · rw [h1] at h2; cases h2
theorem MInv.split1 (h : MInv t0 most R (⟨t, e, true⟩ :: W) F m L) (ht : t.one = true) : ∃ F' w, F = F' ++ [w] ∧ needM W (F'.length + 1) := by
  have hn := h.need
  have h1 : t.two = false := by cases t <;> first | rfl | cases ht
  rcases hn with ⟨h2, _⟩ | ⟨_, h2, h3⟩
  · rw [h1] at h2; cases h2
  · rcases List.eq_nil_or_concat F with e0 | ⟨G, w, e0⟩
    · subst e0; simp at h2
    rw [List.concat_eq_append] at e0
    subst e0
    refine ⟨G, w, rfl, ?_⟩
    simp only [List.length_append, List.length_singleton] at h3
    exact h3
/-- a deed that looks at another tree -/
theorem MInv.go {F' G : List Val} {e' : Env} {b : Tr} (h : MInv t0 most R (⟨t, e, true⟩ :: W) (F' ++ G) (m + 1) L) (hi : ItOk t0 ⟨b, e', false⟩) (hn : needM W (F'.length + 1)) (hf : finM (⟨b, e', false⟩ :: W) F' m L = R) : MInv t0 most R (⟨b, e', false⟩ :: W) F' m L := by
  refine ⟨fun i hi' => ?_, fun v hv => h.found v (List.mem_append_left _ hv), h.log, hn, hf, by have := h.le; omega, ?_, h.small⟩
  · rcases List.mem_cons.mp hi' with rfl | hi'
    · exact hi
    · exact h.items i (List.mem_cons_of_mem _ hi')
  · have h1 := h.wt
    have h2 := h.le
    have h3 := hi.t_in.size
    have h4 := h.small
    rw [wtM_cons, List.length_append] at h1
    rw [wtM_cons]
    have e1 : wM ⟨b, e', false⟩ = 3 * b.size := rfl
    dsimp only at h3
    have : most - m + 1 = (most - (m + 1) + 1) + 1 := by omega
    rw [this]
    omega
theorem MInv.put {F' G : List Val} {u : Val} (h : MInv t0 most R (⟨t, e, true⟩ :: W) (F' ++ G) (m + 1) L) (hu : VOk t0 u) (hg : 1 ≤ G.length) (hn : needM W (F'.length + 1)) (hf : finM W (F' ++ [u]) m L = R) : MInv t0 most R W (F' ++ [u]) m L := by
  refine ⟨fun i hi' => h.items i (List.mem_cons_of_mem _ hi'), fun v hv => ?_, h.log, by rw [List.length_append, List.length_singleton]; exact hn, hf, by have := h.le; omega, ?_, h.small⟩
  · rcases List.mem_append.mp hv with hv | hv
    · exact h.found v (List.mem_append_left _ hv)
    · rw [List.mem_singleton.mp hv]; exact hu
  · have h1 := h.wt
    have h2 := h.le
    rw [wtM_cons, List.length_append] at h1
    rw [List.length_append, List.length_singleton]
    omega
theorem MInv.item1 (h : MInv t0 most R (⟨t, e, true⟩ :: W) F m L) : ItOk t0 ⟨t, e, true⟩ := h.items _ List.mem_cons_self
/-- the deeds -/
theorem MInv.plus {a b : Tr} {F' : List Val} {x y : Int} (h : MInv t0 most R (⟨.plus a b, e, true⟩ :: W) (F' ++ [.num x] ++ [.num y]) (m + 1) L) (hn : needM W (F'.length + 1)) : MInv t0 most R W (F' ++ [.num (x + y)]) m L := by
  have hf := h.fin
  rw [finM_two rfl] at hf
  rw [List.append_assoc] at h
  exact h.put ⟨trivial, trivial⟩ (by simp) hn hf
theorem MInv.less {a b : Tr} {F' : List Val} {x y : Int} (h : MInv t0 most R (⟨.less a b, e, true⟩ :: W) (F' ++ [.num x] ++ [.num y]) (m + 1) L) (hn : needM W (F'.length + 1)) : MInv t0 most R W (F' ++ [.num (x - y)]) m L := by
  have hf := h.fin
  rw [finM_two rfl] at hf
  rw [List.append_assoc] at h
  exact h.put ⟨trivial, trivial⟩ (by simp) hn hf
theorem MInv.call {a b : Tr} {F' : List Val} {x : Str} {c : Tr} {e' : Env} {y : Val} (h : MInv t0 most R (⟨.call a b, e, true⟩ :: W) (F' ++ [.fn x c e'] ++ [y]) (m + 1) L) (hn : needM W (F'.length + 1)) : MInv t0 most R (⟨c, .cons x y e', false⟩ :: W) F' m L := by
  have hf := h.fin
  rw [finM_two rfl] at hf
  have h1 := h.found (.fn x c e') (by simp)
  have h2 := h.found y (by simp)
  rw [List.append_assoc] at h
  refine h.go ⟨.kid h1.all.1 (by simp [Tr.kids]), ⟨h2.ok, h1.ok.2⟩, fun z hz => ?_, ⟨h2.all, h1.all.2⟩⟩ hn hf
  by_cases hxz : z = x
  · exact ⟨y, by show (if z = x then some y else _) = _; rw [if_pos hxz]⟩
  · obtain ⟨u, hu⟩ := h1.ok.1 z ⟨fun e => hxz e.symm, hz⟩
    exact ⟨u, by show (if z = x then some y else e'.look z) = _; rw [if_neg hxz]; exact hu⟩
theorem MInv.ite {a b c : Tr} {F' : List Val} {n : Int} (h : MInv t0 most R (⟨.ite c a b, e, true⟩ :: W) (F' ++ [.num n]) (m + 1) L) (hn : needM W (F'.length + 1)) : MInv t0 most R (⟨if n = 0 then b else a, e, false⟩ :: W) F' m L := by
  have hf := h.fin
  rw [finM_one rfl] at hf
  have hi := h.item1
  refine h.go ⟨?_, hi.ok, fun z hz => ?_, hi.all⟩ hn hf
  · by_cases h0 : n = 0
    · rw [if_pos h0]; exact .kid hi.t_in (by simp [Tr.kids])
    · rw [if_neg h0]; exact .kid hi.t_in (by simp [Tr.kids])
  · by_cases h0 : n = 0
    · rw [if_pos h0] at hz; exact hi.cov z (.inr (.inr hz))
    · rw [if_neg h0] at hz; exact hi.cov z (.inr (.inl hz))
theorem MInv.lt {x : Str} {a b : Tr} {F' : List Val} {y : Val} (h : MInv t0 most R (⟨.lt x a b, e, true⟩ :: W) (F' ++ [y]) (m + 1) L) (hn : needM W (F'.length + 1)) : MInv t0 most R (⟨b, .cons x y e, false⟩ :: W) F' m L := by
  have hf := h.fin
  rw [finM_one rfl, show do1 (.lt x a b) e y = .look (.cons x y e) b from by cases y <;> rfl] at hf
  have hi := h.item1
  have h2 := h.found y (by simp)
  refine h.go ⟨.kid hi.t_in (by simp [Tr.kids]), ⟨h2.ok, hi.ok⟩, fun z hz => ?_, ⟨h2.all, hi.all⟩⟩ hn hf
  by_cases hxz : z = x
  · exact ⟨y, by show (if z = x then some y else _) = _; rw [if_pos hxz]⟩
  · obtain ⟨u, hu⟩ := hi.cov z (.inr ⟨fun e => hxz e.symm, hz⟩)
    exact ⟨u, by show (if z = x then some y else e.look z) = _; rw [if_neg hxz]; exact hu⟩
theorem MInv.bad2 {F' : List Val} {v w : Val} {c : Er} (h : MInv t0 most R (⟨t, e, true⟩ :: W) (F' ++ [v] ++ [w]) (m + 1) L) (ht : t.two = true) (hd : do2 t v w = .err c) : R = .err c := by
  rw [← h.fin, finM_two ht, hd]
theorem MInv.bad1 {F' : List Val} {w : Val} {c : Er} (h : MInv t0 most R (⟨t, e, true⟩ :: W) (F' ++ [w]) (m + 1) L) (ht : t.two = false) (hd : do1 t e w = .err c) : R = .err c := by
  rw [← h.fin, finM_one ht, hd]
theorem MInv.done (h : MInv t0 most R [] F m L) : ∃ v, F = [v] ∧ R = .ok v m L ∧ VOk t0 v := by
  have hn : F.length = 1 := h.need
  match F, hn, h with
  | [v], _, h => exact ⟨v, rfl, h.fin.symm, h.found v List.mem_cons_self⟩
end
end My

namespace My
open PySem L2
open PyProof.Rows (envOfC)
/-! ### a def under another name; a method -/
def FunQ (K : PySem.W.Frag) (mg : Str → Option Value) (g x : Str) (st : Stmt) : Prop := ∃ (f : Addr) (fd : FuncData), Fun K x x st f fd ∧ mg g = some (.ref f)
def BindQ (x q : Str) (st : Stmt) (ps : List Str) : Prop := ∀ (kV doc pm : Value) (an : Option Addr) (cdv ct : Value) (us : List Value), us.length = ps.length → bindArgs (PySem.W.fnOf x q (defArgs st) (defBody st) (defScope st) .none kV doc pm an cdv ct) ⟨us, []⟩ = pure (ps.zip us)
structure FunM (K : PySem.W.Frag) (C : Addr) (m q : Str) (st : Stmt) : Prop where
  ex : ∃ (f : Addr) (fd : FuncData), Fun K m q st f fd ∧ Meth K C m f ∧ Cls K C
structure Mt (CX : CXT) (P : Program) (w : World) (K : PySem.W.Frag) (mg : Str → Option Value) (base : Heap) (k : Nat) (C : Addr) (m : Str) (sp : Sp) : Prop where
  ex : ∃ (f : Addr) (fd : FuncData) (ps : List Str), FnOk P w K mg base CX k f fd ps sp ∧ Meth K C m f ∧ Binds K fd ps [] ∧ Cls K C
structure MkD (P : Program) (w : World) (K : PySem.W.Frag) (mg : Str → Option Value) (base : Heap) (k : Nat) (x : Str) (C : Addr) (sp : Sp) : Prop where
  ex : ∃ (f : Addr) (fd : FuncData) (ps : List Str), FnOk P w K mg base CX0 k f fd ps sp ∧ Mk K C f ∧ Binds K fd ps [] ∧ mg x = some (.ref C)
/-- a class's __init__ -/
structure FunI (K : PySem.W.Frag) (mg : Str → Option Value) (x : Str) (C : Addr) (q : Str) (st : Stmt) : Prop where
  ex : ∃ (f : Addr) (fd : FuncData), Fun K "__init__" q st f fd ∧ Mk K C f ∧ mg x = some (.ref C)
section
variable {P : Program} {w : World} {K : PySem.W.Frag} {mg : Str → Option Value} {base : Heap} {N ps : List Str} {k : Nat} {sp : Sp} {st : Stmt} {C : Addr} {x q : Str}
theorem FunQ.df {g : Str} (F : FunQ K mg g x st) (S : FnScope N ps (defScope st)) (hb : BindAll x st ps) (len : ∀ vs H Q E, sp vs H Q E → vs.length = ps.length)
    (hbody : ∀ (f : Addr) (cdv : Value) (A : Around) (outer : List PySem.Env) (s : Shared) (H : Hp) (vs : List V) (Q : VK) (E : XK), Room k (A.deeper (envOfC x (defScope st) s.heap.objs.size f cdv)) → sp vs H Q E →
      ∃ t, PSs (cxOf CX0 P w K mg base N x (defScope st) f cdv A outer s H E).nox (defBody st) t ∧ t { nx := fun _ H' => Q .non H', rt := Q } (start N vs) H) : Df P w K mg base (k + 1) g ps sp := by
  obtain ⟨f, fd, h, m⟩ := F
  exact ⟨f, fd, h.ok S len (hbody f), m, h.kp, h.binds hb⟩
theorem FunQ.dfX {g : Str} (F : FunQ K mg g x st) (S : FnScope N ps (defScope st)) (hb : BindAll x st ps) (len : ∀ vs H Q E, sp vs H Q E → vs.length = ps.length)
    (hbody : ∀ (f : Addr) (cdv : Value) (A : Around) (outer : List PySem.Env) (s : Shared) (H : Hp) (vs : List V) (Q : VK) (E : XK), Room k (A.deeper (envOfC x (defScope st) s.heap.objs.size f cdv)) → sp vs H Q E →
      ∃ t, PSs (cxOf (L2.CX P w) P w K mg base N x (defScope st) f cdv A outer s H E) (defBody st) t ∧ t { nx := fun _ H' => Q .non H', rt := Q } (start N vs) H) : DfX P w K mg base (k + 1) g ps sp := by
  obtain ⟨f, fd, h, m⟩ := F
  exact ⟨f, fd, h.okX S len (hbody f), m, h.kp, h.binds hb⟩
theorem FunM.mt {m : Str} (F : FunM K C m q st) (S : FnScope N ps (defScope st)) (hb : BindQ m q st ps) (len : ∀ vs H Q E, sp vs H Q E → vs.length = ps.length)
    (hbody : ∀ (f : Addr) (cdv : Value) (A : Around) (outer : List PySem.Env) (s : Shared) (H : Hp) (vs : List V) (Q : VK) (E : XK), Room k (A.deeper (envOfC q (defScope st) s.heap.objs.size f cdv)) → sp vs H Q E →
      ∃ t, PSs (cxOf CX0 P w K mg base N q (defScope st) f cdv A outer s H E).nox (defBody st) t ∧ t { nx := fun _ H' => Q .non H', rt := Q } (start N vs) H) : Mt CX0 P w K mg base (k + 1) C m sp := by
  obtain ⟨f, fd, h, me, c⟩ := F.ex
  exact ⟨f, fd, ps, h.ok S len (hbody f), me, h.binds hb, c⟩
theorem FunM.mtX {m : Str} (F : FunM K C m q st) (S : FnScope N ps (defScope st)) (hb : BindQ m q st ps) (len : ∀ vs H Q E, sp vs H Q E → vs.length = ps.length)
    (hbody : ∀ (f : Addr) (cdv : Value) (A : Around) (outer : List PySem.Env) (s : Shared) (H : Hp) (vs : List V) (Q : VK) (E : XK), Room k (A.deeper (envOfC q (defScope st) s.heap.objs.size f cdv)) → sp vs H Q E →
      ∃ t, PSs (cxOf (L2.CX P w) P w K mg base N q (defScope st) f cdv A outer s H E) (defBody st) t ∧ t { nx := fun _ H' => Q .non H', rt := Q } (start N vs) H) : Mt (L2.CX P w) P w K mg base (k + 1) C m sp := by
  obtain ⟨f, fd, h, me, c⟩ := F.ex
  exact ⟨f, fd, ps, h.okX S len (hbody f), me, h.binds hb, c⟩
theorem FunI.mkd (F : FunI K mg x C q st) (S : FnScope N ps (defScope st)) (hb : BindQ "__init__" q st ps) (len : ∀ vs H Q E, sp vs H Q E → vs.length = ps.length)
    (hbody : ∀ (f : Addr) (cdv : Value) (A : Around) (outer : List PySem.Env) (s : Shared) (H : Hp) (vs : List V) (Q : VK) (E : XK), Room k (A.deeper (envOfC q (defScope st) s.heap.objs.size f cdv)) → sp vs H Q E →
      ∃ t, PSs (cxOf CX0 P w K mg base N q (defScope st) f cdv A outer s H E).nox (defBody st) t ∧ t { nx := fun _ H' => Q .non H', rt := Q } (start N vs) H) : MkD P w K mg base (k + 1) x C sp := by
  obtain ⟨f, fd, h, me, c⟩ := F.ex
  exact ⟨f, fd, ps, h.ok S len (hbody f), me, h.binds hb, c⟩
end
/-- called where what it lets out is the caller's own -/
def tCallE (sp : Sp) (E : XK) (t : TA) : TE := fun σ H Q => t σ H fun vs H1 => sp vs H1 Q E
def tMe (C : Addr) (m : Str) (sp : Sp) (E : XK) (ta : TE) (t : TA) : TE := fun σ H Q => ta σ H fun x H1 => ∃ a dx fs, x = .ref a ∧ H1 a = some (.ins C dx fs) ∧ fs.lookup m = none ∧ t σ H1 fun vs H2 => sp (x :: vs) H2 Q E
def tMkD (C : Addr) (sp : Sp) (t : TA) : TE := fun σ H Q => t σ H fun vs H1 => ∀ x dx, H1 x = none → H1 dx = none → dx ≠ x → sp (.ref x :: vs) (upd (upd H1 dx (.own x)) x (.ins C dx [])) (fun v H2 => v = .non ∧ Q (.ref x) H2) E0
section
variable {X : Cx} {CX : CXT} {j k : Nat} {C : Addr} {x m : Str} {ps : List Str} {sp : Sp} {p pos apos : Pos} {e o : Expr} {es : List Expr} {ta : TE} {t : TA} {E : XK}
theorem pe_callXP (D : DfX X.prog X.w X.K X.mg X.base j x ps sp) (hr : Room k X.A) (hj : j ≤ k) (hg : Gl X x) (hx : Passes (L2.CX X.prog X.w) X E) (ha : PA X (e :: es) t) (hdb : (x == ("__debug__" : Str)) = false := by decide)
    (he : starEach (e :: es) X.env = (false, eval e X.env) :: starEach es X.env := by rfl) (hpl : (backTo pos (starEach es X.env)).any (·.1) = false := by rfl) :
    PE X (.Call (.Name x p) (e :: es) [] pos) (tCallE sp E t) := by
  obtain ⟨f, fd, F, m, kp, b⟩ := D.ex
  have h : PE X (.Call (.Name x p) (e :: es) [] pos) (tCall sp [] E t) := pe_call F (hr.mono hj) hg m kp b .nil hx ha hdb he hpl
  refine ⟨fun pins s σ H Q I q => h.run pins s σ H Q I ?_⟩
  unfold tCall
  unfold tCallE at q
  simpa only [List.append_nil] using q
theorem pe_me {pl : Sem Bool} (M : Mt CX X.prog X.w X.K X.mg X.base j C m sp) (hr : Room k X.A) (hj : j ≤ k) (hx : Passes CX X E) (he : PE X o ta) (ha : PA X (e :: es) t)
    (hst : starEach (e :: es) X.env = (false, eval e X.env) :: starEach es X.env := by rfl) (hpl : (backTo pos (starEach es X.env)).any (·.1) = false := by rfl)
    (ht : eval (.Call (.Attribute o m apos) (e :: es) [] pos) X.env = (do
      let ov ← eval o X.env
      standAt apos.atName
      let (f, first) ← holding [ov] (getMethod ov m pl)
      callWith pos f first (backTo pos (starEach (e :: es) X.env)) (backToKw pos (keywordEach [] X.env))) := by rfl) :
    PE X (.Call (.Attribute o m apos) (e :: es) [] pos) (tMe C m sp E ta t) := by
  obtain ⟨f, fd, ps, F, me, b, c⟩ := M.ex
  have h : PE X (.Call (.Attribute o m apos) (e :: es) [] pos) (tMeth C m sp [] E ta t) := pe_meth (pl := pl) he c me F (hr.mono hj) b .nil hx ha hst hpl ht
  refine ⟨fun pins s σ H Q I q => h.run pins s σ H Q I ?_⟩
  unfold tMeth
  unfold tMe at q
  simpa only [List.append_nil] using q
theorem pe_me0 {pl : Sem Bool} (M : Mt CX X.prog X.w X.K X.mg X.base j C m sp) (hr : Room k X.A) (hj : j ≤ k) (hx : Passes CX X E) (he : PE X o ta)
    (ht : eval (.Call (.Attribute o m apos) [] [] pos) X.env = (do
      let ov ← eval o X.env
      standAt apos.atName
      let (f, first) ← holding [ov] (getMethod ov m pl)
      callWith pos f first (backTo pos (starEach [] X.env)) (backToKw pos (keywordEach [] X.env))) := by rfl) :
    PE X (.Call (.Attribute o m apos) [] [] pos) (tMe C m sp E ta tNil) := by
  obtain ⟨f, fd, ps, F, me, b, c⟩ := M.ex
  have h : PE X (.Call (.Attribute o m apos) [] [] pos) (tMeth C m sp [] E ta tNil) := pe_meth0 (pl := pl) he c me F (hr.mono hj) b .nil hx ht
  refine ⟨fun pins s σ H Q I q => h.run pins s σ H Q I ?_⟩
  unfold tMeth
  unfold tMe at q
  simpa only [List.append_nil] using q
theorem pe_mkD (M : MkD X.prog X.w X.K X.mg X.base j x C sp) (hr : Room k X.A) (hj : j + 1 ≤ k) (hg : Gl X x) (ha : PA X (e :: es) t) (hdb : (x == ("__debug__" : Str)) = false := by decide)
    (he : starEach (e :: es) X.env = (false, eval e X.env) :: starEach es X.env := by rfl) (hpl : (backTo pos (starEach es X.env)).any (·.1) = false := by rfl) :
    PE X (.Call (.Name x p) (e :: es) [] pos) (tMkD C sp t) := by
  obtain ⟨f, fd, ps, F, M, b, g⟩ := M.ex
  have h : PE X (.Call (.Name x p) (e :: es) [] pos) (tMake C sp [] E0 t) := pe_make M F (hr.mono hj) hg g b .nil pass0 ha hdb he hpl
  refine ⟨fun pins s σ H Q I q => h.run pins s σ H Q I ?_⟩
  unfold tMake
  unfold tMkD at q
  simpa only [List.append_nil] using q
end
/-! ### a machine's values in the heap -/
/-- the four objects of a machine that change -/
structure MA where
  aM : Addr
  dx : Addr
  lk : Addr
  lf : Addr
  lw : Addr
def MA.has (M : MA) (a : Addr) : Prop := a = M.aM ∨ a = M.lk ∨ a = M.lf ∨ a = M.lw
def keptF (x : Str) (b : V) (ln lh : Addr) : List (Str × V) := [("name", .str x), ("body", b), ("names", .ref ln), ("held", .ref lh)]
mutual
def KVm (cK : Addr) (A : Addr → Prop) (H : Hp) : Val → V → Prop
  | .num n, r => r = .int n
  | .fn x b e, r => ∃ (a dx ln lh : Addr) (tb : V) (ns : List Str) (hs : List V), r = .ref a ∧ ¬ A a ∧ ¬ A ln ∧ ¬ A lh ∧ H a = some (.ins cK dx (keptF x tb ln lh)) ∧ At H b tb ∧ H ln = some (.lst (ns.map V.str)) ∧ H lh = some (.lst hs) ∧
      ns = freeNames (.fn x b) ∧ EnvL cK A H e ns hs
def EnvL (cK : Addr) (A : Addr → Prop) (H : Hp) : Env → List Str → List V → Prop
  | .nil, ns, hs => ns = [] ∧ hs = []
  | .cons y v e, ns, hs => ∃ (ns' : List Str) (h : V) (hs' : List V), ns = y :: ns' ∧ hs = h :: hs' ∧ KVm cK A H v h ∧ EnvL cK A H e ns' hs'
end
/-- all but the four stays -/
structure Kp (A : Addr → Prop) (H H' : Hp) : Prop where
  kd : KD H H'
  kp : ∀ a o, ¬ A a → H a = some o → H' a = some o
theorem Kp.refl (A : Addr → Prop) (H : Hp) : Kp A H H := ⟨KD.refl H, fun _ _ _ h => h⟩
theorem Kp.trans {A : Addr → Prop} {H H1 H2 : Hp} (a : Kp A H H1) (b : Kp A H1 H2) : Kp A H H2 := ⟨a.kd.trans b.kd, fun c o n h => b.kp c o n (a.kp c o n h)⟩
theorem Kp.same {A : Addr → Prop} {H H' : Hp} (e : Same H H') : Kp A H H' := ⟨same_kd e, fun a o _ h => e a o h⟩
theorem Kp.out {A : Addr → Prop} {H0 H H' : Hp} (k : Kp A H H') (e : Same H0 H) (h : ∀ a, A a → H0 a = none) : Same H0 H' := fun a o ho => k.kp a o (fun ha => by rw [h a ha] at ho; cases ho) (e a o ho)
theorem Kp.lst {A : Addr → Prop} {H : Hp} {l : Addr} {xs : List V} {o : HO} (ha : A l) (h : H l = some (.lst xs)) : Kp A H (upd H l o) := ⟨kd_lst h, fun a u n q => by rw [upd_ne (fun e : a = l => n (by rw [e]; exact ha))]; exact q⟩
theorem Kp.ins {A : Addr → Prop} {H : Hp} {l C dx : Addr} {fs : List (Str × V)} {o : HO} (ha : A l) (h : H l = some (.ins C dx fs)) : Kp A H (upd H l o) :=
  ⟨⟨fun b u q => by rw [upd_ne (ne_of q h (by intro z; cases z))]; exact q, fun b u q => by rw [upd_ne (ne_of q h (by intro z; cases z))]; exact q⟩, fun a u n q => by rw [upd_ne (fun e : a = l => n (by rw [e]; exact ha))]; exact q⟩
mutual
theorem KVm.mono {cK : Addr} {A : Addr → Prop} {H H' : Hp} (k : Kp A H H') : ∀ {v : Val} {r : V}, KVm cK A H v r → KVm cK A H' v r
  | .num _, _, h => h
  | .fn _ _ _, _, ⟨a, dx, ln, lh, tb, ns, hs, e, n1, n2, n3, h1, h2, h3, h4, h5, h6⟩ => ⟨a, dx, ln, lh, tb, ns, hs, e, n1, n2, n3, k.kp _ _ n1 h1, h2.mono k.kd.kt, k.kp _ _ n2 h3, k.kp _ _ n3 h4, h5, EnvL.mono k h6⟩
theorem EnvL.mono {cK : Addr} {A : Addr → Prop} {H H' : Hp} (k : Kp A H H') : ∀ {e : Env} {ns : List Str} {hs : List V}, EnvL cK A H e ns hs → EnvL cK A H' e ns hs
  | .nil, _, _, h => h
  | .cons _ _ _, _, _, ⟨ns', h, hs', e1, e2, h1, h2⟩ => ⟨ns', h, hs', e1, e2, KVm.mono k h1, EnvL.mono k h2⟩
end
/-- a dict of values -/
def EnvD (cK : Addr) (A : Addr → Prop) (H : Hp) (n : Nat) (e : Env) (d : Addr) : Prop := ∃ kvs : List (Key × V), H d = some (.dK kvs) ∧ kvs.length ≤ n ∧ ∀ x v, e.look x = some v → ∃ r, valV kvs (.inr x) = some r ∧ KVm cK A H v r
theorem EnvD.mono {cK : Addr} {A : Addr → Prop} {H H' : Hp} (k : Kp A H H') {n n' : Nat} (hn : n ≤ n') {e : Env} {d : Addr} : EnvD cK A H n e d → EnvD cK A H' n' e d := fun ⟨kvs, h1, h2, h3⟩ =>
  ⟨kvs, k.kd.2 _ _ h1, Nat.le_trans h2 hn, fun x v hx => let ⟨r, a, b⟩ := h3 x v hx; ⟨r, a, b.mono k⟩⟩
def ItAt (cK : Addr) (A : Addr → Prop) (H : Hp) (n : Nat) (i : MI) (v : V) : Prop := ∃ p tv d, v = .ref p ∧ H p = some (.tup [tv, .ref d, .bl i.r]) ∧ At H i.t tv ∧ EnvD cK A H n i.e d
theorem ItAt.mono {cK : Addr} {A : Addr → Prop} {H H' : Hp} (k : Kp A H H') {n n' : Nat} (hn : n ≤ n') {i : MI} {v : V} : ItAt cK A H n i v → ItAt cK A H' n' i v := fun ⟨p, tv, d, e, h1, h2, h3⟩ => ⟨p, tv, d, e, k.kd.1 _ _ h1, h2.mono k.kd.kt, h3.mono k hn⟩
def machF (M : MA) (most deeds : Nat) : List (Str × V) := [("most", .int most), ("deeds", .int deeds), ("kepts", .ref M.lk), ("found", .ref M.lf), ("waiting", .ref M.lw)]
/-- the machine in the heap: W, F, L from their bottoms; n bounds the dicts -/
structure MachAt (cM cK : Addr) (M : MA) (H : Hp) (most deeds n : Nat) (W : List MI) (F L : List Val) : Prop where
  ins : H M.aM = some (.ins cM M.dx (machF M most deeds))
  own : H M.dx = some (.own M.aM)
  lkf : M.lk ≠ M.lf
  lkw : M.lk ≠ M.lw
  lfw : M.lf ≠ M.lw
  ks : ∃ vs, H M.lk = some (.lst vs) ∧ Paired (KVm cK M.has H) L vs
  fs : ∃ vs, H M.lf = some (.lst vs) ∧ Paired (KVm cK M.has H) F vs
  ws : ∃ vs, H M.lw = some (.lst vs) ∧ Paired (ItAt cK M.has H n) W vs
end My

namespace My
open PySem L2
/-! ### what the machine's texts need of the top -/
def aheadL : List (Str × List V) := [("name", []), ("call", [.int 1, .int 2]), ("plus", [.int 1, .int 2]), ("less", [.int 1, .int 2]), ("if", [.int 1]), ("let", [.int 2])]
def SqK (K : PySem.W.Frag) (a : Addr) (xs : List V) : Prop := ∃ (o : Obj) (its : Array Value) (n : Nat), K.lookup a = some o ∧ o.cls = .type "tuple" ∧ o.data = .seq its n ∧ its.size ≤ sizeLine ∧ Vals xs its.toList
theorem SqK.at {K : PySem.W.Frag} {a : Addr} {xs : List V} (h : SqK K a xs) (H : Hp) : SqT K H a xs := .inr h
/-- a class of one's own, as isinstance and its attributes ask -/
structure ClsX (K : PySem.W.Frag) (C : Addr) (fs : List Str) : Prop where
  cl : Cls K C
  ha : PySem.W.findIn K (.ref C) "__class__" = some (some (.builtin "object.__class__"))
  hn : PySem.W.specialIn K (.builtin "object.__class__") "__get__" = some (some (.builtin "getset_descriptor.__get__"))
  tk : PySem.W.takesIn K (.builtin "object.__class__") = some true
  hm : PySem.W.mroIn K C (.type "object") = some true
  no : ∀ f ∈ fs, NoAttr K C f
  int : PySem.W.kitOne K (.type "int") (.ref C) = some false
theorem ClsX.ty {K : PySem.W.Frag} {C : Addr} {fs : List Str} (c : ClsX K C fs) {H : Hp} {a dx : Addr} {gs : List (Str × V)} (h : H a = some (.ins C dx gs)) : TyX K H (.ref a) (.ref C) ∧ PySem.W.kitOne K (.ref C) (.ref C) = some true :=
  ⟨.base (.ins h c.cl c.ha c.hn c.tk c.hm), by unfold PySem.W.kitOne; rw [if_pos (beq_self_eq_true _)]⟩
def keptN : List Str := ["name", "body", "names", "held"]
def machN : List Str := ["most", "deeds", "kepts", "found", "waiting"]
structure MTxt (K : PySem.W.Frag) (w : World) (mg : Str → Option Value) (E : Ers) (aA cM cK : Addr) : Prop extends Bt mg where
  AHEAD : mg "AHEAD" = some (.ref aA)
  ahead : ∀ p ∈ aheadL, ∃ a, RdK K w aA p.1 (.ref a) ∧ SqK K a p.2
  MOST_DEEDS : GInt mg "MOST_DEEDS" 1000
  cKept : mg "Kept" = some (.ref cK)
  K_ : ClsX K cK keptN
  M_ : ClsX K cM machN
  NotClosed : ErrC K mg "NotClosed" E.closed
  BadMost : ErrC K mg "BadMost" E.most
  NoNumber : ErrC K mg "NoNumber" E.number
  NoFunction : ErrC K mg "NoFunction" E.function
  Dry : ErrC K mg "Dry" E.dry
/-! ### the fields -/
theorem machF_most (M : MA) (a b : Nat) : (machF M a b).lookup ("most" : Str) = some (.int a) := rfl
theorem machF_deeds (M : MA) (a b : Nat) : (machF M a b).lookup ("deeds" : Str) = some (.int b) := rfl
theorem machF_kepts (M : MA) (a b : Nat) : (machF M a b).lookup ("kepts" : Str) = some (.ref M.lk) := rfl
theorem machF_found (M : MA) (a b : Nat) : (machF M a b).lookup ("found" : Str) = some (.ref M.lf) := rfl
theorem machF_waiting (M : MA) (a b : Nat) : (machF M a b).lookup ("waiting" : Str) = some (.ref M.lw) := rfl
theorem machF_put (M : MA) (a b c : Nat) : putF ("deeds" : Str) (.int c) (machF M a b) = machF M a c := rfl
theorem machF_no {M : MA} {a b : Nat} {m : Str} (h : machN.contains m = false) : (machF M a b).lookup m = none := by
  have key : ∀ (fs : List (Str × V)), (fs.map (·.1)).contains m = false → fs.lookup m = none := by
    intro fs
    induction fs with
    | nil => intro _; rfl
    | cons p r ih =>
      intro h
      rw [List.map_cons, List.contains_cons, Bool.or_eq_false_iff] at h
      rw [List.lookup_cons, h.1]
      exact ih h.2
  exact key _ h
theorem keptF_name (x : Str) (b : V) (ln lh : Addr) : (keptF x b ln lh).lookup ("name" : Str) = some (.str x) := rfl
theorem keptF_body (x : Str) (b : V) (ln lh : Addr) : (keptF x b ln lh).lookup ("body" : Str) = some b := rfl
theorem keptF_names (x : Str) (b : V) (ln lh : Addr) : (keptF x b ln lh).lookup ("names" : Str) = some (.ref ln) := rfl
theorem keptF_held (x : Str) (b : V) (ln lh : Addr) : (keptF x b ln lh).lookup ("held" : Str) = some (.ref lh) := rfl
/-! ### the machine's promises -/
def spInitK (cK : Addr) : Sp := fun vs H Q _ => ∃ (a dx ln lh : Addr) (x : Str) (b : V), vs = [.ref a, .str x, b, .ref ln, .ref lh] ∧ H a = some (.ins cK dx []) ∧ Q .non (upd H a (.ins cK dx (keptF x b ln lh)))
def spInitM (cM : Addr) : Sp := fun vs H Q _ => ∃ (a dx : Addr) (most : Nat), vs = [.ref a, .int most] ∧ H a = some (.ins cM dx []) ∧
  ∀ (lk lf lw : Addr) (H' : Hp), H lk = none → H lf = none → H lw = none → lk ≠ lf → lk ≠ lw → lf ≠ lw → (∀ b o, b ≠ a → H b = some o → H' b = some o) → H' a = some (.ins cM dx (machF ⟨a, dx, lk, lf, lw⟩ most 0)) → H' lk = some (.lst []) → H' lf = some (.lst []) → H' lw = some (.lst []) → Q .non H'
section
variable (cM cK : Addr)
def spLater : Sp := fun vs H Q _ => ∃ (M : MA) (most deeds n : Nat) (W : List MI) (F L : List Val) (t : Tr) (e : Env) (tv : V) (d : Addr), vs = [.ref M.aM, tv, .ref d] ∧ MachAt cM cK M H most deeds n W F L ∧ At H t tv ∧ EnvD cK M.has H n e d ∧ W.length ≤ 2000000 ∧
  ∀ H', Kp M.has H H' → MachAt cM cK M H' most deeds n (W ++ [⟨t, e, false⟩]) F L → Q .non H'
def keptV (x : Str) (b : Tr) (e : Env) : Val := .fn x b (e.keep (freeNames (.fn x b)))
def spKeep : Sp := fun vs H Q _ => ∃ (M : MA) (most deeds n : Nat) (W : List MI) (F L : List Val) (x : Str) (b : Tr) (e : Env) (tv : V) (d : Addr), vs = [.ref M.aM, tv, .ref d] ∧ MachAt cM cK M H most deeds n W F L ∧ At H (.fn x b) tv ∧ EnvD cK M.has H n e d ∧
  e.Cov (.fn x b) ∧ (Tr.fn x b).size ≤ 400 ∧ F.length ≤ 2000000 ∧ L.length ≤ 2000000 ∧ ∀ H', Kp M.has H H' → MachAt cM cK M H' most deeds n W (F ++ [keptV x b e]) (L ++ [keptV x b e]) → Q .non H'
/-- what a look leaves -/
def lookR (t : Tr) (e : Env) (W : List MI) (F L : List Val) : List MI × List Val × List Val := match t with
  | .num n => (W, F ++ [.num n], L)
  | .name x => (W, F ++ [(e.look x).getD (.num 0)], L)
  | .fn x b => (W, F ++ [keptV x b e], L ++ [keptV x b e])
  | .plus a b => (W ++ [⟨t, e, true⟩, ⟨b, e, false⟩, ⟨a, e, false⟩], F, L)
  | .less a b => (W ++ [⟨t, e, true⟩, ⟨b, e, false⟩, ⟨a, e, false⟩], F, L)
  | .call a b => (W ++ [⟨t, e, true⟩, ⟨b, e, false⟩, ⟨a, e, false⟩], F, L)
  | .ite c _ _ => (W ++ [⟨t, e, true⟩, ⟨c, e, false⟩], F, L)
  | .lt _ a _ => (W ++ [⟨t, e, true⟩, ⟨a, e, false⟩], F, L)
def spLook : Sp := fun vs H Q _ => ∃ (M : MA) (most deeds n : Nat) (W : List MI) (F L : List Val) (t : Tr) (e : Env) (tv : V) (d : Addr), vs = [.ref M.aM, tv, .ref d] ∧ MachAt cM cK M H most deeds n W F L ∧ At H t tv ∧ EnvD cK M.has H n e d ∧
  e.Cov t ∧ t.size ≤ 400 ∧ W.length ≤ 1500000 ∧ F.length ≤ 2000000 ∧ L.length ≤ 2000000 ∧ ∀ H', Kp M.has H H' → MachAt cM cK M H' most deeds n (lookR t e W F L).1 (lookR t e W F L).2.1 (lookR t e W F L).2.2 → Q .non H'
variable (E : Ers)
/-- what a deed leaves -/
def DoR (M : MA) (H : Hp) (most deeds n : Nat) (W : List MI) (F L : List Val) (d : Do) (Q : VK) (X : XK) : Prop := match d with
  | .err c => ∀ H', Kp M.has H H' → X (.ref (E.cls c)) none H'
  | .val u => ∀ H', Kp M.has H H' → MachAt cM cK M H' most deeds (n + 1) W (F ++ [u]) L → Q .non H'
  | .look e b => ∀ H', Kp M.has H H' → MachAt cM cK M H' most deeds (n + 1) (W ++ [⟨b, e, false⟩]) F L → Q .non H'
def spCall : Sp := fun vs H Q X => ∃ (M : MA) (most deeds n : Nat) (W : List MI) (F L : List Val) (v w : Val) (rv rw : V), vs = [.ref M.aM, rv, rw] ∧ MachAt cM cK M H most deeds n W F L ∧ KVm cK M.has H v rv ∧ KVm cK M.has H w rw ∧ 402 ≤ n ∧ n ≤ 100000 ∧ W.length ≤ 2000000 ∧
  v.ok ∧ (∀ x b e, v = .fn x b e → (Tr.fn x b).size ≤ 400) ∧ DoR cM cK E M H most deeds n W F L (do2 (.call (.num 0) (.num 0)) v w) Q X
def spDeed : Sp := fun vs H Q X => ∃ (M : MA) (most deeds n : Nat) (W : List MI) (F F' L : List Val) (t : Tr) (e : Env) (tv : V) (d : Addr) (a : Do), vs = [.ref M.aM, tv, .ref d] ∧ MachAt cM cK M H most deeds n W F L ∧ At H t tv ∧ EnvD cK M.has H n e d ∧
  402 ≤ n ∧ n ≤ 100000 ∧ W.length ≤ 2000000 ∧ F.length ≤ 2000000 ∧ (∀ v ∈ F, v.ok ∧ ∀ x b e, v = .fn x b e → (Tr.fn x b).size ≤ 400) ∧
  ((t.two = true ∧ ∃ v w, F = F' ++ [v] ++ [w] ∧ a = do2 t v w) ∨ (t.one = true ∧ ∃ w, F = F' ++ [w] ∧ a = do1 t e w)) ∧ DoR cM cK E M H most deeds n W F' L a Q X
def spWorkOut : Sp := fun vs H Q X => ∃ (M : MA) (most : Nat) (t : Tr) (tv : V), vs = [.ref M.aM, tv] ∧ MachAt cM cK M H most 0 500 [] [] [] ∧ At H t tv ∧ t.closed ∧ t.size ≤ 400 ∧ most ≤ 1000 ∧
  match evF most .nil t with
  | .ok v m L => ∀ (r : V) (n : Nat) (H' : Hp), Kp M.has H H' → KVm cK M.has H' v r → MachAt cM cK M H' most (most - m) n [] [] L → Q r H'
  | .err c => ∀ H', Kp M.has H H' → X (.ref (E.cls c)) none H'
  | .dry => ∀ H', Kp M.has H H' → X (.ref E.dry) none H'
end
def spLeft (E : Ers) : Sp := fun vs H Q X => ∃ (a b : Nat), vs = [.int a, .int b] ∧ (a < b → Q .non H) ∧ (b ≤ a → X (.ref E.dry) none H)
def spReckon : Sp := fun vs H Q _ => ∃ (z : Str) (a b : Int), vs = [.str z, .int a, .int b] ∧ Q (.int (if z = "plus" then a + b else a - b)) H
/-- the number that a machine's value is -/
def spNumM (cK : Addr) (E : Ers) : Sp := fun vs H Q X => ∃ (A : Addr → Prop) (v : Val) (r : V), vs = [r] ∧ KVm cK A H v r ∧ match v with | .num n => Q (.int n) H | .fn _ _ _ => X (.ref E.number) none H
theorem KVm.isK {K : PySem.W.Frag} {cK : Addr} {fs : List Str} (c : ClsX K cK fs) {A : Addr → Prop} {H : Hp} {x : Str} {b : Tr} {e : Env} {r : V} (h : KVm cK A H (.fn x b e) r) : TyX K H r (.ref cK) ∧ PySem.W.kitOne K (.ref cK) (.ref cK) = some true := by
  obtain ⟨a, dx, ln, lh, tb, ns, hs, rfl, _, _, _, h1, _⟩ := h
  exact c.ty h1
theorem KVm.isI {K : PySem.W.Frag} {cK : Addr} {fs : List Str} (c : ClsX K cK fs) {A : Addr → Prop} {H : Hp} {n : Int} {r : V} (h : KVm cK A H (.num n) r) : r = .int n ∧ TyX K H r (.type "int") ∧ PySem.W.kitOne K (.type "int") (.ref cK) = some false := by
  obtain rfl : r = .int n := h
  exact ⟨rfl, .base (.int n), c.int⟩
end My
namespace My
open PySem L2
theorem isi_own {K : PySem.W.Frag} {H : Hp} {x : V} {t : Value} {C : Addr} {b : Bool} {G : Bool → Prop} (h : TyX K H x t ∧ PySem.W.kitOne K t (.ref C) = some b) (g : G b) :
    ∃ t u, ClsV (.ref C) u ∧ TyX K H x t ∧ ∃ b, PySem.W.kitOne K t u = some b ∧ G b := ⟨_, _, .own _, h.1, b, h.2, g⟩
theorem ClsX.na {K : PySem.W.Frag} {C : Addr} {fs : List Str} (c : ClsX K C fs) (f : Str) (h : fs.contains f = true := by decide +kernel) : NoAttr K C f := c.no f (by simpa using h)
end My
namespace My
open PySem L2
section
variable {cM cK : Addr} {M : MA} {H H' : Hp} {most deeds n n' : Nat} {W W' : List MI} {F F' L L' : List Val} {vs : List V}
theorem MA.has_a : M.has M.aM := .inl rfl
theorem MA.has_k : M.has M.lk := .inr (.inl rfl)
theorem MA.has_f : M.has M.lf := .inr (.inr (.inl rfl))
theorem MA.has_w : M.has M.lw := .inr (.inr (.inr rfl))
theorem MachAt.ext (S : MachAt cM cK M H most deeds n W F L) (e : Same H H') : MachAt cM cK M H' most deeds n W F L := by
  obtain ⟨v1, a1, p1⟩ := S.ks
  obtain ⟨v2, a2, p2⟩ := S.fs
  obtain ⟨v3, a3, p3⟩ := S.ws
  exact ⟨e _ _ S.ins, e _ _ S.own, S.lkf, S.lkw, S.lfw, ⟨v1, e _ _ a1, pr_mono p1 fun _ _ h => h.mono (Kp.same e)⟩, ⟨v2, e _ _ a2, pr_mono p2 fun _ _ h => h.mono (Kp.same e)⟩, ⟨v3, e _ _ a3, pr_mono p3 fun _ _ h => h.mono (Kp.same e) (Nat.le_refl _)⟩⟩
theorem MachAt.more (S : MachAt cM cK M H most deeds n W F L) (h : n ≤ n') : MachAt cM cK M H most deeds n' W F L := by
  obtain ⟨v3, a3, p3⟩ := S.ws
  exact ⟨S.ins, S.own, S.lkf, S.lkw, S.lfw, S.ks, S.fs, ⟨v3, a3, pr_mono p3 fun _ _ q => q.mono (Kp.refl _ _) h⟩⟩
theorem MachAt.setW (S : MachAt cM cK M H most deeds n W F L) : Kp M.has H (upd H M.lw (.lst vs)) ∧ (Paired (ItAt cK M.has (upd H M.lw (.lst vs)) n) W' vs → MachAt cM cK M (upd H M.lw (.lst vs)) most deeds n W' F L) := by
  obtain ⟨v1, a1, p1⟩ := S.ks
  obtain ⟨v2, a2, p2⟩ := S.fs
  obtain ⟨v3, a3, p3⟩ := S.ws
  have k : Kp M.has H (upd H M.lw (.lst vs)) := Kp.lst MA.has_w a3
  have ne : M.aM ≠ M.lw := ne_of S.ins a3 (by intro z; cases z)
  have no : M.dx ≠ M.lw := ne_of S.own a3 (by intro z; cases z)
  refine ⟨k, fun h => ⟨by rw [upd_ne ne]; exact S.ins, by rw [upd_ne no]; exact S.own, S.lkf, S.lkw, S.lfw, ⟨v1, by rw [upd_ne S.lkw]; exact a1, pr_mono p1 fun _ _ h => h.mono k⟩, ⟨v2, by rw [upd_ne S.lfw]; exact a2, pr_mono p2 fun _ _ h => h.mono k⟩, ⟨vs, upd_same, h⟩⟩⟩
theorem MachAt.setF (S : MachAt cM cK M H most deeds n W F L) : Kp M.has H (upd H M.lf (.lst vs)) ∧ (Paired (KVm cK M.has (upd H M.lf (.lst vs))) F' vs → MachAt cM cK M (upd H M.lf (.lst vs)) most deeds n W F' L) := by
  obtain ⟨v1, a1, p1⟩ := S.ks
  obtain ⟨v2, a2, p2⟩ := S.fs
  obtain ⟨v3, a3, p3⟩ := S.ws
  have k : Kp M.has H (upd H M.lf (.lst vs)) := Kp.lst MA.has_f a2
  have ne : M.aM ≠ M.lf := ne_of S.ins a2 (by intro z; cases z)
  have no : M.dx ≠ M.lf := ne_of S.own a2 (by intro z; cases z)
  refine ⟨k, fun h => ⟨by rw [upd_ne ne]; exact S.ins, by rw [upd_ne no]; exact S.own, S.lkf, S.lkw, S.lfw, ⟨v1, by rw [upd_ne S.lkf]; exact a1, pr_mono p1 fun _ _ h => h.mono k⟩, ⟨vs, upd_same, h⟩, ⟨v3, by rw [upd_ne S.lfw.symm]; exact a3, pr_mono p3 fun _ _ h => h.mono k (Nat.le_refl _)⟩⟩⟩
theorem MachAt.setK (S : MachAt cM cK M H most deeds n W F L) : Kp M.has H (upd H M.lk (.lst vs)) ∧ (Paired (KVm cK M.has (upd H M.lk (.lst vs))) L' vs → MachAt cM cK M (upd H M.lk (.lst vs)) most deeds n W F L') := by
  obtain ⟨v1, a1, p1⟩ := S.ks
  obtain ⟨v2, a2, p2⟩ := S.fs
  obtain ⟨v3, a3, p3⟩ := S.ws
  have k : Kp M.has H (upd H M.lk (.lst vs)) := Kp.lst MA.has_k a1
  have ne : M.aM ≠ M.lk := ne_of S.ins a1 (by intro z; cases z)
  have no : M.dx ≠ M.lk := ne_of S.own a1 (by intro z; cases z)
  refine ⟨k, fun h => ⟨by rw [upd_ne ne]; exact S.ins, by rw [upd_ne no]; exact S.own, S.lkf, S.lkw, S.lfw, ⟨vs, upd_same, h⟩, ⟨v2, by rw [upd_ne S.lkf.symm]; exact a2, pr_mono p2 fun _ _ h => h.mono k⟩, ⟨v3, by rw [upd_ne S.lkw.symm]; exact a3, pr_mono p3 fun _ _ h => h.mono k (Nat.le_refl _)⟩⟩⟩
theorem MachAt.setD (S : MachAt cM cK M H most deeds n W F L) (d' : Nat) : Kp M.has H (upd H M.aM (.ins cM M.dx (machF M most d'))) ∧ MachAt cM cK M (upd H M.aM (.ins cM M.dx (machF M most d'))) most d' n W F L := by
  obtain ⟨v1, a1, p1⟩ := S.ks
  obtain ⟨v2, a2, p2⟩ := S.fs
  obtain ⟨v3, a3, p3⟩ := S.ws
  have k : Kp M.has H (upd H M.aM (.ins cM M.dx (machF M most d'))) := Kp.ins MA.has_a S.ins
  have n1 : M.lk ≠ M.aM := ne_of a1 S.ins (by intro z; cases z)
  have n2 : M.lf ≠ M.aM := ne_of a2 S.ins (by intro z; cases z)
  have n3 : M.lw ≠ M.aM := ne_of a3 S.ins (by intro z; cases z)
  have no : M.dx ≠ M.aM := ne_of S.own S.ins (by intro z; cases z)
  exact ⟨k, upd_same, by rw [upd_ne no]; exact S.own, S.lkf, S.lkw, S.lfw, ⟨v1, by rw [upd_ne n1]; exact a1, pr_mono p1 fun _ _ h => h.mono k⟩, ⟨v2, by rw [upd_ne n2]; exact a2, pr_mono p2 fun _ _ h => h.mono k⟩, ⟨v3, by rw [upd_ne n3]; exact a3, pr_mono p3 fun _ _ h => h.mono k (Nat.le_refl _)⟩⟩
end
end My
namespace My
open PySem L2
theorem MachAt.new {cM cK : Addr} {M : MA} {H : Hp} {most deeds n : Nat} {W : List MI} {F L : List Val} (S : MachAt cM cK M H most deeds n W F L) {a : Addr} (h : H a = none) : ¬ M.has a := by
  obtain ⟨v1, a1, p1⟩ := S.ks
  obtain ⟨v2, a2, p2⟩ := S.fs
  obtain ⟨v3, a3, p3⟩ := S.ws
  rintro (rfl | rfl | rfl | rfl)
  · rw [S.ins] at h; cases h
  · rw [a1] at h; cases h
  · rw [a2] at h; cases h
  · rw [a3] at h; cases h
theorem EnvL.keep {cK : Addr} {A : Addr → Prop} {H : Hp} {e : Env} {kvs : List (Key × V)} : ∀ {ns : List Str}, (∀ x ∈ ns, ∃ v r, e.look x = some v ∧ valV kvs (.inr x) = some r ∧ KVm cK A H v r) → EnvL cK A H (e.keep ns) ns (ns.map fun x => (valV kvs (.inr x)).getD .non)
  | [], _ => ⟨rfl, rfl⟩
  | y :: r, h => by
    obtain ⟨v, rv, h1, h2, h3⟩ := h y List.mem_cons_self
    show EnvL cK A H (match e.look y with | some v => Env.cons y v (e.keep r) | none => e.keep r) _ _
    rw [h1]
    exact ⟨r, (valV kvs (.inr y)).getD .non, r.map fun x => (valV kvs (.inr x)).getD .non, rfl, rfl, by rw [h2]; exact h3, EnvL.keep fun x hx => h x (List.mem_cons_of_mem _ hx)⟩
theorem freeNames_fr {t : Tr} {x : Str} (h : x ∈ freeNames t) : t.fr x := (fl_iff t x).mp h
end My
namespace My
open PySem L2
theorem dd_len : ∀ (ys fs : List Str), (dd fs ys).length ≤ fs.length + ys.length
  | [], fs => by simp [dd]
  | y :: r, fs => by
    simp only [dd]
    have := dd_len r (if y ∈ fs then fs else fs ++ [y])
    split at this
    · rename_i h; rw [if_pos h]; rw [List.length_cons]; omega
    · rename_i h; rw [if_neg h]; rw [List.length_append, List.length_singleton] at this; rw [List.length_cons]; omega
theorem dd_nodup : ∀ (ys : List Str) {fs : List Str}, fs.Nodup → (dd fs ys).Nodup
  | [], fs, h => by simpa [dd] using h
  | y :: r, fs, h => by
    simp only [dd]
    refine dd_nodup r ?_
    split
    · exact h
    · rename_i hn
      rw [List.nodup_append]
      refine ⟨h, by simp, fun a ha b hb e => ?_⟩
      rw [List.mem_singleton.mp hb] at e
      exact hn (e ▸ ha)
theorem frees_len : ∀ (t : Tr) (b : Str → Nat), (frees b t).length ≤ t.size
  | .num _, b => by simp [frees, Tr.size]
  | .name y, b => by simp only [frees, Tr.size]; split <;> simp
  | .fn y t, b => by simp only [frees, Tr.size]; have := frees_len t (inc y b); omega
  | .call f a, b => by simp only [frees, Tr.size, List.length_append]; have := frees_len f b; have := frees_len a b; omega
  | .plus f a, b => by simp only [frees, Tr.size, List.length_append]; have := frees_len f b; have := frees_len a b; omega
  | .less f a, b => by simp only [frees, Tr.size, List.length_append]; have := frees_len f b; have := frees_len a b; omega
  | .ite c f a, b => by simp only [frees, Tr.size, List.length_append]; have := frees_len c b; have := frees_len f b; have := frees_len a b; omega
  | .lt y e t, b => by simp only [frees, Tr.size, List.length_append]; have := frees_len e b; have := frees_len t (inc y b); omega
theorem freeNames_len (t : Tr) : (freeNames t).length ≤ t.size := by
  unfold freeNames
  have h1 := dd_len (frees (fun _ => 0) t) []
  have h2 := frees_len t (fun _ => 0)
  simp only [List.length_nil] at h1
  omega
theorem freeNames_nodup (t : Tr) : (freeNames t).Nodup := dd_nodup _ List.nodup_nil
end My
namespace My
open PySem L2
theorem valV_merge : ∀ {kvs acc : List (Key × V)} {k : Key}, (kvs.map (·.1)).Nodup → valV (mergeK acc kvs) k = (valV kvs k).or (valV acc k)
  | [], acc, k, _ => rfl
  | p :: r, acc, k, h => by
    show valV (mergeK (putK acc p.1 p.2) r) k = _
    rw [List.map_cons, List.nodup_cons] at h
    rw [valV_merge h.2, valV_put]
    by_cases e : p.1 = k
    · rw [valV_pos e, if_pos e.symm]
      have : valV r k = none := by
        cases hv : valV r k with
        | none => rfl
        | some u =>
          have h1 := valV_any k r
          rw [hv] at h1
          obtain ⟨q, hq1, hq2⟩ := List.any_eq_true.mp h1
          exact absurd (List.mem_map.mpr ⟨q, hq1, (of_decide_eq_true hq2).trans e.symm⟩) h.1
      rw [this]
      rfl
    · rw [valV_neg e, if_neg (fun z => e z.symm)]
theorem EnvL.len {cK : Addr} {A : Addr → Prop} {H : Hp} : ∀ {e : Env} {ns : List Str} {hs : List V}, EnvL cK A H e ns hs → ns.length = hs.length
  | .nil, _, _, ⟨h1, h2⟩ => by rw [h1, h2]; rfl
  | .cons _ _ _, _, _, ⟨ns', h, hs', e1, e2, _, h2⟩ => by rw [e1, e2, List.length_cons, List.length_cons, EnvL.len h2]
theorem EnvL.look {cK : Addr} {A : Addr → Prop} {H : Hp} {x : Str} {v : Val} : ∀ {e : Env} {ns : List Str} {hs : List V}, EnvL cK A H e ns hs → e.look x = some v → ∃ r, valV ((ns.map Sum.inr).zip hs : List (Key × V)) (.inr x) = some r ∧ KVm cK A H v r
  | .nil, _, _, _, h => by cases h
  | .cons y u e, _, _, ⟨ns', r, hs', e1, e2, h1, h2⟩, h => by
    subst e1 e2
    have h : (if x = y then some u else e.look x) = some v := h
    by_cases hx : x = y
    · subst hx
      rw [if_pos rfl] at h
      cases h
      exact ⟨r, valV_pos rfl, h1⟩
    · rw [if_neg hx] at h
      obtain ⟨r', h3, h4⟩ := EnvL.look h2 h
      exact ⟨r', by rw [← h3]; exact valV_neg fun z => hx (Sum.inr.inj z).symm, h4⟩
theorem EnvL.dict {cK : Addr} {A : Addr → Prop} {H : Hp} {e : Env} {ns : List Str} {hs : List V} (h : EnvL cK A H e ns hs) (hn : ns.Nodup) {x : Str} {v : Val} (hv : e.look x = some v) :
    ∃ r, valV (mergeK [] ((ns.map Sum.inr).zip hs : List (Key × V))) (.inr x) = some r ∧ KVm cK A H v r := by
  obtain ⟨r, h1, h2⟩ := h.look hv
  refine ⟨r, ?_, h2⟩
  rw [valV_merge, h1]
  · rfl
  · rw [List.map_fst_zip (by rw [List.length_map, h.len]; exact Nat.le_refl _)]
    exact List.Pairwise.map _ (fun a b h e => h (Sum.inr.inj e)) hn
end My
namespace My
open PySem L2
theorem DoR.mono {cM cK : Addr} {E : Ers} {M : MA} {H H1 : Hp} {most deeds n : Nat} {W : List MI} {F L : List Val} {d : Do} {Q : VK} {X : XK} (k : Kp M.has H H1) (h : DoR cM cK E M H most deeds n W F L d Q X) : DoR cM cK E M H1 most deeds n W F L d Q X := by
  cases d with
  | err c => exact fun H' k' => h H' (k.trans k')
  | val u => exact fun H' k' => h H' (k.trans k')
  | look e b => exact fun H' k' => h H' (k.trans k')
end My

namespace My
open PySem L2
section
variable {t0 : Tr} {most m : Nat} {R : Rv} {W : List MI} {F L : List Val} {e : Env} {t : Tr}
theorem wtM_append (V W : List MI) : wtM (V ++ W) = wtM V + wtM W := by simp [wtM]
theorem wtM_reverse (W : List MI) : wtM W.reverse = wtM W := by simp [wtM, List.map_reverse, List.sum_reverse]
theorem MInv.lookR (h : MInv t0 most R (⟨t, e, false⟩ :: W.reverse) F m L) : MInv t0 most R (lookR t e W F L).1.reverse (lookR t e W F L).2.1 m (lookR t e W F L).2.2 ∧ wtM (lookR t e W F L).1 < wtM (W ++ [⟨t, e, false⟩]) := by
  have hw : wtM (W ++ [⟨t, e, false⟩]) = wtM W + 3 * t.size := by rw [wtM_append]; rfl
  have hp := t.size_pos
  have h2 : ∀ {a b : Tr}, (t = .plus a b ∨ t = .less a b ∨ t = .call a b) → MInv t0 most R (W ++ [(⟨t, e, true⟩ : MI), ⟨b, e, false⟩, ⟨a, e, false⟩]).reverse F m L ∧ wtM (W ++ [⟨t, e, true⟩, ⟨b, e, false⟩, ⟨a, e, false⟩]) < wtM W + 3 * t.size := by
    intro a b ht
    refine ⟨by simpa using h.look2 ht, ?_⟩
    rw [wtM_append]
    have e1 : wtM [(⟨t, e, true⟩ : MI), ⟨b, e, false⟩, ⟨a, e, false⟩] = 1 + (3 * b.size + (3 * a.size + 0)) := rfl
    have e5 : t.size = 1 + a.size + b.size := by rcases ht with rfl | rfl | rfl <;> rfl
    omega
  have h1 : ∀ {a : Tr}, ((∃ b c, t = .ite a b c) ∨ ∃ x b, t = .lt x a b) → MInv t0 most R (W ++ [(⟨t, e, true⟩ : MI), ⟨a, e, false⟩]).reverse F m L ∧ wtM (W ++ [⟨t, e, true⟩, ⟨a, e, false⟩]) < wtM W + 3 * t.size := by
    intro a ht
    refine ⟨by simpa using h.look1 ht, ?_⟩
    rw [wtM_append]
    have e1 : wtM [(⟨t, e, true⟩ : MI), ⟨a, e, false⟩] = 1 + (3 * a.size + 0) := rfl
    have e5 : 1 + a.size ≤ t.size := by rcases ht with ⟨b, c, rfl⟩ | ⟨x, b, rfl⟩ <;> simp only [Tr.size] <;> omega
    omega
  rw [hw]
  cases t with
  | num n => exact ⟨h.num, by show wtM W < _; omega⟩
  | name x =>
    obtain ⟨v, hv⟩ := h.there
    refine ⟨?_, by show wtM W < _; omega⟩
    show MInv t0 most R W.reverse (F ++ [(e.look x).getD (.num 0)]) m L
    rw [hv]
    exact h.look hv
  | fn x b => exact ⟨h.keep, by show wtM W < _; omega⟩
  | call a b => exact h2 (.inr (.inr rfl))
  | plus a b => exact h2 (.inl rfl)
  | less a b => exact h2 (.inr (.inl rfl))
  | ite c a b => exact h1 (.inl ⟨_, _, rfl⟩)
  | lt x a b => exact h1 (.inr ⟨_, _, rfl⟩)
/-- what a deed is, and what it leaves -/
theorem MInv.deed (h : MInv t0 most R (⟨t, e, true⟩ :: W) F (m + 1) L) : ∃ (F' : List Val) (a : Do), ((t.two = true ∧ ∃ v w, F = F' ++ [v] ++ [w] ∧ a = do2 t v w) ∨ (t.one = true ∧ ∃ w, F = F' ++ [w] ∧ a = do1 t e w)) ∧
    match a with
    | .err c => R = .err c
    | .val u => MInv t0 most R W (F' ++ [u]) m L
    | .look e' b => MInv t0 most R (⟨b, e', false⟩ :: W) F' m L := by
  have hn := h.need
  rcases hn with ⟨h2, _, _⟩ | ⟨h1, _, _⟩
  · obtain ⟨F', v, w, rfl, hn⟩ := h.split2 h2
    refine ⟨F', do2 t v w, .inl ⟨h2, v, w, rfl, rfl⟩, ?_⟩
    cases t with
    | plus a b =>
      cases v with
      | num x =>
        cases w with
        | num y => exact h.plus hn
        | fn _ _ _ => exact h.bad2 rfl rfl
      | fn _ _ _ => exact h.bad2 rfl (by cases w <;> rfl)
    | less a b =>
      cases v with
      | num x =>
        cases w with
        | num y => exact h.less hn
        | fn _ _ _ => exact h.bad2 rfl rfl
      | fn _ _ _ => exact h.bad2 rfl (by cases w <;> rfl)
    | call a b =>
      cases v with
      | num x => exact h.bad2 rfl rfl
      | fn x c e' => exact h.call hn
    | num _ => exact absurd h2 Bool.false_ne_true
    | name _ => exact absurd h2 Bool.false_ne_true
    | fn _ _ => exact absurd h2 Bool.false_ne_true
    | ite _ _ _ => exact absurd h2 Bool.false_ne_true
    | lt _ _ _ => exact absurd h2 Bool.false_ne_true
  · obtain ⟨F', w, rfl, hn⟩ := h.split1 h1
    refine ⟨F', do1 t e w, .inr ⟨h1, w, rfl, rfl⟩, ?_⟩
    cases t with
    | ite c a b =>
      cases w with
      | num n => exact h.ite hn
      | fn _ _ _ => exact h.bad1 rfl rfl
    | lt x a b =>
      have h3 := h.lt hn
      cases w <;> exact h3
    | num _ => exact absurd h1 Bool.false_ne_true
    | name _ => exact absurd h1 Bool.false_ne_true
    | fn _ _ => exact absurd h1 Bool.false_ne_true
    | call _ _ => exact absurd h1 Bool.false_ne_true
    | plus _ _ => exact absurd h1 Bool.false_ne_true
    | less _ _ => exact absurd h1 Bool.false_ne_true
theorem MInv.lens (h : MInv t0 most R W F m L) (hm : most ≤ 1000) : W.length ≤ 1300000 ∧ F.length ≤ 1300000 ∧ L.length ≤ 1300000 ∧ wtM W ≤ 1300000 := by
  have h1 := h.wt
  have h2 := len_wtM W
  omega
theorem MInv.fsz (h : MInv t0 most R W F m L) : ∀ v ∈ F, v.ok ∧ ∀ x b e, v = .fn x b e → (Tr.fn x b).size ≤ 400 := fun v hv => by
  have h1 := h.found v hv
  refine ⟨h1.ok, fun x b e ev => ?_⟩
  subst ev
  have := h1.all.1.size
  have := h.small
  omega
end
/-- a loop whose test is known -/
theorem whileF_ {c : TT} {tb : TS} {D : Ends} {σ : L2.St} {H : Hp} (W : Nat → L2.St → Hp → Prop) (m : Nat) (w0 : W m σ H)
    (h : ∀ m σ H, W m σ H → ∃ b : Bool, (∀ Q : Bool → Hp → Prop, Q b H → c σ H Q) ∧ (b = false → D.nx σ H) ∧ (b = true → ∀ N : L2.St → Hp → Prop, (∀ m' σ' H', m' < m → W m' σ' H' → N σ' H') → tb { D with nx := N, ct := N, bk := D.nx } σ H)) :
    tWhile c tb D σ H := by
  refine ⟨W, ⟨m, w0⟩, fun m σ H w => ?_⟩
  obtain ⟨b, h1, h2, h3⟩ := h m σ H w
  refine h1 _ ?_
  cases b with
  | false => exact h2 rfl
  | true => exact ⟨fun σ' H' => ∃ m', m' < m ∧ W m' σ' H', fun _ _ n => n, h3 rfl _ fun m' _ _ l w' => ⟨m', l, w'⟩⟩
theorem truL {K : PySem.W.Frag} {H : Hp} {l : Addr} {xs : List V} (h : H l = some (.lst xs)) : TruV K (.ref l) H (!xs.isEmpty) := .inl ⟨xs, SqL.of h, rfl⟩
end My
namespace My
open PySem L2
/-- a count of deeds that is none -/
def BadM (H : Hp) (v : V) : Prop := ∃ n, zTyV v H = some n ∧ (n ≠ "int" ∨ ∃ i, v = .int i ∧ (i < 0 ∨ 1000 < i))
def spStart (E : Ers) : Sp := fun vs H Q X => ∃ (tv mv : V), vs = [tv, mv] ∧ ((∃ n b, Wks H [tv] n b ∧ (400 < n ∨ b = true) ∧ ∀ H', Same H H' → X (.ref E.tree) none H') ∨
  ∃ t, At H t tv ∧ Good t ∧ t.size ≤ 400 ∧ ((¬ t.closed ∧ ∀ H', Same H H' → X (.ref E.closed) none H') ∨ (t.closed ∧ BadM H mv ∧ ∀ H', Same H H' → X (.ref E.most) none H') ∨ (t.closed ∧ (∃ m : Nat, mv = .int m ∧ m ≤ 1000) ∧ ∀ H', Same H H' → Q .non H')))
theorem closed_nil {t : Tr} : t.closed ↔ freeNames t = [] := by
  constructor
  · intro h
    cases e : freeNames t with
    | nil => rfl
    | cons x r => exact absurd (freeNames_fr (t := t) (x := x) (by rw [e]; exact List.mem_cons_self)) (h x)
  · intro h x hx
    have := fl_mem t x hx
    rw [h] at this
    cases this
def spMade (E : Ers) (cK : Addr) : Sp := fun vs H Q X => ∃ (v : V) (t : Tr) (m : Nat), vs = [v, .int m] ∧ OkIn H t v m ∧
  match evF m .nil t with
  | .ok _ _ L => ∀ (l : Addr) (rs : List V) (H' : Hp), Same H H' → H' l = some (.lst rs) → Paired (KVm cK (fun _ => False) H') L rs → Q (.ref l) H'
  | .err c => ∀ H', Same H H' → X (.ref (E.cls c)) none H'
  | .dry => ∀ H', Same H H' → X (.ref E.dry) none H'
mutual
theorem KVm.weak {cK : Addr} {A : Addr → Prop} {H : Hp} : ∀ {v : Val} {r : V}, KVm cK A H v r → KVm cK (fun _ => False) H v r
  | .num _, _, h => h
  | .fn _ _ _, _, ⟨a, dx, ln, lh, tb, ns, hs, e, n1, n2, n3, h1, h2, h3, h4, h5, h6⟩ => ⟨a, dx, ln, lh, tb, ns, hs, e, fun z => z, fun z => z, fun z => z, h1, h2, h3, h4, h5, EnvL.weak h6⟩
theorem EnvL.weak {cK : Addr} {A : Addr → Prop} {H : Hp} : ∀ {e : Env} {ns : List Str} {hs : List V}, EnvL cK A H e ns hs → EnvL cK (fun _ => False) H e ns hs
  | .nil, _, _, h => h
  | .cons _ _ _, _, _, ⟨ns', h, hs', e1, e2, h1, h2⟩ => ⟨ns', h, hs', e1, e2, KVm.weak h1, EnvL.weak h2⟩
end
end My
namespace My
open PySem L2
structure STxt (K : PySem.W.Frag) (mg : Str → Option Value) (E : Ers) : Prop extends Bt mg where
  MOST_DEEDS : GInt mg "MOST_DEEDS" 1000
  NotClosed : ErrC K mg "NotClosed" E.closed
  BadMost : ErrC K mg "BadMost" E.most
theorem MTxt.st {K : PySem.W.Frag} {w : World} {mg : Str → Option Value} {E : Ers} {aA cM cK : Addr} (T : MTxt K w mg E aA cM cK) : STxt K mg E := { toBt := T.toBt, MOST_DEEDS := T.MOST_DEEDS, NotClosed := T.NotClosed, BadMost := T.BadMost }
end My
namespace My
open PySem L2
theorem mach_new {cM cK : Addr} {H H1 H3 : Hp} {x dx lk lf lw : Addr} {m : Nat} (e1 : Same H H1) (hx : H1 x = none) (hdx : H1 dx = none) (hne : dx ≠ x) (hk : upd (upd H1 dx (.own x)) x (.ins cM dx []) lk = none) (hf : upd (upd H1 dx (.own x)) x (.ins cM dx []) lf = none)
    (hw : upd (upd H1 dx (.own x)) x (.ins cM dx []) lw = none) (nkf : lk ≠ lf) (nkw : lk ≠ lw) (nfw : lf ≠ lw) (kp : ∀ b o, b ≠ x → upd (upd H1 dx (.own x)) x (.ins cM dx []) b = some o → H3 b = some o) (hins : H3 x = some (.ins cM dx (machF ⟨x, dx, lk, lf, lw⟩ m 0)))
    (h1 : H3 lk = some (.lst [])) (h2 : H3 lf = some (.lst [])) (h3 : H3 lw = some (.lst [])) : MachAt cM cK ⟨x, dx, lk, lf, lw⟩ H3 m 0 500 [] [] [] ∧ Same H H3 ∧ ∀ a, MA.has ⟨x, dx, lk, lf, lw⟩ a → H a = none := by
  have e12 : Same H1 (upd (upd H1 dx (.own x)) x (.ins cM dx [])) := (same_new hdx).trans (same_new (by rw [upd_ne hne.symm]; exact hx))
  refine ⟨⟨hins, kp dx _ hne (by rw [upd_ne hne, upd_same]), nkf, nkw, nfw, ⟨[], h1, .nil⟩, ⟨[], h2, .nil⟩, ⟨[], h3, .nil⟩⟩, fun b o hb => ?_, ?_⟩
  · have hb1 := e1 _ _ hb
    exact kp b o (ne_of_none hb1 hx) (e12 _ _ hb1)
  · rintro a (rfl | rfl | rfl | rfl)
    · exact e1.free hx
    · exact (e1.trans e12).free hk
    · exact (e1.trans e12).free hf
    · exact (e1.trans e12).free hw
end My
namespace My
open PySem L2
theorem typ_ {v : V} {H : Hp} {n : String} {Q : VK} (h : zTyV v H = some n) (q : Q (.ty n) H) : r1 kTyp [v] H Q := ⟨n, h, q⟩
end My

namespace My
open PySem L2
/-! ### where a name stands first (as in k01) -/
theorem forRC {lo c : Int} {n : Nat} {g : TG} {tb : TS} {D : Ends} {σ : L2.St} {H : Hp} (Pv : Nat → L2.St → Hp → Prop) (h0 : Pv 0 σ H)
    (hs : ∀ i σ H, i < n → Pv i σ H → ∀ N : L2.St → Hp → Prop, (∀ σ' H', Pv (i + 1) σ' H' → N σ' H') → g (.int (lo + i * c)) σ H fun σ2 H2 => tb { D with nx := N, ct := N, bk := D.nx } σ2 H2) (hd : ∀ σ H, Pv n σ H → D.nx σ H) : ForGo (Itc lo c n) g tb D σ H :=
  for_rangeC Pv h0 (fun i σ H hi p => hs i σ H hi p _ fun _ _ z => z) hd
theorem atL2 (x y z : V) : atI [x, y, z] (-1) = some z := atI_last [x, y] z
theorem atL3 (x y z u : V) : atI [x, y, z, u] (-1) = some u := atI_last [x, y, z] u
theorem at_last {α : Type} {f : α → V} {x : α} {xs : List α} : atI ((xs ++ [x]).map f) (-1) = some (f x) := by
  rw [List.map_append]
  exact atI_last _ _
/-- the parts of a node, each with whether x is bound there -/
def kidFlags (x : Str) (b : Bool) : Tr → List (Tr × Bool)
  | .fn y t => [(t, b || y == x)]
  | .lt y e t => [(e, b), (t, b || y == x)]
  | t => t.kids.map fun k => (k, b)
/-- for each node, in the order of reading: does x stand free here -/
def occ (x : Str) : Bool → Tr → List Bool
  | _, .num _ => [false]
  | b, .name y => [y == x && !b]
  | b, .fn y t => false :: occ x (b || y == x) t
  | b, .call f a => false :: (occ x b f ++ occ x b a)
  | b, .plus f a => false :: (occ x b f ++ occ x b a)
  | b, .less f a => false :: (occ x b f ++ occ x b a)
  | b, .ite c f a => false :: (occ x b c ++ (occ x b f ++ occ x b a))
  | b, .lt y e t => false :: (occ x b e ++ occ x (b || y == x) t)
def here (x : Str) (b : Bool) : Tr → Bool
  | .name y => y == x && !b
  | _ => false
def occs (x : Str) (ks : List (Tr × Bool)) : List Bool := ks.flatMap fun p => occ x p.2 p.1
theorem occ_eq (x : Str) (b : Bool) (t : Tr) : occ x b t = here x b t :: occs x (kidFlags x b t) := by
  cases t <;> simp [occ, here, occs, kidFlags, Tr.kids]
def firstT : List Bool → Int → Int
  | [], _ => -1
  | true :: _, k => k
  | false :: r, k => firstT r (k + 1)
def whereT (x : Str) (t : Tr) : Int := firstT (occ x false t) 0
theorem kf_len (x : Str) (b : Bool) (t : Tr) : (kidFlags x b t).map (·.1) = t.kids := by
  cases t <;> simp [kidFlags, Tr.kids]
def spWhere : Sp := fun vs H Q _ => ∃ (t : Tr) (x : Str) (v : V), vs = [v, .str x] ∧ At H t v ∧ t.size ≤ 100000 ∧ ∀ H', Same H H' → Q (.int (whereT x t)) H'
/-- a pair of a tree and a truth -/
def At2 (H : Hp) (p : Tr × Bool) (v : V) : Prop := ∃ a u, v = .ref a ∧ H a = some (.tup [u, .bl p.2]) ∧ At H p.1 u
theorem At2.mono {H H' : Hp} (k : KT H H') {p : Tr × Bool} {v : V} : At2 H p v → At2 H' p v := fun ⟨a, u, e, h, h1⟩ => ⟨a, u, e, k _ _ h, h1.mono k⟩
def szs (ks : List (Tr × Bool)) : Nat := sizes (ks.map (·.1))
theorem szs_append (a b : List (Tr × Bool)) : szs (a ++ b) = szs a + szs b := by simp [szs, sizes]
theorem szs_reverse (a : List (Tr × Bool)) : szs a.reverse = szs a := by simp [szs, sizes, List.sum_reverse]
theorem le_szs (a : List (Tr × Bool)) : a.length ≤ szs a := by
  have := le_sizes (a.map (·.1))
  rwa [List.length_map] at this
def pre (b : Str → Nat) : Tr → List (Option Str)
  | .num _ => [none]
  | .name y => [if b y = 0 then some y else none]
  | .fn x t => none :: pre (inc x b) t
  | .call f a => none :: (pre b f ++ pre b a)
  | .plus f a => none :: (pre b f ++ pre b a)
  | .less f a => none :: (pre b f ++ pre b a)
  | .ite c f a => none :: (pre b c ++ (pre b f ++ pre b a))
  | .lt x e t => none :: (pre b e ++ pre (inc x b) t)
theorem frees_pre : ∀ (t : Tr) (b : Str → Nat), frees b t = (pre b t).filterMap id
  | .num _, _ => rfl
  | .name y, b => by by_cases h : b y = 0 <;> simp [frees, pre, h]
  | .fn x t, b => by simp [frees, pre, frees_pre t]
  | .call f a, b => by simp [frees, pre, frees_pre f, frees_pre a]
  | .plus f a, b => by simp [frees, pre, frees_pre f, frees_pre a]
  | .less f a, b => by simp [frees, pre, frees_pre f, frees_pre a]
  | .ite c f a, b => by simp [frees, pre, frees_pre c, frees_pre f, frees_pre a]
  | .lt x e t, b => by simp [frees, pre, frees_pre e, frees_pre t]
theorem inc_flag (x y : Str) (b : Str → Nat) : decide (inc y b x ≠ 0) = (decide (b x ≠ 0) || y == x) := by
  unfold inc
  by_cases h : x = y
  · subst h; simp
  · have : ¬ y = x := fun e => h e.symm
    simp [h, this]
theorem occ_pre (x : Str) : ∀ (t : Tr) (b : Str → Nat), occ x (decide (b x ≠ 0)) t = (pre b t).map fun o => decide (o = some x)
  | .num _, _ => by simp [occ, pre]
  | .name y, b => by
    by_cases h : b y = 0 <;> by_cases hy : y = x
    · subst hy; simp [occ, pre, h]
    · simp [occ, pre, h, hy]
    · subst hy; simp [occ, pre, h]
    · simp [occ, pre, h, hy]
  | .fn y t, b => by simp only [occ, pre, List.map_cons, ← inc_flag, occ_pre x t]; simp
  | .call f a, b => by simp only [occ, pre, List.map_cons, List.map_append, occ_pre x f, occ_pre x a]; simp
  | .plus f a, b => by simp only [occ, pre, List.map_cons, List.map_append, occ_pre x f, occ_pre x a]; simp
  | .less f a, b => by simp only [occ, pre, List.map_cons, List.map_append, occ_pre x f, occ_pre x a]; simp
  | .ite c f a, b => by simp only [occ, pre, List.map_cons, List.map_append, occ_pre x c, occ_pre x f, occ_pre x a]; simp
  | .lt y e t, b => by simp only [occ, pre, List.map_cons, List.map_append, ← inc_flag, occ_pre x e, occ_pre x t]; simp
/-- where a free name stands first -/
def wh (P : List (Option Str)) (x : Str) : Int := firstT (P.map fun o => decide (o = some x)) 0
theorem whereT_pre (x : Str) (t : Tr) : whereT x t = wh (pre (fun _ => 0) t) x := by
  unfold whereT wh
  rw [← occ_pre]
  rfl
theorem firstT_at : ∀ (A B : List Bool) (k : Int), (∀ a ∈ A, a = false) → firstT (A ++ true :: B) k = k + A.length
  | [], _, k, _ => by simp [firstT]
  | a :: A, B, k, h => by
    have e : a = false := h a (List.mem_cons_self)
    subst e
    show firstT (A ++ true :: B) (k + 1) = _
    rw [firstT_at A B (k + 1) fun a ha => h a (List.mem_cons_of_mem _ ha), List.length_cons]
    omega
theorem firstT_none : ∀ (A : List Bool) (k : Int), (∀ a ∈ A, a = false) → firstT A k = -1
  | [], _, _ => rfl
  | a :: A, k, h => by
    have e : a = false := h a (List.mem_cons_self)
    subst e
    exact firstT_none A (k + 1) fun a ha => h a (List.mem_cons_of_mem _ ha)
theorem wh_at {A B : List (Option Str)} {x : Str} (h : some x ∉ A) : wh (A ++ some x :: B) x = A.length := by
  unfold wh
  rw [List.map_append, List.map_cons, decide_eq_true rfl, firstT_at _ _ _ (fun a ha => ?_), List.length_map]
  · omega
  · obtain ⟨o, ho, rfl⟩ := List.mem_map.mp ha
    exact decide_eq_false fun e => h (e ▸ ho)
theorem wh_none {P : List (Option Str)} {x : Str} (h : some x ∉ P) : wh P x = -1 := by
  unfold wh
  refine firstT_none _ _ fun a ha => ?_
  obtain ⟨o, ho, rfl⟩ := List.mem_map.mp ha
  exact decide_eq_false fun e => h (e ▸ ho)
theorem wh_mem {P : List (Option Str)} {x : Str} (h : some x ∈ P) : ∃ A B, P = A ++ some x :: B ∧ some x ∉ A ∧ wh P x = A.length := by
  obtain ⟨A, B, e, hA⟩ := List.eq_append_cons_of_mem h
  exact ⟨A, B, e, hA, by rw [e]; exact wh_at hA⟩
theorem wh_inj {P : List (Option Str)} {x y : Str} (hx : some x ∈ P) (hy : some y ∈ P) (h : wh P x = wh P y) : x = y := by
  obtain ⟨A, B, e, _, h1⟩ := wh_mem hx
  obtain ⟨A', B', e', _, h2⟩ := wh_mem hy
  have hl : A.length = A'.length := by omega
  rw [e] at e'
  obtain ⟨_, e2⟩ := List.append_inj e' hl
  have := (List.cons.inj e2).1
  exact Option.some.inj this
/-- each once, by where it stands first -/
structure DdOk (P A : List (Option Str)) (fs : List Str) : Prop where
  mem : ∀ x, x ∈ fs ↔ some x ∈ A
  pw : fs.Pairwise fun x y => wh P x < wh P y
theorem dd_ok (P : List (Option Str)) : ∀ (B A : List (Option Str)) (fs : List Str), P = A ++ B → DdOk P A fs → DdOk P P (dd fs (B.filterMap id))
  | [], A, fs, e, h => by
    have e2 : P = A := by rw [e, List.append_nil]
    show DdOk P P fs
    rw [← e2] at h
    exact h
  | none :: B, A, fs, e, h => by
    refine dd_ok P B (A ++ [none]) fs (by rw [e]; simp) ⟨fun x => ?_, h.pw⟩
    rw [h.mem x]; simp
  | some x :: B, A, fs, e, h => by
    show DdOk P P (dd (if x ∈ fs then fs else fs ++ [x]) (B.filterMap id))
    refine dd_ok P B (A ++ [some x]) _ (by rw [e]; simp) ?_
    by_cases hx : x ∈ fs
    · rw [if_pos hx]
      refine ⟨fun y => ?_, h.pw⟩
      rw [h.mem y]
      constructor
      · intro hy; simp [hy]
      · intro hy
        rcases List.mem_append.mp hy with hy | hy
        · exact hy
        · have : y = x := Option.some.inj (List.mem_singleton.mp hy)
          subst this
          exact (h.mem y).mp hx
    · rw [if_neg hx]
      refine ⟨fun y => ?_, ?_⟩
      · rw [List.mem_append, h.mem y, List.mem_append, List.mem_singleton, List.mem_singleton]
        simp
      · rw [List.pairwise_append]
        refine ⟨h.pw, by simp, fun y hy z hz => ?_⟩
        have hz : z = x := List.mem_singleton.mp hz
        subst hz
        have h1 : wh P z = A.length := by rw [e]; exact wh_at fun q => hx ((h.mem z).mpr q)
        obtain ⟨A1, B1, e1, h2, h3⟩ := wh_mem ((h.mem y).mp hy)
        have h4 : wh P y = A1.length := by
          rw [e, e1, List.append_assoc]
          exact wh_at h2
        have : A1.length < A.length := by rw [e1]; simp
        omega
theorem freeNames_ok (t : Tr) : DdOk (pre (fun _ => 0) t) (pre (fun _ => 0) t) (freeNames t) := by
  unfold freeNames
  rw [frees_pre]
  exact dd_ok _ _ [] [] rfl ⟨fun x => by simp, .nil⟩
/-- what the law asks: the rows of the names, sorted by where, without those that stand nowhere -/
theorem due_eq {t : Tr} {names : List Str} (hn : names.Nodup) (hm : ∀ x, some x ∈ pre (fun _ => 0) t → x ∈ names) {cs : List (Int × Str)} (hp : cs.Perm (names.map fun x => (whereT x t, x))) (hs : cs.Pairwise fun b c => b.1 ≤ c.1) :
    (cs.filter fun c => decide (0 ≤ c.1)).map (·.2) = freeNames t := by
  generalize hP : pre (fun _ => 0) t = P at hm
  have F := freeNames_ok t
  rw [hP] at F
  have hw : ∀ x, whereT x t = wh P x := fun x => by rw [whereT_pre, hP]
  have hrow : ∀ c ∈ cs, c.1 = wh P c.2 ∧ c.2 ∈ names := by
    intro c hc
    obtain ⟨x, hx, rfl⟩ := List.mem_map.mp ((hp.mem_iff).mp hc)
    exact ⟨hw x, hx⟩
  have hpos : ∀ x, 0 ≤ wh P x ↔ some x ∈ P := by
    intro x
    by_cases h : some x ∈ P
    · obtain ⟨A, B, _, _, h1⟩ := wh_mem h
      simp only [h, iff_true]
      omega
    · rw [wh_none h]
      simp [h]
  have hnd : (cs.map (·.2)).Nodup := by
    have h1 : (cs.map (·.2)).Perm names := by
      have := hp.map (·.2)
      rw [List.map_map] at this
      simpa [Function.comp_def] using this
    exact h1.nodup_iff.mpr hn
  have hlist : ((cs.filter fun c => decide (0 ≤ c.1)).map (·.2)).Pairwise fun x y => wh P x < wh P y := by
    rw [List.pairwise_map]
    have h2 : (cs.filter fun c => decide (0 ≤ c.1)).Pairwise fun b c => b.1 ≤ c.1 ∧ b.2 ≠ c.2 := by
      refine List.Pairwise.filter _ ?_
      rw [List.Nodup, List.pairwise_map] at hnd
      exact hs.and hnd
    refine List.Pairwise.imp_of_mem ?_ h2
    rintro b c hb hc ⟨h3, h4⟩
    obtain ⟨hb1, hb2⟩ := List.mem_filter.mp hb
    obtain ⟨hc1, hc2⟩ := List.mem_filter.mp hc
    have e1 := (hrow b hb1).1
    have e2 := (hrow c hc1).1
    have p1 : some b.2 ∈ P := (hpos b.2).mp (by rw [← e1]; exact of_decide_eq_true hb2)
    have p2 : some c.2 ∈ P := (hpos c.2).mp (by rw [← e2]; exact of_decide_eq_true hc2)
    have : wh P b.2 ≠ wh P c.2 := fun e => h4 (wh_inj p1 p2 e)
    omega
  refine List.Perm.eq_of_pairwise (le := fun x y => wh P x < wh P y) (fun a b _ _ h1 h2 => by omega) hlist F.pw ?_
  have nd1 : ((cs.filter fun c => decide (0 ≤ c.1)).map (·.2)).Nodup := hlist.imp fun h e => by subst e; omega
  have nd2 : (freeNames t).Nodup := F.pw.imp fun h e => by subst e; omega
  rw [List.perm_ext_iff_of_nodup nd1 nd2]
  intro x
  rw [F.mem x]
  constructor
  · intro h
    obtain ⟨c, hc, rfl⟩ := List.mem_map.mp h
    obtain ⟨hc1, hc2⟩ := List.mem_filter.mp hc
    exact (hpos c.2).mp (by rw [← (hrow c hc1).1]; exact of_decide_eq_true hc2)
  · intro h
    have : (whereT x t, x) ∈ cs := hp.mem_iff.mpr (List.mem_map.mpr ⟨x, hm x h, rfl⟩)
    refine List.mem_map.mpr ⟨_, List.mem_filter.mpr ⟨this, decide_eq_true ?_⟩, rfl⟩
    show 0 ≤ whereT x t
    rw [hw]
    exact (hpos x).mpr h
theorem pre_all {S : Str → Prop} {N : Int → Prop} : ∀ {t : Tr} (b : Str → Nat), t.all S N → ∀ x, some x ∈ pre b t → S x
  | .num _, _, _, x, h => by simp [pre] at h
  | .name y, b, ha, x, h => by
    by_cases hb : b y = 0
    · simp [pre, hb] at h; subst h; exact ha
    · simp [pre, hb] at h
  | .fn y t, b, ha, x, h => by simp only [pre, List.mem_cons, reduceCtorEq, false_or] at h; exact pre_all _ ha.2 x h
  | .call f a, b, ha, x, h => by
    simp only [pre, List.mem_cons, List.mem_append, reduceCtorEq, false_or] at h
    rcases h with h | h
    · exact pre_all _ ha.1 x h
    · exact pre_all _ ha.2 x h
  | .plus f a, b, ha, x, h => by
    simp only [pre, List.mem_cons, List.mem_append, reduceCtorEq, false_or] at h
    rcases h with h | h
    · exact pre_all _ ha.1 x h
    · exact pre_all _ ha.2 x h
  | .less f a, b, ha, x, h => by
    simp only [pre, List.mem_cons, List.mem_append, reduceCtorEq, false_or] at h
    rcases h with h | h
    · exact pre_all _ ha.1 x h
    · exact pre_all _ ha.2 x h
  | .ite c f a, b, ha, x, h => by
    simp only [pre, List.mem_cons, List.mem_append, reduceCtorEq, false_or] at h
    rcases h with h | h | h
    · exact pre_all _ ha.1 x h
    · exact pre_all _ ha.2.1 x h
    · exact pre_all _ ha.2.2 x h
  | .lt y e t, b, ha, x, h => by
    simp only [pre, List.mem_cons, List.mem_append, reduceCtorEq, false_or] at h
    rcases h with h | h
    · exact pre_all _ ha.2.1 x h
    · exact pre_all _ ha.2.2 x h
/-! ### the names stand apart -/
def cellN (first : Int) (k : Nat) : Int := first - first % 26 + (first + 7 * (k : Int)) % 26
theorem cellN_26 (first : Int) (k : Nat) : cellN first k / 26 = first / 26 ∧ cellN first k / 208 = first / 208 ∧ cellN first k % 26 = (first + 7 * (k : Int)) % 26 := by
  unfold cellN
  omega
theorem nameBy_k (m first : Int) (k : Nat) : nameBy m (cellN first k) = wordOf (othersOf m first) (first / 208 % ((othersOf m first).length + 1 : Int)).toNat (lett (cellN first k)) := by
  obtain ⟨h1, h2, h3⟩ := cellN_26 first k
  have e : othersOf m (cellN first k) = othersOf m first := by unfold othersOf; rw [h1, h2]
  unfold nameBy
  rw [e, h2]
theorem names1_nodup (m first : Int) {many : Nat} (hm : many ≤ 26) : ((List.range many).map fun k => mkS (nameBy m (cellN first k))).Nodup := by
  rw [List.Nodup, List.pairwise_map]
  refine List.Pairwise.imp_of_mem ?_ List.pairwise_lt_range
  intro i j hi hj hij e
  have hi := List.mem_range.mp hi
  have hj := List.mem_range.mp hj
  have e1 := mkS_inj e
  rw [nameBy_k, nameBy_k] at e1
  have e2 := wordOf_inj e1
  have h3 := (cellN_26 first i).2.2
  have h4 := (cellN_26 first j).2.2
  unfold lett at e2
  rw [h3, h4] at e2
  have := Int.emod_nonneg (first + 7 * (i : Int)) (by decide : (26 : Int) ≠ 0)
  have := Int.emod_nonneg (first + 7 * (j : Int)) (by decide : (26 : Int) ≠ 0)
  omega
theorem kinWord_mod (c : Int) : kinWord c = kinWord (((c % 26).toNat : Nat) : Int) := by
  unfold kinWord
  refine List.map_congr_left fun k _ => ?_
  unfold lett
  have : (c + 3 * (k : Int)) % 26 = ((((c % 26).toNat : Nat) : Int) + 3 * (k : Int)) % 26 := by omega
  rw [this]
theorem kinA6 : ∀ r : Nat, r < 26 → ((List.range 6).map fun k => (kinWord (r : Int)).take (k + 1)).Nodup := by decide +kernel
theorem kinA : ∀ r : Nat, r < 26 → ((List.range 4).map fun k => (kinWord (r : Int)).take (k + 1)).Nodup := by decide +kernel
theorem kinB : ∀ r : Nat, r < 26 → (kinTurned (r : Int) ++ (kinTurned (r : Int)).map List.reverse).Nodup := by decide +kernel
theorem kinBy_nodup (c : Int) {many : Nat} (hm : many = 4 ∨ many = 12 ∨ many = 6) : (kinBy c many).Nodup := by
  have h0 : 0 ≤ c % 26 := Int.emod_nonneg _ (by decide)
  have h1 : c % 26 < 26 := Int.emod_lt_of_pos _ (by decide)
  have ht : kinTurned c = kinTurned (((c % 26).toNat : Nat) : Int) := by unfold kinTurned; rw [kinWord_mod c]
  unfold kinBy
  split
  · rename_i h
    rcases hm with rfl | rfl | rfl
    · rw [kinWord_mod c]
      exact kinA _ (by omega)
    · omega
    · rw [kinWord_mod c]
      exact kinA6 _ (by omega)
  · rw [ht]
    exact (kinB _ (by omega)).sublist (List.take_sublist _ _)
theorem map_mkS_nodup {l : List (List Nat)} (h : l.Nodup) : (l.map mkS).Nodup := by
  rw [List.Nodup, List.pairwise_map]
  exact h.imp fun hne e => hne (mkS_inj e)
end My

namespace My
open PySem L2
/-! ### what holds of all functions that a machine makes -/
theorem bind_ok {x : Rv} {f : Val → Nat → List Val → Rv} {u : Val} {m : Nat} {L : List Val} (h : x.bind f = .ok u m L) : ∃ v m1 l1, x = .ok v m1 l1 ∧ f v m1 l1 = .ok u m L := by
  cases x with
  | ok v m1 l1 => exact ⟨v, m1, l1, rfl, h⟩
  | err c => cases h
  | dry => cases h
theorem deed_ok {m m' : Nat} {f : Nat → Rv} {u : Val} {L : List Val} (h : deed m f = .ok u m' L) : ∃ m1, m = m1 + 1 ∧ f m1 = .ok u m' L := by
  cases m with
  | zero => cases h
  | succ m1 => exact ⟨m1, rfl, h⟩
theorem log_ok {r : Rv} {l L : List Val} {u : Val} {m : Nat} (h : r.log l = .ok u m L) : ∃ l', r = .ok u m l' ∧ L = l ++ l' := by
  cases r with
  | ok v m1 l1 => cases h; exact ⟨l1, rfl, rfl⟩
  | err c => cases h
  | dry => cases h
theorem arith_ok {f : Int → Int → Int} {v w u : Val} {m m' : Nat} {l L : List Val} (h : arith f v w m l = .ok u m' L) : ∃ a b, v = .num a ∧ w = .num b ∧ u = .num (f a b) ∧ m' = m ∧ L = l := by
  unfold arith at h
  split at h
  · cases h; exact ⟨_, _, rfl, rfl, rfl, rfl, rfl⟩
  · cases h
theorem evF_left {m m' : Nat} {e : Env} {t : Tr} {u : Val} {L : List Val} (h : evF m e t = .ok u m' L) : m' ≤ m := by
  have := ev_left (fl := freeNames) (m := m) (e := e) (a := t)
  rw [show ev freeNames m e t = .ok u m' L from h] at this
  exact this
mutual
/-- all functions within have Q -/
def Val.sub (Q : Val → Prop) : Val → Prop
  | .num _ => True
  | .fn x b e => Q (.fn x b e) ∧ e.sub Q
def Env.sub (Q : Val → Prop) : Env → Prop
  | .nil => True
  | .cons _ v e => v.sub Q ∧ e.sub Q
end
theorem Env.sub_look {Q : Val → Prop} : ∀ {e : Env} {x : Str} {v : Val}, e.sub Q → e.look x = some v → v.sub Q
  | .nil, x, v, _, h => by cases h
  | .cons y u e, x, v, ha, h => by
    have h : (if x = y then some u else e.look x) = some v := h
    split at h
    · cases h; exact ha.1
    · exact Env.sub_look ha.2 h
theorem Env.sub_keep {Q : Val → Prop} {e : Env} (ha : e.sub Q) : ∀ ns : List Str, (e.keep ns).sub Q
  | [] => trivial
  | y :: r => by
    show (match e.look y with | some v => Env.cons y v (e.keep r) | none => e.keep r).sub Q
    cases h : e.look y with
    | none => exact Env.sub_keep ha r
    | some v => exact ⟨Env.sub_look ha h, Env.sub_keep ha r⟩
theorem ev_sub {Q : Val → Prop} : ∀ (m : Nat) (t : Tr) (e : Env) (u : Val) (m' : Nat) (L : List Val), e.sub Q → evF m e t = .ok u m' L → (∀ w ∈ L, Q w) → u.sub Q ∧ ∀ w ∈ L, w.sub Q
  | m, .num n, e, u, m', L, he, h, hL => by
    rw [show evF m e (.num n) = _ from ev_num] at h
    cases h
    exact ⟨trivial, fun w hw => by cases hw⟩
  | m, .name x, e, u, m', L, he, h, hL => by
    rw [show evF m e (.name x) = _ from ev_name] at h
    cases hx : e.look x with
    | none => rw [hx] at h; cases h
    | some v =>
      rw [hx] at h
      cases h
      exact ⟨Env.sub_look he hx, fun w hw => by cases hw⟩
  | m, .fn x b, e, u, m', L, he, h, hL => by
    rw [show evF m e (.fn x b) = _ from ev_fn] at h
    cases h
    have h1 : Val.sub Q (.fn x b (e.keep (freeNames (.fn x b)))) := ⟨hL _ List.mem_cons_self, Env.sub_keep he _⟩
    exact ⟨h1, fun w hw => by rw [List.mem_singleton.mp hw]; exact h1⟩
  | m, .plus a b, e, u, m', L, he, h, hL => by
    rw [show evF m e (.plus a b) = _ from ev_plus] at h
    obtain ⟨v, m1, l1, h1, h⟩ := bind_ok h
    obtain ⟨w, m2, l2, h2, h⟩ := bind_ok h
    obtain ⟨m3, rfl, h⟩ := deed_ok h
    obtain ⟨i, j, rfl, rfl, rfl, rfl, rfl⟩ := arith_ok h
    have le1 := evF_left h1
    obtain ⟨s1, q1⟩ := ev_sub m a e _ _ _ he h1 fun w hw => hL w (by simp [hw])
    obtain ⟨s2, q2⟩ := ev_sub m1 b e _ _ _ he h2 fun w hw => hL w (by simp [hw])
    exact ⟨trivial, fun w hw => (List.mem_append.mp hw).elim (q1 w) (q2 w)⟩
  | m, .less a b, e, u, m', L, he, h, hL => by
    rw [show evF m e (.less a b) = _ from ev_less] at h
    obtain ⟨v, m1, l1, h1, h⟩ := bind_ok h
    obtain ⟨w, m2, l2, h2, h⟩ := bind_ok h
    obtain ⟨m3, rfl, h⟩ := deed_ok h
    obtain ⟨i, j, rfl, rfl, rfl, rfl, rfl⟩ := arith_ok h
    have le1 := evF_left h1
    obtain ⟨s1, q1⟩ := ev_sub m a e _ _ _ he h1 fun w hw => hL w (by simp [hw])
    obtain ⟨s2, q2⟩ := ev_sub m1 b e _ _ _ he h2 fun w hw => hL w (by simp [hw])
    exact ⟨trivial, fun w hw => (List.mem_append.mp hw).elim (q1 w) (q2 w)⟩
  | m, .call a b, e, u, m', L, he, h, hL => by
    rw [show evF m e (.call a b) = _ from ev_call] at h
    obtain ⟨v, m1, l1, h1, h⟩ := bind_ok h
    obtain ⟨w, m2, l2, h2, h⟩ := bind_ok h
    obtain ⟨m3, rfl, h⟩ := deed_ok h
    cases v with
    | num n => cases h
    | fn x t e' =>
      obtain ⟨l3, h3, rfl⟩ := log_ok h
      have le1 := evF_left h1
      have le2 := evF_left h2
      obtain ⟨s1, q1⟩ := ev_sub m a e _ _ _ he h1 fun w hw => hL w (by simp [hw])
      obtain ⟨s2, q2⟩ := ev_sub m1 b e _ _ _ he h2 fun w hw => hL w (by simp [hw])
      obtain ⟨s3, q3⟩ := ev_sub m3 t _ _ _ _ (show Env.sub Q (.cons x w e') from ⟨s2, s1.2⟩) h3 fun w hw => hL w (by simp [hw])
      exact ⟨s3, fun w hw => (List.mem_append.mp hw).elim (fun hw => (List.mem_append.mp hw).elim (q1 w) (q2 w)) (q3 w)⟩
  | m, .ite c a b, e, u, m', L, he, h, hL => by
    rw [show evF m e (.ite c a b) = _ from ev_ite] at h
    obtain ⟨v, m1, l1, h1, h⟩ := bind_ok h
    obtain ⟨m3, rfl, h⟩ := deed_ok h
    cases v with
    | fn x t e' => cases h
    | num n =>
      obtain ⟨l3, h3, rfl⟩ := log_ok h
      have le1 := evF_left h1
      obtain ⟨s1, q1⟩ := ev_sub m c e _ _ _ he h1 fun w hw => hL w (by simp [hw])
      by_cases hn : n = 0
      · rw [if_pos hn] at h3
        obtain ⟨s3, q3⟩ := ev_sub m3 b e _ _ _ he h3 fun w hw => hL w (by simp [hw])
        exact ⟨s3, fun w hw => (List.mem_append.mp hw).elim (q1 w) (q3 w)⟩
      · rw [if_neg hn] at h3
        obtain ⟨s3, q3⟩ := ev_sub m3 a e _ _ _ he h3 fun w hw => hL w (by simp [hw])
        exact ⟨s3, fun w hw => (List.mem_append.mp hw).elim (q1 w) (q3 w)⟩
  | m, .lt x a b, e, u, m', L, he, h, hL => by
    rw [show evF m e (.lt x a b) = _ from ev_lt] at h
    obtain ⟨v, m1, l1, h1, h⟩ := bind_ok h
    obtain ⟨m3, rfl, h⟩ := deed_ok h
    obtain ⟨l3, h3, rfl⟩ := log_ok h
    have le1 := evF_left h1
    obtain ⟨s1, q1⟩ := ev_sub m a e _ _ _ he h1 fun w hw => hL w (by simp [hw])
    obtain ⟨s3, q3⟩ := ev_sub m3 b _ _ _ _ (show Env.sub Q (.cons x v e) from ⟨s1, he⟩) h3 fun w hw => hL w (by simp [hw])
    exact ⟨s3, fun w hw => (List.mem_append.mp hw).elim (q1 w) (q3 w)⟩
termination_by m t => (m, t.size)
decreasing_by
  all_goals (simp only [Tr.size] at *; first | exact lexle (by omega) (by omega) | exact Prod.Lex.left _ _ (by omega))
theorem Env.Cov.cons {x : Str} {v : Val} {e : Env} {b : Tr} (h : ∀ y, y ≠ x → b.fr y → ∃ v, e.look y = some v) : (Env.cons x v e).Cov b := fun y hy => by
  by_cases hx : y = x
  · exact ⟨v, by show (if y = x then some v else e.look y) = _; rw [if_pos hx]⟩
  · obtain ⟨u, hu⟩ := h y hx hy
    exact ⟨u, by show (if y = x then some v else e.look y) = _; rw [if_neg hx]; exact hu⟩
theorem ev_log {Q : Val → Prop} {t0 : Tr} (hQ : ∀ x b e, t0.In (.fn x b) → e.sub Q → e.Cov (.fn x b) → Q (keptV x b e)) (hI : ∀ x b e, Q (.fn x b e) → t0.In (.fn x b) ∧ e.Cov (.fn x b)) :
    ∀ (m : Nat) (t : Tr) (e : Env) (u : Val) (m' : Nat) (L : List Val), t0.In t → e.sub Q → e.Cov t → evF m e t = .ok u m' L → ∀ w ∈ L, Q w
  | m, .num n, e, u, m', L, hi, he, hc, h => by
    rw [show evF m e (.num n) = _ from ev_num] at h
    cases h
    exact fun w hw => by cases hw
  | m, .name x, e, u, m', L, hi, he, hc, h => by
    rw [show evF m e (.name x) = _ from ev_name] at h
    cases hx : e.look x with
    | none => rw [hx] at h; cases h
    | some v =>
      rw [hx] at h
      cases h
      exact fun w hw => by cases hw
  | m, .fn x b, e, u, m', L, hi, he, hc, h => by
    rw [show evF m e (.fn x b) = _ from ev_fn] at h
    cases h
    intro w hw
    rw [List.mem_singleton.mp hw]
    exact hQ x b e hi he hc
  | m, .plus a b, e, u, m', L, hi, he, hc, h => by
    rw [show evF m e (.plus a b) = _ from ev_plus] at h
    obtain ⟨v, m1, l1, h1, h⟩ := bind_ok h
    obtain ⟨w, m2, l2, h2, h⟩ := bind_ok h
    obtain ⟨m3, rfl, h⟩ := deed_ok h
    obtain ⟨i, j, rfl, rfl, rfl, rfl, rfl⟩ := arith_ok h
    have le1 := evF_left h1
    have q1 := ev_log hQ hI m a e _ _ _ (hi.kid (by simp [Tr.kids])) he (fun y hy => hc y (.inl hy)) h1
    have q2 := ev_log hQ hI m1 b e _ _ _ (hi.kid (by simp [Tr.kids])) he (fun y hy => hc y (.inr hy)) h2
    exact fun w hw => (List.mem_append.mp hw).elim (q1 w) (q2 w)
  | m, .less a b, e, u, m', L, hi, he, hc, h => by
    rw [show evF m e (.less a b) = _ from ev_less] at h
    obtain ⟨v, m1, l1, h1, h⟩ := bind_ok h
    obtain ⟨w, m2, l2, h2, h⟩ := bind_ok h
    obtain ⟨m3, rfl, h⟩ := deed_ok h
    obtain ⟨i, j, rfl, rfl, rfl, rfl, rfl⟩ := arith_ok h
    have le1 := evF_left h1
    have q1 := ev_log hQ hI m a e _ _ _ (hi.kid (by simp [Tr.kids])) he (fun y hy => hc y (.inl hy)) h1
    have q2 := ev_log hQ hI m1 b e _ _ _ (hi.kid (by simp [Tr.kids])) he (fun y hy => hc y (.inr hy)) h2
    exact fun w hw => (List.mem_append.mp hw).elim (q1 w) (q2 w)
  | m, .call a b, e, u, m', L, hi, he, hc, h => by
    rw [show evF m e (.call a b) = _ from ev_call] at h
    obtain ⟨v, m1, l1, h1, h⟩ := bind_ok h
    obtain ⟨w, m2, l2, h2, h⟩ := bind_ok h
    obtain ⟨m3, rfl, h⟩ := deed_ok h
    cases v with
    | num n => cases h
    | fn x t e' =>
      obtain ⟨l3, h3, rfl⟩ := log_ok h
      have le1 := evF_left h1
      have le2 := evF_left h2
      have q1 := ev_log hQ hI m a e _ _ _ (hi.kid (by simp [Tr.kids])) he (fun y hy => hc y (.inl hy)) h1
      have q2 := ev_log hQ hI m1 b e _ _ _ (hi.kid (by simp [Tr.kids])) he (fun y hy => hc y (.inr hy)) h2
      obtain ⟨s1, _⟩ := ev_sub _ _ _ _ _ _ he h1 q1
      obtain ⟨s2, _⟩ := ev_sub _ _ _ _ _ _ he h2 q2
      obtain ⟨i1, c1⟩ := hI _ _ _ s1.1
      have q3 := ev_log hQ hI m3 t _ _ _ _ (i1.kid (by simp [Tr.kids])) (show Env.sub Q (.cons x w e') from ⟨s2, s1.2⟩) (Env.Cov.cons fun y hy hf => c1 y ⟨fun z => hy z.symm, hf⟩) h3
      exact fun w hw => (List.mem_append.mp hw).elim (fun hw => (List.mem_append.mp hw).elim (q1 w) (q2 w)) (q3 w)
  | m, .ite c a b, e, u, m', L, hi, he, hc, h => by
    rw [show evF m e (.ite c a b) = _ from ev_ite] at h
    obtain ⟨v, m1, l1, h1, h⟩ := bind_ok h
    obtain ⟨m3, rfl, h⟩ := deed_ok h
    cases v with
    | fn x t e' => cases h
    | num n =>
      obtain ⟨l3, h3, rfl⟩ := log_ok h
      have le1 := evF_left h1
      have q1 := ev_log hQ hI m c e _ _ _ (hi.kid (by simp [Tr.kids])) he (fun y hy => hc y (.inl hy)) h1
      by_cases hn : n = 0
      · rw [if_pos hn] at h3
        have q3 := ev_log hQ hI m3 b e _ _ _ (hi.kid (by simp [Tr.kids])) he (fun y hy => hc y (.inr (.inr hy))) h3
        exact fun w hw => (List.mem_append.mp hw).elim (q1 w) (q3 w)
      · rw [if_neg hn] at h3
        have q3 := ev_log hQ hI m3 a e _ _ _ (hi.kid (by simp [Tr.kids])) he (fun y hy => hc y (.inr (.inl hy))) h3
        exact fun w hw => (List.mem_append.mp hw).elim (q1 w) (q3 w)
  | m, .lt x a b, e, u, m', L, hi, he, hc, h => by
    rw [show evF m e (.lt x a b) = _ from ev_lt] at h
    obtain ⟨v, m1, l1, h1, h⟩ := bind_ok h
    obtain ⟨m3, rfl, h⟩ := deed_ok h
    obtain ⟨l3, h3, rfl⟩ := log_ok h
    have le1 := evF_left h1
    have q1 := ev_log hQ hI m a e _ _ _ (hi.kid (by simp [Tr.kids])) he (fun y hy => hc y (.inl hy)) h1
    obtain ⟨s1, _⟩ := ev_sub _ _ _ _ _ _ he h1 q1
    have q3 := ev_log hQ hI m3 b _ _ _ _ (hi.kid (by simp [Tr.kids])) (show Env.sub Q (.cons x v e) from ⟨s1, he⟩) (Env.Cov.cons fun y hy hf => hc y (.inr ⟨fun z => hy z.symm, hf⟩)) h3
    exact fun w hw => (List.mem_append.mp hw).elim (q1 w) (q3 w)
termination_by m t => (m, t.size)
decreasing_by
  all_goals (simp only [Tr.size] at *; first | exact lexle (by omega) (by omega) | exact Prod.Lex.left _ _ (by omega))
def Env.names : Env → List Str
  | .nil => []
  | .cons y _ e => y :: e.names
theorem Env.names_keep {e : Env} : ∀ {ns : List Str}, (∀ y ∈ ns, ∃ v, e.look y = some v) → (e.keep ns).names = ns
  | [], _ => rfl
  | y :: r, h => by
    obtain ⟨v, hv⟩ := h y List.mem_cons_self
    show (match e.look y with | some v => Env.cons y v (e.keep r) | none => e.keep r).names = _
    rw [hv]
    show y :: (e.keep r).names = _
    rw [Env.names_keep fun z hz => h z (List.mem_cons_of_mem _ hz)]
/-- a function as it is made -/
def Made (t0 : Tr) : Val → Prop
  | .num _ => False
  | .fn x b e => t0.In (.fn x b) ∧ e.Cov (.fn x b) ∧ e.names = freeNames (.fn x b)
theorem made_kept {t0 : Tr} {x : Str} {b : Tr} {e : Env} (hi : t0.In (.fn x b)) (hc : e.Cov (.fn x b)) : Made t0 (keptV x b e) :=
  ⟨hi, fun y hy => by
    obtain ⟨v, hv⟩ := hc y hy
    exact ⟨v, by rw [Env.look_keep, if_pos (fl_mem _ _ hy), hv]⟩, Env.names_keep fun y hy => hc y (freeNames_fr hy)⟩
/-- all that is made of a closed tree -/
theorem made_all {m m' : Nat} {t : Tr} {u : Val} {L : List Val} (hc : t.closed) (h : evF m .nil t = .ok u m' L) : (∀ w ∈ L, Made t w) ∧ u.sub (Made t) ∧ (∀ w ∈ L, w.sub (Made t)) ∧ u.sub (· ∈ L) ∧ ∀ w ∈ L, w.sub (· ∈ L) := by
  have q := ev_log (Q := Made t) (t0 := t) (fun x b e hi _ hc => made_kept hi hc) (fun x b e h => ⟨h.1, h.2.1⟩) m t .nil u m' L .here trivial (fun y hy => absurd hy (hc y)) h
  obtain ⟨h1, h2⟩ := ev_sub m t .nil u m' L (Q := Made t) trivial h q
  obtain ⟨h3, h4⟩ := ev_sub m t .nil u m' L (Q := (· ∈ L)) trivial h fun _ z => z
  exact ⟨q, h1, h2, h3, h4⟩
theorem Made.fn {t0 : Tr} : ∀ {w : Val}, Made t0 w → ∃ x b e, w = .fn x b e
  | .fn x b e, _ => ⟨x, b, e, rfl⟩
end My

namespace My
open PySem L2
/-- each function's free names are of S -/
def Tr.fnsIn (S : Str → Prop) : Tr → Prop
  | .num _ => True
  | .name _ => True
  | .fn x b => (∀ y, (Tr.fn x b).fr y → S y) ∧ b.fnsIn S
  | .call f a => f.fnsIn S ∧ a.fnsIn S
  | .plus f a => f.fnsIn S ∧ a.fnsIn S
  | .less f a => f.fnsIn S ∧ a.fnsIn S
  | .ite c f a => c.fnsIn S ∧ f.fnsIn S ∧ a.fnsIn S
  | .lt _ e b => e.fnsIn S ∧ b.fnsIn S
theorem fr_all {S : Str → Prop} {N : Int → Prop} : ∀ {t : Tr}, t.all S N → ∀ y, t.fr y → S y
  | .num _, _, _, h => h.elim
  | .name x, h, y, e => by cases e; exact h
  | .fn _ b, h, y, e => fr_all h.2 y e.2
  | .call _ _, h, y, e => e.elim (fr_all h.1 y) (fr_all h.2 y)
  | .plus _ _, h, y, e => e.elim (fr_all h.1 y) (fr_all h.2 y)
  | .less _ _, h, y, e => e.elim (fr_all h.1 y) (fr_all h.2 y)
  | .ite _ _ _, h, y, e => e.elim (fr_all h.1 y) fun e => e.elim (fr_all h.2.1 y) (fr_all h.2.2 y)
  | .lt _ _ _, h, y, e => e.elim (fr_all h.2.1 y) fun e => fr_all h.2.2 y e.2
/-! ### good names -/
theorem isName_mk {l : List Nat} (h1 : 1 ≤ l.length) (h8 : l.length ≤ 8) (hl : ∀ c ∈ l, 97 ≤ c ∧ c < 123) (hr : l ∉ reserved) : isName (mkS l) = true := by
  have hf : Wd.find (mkS l) = none := by
    cases hf : Wd.find (mkS l) with
    | none => rfl
    | some t =>
      exfalso
      have e := Wd.of_find hf
      have : ∃ r ∈ reserved, t.str = mkS r := by
        cases t
        · exact ⟨[110, 117, 109], by decide, by decide +kernel⟩
        · exact ⟨[110, 97, 109, 101], by decide, by decide +kernel⟩
        · exact ⟨[102, 117, 110], by decide, by decide +kernel⟩
        · exact ⟨[99, 97, 108, 108], by decide, by decide +kernel⟩
        · exact ⟨[112, 108, 117, 115], by decide, by decide +kernel⟩
        · exact ⟨[108, 101, 115, 115], by decide, by decide +kernel⟩
        · exact ⟨[105, 102], by decide, by decide +kernel⟩
        · exact ⟨[108, 101, 116], by decide, by decide +kernel⟩
      obtain ⟨r, hm, e2⟩ := this
      exact hr (mkS_inj (e.trans e2) ▸ hm)
  unfold isName
  rw [hf, mkS_len, mkS_cps, decide_eq_true h1, decide_eq_true h8]
  simp only [Option.isNone_none, Bool.and_true, Bool.true_and, List.all_eq_true]
  intro x hx
  unfold isLet
  rw [decide_eq_true (hl x hx).1, decide_eq_true (hl x hx).2]
  rfl
theorem nameBy_isName (m c : Int) : isName (mkS (nameBy m c)) = true := by
  have hol := othersOf_len m c
  have hlet : ∀ x ∈ othersOf m c, 97 ≤ x ∧ x < 123 := by
    intro x hx
    obtain ⟨k, _, rfl⟩ := List.mem_map.mp hx
    exact lett_lt _
  unfold nameBy
  generalize (c / 208 % ((othersOf m c).length + 1 : Int)).toNat = k
  have hw := wordOf_len (othersOf m c) k (lett c)
  refine isName_mk hw.2 (by omega) ?_ ?_
  · intro x hx
    unfold wordOf at hx
    split at hx
    · rw [List.mem_singleton.mp hx]; exact lett_lt _
    · rcases List.mem_append.mp hx with hx | hx
      · rcases List.mem_append.mp hx with hx | hx
        · exact hlet x (List.mem_of_mem_take hx)
        · rw [List.mem_singleton.mp hx]; exact lett_lt _
      · exact hlet x (List.mem_of_mem_drop hx)
  · intro hm
    unfold wordOf at hm
    split at hm
    · have : ∀ r ∈ reserved, 2 ≤ r.length := by decide
      have := this _ hm
      simp at this
    · rename_i h
      exact h hm
theorem kinW_let (c : Int) : ∀ x ∈ kinWord c, 97 ≤ x ∧ x < 123 := by
  intro x hx
  obtain ⟨k, _, rfl⟩ := List.mem_map.mp hx
  exact lett_lt _
theorem kinW_len (c : Int) : (kinWord c).length = 8 := by simp [kinWord]
theorem kinC : ∀ r : Nat, r < 26 → ∀ k : Nat, k < 8 → (kinWord (r : Int)).take (k + 1) ∉ reserved := by decide +kernel
theorem kin_names (c : Int) (many : Nat) : ∀ x ∈ (kinBy c many).map mkS, isName x = true := by
  intro x hx
  obtain ⟨l, hl, rfl⟩ := List.mem_map.mp hx
  have r4 : ∀ r ∈ reserved, r.length ≤ 4 := by decide
  unfold kinBy at hl
  split at hl
  · rename_i h
    obtain ⟨k, hk, rfl⟩ := List.mem_map.mp hl
    have hk := List.mem_range.mp hk
    have h8 : ((kinWord c).take (k + 1)).length = k + 1 := by rw [List.length_take, kinW_len]; omega
    refine isName_mk (by omega) (by omega) (fun x hx => kinW_let c x (List.mem_of_mem_take hx)) ?_
    rw [kinWord_mod c]
    have h0 : 0 ≤ c % 26 := Int.emod_nonneg _ (by decide)
    have h1 : c % 26 < 26 := Int.emod_lt_of_pos _ (by decide)
    exact kinC _ (by omega) k (by omega)
  · have hl := List.mem_of_mem_take hl
    have key : ∀ y ∈ kinTurned c, y.length = 8 ∧ ∀ x ∈ y, 97 ≤ x ∧ x < 123 := by
      intro y hy
      obtain ⟨k, hk, rfl⟩ := List.mem_map.mp hy
      have hk := List.mem_range.mp hk
      refine ⟨by rw [List.length_append, List.length_drop, List.length_take, kinW_len]; omega, fun x hx => ?_⟩
      rcases List.mem_append.mp hx with hx | hx
      · exact kinW_let c x (List.mem_of_mem_drop hx)
      · exact kinW_let c x (List.mem_of_mem_take hx)
    rcases List.mem_append.mp hl with hl | hl
    · obtain ⟨k1, k2⟩ := key l hl
      exact isName_mk (by omega) (by omega) k2 fun h => by have := r4 _ h; omega
    · obtain ⟨y, hy, rfl⟩ := List.mem_map.mp hl
      obtain ⟨k1, k2⟩ := key y hy
      rw [← List.length_reverse] at k1
      exact isName_mk (by omega) (by omega) (fun x hx => k2 x (List.mem_reverse.mp hx)) fun h => by have := r4 _ h; omega
theorem all_mono {S S' : Str → Prop} {N : Int → Prop} (hs : ∀ x, S x → S' x) : ∀ {t : Tr}, t.all S N → t.all S' N
  | .num _, h => h
  | .name x, h => hs x h
  | .fn _ _, h => ⟨hs _ h.1, all_mono hs h.2⟩
  | .call _ _, h => ⟨all_mono hs h.1, all_mono hs h.2⟩
  | .plus _ _, h => ⟨all_mono hs h.1, all_mono hs h.2⟩
  | .less _ _, h => ⟨all_mono hs h.1, all_mono hs h.2⟩
  | .ite _ _ _, h => ⟨all_mono hs h.1, all_mono hs h.2.1, all_mono hs h.2.2⟩
  | .lt _ _ _, h => ⟨hs _ h.1, all_mono hs h.2.1, all_mono hs h.2.2⟩
theorem good_of {xs : List Str} (hx : ∀ x ∈ xs, isName x = true) {t : Tr} (h : t.all (· ∈ xs) N60) : Good t := all_mono hx h
theorem fr_mem {xs : List Str} {N : Int → Prop} {t : Tr} (h : t.all (· ∈ xs) N) {x : Str} (hx : t.fr x) : x ∈ xs := fr_all h x hx
theorem all_fnsIn {S : Str → Prop} {N : Int → Prop} : ∀ {t : Tr}, t.all S N → t.fnsIn S
  | .num _, _ => trivial
  | .name _, _ => trivial
  | .fn x b, h => ⟨fun y hy => fr_all h.2 y hy.2, all_fnsIn h.2⟩
  | .call _ _, h => ⟨all_fnsIn h.1, all_fnsIn h.2⟩
  | .plus _ _, h => ⟨all_fnsIn h.1, all_fnsIn h.2⟩
  | .less _ _, h => ⟨all_fnsIn h.1, all_fnsIn h.2⟩
  | .ite _ _ _, h => ⟨all_fnsIn h.1, all_fnsIn h.2.1, all_fnsIn h.2.2⟩
  | .lt _ _ _, h => ⟨all_fnsIn h.2.1, all_fnsIn h.2.2⟩
theorem fnsIn_in {S : Str → Prop} {t0 t : Tr} (h : t0.In t) (h0 : t0.fnsIn S) : t.fnsIn S := by
  induction h with
  | here => exact h0
  | kid hk hm ih =>
    rename_i t u
    cases t <;> simp only [Tr.kids, List.mem_cons, List.not_mem_nil, or_false] at hm
    · subst hm; exact ih.2
    · rcases hm with rfl | rfl
      · exact ih.1
      · exact ih.2
    · rcases hm with rfl | rfl
      · exact ih.1
      · exact ih.2
    · rcases hm with rfl | rfl
      · exact ih.1
      · exact ih.2
    · rcases hm with rfl | rfl | rfl
      · exact ih.1
      · exact ih.2.1
      · exact ih.2.2
    · rcases hm with rfl | rfl
      · exact ih.1
      · exact ih.2
theorem where_fr (x : Str) (t : Tr) : 0 ≤ whereT x t ↔ t.fr x := by
  rw [whereT_pre, ← fl_iff t x, (freeNames_ok t).mem x]
  by_cases h : some x ∈ pre (fun _ => 0) t
  · obtain ⟨A, B, _, _, h1⟩ := wh_mem h
    simp only [h, iff_true]
    omega
  · rw [wh_none h]
    simp [h]
def spClosed (K : PySem.W.Frag) : Sp := fun vs H Q _ => ∃ (a : Addr) (ns : List Int) (many : Nat), vs = [.ref a, .int many] ∧ SqL K H a (ns.map V.int) ∧ many ≤ 55 ∧
  ∀ (t : Tr) (r : V) (H' : Hp), Same H H' → At H' t r → Good t → t.closed → t.size ≤ 400 → Q r H'
def spClosedW (K : PySem.W.Frag) : Sp := fun vs H Q _ => ∃ (a : Addr) (ns : List Int) (ln : Addr) (xs : List Str), vs = [.ref a, .ref ln] ∧ SqL K H a (ns.map V.int) ∧ H ln = some (.lst (xs.map V.str)) ∧ xs.length = 6 ∧ (∀ x ∈ xs, isName x = true) ∧
  ∀ (t : Tr) (r : V) (H' : Hp), Same H H' → At H' t r → Good t → t.closed → t.size ≤ 400 → t.fnsIn (· ∈ xs) → Q r H'
end My

namespace My
open PySem L2
/-! ### two trees, cell by cell -/
theorem isi_tb {K : PySem.W.Frag} {H : Hp} {a : Addr} {xs : List V} (h : H a = some (.tup xs)) : TyX K H (.ref a) (.type "tuple") ∧ PySem.W.kitOne K (.type "tuple") (.type "bool") = some false := ⟨.base (.tup h), kit_ty (by decide +kernel)⟩
theorem isi_ts {K : PySem.W.Frag} {H : Hp} {a : Addr} {xs : List V} (h : H a = some (.tup xs)) : TyX K H (.ref a) (.type "tuple") ∧ PySem.W.kitOne K (.type "tuple") (.type "str") = some false := ⟨.base (.tup h), kit_ty (by decide +kernel)⟩
inductive Cl where
  | i (n : Int) | s (x : Str) | t (u : Tr)
def Cl.at (H : Hp) : Cl → V → Prop
  | .i n, v => v = .int n
  | .s x, v => v = .str x
  | .t u, v => At H u v
theorem Cl.at.mono {H H' : Hp} (k : KT H H') : ∀ {c : Cl} {v : V}, c.at H v → c.at H' v
  | .i _, _, h => h
  | .s _, _, h => h
  | .t _, _, h => At.mono k h
def Tr.ownC : Tr → List Cl
  | .num n => [.i n] | .name x => [.s x] | .fn x _ => [.s x] | .lt x _ _ => [.s x] | _ => []
def Tr.cls (t : Tr) : List Cl := .s t.word :: t.ownC ++ t.kids.map .t
def Cl.w : Cl → Nat
  | .t u => 8 * u.size
  | _ => 1
theorem Cl.w_pos (c : Cl) : 1 ≤ c.w := by
  cases c with
  | t u => have := u.size_pos; simp only [Cl.w]; omega
  | _ => exact Nat.le_refl _
def Cl.ok : Cl → Cl → Prop
  | .i _, .t _ => False
  | .t _, .i _ => False
  | _, _ => True
theorem cls_ok {t t' : Tr} (hl : t.cls.length = t'.cls.length) : ∀ p ∈ t.cls.zip t'.cls, p.1.ok p.2 := by
  cases t <;> cases t' <;> first
    | (simp [Tr.cls, Tr.ownC, Tr.kids] at hl; done)
    | simp [Tr.cls, Tr.ownC, Tr.kids, Cl.ok]
def wS (rs : List (Cl × Cl)) : Nat := (rs.map fun r => r.1.w).sum
theorem wS_append (a b : List (Cl × Cl)) : wS (a ++ b) = wS a + wS b := by simp [wS]
theorem wS_cons (r : Cl × Cl) (b : List (Cl × Cl)) : wS (r :: b) = r.1.w + wS b := by simp [wS]
theorem wS_nil : wS [] = 0 := rfl
theorem le_wS : ∀ (a : List (Cl × Cl)), a.length ≤ wS a
  | [] => Nat.le_refl _
  | r :: a => by rw [wS_cons, List.length_cons]; have := le_wS a; have := r.1.w_pos; omega
theorem wS_take (a : List (Cl × Cl)) (i : Nat) : wS (a.take i) ≤ wS a := by
  have : wS a = wS (a.take i) + wS (a.drop i) := by rw [← wS_append, List.take_append_drop]
  omega
theorem wS_zip {t t' : Tr} (hl : t.cls.length = t'.cls.length) : wS (t.cls.zip t'.cls) < 8 * t.size := by
  have e : wS (t.cls.zip t'.cls) = (t.cls.map Cl.w).sum := by
    have : ((t.cls.zip t'.cls).map fun r => r.1.w) = t.cls.map Cl.w := by
      have h2 := List.map_fst_zip (l₁ := t.cls) (l₂ := t'.cls) (by omega)
      calc _ = ((t.cls.zip t'.cls).map Prod.fst).map Cl.w := by rw [List.map_map]; rfl
        _ = _ := by rw [h2]
    unfold wS
    rw [this]
  rw [e]
  cases t <;> simp [Tr.cls, Tr.ownC, Tr.kids, Cl.w, Tr.size] <;> omega
theorem At.cls {H : Hp} {t : Tr} {v : V} (h : At H t v) : ∃ a xs, v = .ref a ∧ H a = some (.tup xs) ∧ Paired (Cl.at H) t.cls xs := by
  obtain ⟨a, ws, e, h1, h2⟩ := h.view
  refine ⟨a, _, e, h1, ?_⟩
  have hk : ∀ {ts : List Tr} {ws : List V}, Ats H ts ws → Paired (Cl.at H) (ts.map .t) ws := by
    intro ts ws h
    induction h with
    | nil => exact .nil
    | cons a b ih => exact .cons a ih
  have ho : Paired (Cl.at H) t.ownC t.own := ?_
  exact pr_append (R := Cl.at H) (ts := .s t.word :: t.ownC) (vs := .str t.word :: t.own) (.cons (show Cl.at H (.s t.word) (.str t.word) from rfl) ho) (hk h2)
  cases t <;> first
    | exact .nil
    | exact .cons rfl .nil
/-- a row of two cells -/
def RowG (H : Hp) (r : Cl × Cl) (a : Addr) : Prop := ∃ u v, H a = some (.tup [u, v]) ∧ r.1.at H u ∧ r.2.at H v
theorem RowG.mono {H H' : Hp} (k : KT H H') {r : Cl × Cl} {a : Addr} : RowG H r a → RowG H' r a := fun ⟨u, v, h, h1, h2⟩ => ⟨u, v, k _ _ h, h1.mono k, h2.mono k⟩
def spSameG : Sp := fun vs H Q _ => ∃ (t t' : Tr) (u v : V), vs = [u, v] ∧ At H t u ∧ At H t' v ∧ t.size ≤ 10000 ∧ ∀ b H', Same H H' → (t = t' → b = true) → Q (.bl b) H'
def Tr.isF : Tr → Bool | .fn _ _ => true | _ => false
theorem In.root {t f : Tr} (h : t.In f) : f = t ∨ ∃ k ∈ t.kids, k.In f := by
  induction h with
  | here => exact .inl rfl
  | kid h hk ih =>
    rcases ih with rfl | ⟨k, h1, h2⟩
    · exact .inr ⟨_, hk, .here⟩
    · exact .inr ⟨k, h1, h2.kid hk⟩
theorem In.of_kid {t k f : Tr} (hk : k ∈ t.kids) (h : k.In f) : t.In f := by
  induction h with
  | here => exact .kid .here hk
  | kid h hk2 ih => exact ih.kid hk2
theorem cut1 (x : V) (xs : List V) : cutV (x :: xs) (some 1) none = xs := by
  unfold cutV
  rw [show (some (1 : Int)) = some ((1 : Nat) : Int) from rfl, HT.sIx_none, HT.sIx_nat, List.length_cons, Nat.min_eq_left (by omega)]
  simp
theorem szL5 {n : Nat} (h : n ≤ 5000000) : n ≤ sizeLine := Nat.le_of_lt (szLt5 h)
theorem bang_ne {x y : V} [Decidable (x = y)] (h : x ≠ y) : (!decide (x = y)) = true := by simp [h]
theorem bang_eq {x y : V} [Decidable (x = y)] (h : x = y) : ¬ (!decide (x = y)) = true := by simp [h]
def spFns : Sp := fun vs H Q _ => ∃ (t : Tr) (u : V), vs = [u] ∧ At H t u ∧ t.size ≤ 10000 ∧ ∀ (fs : List Tr) (rs : List V) (l : Addr) (H' : Hp), Same H H' → H' l = some (.lst rs) → Ats H' fs rs →
  (∀ f, t.In f → f.isF = true → f ∈ fs) → (∀ f ∈ fs, t.In f) → fs.length ≤ t.size → Q (.ref l) H'
end My

namespace My
open PySem L2
abbrev NoA : Addr → Prop := fun _ => False
theorem dp_strs {K : PySem.W.Frag} {H : Hp} : ∀ xs : List Str, DpAll K H (xs.map V.str) (xs.map PyData.str)
  | [] => .nil
  | x :: xs => .cons (.str x) (dp_strs xs)
theorem dp_lst {K : PySem.W.Frag} {H : Hp} {l : Addr} {xs : List Str} (h : H l = some (.lst (xs.map V.str))) : Dp K H (.ref l) (.list (xs.map PyData.str)) := .lst (SqL.of h) (dp_strs xs)
theorem isName_ok {x : Str} (h : isName x = true) : PyData.strOk x = true := by
  unfold isName at h
  simp only [Bool.and_eq_true, List.all_eq_true] at h
  unfold PyData.strOk
  rw [Array.all_eq_true']
  intro c hc
  have := h.2 c (by simpa using hc)
  unfold isLet at this
  simp only [Bool.and_eq_true, decide_eq_true_eq] at this ⊢
  omega
theorem shaped_strs {xs : List Str} (hx : ∀ x ∈ xs, isName x = true) : SeqAt.shaped (.list (xs.map PyData.str)) = true := by
  have h1 : ∀ xs : List Str, PyData.depthAll (xs.map PyData.str) ≤ 1 := by
    intro xs
    induction xs with
    | nil => decide
    | cons x xs ih => simp only [List.map_cons, PyData.depthAll, PyData.depth] at *; omega
  have h2 : ∀ xs : List Str, (∀ x ∈ xs, isName x = true) → PyData.canLayAll0 (xs.map PyData.str) = true := by
    intro xs
    induction xs with
    | nil => intro _; rfl
    | cons x xs ih => intro h; simp [PyData.canLayAll0, PyData.canLay0, ih fun y hy => h y (List.mem_cons_of_mem _ hy), isName_ok (h x List.mem_cons_self)]
  unfold SeqAt.shaped
  have := h1 xs
  rw [Bool.and_eq_true]
  refine ⟨by show PyData.canLayAll0 _ = true; exact h2 xs hx, decide_eq_true ?_⟩
  simp only [PyData.depth]
  omega
theorem eqv_strs {xs : List Str} (hx : ∀ x ∈ xs, isName x = true) : PyData.eqv (.list (xs.map PyData.str)) (.list (xs.map PyData.str)) = true := SeqAt.eqv_refl _ (by
  have := shaped_strs hx
  exact SeqAt.canLay_of_shaped this)
def spKR11 (cK : Addr) : Sp := fun vs H Q _ => ∃ (x : Str) (b : Tr) (e : Env) (r : V) (lf ln : Addr) (fs : List Tr) (rs : List V) (xs : List Str), vs = [r, .ref lf, .ref ln] ∧ KVm cK NoA H (.fn x b e) r ∧ (Tr.fn x b).size ≤ 1000 ∧ Good (.fn x b) ∧ H lf = some (.lst rs) ∧ Ats H fs rs ∧
  (.fn x b) ∈ fs ∧ (∀ f ∈ fs, f.size ≤ 10000) ∧ rs.length ≤ 1000 ∧ H ln = some (.lst (xs.map V.str)) ∧ xs.Nodup ∧ xs.length ≤ 20 ∧ (∀ y, (Tr.fn x b).fr y → y ∈ xs) ∧ ∀ H', Same H H' → Q (.bl true) H'
theorem good_free {t : Tr} (h : Good t) : ∀ x ∈ freeNames t, isName x = true := fun x hx => fr_all h x (freeNames_fr hx)
theorem EnvL.mem {cK : Addr} {A : Addr → Prop} {H : Hp} : ∀ {e : Env} {ns : List Str} {hs : List V}, EnvL cK A H e ns hs → ∀ {h : V}, h ∈ hs → ∃ v, KVm cK A H v h ∧ ∀ Q : Val → Prop, e.sub Q → v.sub Q
  | .nil, ns, hs, h, r, hr => by
    obtain ⟨_, rfl⟩ := (show ns = [] ∧ hs = [] from h)
    cases hr
  | .cons y v e, ns, hs, hh, r, hr => by
    obtain ⟨ns', h, hs', rfl, rfl, h1, h2⟩ := hh
    rcases List.mem_cons.mp hr with rfl | hr
    · exact ⟨v, h1, fun Q q => q.1⟩
    · obtain ⟨u, h3, h4⟩ := EnvL.mem h2 hr
      exact ⟨u, h3, fun Q q => h4 Q q.2⟩
/-- run's value, or made's functions, or the word of the refusal -/
def spWord11 (E : Ers) (cK : Addr) : Sp := fun vs H Q _ => ∃ (way : Int) (v : V) (t : Tr) (m : Nat), vs = [.int way, v, .int m] ∧ OkIn H t v m ∧
  match evF m .nil t with
  | .ok u m' L => (way = 0 → ∀ (r : V) (H' : Hp), Same H H' → KVm cK NoA H' u r → Q r H') ∧ (way ≠ 0 → ∀ (l : Addr) (rs : List V) (H' : Hp), Same H H' → H' l = some (.lst rs) → Paired (KVm cK NoA H') L rs → Q (.ref l) H')
  | .err c => ∀ H', Same H H' → Q (.str c.word) H'
  | .dry => ∀ H', Same H H' → Q (.str "dry") H'
theorem isi_ls {K : PySem.W.Frag} {H : Hp} {a : Addr} {xs : List V} (h : H a = some (.lst xs)) : TyX K H (.ref a) (.type "list") ∧ PySem.W.kitOne K (.type "list") (.type "str") = some false := ⟨.base (.lst h), kit_ty (by decide +kernel)⟩
/-- what the laws over run and made need of the text -/
structure LTxt (K : PySem.W.Frag) (w : World) (mg : Str → Option Value) (E : Ers) (aA cM cK : Addr) : Prop extends MTxt K w mg E aA cM cK where
  meets : MeetsT K E
  kstr : PySem.W.kitOne K (.ref cK) (.type "str") = some false
theorem LTxt.at {K : PySem.W.Frag} {w : World} {mg : Str → Option Value} {E : Ers} {aA cM cK : Addr} (T : LTxt K w mg E aA cM cK) : ATxt K mg E := { toBt := T.toBt, NoNumber := T.NoNumber, NoFunction := T.NoFunction, Dry := T.Dry, meets := T.meets }
theorem fnsIn_fn {S : Str → Prop} {t : Tr} {x : Str} {b : Tr} (h : t.fnsIn S) (hi : t.In (.fn x b)) : ∀ y, (Tr.fn x b).fr y → S y := (fnsIn_in hi h).1
theorem good_in {t u : Tr} (h : t.In u) (g : Good t) : Good u := by
  induction h with
  | here => exact g
  | kid hk hm ih =>
    rename_i t u
    cases t <;> simp only [Tr.kids, List.mem_cons, List.not_mem_nil, or_false] at hm
    · subst hm; exact ih.2
    · rcases hm with rfl | rfl
      · exact ih.1
      · exact ih.2
    · rcases hm with rfl | rfl
      · exact ih.1
      · exact ih.2
    · rcases hm with rfl | rfl
      · exact ih.1
      · exact ih.2
    · rcases hm with rfl | rfl | rfl
      · exact ih.1
      · exact ih.2.1
      · exact ih.2.2
    · rcases hm with rfl | rfl
      · exact ih.2.1
      · exact ih.2.2
end My

namespace My
open PySem L2
theorem kit_own_b {K : PySem.W.Frag} {t : Value} {C : Addr} {b : Bool} (h0 : (t == Value.ref C) = false) (h1 : PySem.W.isClsIn K C = true) (h2 : PySem.W.typeIn K (.ref C) = some (.type "type")) (h3 : PySem.W.subIn K t (.ref C) = some b) : PySem.W.kitOne K t (.ref C) = some b := by
  unfold PySem.W.kitOne
  rw [if_neg (by rw [h0]; decide)]
  have h1' : (PySem.W.clsIn K C).isSome = true := h1
  show (if ((PySem.W.clsIn K C).isSome && PySem.W.typeIn K (.ref C) == some (.type "type")) = true then PySem.W.subIn K t (.ref C) else none) = some b
  rw [h1', h2]
  exact (if_pos (by rfl)).trans h3
theorem kit_blt_b {K : PySem.W.Frag} {t : Value} {T : String} {b : Bool} (h0 : (t == Value.type T) = false) (h1 : PySem.W.kitMeta T = true) (h3 : PySem.W.subIn K t (.type T) = some b) : PySem.W.kitOne K t (.type T) = some b := by
  unfold PySem.W.kitOne
  rw [if_neg (by rw [h0]; decide)]
  show (if PySem.W.kitMeta T = true then PySem.W.subIn K t (.type T) else none) = some b
  rw [if_pos h1]
  exact h3
theorem clsx_mk {K : PySem.W.Frag} {C : Addr} {fs : List Str} (pg : PySem.W.plainGet K C Str.empty = true) (hd : PySem.W.hasDictIn K C = true) (po : PySem.W.plainOver K C = true) (sa : PySem.W.findIn K (.ref C) "__setattr__" = some (some (.builtin "object.__setattr__")))
    (ha : PySem.W.findIn K (.ref C) "__class__" = some (some (.builtin "object.__class__"))) (hn : PySem.W.specialIn K (.builtin "object.__class__") "__get__" = some (some (.builtin "getset_descriptor.__get__"))) (tk : PySem.W.takesIn K (.builtin "object.__class__") = some true)
    (hm : PySem.W.mroIn K C (.type "object") = some true) (no : ∀ f ∈ fs, NoAttr K C f) (ic : PySem.W.isClsIn K C = true) (ty : PySem.W.typeIn K (.ref C) = some (.type "type")) (si : PySem.W.subIn K (.type "int") (.ref C) = some false) : ClsX K C fs :=
  ⟨⟨pg, hd, po, sa⟩, ha, hn, tk, hm, no, kit_own_b (by rfl) ic ty si⟩
theorem all_cons {α : Type} {p : α → Prop} {x : α} {xs : List α} (h : p x) (t : ∀ y ∈ xs, p y) : ∀ y ∈ x :: xs, p y := fun y hy => by
  rcases List.mem_cons.mp hy with rfl | hy
  · exact h
  · exact t y hy
theorem all_nil {α : Type} {p : α → Prop} : ∀ y ∈ ([] : List α), p y := fun y hy => by cases hy
end My

namespace My
open PySem L2
/-! ### a plain run: values by number, all names round a function kept -/
abbrev Kvs := List (Key × V)
structure KeysOk (kvs : Kvs) : Prop where
  nd : (kvs.map (·.1)).Nodup
  st : ∀ p ∈ kvs, ∃ y : Str, p.1 = Sum.inr y
theorem KeysOk.nil : KeysOk [] := ⟨by simp, fun p h => by cases h⟩
theorem KeysOk.put {kvs : Kvs} (h : KeysOk kvs) (y : Str) (r : V) : KeysOk (putK kvs (Sum.inr y) r) := by
  unfold putK
  split
  · refine ⟨?_, ?_⟩
    · rw [List.map_map]
      have : (List.map ((fun x => x.1) ∘ fun kv => if kv.1 = (Sum.inr y : Key) then (kv.1, r) else kv) kvs) = kvs.map (·.1) := by
        refine List.map_congr_left fun p _ => ?_
        show (if p.1 = Sum.inr y then (p.1, r) else p).1 = p.1
        split <;> rfl
      rw [this]
      exact h.nd
    · intro p hp
      obtain ⟨q, hq, rfl⟩ := List.mem_map.mp hp
      obtain ⟨z, hz⟩ := h.st q hq
      refine ⟨z, ?_⟩
      show (if q.1 = Sum.inr y then (q.1, r) else q).1 = _
      split <;> exact hz
  · rename_i hno
    refine ⟨?_, ?_⟩
    · rw [List.map_append, List.nodup_append]
      refine ⟨h.nd, by simp, fun a ha b hb => ?_⟩
      rw [List.map_singleton, List.mem_singleton] at hb
      subst hb
      intro e
      obtain ⟨q, hq, e2⟩ := List.mem_map.mp ha
      refine hno (List.any_eq_true.mpr ⟨q, hq, decide_eq_true (e2.trans e)⟩)
    · intro p hp
      rcases List.mem_append.mp hp with hp | hp
      · exact h.st p hp
      · exact ⟨y, by rw [List.mem_singleton.mp hp]⟩
abbrev PK := Str × Tr × Kvs
mutual
def Val.rlp (H : Hp) (kp : List PK) : Val → V → Prop
  | .num n, r => r = .int n
  | .fn x b e, r => ∃ (i : Nat) (a : Addr) (kvs : Kvs), r = .ref a ∧ H a = some (.tup [.int i]) ∧ kp[i]? = some (x, b, kvs) ∧ e.names = freeNames (.fn x b) ∧ e.rlp H kp kvs
def Env.rlp (H : Hp) (kp : List PK) : Env → Kvs → Prop
  | .nil, _ => True
  | .cons y v e, kvs => (∃ r, valV kvs (Sum.inr y) = some r ∧ v.rlp H kp r) ∧ e.rlp H kp kvs
end
mutual
theorem Val.rlp.mono {H H' : Hp} (k : KT H H') {kp more : List PK} : ∀ {v : Val} {r : V}, v.rlp H kp r → v.rlp H' (kp ++ more) r
  | .num _, _, h => h
  | .fn _ _ _, _, ⟨i, a, kvs, h1, h2, h3, h4, h5⟩ => ⟨i, a, kvs, h1, k _ _ h2, by rw [List.getElem?_append_left (List.getElem?_eq_some_iff.mp h3).1]; exact h3, h4, Env.rlp.mono k h5⟩
theorem Env.rlp.mono {H H' : Hp} (k : KT H H') {kp more : List PK} : ∀ {e : Env} {kvs : Kvs}, e.rlp H kp kvs → e.rlp H' (kp ++ more) kvs
  | .nil, _, _ => trivial
  | .cons _ _ _, _, ⟨⟨r, h1, h2⟩, h3⟩ => ⟨⟨r, h1, Val.rlp.mono k h2⟩, Env.rlp.mono k h3⟩
end
theorem Val.rlp.kt {H H' : Hp} (k : KT H H') {kp : List PK} {v : Val} {r : V} (h : v.rlp H kp r) : v.rlp H' kp r := by
  have := Val.rlp.mono k (more := []) h
  rwa [List.append_nil] at this
theorem Env.rlp.kt {H H' : Hp} (k : KT H H') {kp : List PK} {e : Env} {kvs : Kvs} (h : e.rlp H kp kvs) : e.rlp H' kp kvs := by
  have := Env.rlp.mono k (more := []) h
  rwa [List.append_nil] at this
/-- by looking up -/
def Env.lk (H : Hp) (kp : List PK) (e : Env) (kvs : Kvs) : Prop := ∀ y v, e.look y = some v → ∃ r, valV kvs (Sum.inr y) = some r ∧ v.rlp H kp r
theorem Env.lk.mono {H H' : Hp} (k : KT H H') {kp more : List PK} {e : Env} {kvs : Kvs} (h : e.lk H kp kvs) : e.lk H' (kp ++ more) kvs := fun y v hy => let ⟨r, a, b⟩ := h y v hy; ⟨r, a, b.mono k⟩
theorem Env.lk.kt {H H' : Hp} (k : KT H H') {kp : List PK} {e : Env} {kvs : Kvs} (h : e.lk H kp kvs) : e.lk H' kp kvs := fun y v hy => let ⟨r, a, b⟩ := h y v hy; ⟨r, a, b.kt k⟩
theorem Env.rlp.lk {H : Hp} {kp : List PK} : ∀ {e : Env} {kvs : Kvs}, e.rlp H kp kvs → e.lk H kp kvs
  | .nil, _, _ => fun y v h => by cases h
  | .cons z u e, kvs, ⟨h1, h2⟩ => fun y v h => by
    have h : (if y = z then some u else e.look y) = some v := h
    split at h
    · rename_i e0
      cases h
      subst e0
      exact h1
    · exact Env.rlp.lk h2 y v h
theorem Env.lk.keep {H : Hp} {kp : List PK} {e : Env} {kvs : Kvs} (h : e.lk H kp kvs) : ∀ ns : List Str, (e.keep ns).rlp H kp kvs
  | [] => trivial
  | y :: r => by
    show (match e.look y with | some v => Env.cons y v (e.keep r) | none => e.keep r).rlp H kp kvs
    cases hy : e.look y with
    | none => exact Env.lk.keep h r
    | some v => exact ⟨h y v hy, Env.lk.keep h r⟩
theorem Env.lk.cons {H : Hp} {kp : List PK} {e : Env} {kvs : Kvs} {x : Str} {v : Val} {r : V} (h : e.lk H kp kvs) (hv : v.rlp H kp r) : (Env.cons x v e).lk H kp (putK kvs (Sum.inr x) r) := fun y u hy => by
  have hy : (if y = x then some v else e.look y) = some u := hy
  rw [valV_put]
  split at hy
  · rename_i e0
    cases hy
    rw [if_pos (by rw [e0])]
    exact ⟨r, rfl, hv⟩
  · rename_i e0
    rw [if_neg (fun z => e0 (Sum.inr.inj z))]
    exact h y u hy
theorem Env.lk.nil {H : Hp} {kp : List PK} {kvs : Kvs} : Env.nil.lk H kp kvs := fun y v h => by cases h
/-- a row that waits -/
def RowP (H : Hp) (n : Nat) (kp : List PK) (i : MI) (v : V) : Prop := ∃ (p : Addr) (tv : V) (d : Addr) (kvs : Kvs), v = .ref p ∧ H p = some (.tup [.bl i.r, tv, .ref d]) ∧ At H i.t tv ∧ H d = some (.dK kvs) ∧ KeysOk kvs ∧ kvs.length ≤ n ∧ i.e.lk H kp kvs
theorem RowP.mono {H H' : Hp} (k : KD H H') {n n' : Nat} (hn : n ≤ n') {kp more : List PK} {i : MI} {v : V} : RowP H n kp i v → RowP H' n' (kp ++ more) i v := fun ⟨p, tv, d, kvs, h1, h2, h3, h4, h5, h6, h7⟩ =>
  ⟨p, tv, d, kvs, h1, k.1 _ _ h2, h3.mono k.kt, k.2 _ _ h4, h5, Nat.le_trans h6 hn, h7.mono k.kt⟩
theorem RowP.kd {H H' : Hp} (k : KD H H') {n n' : Nat} (hn : n ≤ n') {kp : List PK} {i : MI} {v : V} (h : RowP H n kp i v) : RowP H' n' kp i v := by
  have := RowP.mono k hn (more := []) h
  rwa [List.append_nil] at this
/-- a row of the made ones -/
def KpAt (H : Hp) (n : Nat) (k : PK) (v : V) : Prop := ∃ (a : Addr) (tb : V) (d : Addr), v = .ref a ∧ H a = some (.tup [.str k.1, tb, .ref d]) ∧ At H k.2.1 tb ∧ H d = some (.dK k.2.2) ∧ KeysOk k.2.2 ∧ k.2.2.length ≤ n
theorem KpAt.kd {H H' : Hp} (k : KD H H') {n n' : Nat} (hn : n ≤ n') {q : PK} {v : V} : KpAt H n q v → KpAt H' n' q v := fun ⟨a, tb, d, h1, h2, h3, h4, h5, h6⟩ => ⟨a, tb, d, h1, k.1 _ _ h2, h3.mono k.kt, k.2 _ _ h4, h5, Nat.le_trans h6 hn⟩
def LogP (H : Hp) (kp : List PK) (i : Nat) : Val → Prop
  | .num _ => False
  | .fn x b e => ∃ kvs, kp[i]? = some (x, b, kvs) ∧ e.names = freeNames (.fn x b) ∧ e.rlp H kp kvs
theorem LogP.mono {H H' : Hp} (k : KT H H') {kp more : List PK} {i : Nat} : ∀ {v : Val}, LogP H kp i v → LogP H' (kp ++ more) i v
  | .num _, h => h
  | .fn _ _ _, ⟨kvs, h1, h2, h3⟩ => ⟨kvs, by rw [List.getElem?_append_left (List.getElem?_eq_some_iff.mp h1).1]; exact h1, h2, h3.mono k⟩
theorem LogP.kt {H H' : Hp} (k : KT H H') {kp : List PK} {i : Nat} {v : Val} (h : LogP H kp i v) : LogP H' kp i v := by
  have := LogP.mono k (more := []) h
  rwa [List.append_nil] at this
/-- the three lists of a plain run -/
structure LA where
  lt : Addr
  ld : Addr
  lk : Addr
def LA.has (A : LA) (a : Addr) : Prop := a = A.lt ∨ a = A.ld ∨ a = A.lk
/-- W, F, L from their bottoms; n bounds the dicts -/
structure PSt (A : LA) (H : Hp) (n : Nat) (W : List MI) (F L : List Val) (kp : List PK) : Prop where
  td : A.lt ≠ A.ld
  tk : A.lt ≠ A.lk
  dk : A.ld ≠ A.lk
  todo : ∃ vs, H A.lt = some (.lst vs) ∧ Paired (RowP H n kp) W vs
  done : ∃ rs, H A.ld = some (.lst rs) ∧ Paired (fun v r => v.rlp H kp r) F rs
  kept : ∃ ks, H A.lk = some (.lst ks) ∧ Paired (KpAt H n) kp ks
  log : ∀ i v, L[i]? = some v → LogP H kp i v
  len : kp.length = L.length
theorem PSt.ext {A : LA} {H H' : Hp} {n n' : Nat} {W : List MI} {F L : List Val} {kp : List PK} (S : PSt A H n W F L kp) (e : Same H H') (hn : n ≤ n') : PSt A H' n' W F L kp :=
  ⟨S.td, S.tk, S.dk, let ⟨vs, h1, h2⟩ := S.todo; ⟨vs, e _ _ h1, pr_mono h2 fun _ _ h => RowP.kd (same_kd e) hn h⟩, let ⟨vs, h1, h2⟩ := S.done; ⟨vs, e _ _ h1, pr_mono h2 fun _ _ h => h.kt (same_kt e)⟩,
    let ⟨vs, h1, h2⟩ := S.kept; ⟨vs, e _ _ h1, pr_mono h2 fun _ _ h => KpAt.kd (same_kd e) hn h⟩, fun i v h => (S.log i v h).kt (same_kt e), S.len⟩
theorem PSt.setT {A : LA} {H : Hp} {n : Nat} {W W' : List MI} {F L : List Val} {kp : List PK} (S : PSt A H n W F L kp) {vs : List V} (h : Paired (RowP H n kp) W' vs) : PSt A (upd H A.lt (.lst vs)) n W' F L kp := by
  obtain ⟨vs0, h1, _⟩ := S.todo
  have k := kd_lst (o := .lst vs) h1
  exact ⟨S.td, S.tk, S.dk, ⟨vs, upd_same, pr_mono h fun _ _ h => RowP.kd k (Nat.le_refl _) h⟩, let ⟨rs, h1, h2⟩ := S.done; ⟨rs, by rw [upd_ne S.td.symm]; exact h1, pr_mono h2 fun _ _ h => h.kt k.kt⟩,
    let ⟨rs, h1, h2⟩ := S.kept; ⟨rs, by rw [upd_ne S.tk.symm]; exact h1, pr_mono h2 fun _ _ h => KpAt.kd k (Nat.le_refl _) h⟩, fun i v h => (S.log i v h).kt k.kt, S.len⟩
theorem PSt.setD {A : LA} {H : Hp} {n : Nat} {W : List MI} {F F' L : List Val} {kp : List PK} (S : PSt A H n W F L kp) {vs : List V} (h : Paired (fun v r => v.rlp H kp r) F' vs) : PSt A (upd H A.ld (.lst vs)) n W F' L kp := by
  obtain ⟨vs0, h1, _⟩ := S.done
  have k := kd_lst (o := .lst vs) h1
  exact ⟨S.td, S.tk, S.dk, let ⟨rs, h1, h2⟩ := S.todo; ⟨rs, by rw [upd_ne S.td]; exact h1, pr_mono h2 fun _ _ h => RowP.kd k (Nat.le_refl _) h⟩, ⟨vs, upd_same, pr_mono h fun _ _ h => h.kt k.kt⟩,
    let ⟨rs, h1, h2⟩ := S.kept; ⟨rs, by rw [upd_ne S.dk.symm]; exact h1, pr_mono h2 fun _ _ h => KpAt.kd k (Nat.le_refl _) h⟩, fun i v h => (S.log i v h).kt k.kt, S.len⟩
/-- one more is made -/
theorem PSt.setK {A : LA} {H : Hp} {n : Nat} {W : List MI} {F L : List Val} {kp : List PK} (S : PSt A H n W F L kp) {vs : List V} {x : Str} {b : Tr} {kvs : Kvs} {e : Env} (h : Paired (KpAt H n) (kp ++ [(x, b, kvs)]) vs) (he : e.lk H kp kvs) (hc : e.Cov (.fn x b)) :
    PSt A (upd H A.lk (.lst vs)) n W F (L ++ [keptV x b e]) (kp ++ [(x, b, kvs)]) := by
  obtain ⟨vs0, h1, _⟩ := S.kept
  have k := kd_lst (o := .lst vs) h1
  refine ⟨S.td, S.tk, S.dk, let ⟨rs, h1, h2⟩ := S.todo; ⟨rs, by rw [upd_ne S.tk]; exact h1, pr_mono h2 fun _ _ h => RowP.mono k (Nat.le_refl _) h⟩, let ⟨rs, h1, h2⟩ := S.done; ⟨rs, by rw [upd_ne S.dk]; exact h1, pr_mono h2 fun _ _ h => h.mono k.kt⟩,
    ⟨vs, upd_same, pr_mono h fun _ _ h => KpAt.kd k (Nat.le_refl _) h⟩, fun i v h => ?_, by rw [List.length_append, List.length_append, S.len]; rfl⟩
  by_cases hi : i < L.length
  · rw [List.getElem?_append_left hi] at h
    exact (S.log i v h).mono k.kt
  · have hi2 : i = L.length := by
      have := (List.getElem?_eq_some_iff.mp h).1
      rw [List.length_append, List.length_singleton] at this
      omega
    subst hi2
    rw [List.getElem?_append_right (Nat.le_refl _), Nat.sub_self] at h
    cases h
    refine ⟨kvs, by rw [← S.len, List.getElem?_append_right (Nat.le_refl _), Nat.sub_self]; rfl, Env.names_keep fun y hy => hc y (freeNames_fr hy), Env.rlp.mono k.kt (Env.lk.keep he _)⟩
theorem pr_snocL {α β : Type} {R : α → β → Prop} {xs : List α} {x : α} {ys : List β} (h : Paired R (xs ++ [x]) ys) : ∃ zs y, ys = zs ++ [y] ∧ Paired R xs zs ∧ R x y := by
  rcases List.eq_nil_or_concat ys with rfl | ⟨zs, y, e⟩
  · have := pr_len h
    simp at this
  · rw [List.concat_eq_append] at e
    subst e
    obtain ⟨us, u, e1, h1, h2⟩ := pr_snoc h
    have h3 := List.append_inj' e1 rfl
    obtain ⟨rfl, h4⟩ := h3
    cases h4
    exact ⟨zs, y, rfl, h1, h2⟩
theorem putK_le (kvs : Kvs) (k : Key) (x : V) : (putK kvs k x).length ≤ kvs.length + 1 := by
  unfold putK
  split
  · rw [List.length_map]; omega
  · rw [List.length_append]; exact Nat.le_refl _
theorem word_num {t : Tr} (h : t.word = "num") : ∃ n, t = .num n := by
  cases t with
  | num n => exact ⟨n, rfl⟩
  | _ => exact absurd h (by simp only [Tr.word]; decide +kernel)
def spBegun : Sp := fun vs H Q _ => ∃ (A : LA) (n : Nat) (W : List MI) (F L : List Val) (kp : List PK) (t : Tr) (e : Env) (tv : V) (d : Addr) (kvs : Kvs), vs = [tv, .ref d, .ref A.lt, .ref A.ld, .ref A.lk] ∧ PSt A H n W F L kp ∧ At H t tv ∧ H d = some (.dK kvs) ∧ KeysOk kvs ∧ kvs.length ≤ n ∧
  e.lk H kp kvs ∧ e.Cov t ∧ W.length ≤ 2000000 ∧ F.length ≤ 2000000 ∧ L.length ≤ 2000000 ∧ ∀ H' kp', Kp A.has H H' → PSt A H' n (lookR t e W F L).1 (lookR t e W F L).2.1 (lookR t e W F L).2.2 kp' → Q .non H'
def DoP (A : LA) (H : Hp) (n : Nat) (W : List MI) (F L : List Val) (kp : List PK) (d : Do) (Q : VK) : Prop := match d with
  | .err c => ∀ H', Kp A.has H H' → Q (.str c.word) H'
  | .val u => ∀ H', Kp A.has H H' → PSt A H' (n + 1) W (F ++ [u]) L kp → Q (.str "") H'
  | .look e b => ∀ H', Kp A.has H H' → PSt A H' (n + 1) (W ++ [⟨b, e, false⟩]) F L kp → Q (.str "") H'
def spTurned : Sp := fun vs H Q _ => ∃ (A : LA) (n : Nat) (W : List MI) (F F' L : List Val) (kp : List PK) (t : Tr) (e : Env) (tv : V) (d : Addr) (kvs : Kvs) (a : Do), vs = [tv, .ref d, .ref A.lt, .ref A.ld, .ref A.lk] ∧ PSt A H n W F L kp ∧ At H t tv ∧ H d = some (.dK kvs) ∧ KeysOk kvs ∧ kvs.length ≤ n ∧
  e.lk H kp kvs ∧ W.length ≤ 2000000 ∧ F.length ≤ 2000000 ∧ n ≤ 2000 ∧ ((t.two = true ∧ ∃ v w, F = F' ++ [v] ++ [w] ∧ a = do2 t v w) ∨ (t.one = true ∧ ∃ w, F = F' ++ [w] ∧ a = do1 t e w)) ∧ DoP A H n W F' L kp a Q
def spPlain : Sp := fun vs H Q _ => ∃ (v : V) (t : Tr) (m : Nat), vs = [v, .int m] ∧ OkIn H t v m ∧
  match evF m .nil t with
  | .ok u m' L => ∀ (p lk : Addr) (r : V) (ks : List V) (kp : List PK) (H' : Hp), Same H H' → H' p = some (.tup [.str "", r, .int ((m : Int) - m'), .ref lk]) → H' lk = some (.lst ks) → Paired (KpAt H' (m - m')) kp ks → u.rlp H' kp r → (∀ i v, L[i]? = some v → LogP H' kp i v) → kp.length = L.length → L.length ≤ 1300000 → Q (.ref p) H'
  | .err c => ∀ (p : Addr) (a b d : V) (H' : Hp), Same H H' → H' p = some (.tup [.str c.word, a, b, d]) → Q (.ref p) H'
  | .dry => ∀ (p : Addr) (a b d : V) (H' : Hp), Same H H' → H' p = some (.tup [.str "dry", a, b, d]) → Q (.ref p) H'
end My

namespace My
open PySem L2
/-! ### a tree that is worked out in its place -/
/-- the part that comes next, by its place in the tuple -/
def nx2 (a b : Tr) : Option Nat := if a.isV = false then some 1 else if b.isV = false then some 2 else none
def Tr.nxt : Tr → Option Nat
  | .num _ => none | .name _ => none | .fn _ _ => none
  | .call a b => nx2 a b | .plus a b => nx2 a b | .less a b => nx2 a b
  | .ite c _ _ => if c.isV = false then some 1 else none
  | .lt _ e _ => if e.isV = false then some 2 else none
def Tr.part : Tr → Nat → Option Tr
  | .call a _, 1 => some a | .call _ b, 2 => some b
  | .plus a _, 1 => some a | .plus _ b, 2 => some b
  | .less a _, 1 => some a | .less _ b, 2 => some b
  | .ite c _ _, 1 => some c | .lt _ e _, 2 => some e | _, _ => none
def Tr.set : Tr → Nat → Tr → Tr
  | .call _ b, 1, u => .call u b | .call a _, 2, u => .call a u
  | .plus _ b, 1, u => .plus u b | .plus a _, 2, u => .plus a u
  | .less _ b, 1, u => .less u b | .less a _, 2, u => .less a u
  | .ite _ a b, 1, u => .ite u a b | .lt x _ b, 2, u => .lt x u b | t, _, _ => t
def Sh.part : Sh → Nat → Option Sh
  | .call a _, 1 => some a | .call _ b, 2 => some b
  | .plus a _, 1 => some a | .plus _ b, 2 => some b
  | .less a _, 1 => some a | .less _ b, 2 => some b
  | .ite c _ _, 1 => some c | .lt _ e _, 2 => some e | _, _ => none
def Sh.set : Sh → Nat → Sh → Sh
  | .call _ b, 1, u => .call u b | .call a _, 2, u => .call a u
  | .plus _ b, 1, u => .plus u b | .plus a _, 2, u => .plus a u
  | .less _ b, 1, u => .less u b | .less a _, 2, u => .less a u
  | .ite _ a b, 1, u => .ite u a b | .lt x _ b, 2, u => .lt x u b | t, _, _ => t
theorem nx2_eq {a b : Tr} {i : Nat} (h : nx2 a b = some i) : (i = 1 ∧ a.isV = false) ∨ (i = 2 ∧ a.isV = true ∧ b.isV = false) := by
  unfold nx2 at h
  split at h
  · cases h; exact .inl ⟨rfl, by assumption⟩
  · rename_i h1
    split at h
    · cases h; exact .inr ⟨rfl, by simpa using h1, by assumption⟩
    · cases h
theorem nx2_none {a b : Tr} (h : nx2 a b = none) : a.isV = true ∧ b.isV = true := by
  unfold nx2 at h
  split at h
  · cases h
  · rename_i h1
    split at h
    · cases h
    · rename_i h2; exact ⟨by simpa using h1, by simpa using h2⟩
/-- the ways in which a part comes next -/
theorem nxt_cases {t : Tr} {i : Nat} (h : t.nxt = some i) :
    (∃ a b, (t = .call a b ∨ t = .plus a b ∨ t = .less a b) ∧ ((i = 1 ∧ a.isV = false) ∨ (i = 2 ∧ a.isV = true ∧ b.isV = false))) ∨ (∃ c a b, t = .ite c a b ∧ i = 1 ∧ c.isV = false) ∨ ∃ x e b, t = .lt x e b ∧ i = 2 ∧ e.isV = false := by
  cases t with
  | num _ => cases h
  | name _ => cases h
  | fn _ _ => cases h
  | call a b => exact .inl ⟨a, b, .inl rfl, nx2_eq h⟩
  | plus a b => exact .inl ⟨a, b, .inr (.inl rfl), nx2_eq h⟩
  | less a b => exact .inl ⟨a, b, .inr (.inr rfl), nx2_eq h⟩
  | ite c a b =>
    have h : (if c.isV = false then some 1 else none) = some i := h
    split at h
    · cases h; exact .inr (.inl ⟨c, a, b, rfl, rfl, by assumption⟩)
    · cases h
  | lt x e b =>
    have h : (if e.isV = false then some 2 else none) = some i := h
    split at h
    · cases h; exact .inr (.inr ⟨x, e, b, rfl, rfl, by assumption⟩)
    · cases h
theorem nxt_part {t : Tr} {i : Nat} (h : t.nxt = some i) : ∃ u, t.part i = some u ∧ u.isV = false ∧ t.set i u = t := by
  rcases nxt_cases h with ⟨a, b, ht, ⟨rfl, h1⟩ | ⟨rfl, h1, h2⟩⟩ | ⟨c, a, b, rfl, rfl, h1⟩ | ⟨x, e, b, rfl, rfl, h1⟩
  · rcases ht with rfl | rfl | rfl <;> exact ⟨a, rfl, h1, rfl⟩
  · rcases ht with rfl | rfl | rfl <;> exact ⟨b, rfl, h2, rfl⟩
  · exact ⟨c, rfl, h1, rfl⟩
  · exact ⟨e, rfl, h1, rfl⟩
theorem nxt_ctx {t : Tr} {i : Nat} (h : t.nxt = some i) : Ctx fun u => t.set i u := by
  rcases nxt_cases h with ⟨a, b, ht, ⟨rfl, h1⟩ | ⟨rfl, h1, h2⟩⟩ | ⟨c, a, b, rfl, rfl, h1⟩ | ⟨x, e, b, rfl, rfl, h1⟩
  · rcases ht with rfl | rfl | rfl
    · exact ctx_call1 b
    · exact ctx_plus1 b
    · exact ctx_less1 b
  · have := Tr.step_val.mpr h1
    rcases ht with rfl | rfl | rfl
    · exact ctx_call2 this
    · exact ctx_plus2 this
    · exact ctx_less2 this
  · exact ctx_ite a b
  · exact ctx_lt x b
theorem nxt_isV {t : Tr} {i : Nat} (h : t.nxt = some i) (u : Tr) : (t.set i u).isV = false := by
  rcases nxt_cases h with ⟨a, b, ht, ⟨rfl, h1⟩ | ⟨rfl, h1, h2⟩⟩ | ⟨c, a, b, rfl, rfl, h1⟩ | ⟨x, e, b, rfl, rfl, h1⟩
  · rcases ht with rfl | rfl | rfl <;> rfl
  · rcases ht with rfl | rfl | rfl <;> rfl
  · rfl
  · rfl
theorem nxt_dep {t : Tr} {i : Nat} (h : t.nxt = some i) (u : Tr) : u.dep + 1 ≤ (t.set i u).dep := by
  rcases nxt_cases h with ⟨a, b, ht, ⟨rfl, h1⟩ | ⟨rfl, h1, h2⟩⟩ | ⟨c, a, b, rfl, rfl, h1⟩ | ⟨x, e, b, rfl, rfl, h1⟩
  · rcases ht with rfl | rfl | rfl <;> simp only [Tr.set, Tr.dep] <;> omega
  · rcases ht with rfl | rfl | rfl <;> simp only [Tr.set, Tr.dep] <;> omega
  · simp only [Tr.set, Tr.dep]; omega
  · simp only [Tr.set, Tr.dep]; omega
theorem nxt_fr {t : Tr} {i : Nat} (h : t.nxt = some i) {u : Tr} {y : Str} (hy : u.fr y) : (t.set i u).fr y := by
  rcases nxt_cases h with ⟨a, b, ht, ⟨rfl, h1⟩ | ⟨rfl, h1, h2⟩⟩ | ⟨c, a, b, rfl, rfl, h1⟩ | ⟨x, e, b, rfl, rfl, h1⟩
  · rcases ht with rfl | rfl | rfl <;> exact .inl hy
  · rcases ht with rfl | rfl | rfl <;> exact .inr hy
  · exact .inl hy
  · exact .inl hy
/-- how far it is to the next deed -/
def ddT (d : Nat) (a : Tr) : Nat := if a.isV = true then 0 else d + 2
def Tr.far : Tr → Nat
  | .num _ => 0 | .fn _ _ => 0 | .name _ => 1
  | .call a b => 1 + ddT a.far a + ddT b.far b | .plus a b => 1 + ddT a.far a + ddT b.far b | .less a b => 1 + ddT a.far a + ddT b.far b
  | .ite c _ _ => 1 + ddT c.far c | .lt _ e _ => 1 + ddT e.far e
theorem far_isV {t : Tr} (h : t.isV = true) : t.far = 0 := by cases t <;> first | rfl | cases h
theorem nxt_far {t : Tr} {i : Nat} (h : t.nxt = some i) {u v : Tr} (hu : t.part i = some u) (hv : v.isV = true) : t.far = u.far + 2 + (t.set i v).far := by
  have k1 : ∀ {a : Tr}, a.isV = false → ddT a.far a = a.far + 2 := fun {a} h => by unfold ddT; rw [if_neg (by rw [h]; decide)]
  have k2 : ∀ {a : Tr}, a.isV = true → ddT a.far a = 0 := fun {a} h => by unfold ddT; rw [if_pos h]
  have kv := k2 hv
  rcases nxt_cases h with ⟨a, b, ht, ⟨rfl, h1⟩ | ⟨rfl, h1, h2⟩⟩ | ⟨c, a, b, rfl, rfl, h1⟩ | ⟨x, e, b, rfl, rfl, h1⟩
  · have := k1 h1
    rcases ht with rfl | rfl | rfl <;> cases hu <;> simp only [Tr.set, Tr.far] <;> omega
  · have := k1 h2
    rcases ht with rfl | rfl | rfl <;> cases hu <;> simp only [Tr.set, Tr.far] <;> omega
  · have := k1 h1
    cases hu
    simp only [Tr.set, Tr.far]; omega
  · have := k1 h1
    cases hu
    simp only [Tr.set, Tr.far]; omega
/-! ### the nodes round it -/
structure Fr where
  t : Tr
  s : Sh
  i : Nat
def plug (fr : List Fr) (u : Tr) : Tr := fr.foldr (fun f v => f.t.set f.i v) u
theorem plug_snoc (fr : List Fr) (f : Fr) (u : Tr) : plug (fr ++ [f]) u = plug fr (f.t.set f.i u) := by
  unfold plug
  rw [List.foldr_append]
  rfl
def FrOk (fr : List Fr) : Prop := ∀ f ∈ fr, f.t.nxt = some f.i
theorem FrOk.tail {f : Fr} {fr : List Fr} (h : FrOk (f :: fr)) : FrOk fr := fun g hg => h g (List.mem_cons_of_mem _ hg)
theorem plug_ctx : ∀ {fr : List Fr}, FrOk fr → Ctx (plug fr)
  | [], _ => Ctx.id
  | f :: fr, h => (nxt_ctx (h f List.mem_cons_self)).comp (plug_ctx h.tail)
theorem plug_dep : ∀ {fr : List Fr} {u : Tr}, FrOk fr → u.dep + fr.length ≤ (plug fr u).dep
  | [], u, _ => Nat.le_refl _
  | f :: fr, u, h => by
    have h1 := plug_dep (u := u) h.tail
    have h2 := nxt_dep (h f List.mem_cons_self) (plug fr u)
    show u.dep + (fr.length + 1) ≤ (f.t.set f.i (plug fr u)).dep
    omega
theorem plug_closed : ∀ {fr : List Fr} {u : Tr}, FrOk fr → (plug fr u).closed → u.closed
  | [], u, _, h => h
  | f :: fr, u, h, hc => plug_closed h.tail fun y hy => hc y (nxt_fr (h f List.mem_cons_self) hy)
theorem plug_isV {f : Fr} {fr : List Fr} {u : Tr} (h : FrOk (f :: fr)) : (plug (f :: fr) u).isV = false := nxt_isV (h f List.mem_cons_self) _
def fwt (fr : List Fr) : Nat := (fr.map fun f => (f.t.set f.i (.num 0)).far + 1).sum
theorem fwt_snoc (fr : List Fr) (f : Fr) : fwt (fr ++ [f]) = fwt fr + ((f.t.set f.i (.num 0)).far + 1) := by simp [fwt]
theorem far_enter {t u : Tr} {s : Sh} {i : Nat} {fr : List Fr} (h : t.nxt = some i) (hu : t.part i = some u) : u.far + fwt (fr ++ [⟨t, s, i⟩]) < t.far + fwt fr := by
  have := nxt_far h hu (v := .num 0) rfl
  rw [fwt_snoc]
  dsimp only
  omega
theorem far_leave {u : Tr} {f : Fr} {fr : List Fr} (h : f.t.nxt = some f.i) (hu : u.isV = true) : (f.t.set f.i u).far + fwt fr < u.far + fwt (fr ++ [f]) := by
  obtain ⟨p, hp, _, _⟩ := nxt_part h
  have h1 := nxt_far h hp (v := .num 0) rfl
  have h2 := nxt_far h hp hu
  rw [fwt_snoc]
  omega
/-! ### short trees -/
/-- what the numbers stand for -/
def sg (fs : List Tr) : Ss := fun k => match k with
  | .inl (.ofNat j) => fs[j]?.map Tr.sh
  | _ => none
theorem sg_del (fs : List Tr) (x : Str) : (sg fs).del x = sg fs := Ss.del_id rfl
theorem sh_inj : ∀ {t u : Tr}, t.sh = u.sh → t = u := by
  intro t
  induction t with
  | num n => intro u h; cases u <;> simp only [Tr.sh] at h <;> cases h; rfl
  | name x => intro u h; cases u <;> simp only [Tr.sh] at h <;> cases h; rfl
  | fn x b ih => intro u h; cases u <;> simp only [Tr.sh] at h <;> injection h; subst_vars; rename_i h1; rw [ih h1]
  | call a b i1 i2 => intro u h; cases u <;> simp only [Tr.sh] at h <;> injection h; rename_i h1 h2; rw [i1 h1, i2 h2]
  | plus a b i1 i2 => intro u h; cases u <;> simp only [Tr.sh] at h <;> injection h; rename_i h1 h2; rw [i1 h1, i2 h2]
  | less a b i1 i2 => intro u h; cases u <;> simp only [Tr.sh] at h <;> injection h; rename_i h1 h2; rw [i1 h1, i2 h2]
  | ite c a b i0 i1 i2 => intro u h; cases u <;> simp only [Tr.sh] at h <;> injection h; rename_i h0 h1 h2; rw [i0 h0, i1 h1, i2 h2]
  | lt x a b i1 i2 => intro u h; cases u <;> simp only [Tr.sh] at h <;> injection h; rename_i h0 h1 h2; subst h0; rw [i1 h1, i2 h2]
def FnL (fs : List Tr) : Prop := ∀ g ∈ fs, ∃ x b, g = .fn x b
/-- a short tree of a full one -/
def Rel (fs : List Tr) (s : Sh) (t : Tr) : Prop := s.sub (sg fs) = t.sh
/-- a name, short -/
theorem rel_name {fs : List Tr} {k : Key} {t : Tr} (h : Rel fs (.name k) t) : (∃ x, k = .inr x ∧ t = .name x) ∨ ∃ j : Nat, k = .inl (j : Int) ∧ fs[j]? = some t := by
  have h : ((sg fs) k).getD (.name k) = t.sh := h
  rcases k with (j | j) | x
  · cases e : fs[j]? with
    | none =>
      rw [show sg fs (.inl (.ofNat j)) = fs[j]?.map Tr.sh from rfl, e] at h
      cases t <;> simp only [Tr.sh, Option.map_none, Option.getD_none] at h <;> cases h
    | some g =>
      rw [show sg fs (.inl (.ofNat j)) = fs[j]?.map Tr.sh from rfl, e] at h
      exact .inr ⟨j, rfl, by rw [e, sh_inj (show g.sh = t.sh from h)]⟩
  · cases t <;> simp only [Tr.sh, sg, Option.getD_none] at h <;> cases h
  · left
    cases t <;> simp only [Tr.sh, sg, Option.getD_none] at h <;> cases h
    exact ⟨x, rfl, rfl⟩
theorem rel_ext {fs gs : List Tr} : ∀ {s : Sh} {t : Tr}, Rel fs s t → Rel (fs ++ gs) s t := by
  intro s
  induction s with
  | num n => exact fun h => h
  | name k =>
    intro t h
    rcases rel_name h with ⟨x, rfl, rfl⟩ | ⟨j, rfl, hj⟩
    · rfl
    · show ((sg (fs ++ gs)) (.inl (j : Int))).getD _ = _
      rw [show sg (fs ++ gs) (.inl (j : Int)) = (fs ++ gs)[j]?.map Tr.sh from rfl, List.getElem?_append_left (by
        have := List.getElem?_eq_some_iff.mp hj
        exact this.1), hj]
      rfl
  | fn x b ih =>
    intro t h
    have h : Sh.fn x (b.sub ((sg fs).del x)) = t.sh := h
    show Sh.fn x (b.sub ((sg (fs ++ gs)).del x)) = t.sh
    rw [sg_del] at h ⊢
    cases t <;> simp only [Tr.sh] at h <;> injection h
    rename_i h1 h2
    rw [h1, Tr.sh, show b.sub (sg (fs ++ gs)) = _ from ih h2]
  | call a b i1 i2 =>
    intro t h
    have h : Sh.call (a.sub (sg fs)) (b.sub (sg fs)) = t.sh := h
    cases t <;> simp only [Tr.sh] at h <;> injection h
    rename_i h1 h2
    show Sh.call (a.sub (sg (fs ++ gs))) (b.sub (sg (fs ++ gs))) = _
    rw [show a.sub (sg (fs ++ gs)) = _ from i1 h1, show b.sub (sg (fs ++ gs)) = _ from i2 h2]; rfl
  | plus a b i1 i2 =>
    intro t h
    have h : Sh.plus (a.sub (sg fs)) (b.sub (sg fs)) = t.sh := h
    cases t <;> simp only [Tr.sh] at h <;> injection h
    rename_i h1 h2
    show Sh.plus (a.sub (sg (fs ++ gs))) (b.sub (sg (fs ++ gs))) = _
    rw [show a.sub (sg (fs ++ gs)) = _ from i1 h1, show b.sub (sg (fs ++ gs)) = _ from i2 h2]; rfl
  | less a b i1 i2 =>
    intro t h
    have h : Sh.less (a.sub (sg fs)) (b.sub (sg fs)) = t.sh := h
    cases t <;> simp only [Tr.sh] at h <;> injection h
    rename_i h1 h2
    show Sh.less (a.sub (sg (fs ++ gs))) (b.sub (sg (fs ++ gs))) = _
    rw [show a.sub (sg (fs ++ gs)) = _ from i1 h1, show b.sub (sg (fs ++ gs)) = _ from i2 h2]; rfl
  | ite c a b i0 i1 i2 =>
    intro t h
    have h : Sh.ite (c.sub (sg fs)) (a.sub (sg fs)) (b.sub (sg fs)) = t.sh := h
    cases t <;> simp only [Tr.sh] at h <;> injection h
    rename_i h0 h1 h2
    show Sh.ite (c.sub (sg (fs ++ gs))) (a.sub (sg (fs ++ gs))) (b.sub (sg (fs ++ gs))) = _
    rw [show c.sub (sg (fs ++ gs)) = _ from i0 h0, show a.sub (sg (fs ++ gs)) = _ from i1 h1, show b.sub (sg (fs ++ gs)) = _ from i2 h2]; rfl
  | lt x a b i1 i2 =>
    intro t h
    have h : Sh.lt x (a.sub (sg fs)) (b.sub ((sg fs).del x)) = t.sh := h
    rw [sg_del] at h
    cases t <;> simp only [Tr.sh] at h <;> injection h
    rename_i h0 h1 h2
    show Sh.lt x (a.sub (sg (fs ++ gs))) (b.sub ((sg (fs ++ gs)).del x)) = _
    rw [sg_del, h0, show a.sub (sg (fs ++ gs)) = _ from i1 h1, show b.sub (sg (fs ++ gs)) = _ from i2 h2]; rfl
end My

namespace My
open PySem L2
section
variable {fs : List Tr} {s : Sh}
theorem rel_num {n : Int} (hf : FnL fs) (h : Rel fs s (.num n)) : s = .num n := by
  cases s with
  | num m => have h : Sh.num m = .num n := h; rw [h]
  | name k =>
    rcases rel_name h with ⟨x, _, e⟩ | ⟨j, _, hj⟩
    · cases e
    · obtain ⟨x, b, e⟩ := hf _ (List.mem_of_getElem? hj); cases e
  | _ => cases (show _ = Sh.num n from h)
theorem rel_nm {x : Str} (hf : FnL fs) (h : Rel fs s (.name x)) : s = .name (.inr x) := by
  cases s with
  | name k =>
    rcases rel_name h with ⟨y, rfl, e⟩ | ⟨j, _, hj⟩
    · cases e; rfl
    · obtain ⟨x, b, e⟩ := hf _ (List.mem_of_getElem? hj); cases e
  | _ => cases (show _ = Sh.name (.inr x) from h)
theorem rel_fn {x : Str} {b : Tr} (h : Rel fs s (.fn x b)) : (∃ sb, s = .fn x sb ∧ Rel fs sb b) ∨ ∃ j : Nat, s = .name (.inl (j : Int)) ∧ fs[j]? = some (.fn x b) := by
  cases s with
  | fn y sb =>
    have h : Sh.fn y (sb.sub ((sg fs).del y)) = .fn x b.sh := h
    rw [sg_del] at h
    injection h with h1 h2
    exact .inl ⟨sb, by rw [h1], h2⟩
  | name k =>
    rcases rel_name h with ⟨y, rfl, e⟩ | ⟨j, rfl, hj⟩
    · cases e
    · exact .inr ⟨j, rfl, hj⟩
  | _ => cases (show _ = Sh.fn x b.sh from h)
theorem rel_call {a b : Tr} (hf : FnL fs) (h : Rel fs s (.call a b)) : ∃ sa sb, s = .call sa sb ∧ Rel fs sa a ∧ Rel fs sb b := by
  cases s with
  | call sa sb => have h : Sh.call (sa.sub (sg fs)) (sb.sub (sg fs)) = .call a.sh b.sh := h; injection h with h1 h2; exact ⟨sa, sb, rfl, h1, h2⟩
  | name k =>
    rcases rel_name h with ⟨y, rfl, e⟩ | ⟨j, rfl, hj⟩
    · cases e
    · obtain ⟨x, b, e⟩ := hf _ (List.mem_of_getElem? hj); cases e
  | _ => cases (show _ = Sh.call a.sh b.sh from h)
theorem rel_plus {a b : Tr} (hf : FnL fs) (h : Rel fs s (.plus a b)) : ∃ sa sb, s = .plus sa sb ∧ Rel fs sa a ∧ Rel fs sb b := by
  cases s with
  | plus sa sb => have h : Sh.plus (sa.sub (sg fs)) (sb.sub (sg fs)) = .plus a.sh b.sh := h; injection h with h1 h2; exact ⟨sa, sb, rfl, h1, h2⟩
  | name k =>
    rcases rel_name h with ⟨y, rfl, e⟩ | ⟨j, rfl, hj⟩
    · cases e
    · obtain ⟨x, b, e⟩ := hf _ (List.mem_of_getElem? hj); cases e
  | _ => cases (show _ = Sh.plus a.sh b.sh from h)
theorem rel_less {a b : Tr} (hf : FnL fs) (h : Rel fs s (.less a b)) : ∃ sa sb, s = .less sa sb ∧ Rel fs sa a ∧ Rel fs sb b := by
  cases s with
  | less sa sb => have h : Sh.less (sa.sub (sg fs)) (sb.sub (sg fs)) = .less a.sh b.sh := h; injection h with h1 h2; exact ⟨sa, sb, rfl, h1, h2⟩
  | name k =>
    rcases rel_name h with ⟨y, rfl, e⟩ | ⟨j, rfl, hj⟩
    · cases e
    · obtain ⟨x, b, e⟩ := hf _ (List.mem_of_getElem? hj); cases e
  | _ => cases (show _ = Sh.less a.sh b.sh from h)
theorem rel_ite {c a b : Tr} (hf : FnL fs) (h : Rel fs s (.ite c a b)) : ∃ sc sa sb, s = .ite sc sa sb ∧ Rel fs sc c ∧ Rel fs sa a ∧ Rel fs sb b := by
  cases s with
  | ite sc sa sb => have h : Sh.ite (sc.sub (sg fs)) (sa.sub (sg fs)) (sb.sub (sg fs)) = .ite c.sh a.sh b.sh := h; injection h with h0 h1 h2; exact ⟨sc, sa, sb, rfl, h0, h1, h2⟩
  | name k =>
    rcases rel_name h with ⟨y, rfl, e⟩ | ⟨j, rfl, hj⟩
    · cases e
    · obtain ⟨x, b, e⟩ := hf _ (List.mem_of_getElem? hj); cases e
  | _ => cases (show _ = Sh.ite c.sh a.sh b.sh from h)
theorem rel_lt {x : Str} {a b : Tr} (hf : FnL fs) (h : Rel fs s (.lt x a b)) : ∃ sa sb, s = .lt x sa sb ∧ Rel fs sa a ∧ Rel fs sb b := by
  cases s with
  | lt y sa sb =>
    have h : Sh.lt y (sa.sub (sg fs)) (sb.sub ((sg fs).del y)) = .lt x a.sh b.sh := h
    rw [sg_del] at h
    injection h with h0 h1 h2
    exact ⟨sa, sb, by rw [h0], h1, h2⟩
  | name k =>
    rcases rel_name h with ⟨y, rfl, e⟩ | ⟨j, rfl, hj⟩
    · cases e
    · obtain ⟨x, b, e⟩ := hf _ (List.mem_of_getElem? hj); cases e
  | _ => cases (show _ = Sh.lt x a.sh b.sh from h)
theorem rel_mk2 {sa sb : Sh} {a b : Tr} (h1 : Rel fs sa a) (h2 : Rel fs sb b) : Rel fs (.call sa sb) (.call a b) ∧ Rel fs (.plus sa sb) (.plus a b) ∧ Rel fs (.less sa sb) (.less a b) := by
  unfold Rel at *
  simp only [Sh.sub, Tr.sh, h1, h2, and_self]
theorem rel_mki {sc sa sb : Sh} {c a b : Tr} (h0 : Rel fs sc c) (h1 : Rel fs sa a) (h2 : Rel fs sb b) : Rel fs (.ite sc sa sb) (.ite c a b) := by
  unfold Rel at *
  simp only [Sh.sub, Tr.sh, h0, h1, h2]
theorem rel_mkl {x : Str} {sa sb : Sh} {a b : Tr} (h1 : Rel fs sa a) (h2 : Rel fs sb b) : Rel fs (.lt x sa sb) (.lt x a b) := by
  unfold Rel at *
  simp only [Sh.sub, Tr.sh, sg_del, h1, h2]
theorem rel_mkf {x : Str} {sb : Sh} {b : Tr} (h2 : Rel fs sb b) : Rel fs (.fn x sb) (.fn x b) := by
  unfold Rel at *
  simp only [Sh.sub, Tr.sh, sg_del, h2]
/-- the part that comes next, short, and another in its place -/
theorem rel_part {t u : Tr} {i : Nat} (hf : FnL fs) (h : Rel fs s t) (hn : t.nxt = some i) (hu : t.part i = some u) : ∃ su, s.part i = some su ∧ Rel fs su u ∧ ∀ fs' su' u', Rel fs' s t → FnL fs' → Rel fs' su' u' → Rel fs' (s.set i su') (t.set i u') := by
  rcases nxt_cases hn with ⟨a, b, ht, ⟨rfl, h1⟩ | ⟨rfl, h1, h2⟩⟩ | ⟨c, a, b, rfl, rfl, h1⟩ | ⟨x, e, b, rfl, rfl, h1⟩
  · rcases ht with rfl | rfl | rfl <;> cases hu
    · obtain ⟨sa, sb, rfl, g1, g2⟩ := rel_call hf h
      exact ⟨sa, rfl, g1, fun fs' su' u' h' hf' hu' => by obtain ⟨_, _, e, _, g2⟩ := rel_call hf' h'; cases e; exact (rel_mk2 hu' g2).1⟩
    · obtain ⟨sa, sb, rfl, g1, g2⟩ := rel_plus hf h
      exact ⟨sa, rfl, g1, fun fs' su' u' h' hf' hu' => by obtain ⟨_, _, e, _, g2⟩ := rel_plus hf' h'; cases e; exact (rel_mk2 hu' g2).2.1⟩
    · obtain ⟨sa, sb, rfl, g1, g2⟩ := rel_less hf h
      exact ⟨sa, rfl, g1, fun fs' su' u' h' hf' hu' => by obtain ⟨_, _, e, _, g2⟩ := rel_less hf' h'; cases e; exact (rel_mk2 hu' g2).2.2⟩
  · rcases ht with rfl | rfl | rfl <;> cases hu
    · obtain ⟨sa, sb, rfl, g1, g2⟩ := rel_call hf h
      exact ⟨sb, rfl, g2, fun fs' su' u' h' hf' hu' => by obtain ⟨_, _, e, g1, _⟩ := rel_call hf' h'; cases e; exact (rel_mk2 g1 hu').1⟩
    · obtain ⟨sa, sb, rfl, g1, g2⟩ := rel_plus hf h
      exact ⟨sb, rfl, g2, fun fs' su' u' h' hf' hu' => by obtain ⟨_, _, e, g1, _⟩ := rel_plus hf' h'; cases e; exact (rel_mk2 g1 hu').2.1⟩
    · obtain ⟨sa, sb, rfl, g1, g2⟩ := rel_less hf h
      exact ⟨sb, rfl, g2, fun fs' su' u' h' hf' hu' => by obtain ⟨_, _, e, g1, _⟩ := rel_less hf' h'; cases e; exact (rel_mk2 g1 hu').2.2⟩
  · cases hu
    obtain ⟨sc, sa, sb, rfl, g0, g1, g2⟩ := rel_ite hf h
    exact ⟨sc, rfl, g0, fun fs' su' u' h' hf' hu' => by obtain ⟨_, _, _, e, _, g1, g2⟩ := rel_ite hf' h'; cases e; exact rel_mki hu' g1 g2⟩
  · cases hu
    obtain ⟨sa, sb, rfl, g1, g2⟩ := rel_lt hf h
    exact ⟨sa, rfl, g1, fun fs' su' u' h' hf' hu' => by obtain ⟨_, _, e, _, g2⟩ := rel_lt hf' h'; cases e; exact rel_mkl hu' g2⟩
end
/-- a short value as it is put in: no function of its own -/
def ShortV (s : Sh) : Prop := (∃ n, s = .num n) ∨ ∃ j : Nat, s = .name (.inl (j : Int))
/-- putting in a short value and then all the numbers -/
theorem rel_put {fs gs : List Tr} {sv : Sh} {w : Tr} {x : Str} (hv : ShortV sv) (hw : Rel (fs ++ gs) sv w) : ∀ {sb : Sh} {b : Tr}, (∀ g ∈ fs, ¬ g.fr x) → FnL fs → Rel fs sb b → Rel (fs ++ gs) (sb.sub (Ss.one (.inr x) sv)) (b.put x w) := by
  intro sb
  have key : ∀ (y : Str) (t : Sh), t.sub ((Ss.one (.inr x) sv).del y) = if y = x then t else t.sub (Ss.one (.inr x) sv) := by
    intro y t
    by_cases e : y = x
    · subst e
      rw [if_pos rfl]
      have : (Ss.one (.inr y) sv).del y = Ss.none := by
        funext k
        unfold Ss.del Ss.one Ss.none
        by_cases h : k = .inr y
        · rw [if_pos h]
        · rw [if_neg h, if_neg h]
      rw [this, Sh.sub_none]
    · rw [if_neg e, Ss.del_id]
      unfold Ss.one
      rw [if_neg (fun h => e (Sum.inr.inj h))]
  induction sb with
  | num n =>
    intro b _ _ h
    cases b <;> first | (cases (show Sh.num n = _ from h); done) | (cases (show Sh.num n = Sh.num _ from h); rfl)
  | name k =>
    intro b hx hf h
    rcases rel_name h with ⟨y, rfl, rfl⟩ | ⟨j, rfl, hj⟩
    · rw [put_name]
      show Rel (fs ++ gs) ((Ss.one (.inr x) sv (.inr y)).getD (.name (.inr y))) _
      unfold Ss.one
      by_cases e : y = x
      · rw [if_pos e, if_pos (by rw [e])]; exact hw
      · rw [if_neg e, if_neg (fun h => e (Sum.inr.inj h))]; exact rel_ext h
    · rw [Tr.put_id (hx _ (List.mem_of_getElem? hj))]
      show Rel (fs ++ gs) ((Ss.one (.inr x) sv (.inl (j : Int))).getD (.name (.inl (j : Int)))) _
      unfold Ss.one
      rw [if_neg (by intro e; cases e)]
      exact rel_ext h
  | fn y sb ih =>
    intro b hx hf h
    have h0 := h
    have h : Sh.fn y (sb.sub ((sg fs).del y)) = b.sh := h
    rw [sg_del] at h
    cases b <;> simp only [Tr.sh] at h <;> injection h
    rename_i y' b' h1 h2
    subst h1
    rw [put_fn]
    show Rel (fs ++ gs) (.fn y (sb.sub ((Ss.one (.inr x) sv).del y))) _
    rw [key]
    by_cases e : y = x
    · rw [if_pos e, if_pos e]; exact rel_mkf (rel_ext h2)
    · rw [if_neg e, if_neg e]; exact rel_mkf (ih hx hf h2)
  | call a c i1 i2 =>
    intro b hx hf h
    cases b <;> first | (obtain ⟨_, _, e, g1, g2⟩ := rel_call hf h; cases e; rw [put_call]; exact (rel_mk2 (i1 hx hf g1) (i2 hx hf g2)).1) | (cases (show Sh.call _ _ = _ from h); done)
  | plus a c i1 i2 =>
    intro b hx hf h
    cases b <;> first | (obtain ⟨_, _, e, g1, g2⟩ := rel_plus hf h; cases e; rw [put_plus]; exact (rel_mk2 (i1 hx hf g1) (i2 hx hf g2)).2.1) | (cases (show Sh.plus _ _ = _ from h); done)
  | less a c i1 i2 =>
    intro b hx hf h
    cases b <;> first | (obtain ⟨_, _, e, g1, g2⟩ := rel_less hf h; cases e; rw [put_less]; exact (rel_mk2 (i1 hx hf g1) (i2 hx hf g2)).2.2) | (cases (show Sh.less _ _ = _ from h); done)
  | ite c a d i0 i1 i2 =>
    intro b hx hf h
    cases b <;> first | (obtain ⟨_, _, _, e, g0, g1, g2⟩ := rel_ite hf h; cases e; rw [put_ite]; exact rel_mki (i0 hx hf g0) (i1 hx hf g1) (i2 hx hf g2)) | (cases (show Sh.ite _ _ _ = _ from h); done)
  | lt y a c i1 i2 =>
    intro b hx hf h
    cases b <;> first | (obtain ⟨_, _, e, g1, g2⟩ := rel_lt hf h; cases e; skip) | (cases (show Sh.lt _ _ _ = _ from h); done)
    rw [put_lt]
    show Rel (fs ++ gs) (.lt y (a.sub (Ss.one (.inr x) sv)) (c.sub ((Ss.one (.inr x) sv).del y))) _
    rw [key]
    by_cases e : y = x
    · rw [if_pos e, if_pos e]; exact rel_mkl (i1 hx hf g1) (rel_ext g2)
    · rw [if_neg e, if_neg e]; exact rel_mkl (i1 hx hf g1) (i2 hx hf g2)
theorem dep_sub (s : Ss) : ∀ t : Sh, t.dep ≤ (t.sub s).dep := by
  intro t
  induction t generalizing s with
  | num n => exact Nat.le_refl _
  | name k => exact Sh.dep_pos _
  | fn x b ih => have := ih (s.del x); simp only [Sh.sub, Sh.dep]; omega
  | call a b i1 i2 => have := i1 s; have := i2 s; simp only [Sh.sub, Sh.dep]; omega
  | plus a b i1 i2 => have := i1 s; have := i2 s; simp only [Sh.sub, Sh.dep]; omega
  | less a b i1 i2 => have := i1 s; have := i2 s; simp only [Sh.sub, Sh.dep]; omega
  | ite c a b i0 i1 i2 => have := i0 s; have := i1 s; have := i2 s; simp only [Sh.sub, Sh.dep]; omega
  | lt x a b i1 i2 => have := i1 s; have := i2 (s.del x); simp only [Sh.sub, Sh.dep]; omega
theorem rel_dep {fs : List Tr} {s : Sh} {t : Tr} (h : Rel fs s t) : s.dep ≤ t.dep := by
  have h1 := dep_sub (sg fs) s
  rw [show s.sub (sg fs) = t.sh from h, t.dep_sh] at h1
  exact h1
end My

namespace My
open PySem L2
/-! ### the object that works a tree out in its place -/
structure WA where
  aW : Addr
  dx : Addr
  lr : Addr
  fd : Addr
  sd : Addr
def WA.has (W : WA) (a : Addr) : Prop := a = W.aW ∨ a = W.lr ∨ a = W.fd ∨ a = W.sd
def workN : List Str := ["full", "short", "around", "fulls", "shorts"]
def workF (W : WA) (f s : V) : List (Str × V) := [("full", f), ("short", s), ("around", .ref W.lr), ("fulls", .ref W.fd), ("shorts", .ref W.sd)]
theorem workF_full (W : WA) (f s : V) : (workF W f s).lookup ("full" : Str) = some f := rfl
theorem workF_short (W : WA) (f s : V) : (workF W f s).lookup ("short" : Str) = some s := rfl
theorem workF_around (W : WA) (f s : V) : (workF W f s).lookup ("around" : Str) = some (.ref W.lr) := rfl
theorem workF_fulls (W : WA) (f s : V) : (workF W f s).lookup ("fulls" : Str) = some (.ref W.fd) := rfl
theorem workF_shorts (W : WA) (f s : V) : (workF W f s).lookup ("shorts" : Str) = some (.ref W.sd) := rfl
theorem workF_putf (W : WA) (f s g : V) : putF ("full" : Str) g (workF W f s) = workF W g s := rfl
theorem workF_puts (W : WA) (f s g : V) : putF ("short" : Str) g (workF W f s) = workF W f g := rfl
theorem workF_no {W : WA} {a b : V} {m : Str} (h : workN.contains m = false) : (workF W a b).lookup m = none := by
  have key : ∀ (fs : List (Str × V)), (fs.map (·.1)).contains m = false → fs.lookup m = none := by
    intro fs
    induction fs with
    | nil => intro _; rfl
    | cons p r ih =>
      intro h
      rw [List.map_cons, List.contains_cons, Bool.or_eq_false_iff] at h
      rw [List.lookup_cons, h.1]
      exact ih h.2
  exact key _ h
/-- all but these stays, and all tuples -/
structure KU (A : Addr → Prop) (H H' : Hp) : Prop where
  kt : KT H H'
  kp : ∀ a o, ¬ A a → H a = some o → H' a = some o
theorem KU.refl (A : Addr → Prop) (H : Hp) : KU A H H := ⟨KT.refl H, fun _ _ _ h => h⟩
theorem KU.trans {A : Addr → Prop} {H H1 H2 : Hp} (a : KU A H H1) (b : KU A H1 H2) : KU A H H2 := ⟨a.kt.trans b.kt, fun c o n h => b.kp c o n (a.kp c o n h)⟩
theorem KU.same {A : Addr → Prop} {H H' : Hp} (e : Same H H') : KU A H H' := ⟨same_kt e, fun a o _ h => e a o h⟩
theorem KU.out {A : Addr → Prop} {H0 H H' : Hp} (k : KU A H H') (e : Same H0 H) (h : ∀ a, A a → H0 a = none) : Same H0 H' := fun a o ho => k.kp a o (fun ha => by rw [h a ha] at ho; cases ho) (e a o ho)
theorem KU.upd {A : Addr → Prop} {H : Hp} {l : Addr} {u o : HO} (ha : A l) (h : H l = some u) (ht : ∀ xs, u ≠ .tup xs) : KU A H (upd H l o) :=
  ⟨fun b xs q => by rw [upd_ne (ne_of q h (fun e => ht xs e.symm))]; exact q, fun a u n q => by rw [upd_ne (fun e : a = l => n (by rw [e]; exact ha))]; exact q⟩
def FrAt (H : Hp) (f : Fr) (v : V) : Prop := ∃ (p : Addr) (tv sv : V), v = .ref p ∧ H p = some (.tup [tv, sv, .int f.i]) ∧ At H f.t tv ∧ AtS H f.s sv
theorem FrAt.kt {H H' : Hp} (k : KT H H') {f : Fr} {v : V} : FrAt H f v → FrAt H' f v := fun ⟨p, tv, sv, e, h1, h2, h3⟩ => ⟨p, tv, sv, e, k _ _ h1, h2.mono k, h3.mono k⟩
/-- the numbers' trees in a dict -/
def NumD (H : Hp) (d : Addr) (R : Nat → V → Prop) (n : Nat) : Prop := ∃ kvs : List (Key × V), H d = some (.dK kvs) ∧ kvs.length = n ∧ (∀ k, (∀ j : Nat, j < n → k ≠ .inl (j : Int)) → valV kvs k = none) ∧ ∀ j : Nat, j < n → ∃ r, valV kvs (.inl (j : Int)) = some r ∧ R j r
def RF (H : Hp) (fs : List Tr) (j : Nat) (r : V) : Prop := ∃ t, fs[j]? = some t ∧ At H t r
def RS (H : Hp) (ss : List Sh) (j : Nat) (r : V) : Prop := ∃ t, ss[j]? = some t ∧ AtS H t r
structure WorkAt (cW : Addr) (W : WA) (H : Hp) (F : Tr) (S : Sh) (fr : List Fr) (fs : List Tr) (ss : List Sh) : Prop where
  ins : ∃ fv sv, H W.aW = some (.ins cW W.dx (workF W fv sv)) ∧ At H F fv ∧ AtS H S sv
  own : H W.dx = some (.own W.aW)
  nfs : W.fd ≠ W.sd
  ar : ∃ vs, H W.lr = some (.lst vs) ∧ Paired (FrAt H) fr vs
  fu : NumD H W.fd (RF H fs) fs.length
  sh : NumD H W.sd (RS H ss) fs.length
structure WOk (F : Tr) (S : Sh) (fr : List Fr) (fs : List Tr) (ss : List Sh) : Prop where
  rel : Rel fs S F
  fok : FrOk fr
  frl : ∀ f ∈ fr, Rel fs f.s f.t
  fn : FnL fs
  len : ss.length = fs.length
  sh : ∀ (j : Nat) (x : Str) (b : Tr), fs[j]? = some (.fn x b) → ∃ sb, ss[j]? = some (.fn x sb) ∧ Rel fs sb b
section
variable {cW : Addr} {W : WA} {H H' : Hp} {F : Tr} {S : Sh} {fr : List Fr} {fs : List Tr} {ss : List Sh}
theorem NumD.mono {d : Addr} {n : Nat} {R R' : Nat → V → Prop} (h : NumD H d R n) (e : H' d = H d) (hr : ∀ j r, R j r → R' j r) : NumD H' d R' n := by
  obtain ⟨kvs, h1, h2, h3, h4⟩ := h
  exact ⟨kvs, by rw [e]; exact h1, h2, h3, fun j hj => let ⟨r, a, b⟩ := h4 j hj; ⟨r, a, hr j r b⟩⟩
theorem RF.kt (k : KT H H') {j : Nat} {r : V} : RF H fs j r → RF H' fs j r := fun ⟨t, a, b⟩ => ⟨t, a, b.mono k⟩
theorem RS.kt (k : KT H H') {j : Nat} {r : V} : RS H ss j r → RS H' ss j r := fun ⟨t, a, b⟩ => ⟨t, a, b.mono k⟩
theorem WorkAt.same (h : WorkAt cW W H F S fr fs ss) (e : Same H H') : WorkAt cW W H' F S fr fs ss := by
  obtain ⟨fv, sv, i1, i2, i3⟩ := h.ins
  obtain ⟨vs, a1, a2⟩ := h.ar
  have k := same_kt e
  have he : ∀ {a : Addr} {o : HO}, H a = some o → H' a = H a := fun h => (e _ _ h).trans h.symm
  refine ⟨⟨fv, sv, e _ _ i1, i2.mono k, i3.mono k⟩, e _ _ h.own, h.nfs, ⟨vs, e _ _ a1, pr_mono a2 fun _ _ h => h.kt k⟩, ?_, ?_⟩
  · obtain ⟨kvs, h1, _⟩ := id h.fu
    exact h.fu.mono (he h1) fun j r => RF.kt k
  · obtain ⟨kvs, h1, _⟩ := id h.sh
    exact h.sh.mono (he h1) fun j r => RS.kt k
/-- other trees in the place -/
theorem WorkAt.setW (h : WorkAt cW W H F S fr fs ss) {F' : Tr} {S' : Sh} {fv sv : V} (h1 : At H F' fv) (h2 : AtS H S' sv) : KU W.has H (upd H W.aW (.ins cW W.dx (workF W fv sv))) ∧ WorkAt cW W (upd H W.aW (.ins cW W.dx (workF W fv sv))) F' S' fr fs ss := by
  obtain ⟨fv0, sv0, i1, i2, i3⟩ := h.ins
  have k : KU W.has H (upd H W.aW (.ins cW W.dx (workF W fv sv))) := .upd (.inl rfl) i1 (fun xs e => by cases e)
  obtain ⟨vs, a1, a2⟩ := h.ar
  obtain ⟨kvs, f1, _⟩ := id h.fu
  obtain ⟨kvs2, s1, _⟩ := id h.sh
  exact ⟨k, ⟨fv, sv, upd_same, h1.mono k.kt, h2.mono k.kt⟩, by rw [upd_ne (ne_of h.own i1 (by intro z; cases z))]; exact h.own, h.nfs, ⟨vs, by rw [upd_ne (ne_of a1 i1 (by intro z; cases z))]; exact a1, pr_mono a2 fun _ _ h => h.kt k.kt⟩,
    h.fu.mono (upd_ne (ne_of f1 i1 (by intro z; cases z))) fun j r => RF.kt k.kt, h.sh.mono (upd_ne (ne_of s1 i1 (by intro z; cases z))) fun j r => RS.kt k.kt⟩
theorem WorkAt.setR (h : WorkAt cW W H F S fr fs ss) {fr' : List Fr} {vs : List V} (hp : Paired (FrAt H) fr' vs) : KU W.has H (upd H W.lr (.lst vs)) ∧ WorkAt cW W (upd H W.lr (.lst vs)) F S fr' fs ss := by
  obtain ⟨fv0, sv0, i1, i2, i3⟩ := h.ins
  obtain ⟨vs0, a1, a2⟩ := h.ar
  have k : KU W.has H (upd H W.lr (.lst vs)) := .upd (.inr (.inl rfl)) a1 (fun xs e => by cases e)
  obtain ⟨kvs, f1, _⟩ := id h.fu
  obtain ⟨kvs2, s1, _⟩ := id h.sh
  exact ⟨k, ⟨fv0, sv0, by rw [upd_ne (ne_of i1 a1 (by intro z; cases z))]; exact i1, i2.mono k.kt, i3.mono k.kt⟩, by rw [upd_ne (ne_of h.own a1 (by intro z; cases z))]; exact h.own, h.nfs, ⟨vs, upd_same, pr_mono hp fun _ _ h => h.kt k.kt⟩,
    h.fu.mono (upd_ne (ne_of f1 a1 (by intro z; cases z))) fun j r => RF.kt k.kt, h.sh.mono (upd_ne (ne_of s1 a1 (by intro z; cases z))) fun j r => RS.kt k.kt⟩
theorem NumD.put {d : Addr} {n : Nat} {R R' : Nat → V → Prop} {kvs : List (Key × V)} {r : V} (hd : H d = some (.dK kvs)) (h : NumD H d R n) (hr : ∀ j r, j < n → R j r → R' j r) (hn : R' n r) : NumD (upd H d (.dK (putK kvs (.inl (n : Int)) r))) d R' (n + 1) := by
  obtain ⟨kvs', h1, h2, h3, h4⟩ := h
  rw [hd] at h1
  cases h1
  have hnone : valV kvs (.inl (n : Int)) = none := h3 _ fun j hj e => by
    have := Sum.inl.inj e
    omega
  refine ⟨_, upd_same, ?_, fun k hk => ?_, fun j hj => ?_⟩
  · rw [putK_new _ hnone, List.length_append, h2]; rfl
  · rw [valV_put, if_neg (hk n (by omega))]
    exact h3 k fun j hj => hk j (by omega)
  · rw [valV_put]
    by_cases e : j = n
    · subst e; exact ⟨r, by rw [if_pos rfl], hn⟩
    · obtain ⟨r', a, b⟩ := h4 j (by omega)
      exact ⟨r', by rw [if_neg (fun z => e (by have := Sum.inl.inj z; omega))]; exact a, hr j r' (by omega) b⟩
/-- one number more -/
theorem WorkAt.num (h : WorkAt cW W H F S fr fs ss) {g : Tr} {sx : Sh} {gv sv : V} (hl : ss.length = fs.length) (hg : At H g gv) (hs : AtS H sx sv) {kvs kvs2 : List (Key × V)} (h1 : H W.fd = some (.dK kvs)) (h2 : H W.sd = some (.dK kvs2)) :
    KU W.has H (upd (upd H W.fd (.dK (putK kvs (.inl (fs.length : Int)) gv))) W.sd (.dK (putK kvs2 (.inl (fs.length : Int)) sv))) ∧ WorkAt cW W (upd (upd H W.fd (.dK (putK kvs (.inl (fs.length : Int)) gv))) W.sd (.dK (putK kvs2 (.inl (fs.length : Int)) sv))) F S fr (fs ++ [g]) (ss ++ [sx]) := by
  obtain ⟨fv0, sv0, i1, i2, i3⟩ := h.ins
  obtain ⟨vs0, a1, a2⟩ := h.ar
  have k1 : KU W.has H (upd H W.fd (.dK (putK kvs (.inl (fs.length : Int)) gv))) := .upd (.inr (.inr (.inl rfl))) h1 (fun xs e => by cases e)
  have d1 := NumD.put (R' := RF (upd H W.fd (.dK (putK kvs (.inl (fs.length : Int)) gv))) (fs ++ [g])) (r := gv) h1 h.fu (fun j r hj ⟨t, a, b⟩ => ⟨t, by rw [List.getElem?_append_left hj]; exact a, b.mono k1.kt⟩) ⟨g, by simp, hg.mono k1.kt⟩
  have i1' : upd H W.fd (.dK (putK kvs (.inl (fs.length : Int)) gv)) W.aW = _ := (upd_ne (ne_of i1 h1 (by intro z; cases z))).trans i1
  have o1' : upd H W.fd (.dK (putK kvs (.inl (fs.length : Int)) gv)) W.dx = _ := (upd_ne (ne_of h.own h1 (by intro z; cases z))).trans h.own
  have a1' : upd H W.fd (.dK (putK kvs (.inl (fs.length : Int)) gv)) W.lr = _ := (upd_ne (ne_of a1 h1 (by intro z; cases z))).trans a1
  have h2' : upd H W.fd (.dK (putK kvs (.inl (fs.length : Int)) gv)) W.sd = _ := (upd_ne h.nfs.symm).trans h2
  have s2 : NumD (upd H W.fd (.dK (putK kvs (.inl (fs.length : Int)) gv))) W.sd (RS (upd H W.fd (.dK (putK kvs (.inl (fs.length : Int)) gv))) ss) fs.length := h.sh.mono (upd_ne h.nfs.symm) fun j r => RS.kt k1.kt
  have hs' := hs.mono k1.kt
  have i2' := i2.mono k1.kt
  have i3' := i3.mono k1.kt
  have a2' : Paired (FrAt (upd H W.fd (.dK (putK kvs (.inl (fs.length : Int)) gv)))) fr vs0 := pr_mono a2 fun _ _ h => h.kt k1.kt
  generalize upd H W.fd (.dK (putK kvs (.inl (fs.length : Int)) gv)) = H1 at *
  have k2 : KU W.has H1 (upd H1 W.sd (.dK (putK kvs2 (.inl (fs.length : Int)) sv))) := .upd (.inr (.inr (.inr rfl))) h2' (fun xs e => by cases e)
  have d2 := NumD.put (R' := RS (upd H1 W.sd (.dK (putK kvs2 (.inl (fs.length : Int)) sv))) (ss ++ [sx])) (r := sv) h2' s2 (fun j r hj ⟨t, a, b⟩ => ⟨t, by rw [List.getElem?_append_left (by omega)]; exact a, b.mono k2.kt⟩) ⟨sx, by rw [← hl]; simp, hs'.mono k2.kt⟩
  refine ⟨k1.trans k2, ⟨fv0, sv0, by rw [upd_ne (ne_of i1' h2' (by intro z; cases z))]; exact i1', i2'.mono k2.kt, i3'.mono k2.kt⟩, by rw [upd_ne (ne_of o1' h2' (by intro z; cases z))]; exact o1', h.nfs, ⟨vs0, by rw [upd_ne (ne_of a1' h2' (by intro z; cases z))]; exact a1', pr_mono a2' fun _ _ h => h.kt k2.kt⟩, ?_, ?_⟩
  · rw [List.length_append]
    exact d1.mono (upd_ne h.nfs) fun j r => RF.kt k2.kt
  · rw [List.length_append]
    exact d2
theorem WOk.num (h : WOk F S fr fs ss) {x : Str} {b : Tr} {sb : Sh} (hs : Rel fs sb b) : WOk F S fr (fs ++ [.fn x b]) (ss ++ [.fn x sb]) := by
  refine ⟨rel_ext h.rel, h.fok, fun f hf => rel_ext (h.frl f hf), fun g hg => ?_, by rw [List.length_append, List.length_append, h.len]; rfl, fun j y c hj => ?_⟩
  · rcases List.mem_append.mp hg with hg | hg
    · exact h.fn g hg
    · exact ⟨x, b, List.mem_singleton.mp hg⟩
  · by_cases hjl : j < fs.length
    · rw [List.getElem?_append_left hjl] at hj
      obtain ⟨sc, e1, e2⟩ := h.sh j y c hj
      exact ⟨sc, by rw [List.getElem?_append_left (by rw [h.len]; exact hjl)]; exact e1, rel_ext e2⟩
    · have hjl' : j < (fs ++ [Tr.fn x b]).length := (List.getElem?_eq_some_iff.mp hj).1
      rw [List.length_append, List.length_singleton] at hjl'
      have : j = fs.length := by omega
      subst this
      rw [List.getElem?_append_right (Nat.le_refl _), Nat.sub_self] at hj
      cases hj
      exact ⟨sb, by rw [List.getElem?_append_right (by rw [h.len]; exact Nat.le_refl _), h.len, Nat.sub_self]; rfl, rel_ext hs⟩
/-- the numbers' trees as putting in looks at them -/
theorem NumD.dict (h : NumD H W.fd (RF H fs) fs.length) (hl : fs.length ≤ 100000) : DictS H W.fd (sg fs) := by
  obtain ⟨kvs, h1, h2, h3, h4⟩ := h
  refine ⟨kvs, h1, by omega, fun k => ?_⟩
  rcases k with (j | j) | x
  · by_cases hj : j < fs.length
    · obtain ⟨r, a, t, e, b⟩ := h4 j hj
      exact .inr ⟨r, t.sh, a, by show fs[j]?.map Tr.sh = _; rw [e]; rfl, at_sh.mpr b⟩
    · refine .inl ⟨h3 _ fun i hi e => ?_, ?_⟩
      · have h5 : Int.ofNat j = Int.ofNat i := Sum.inl.inj e
        have h6 : j = i := Int.ofNat.inj h5
        omega
      · show fs[j]?.map Tr.sh = _
        rw [List.getElem?_eq_none (by omega)]; rfl
  · refine .inl ⟨h3 _ fun i hi e => ?_, rfl⟩
    have h5 : Int.negSucc j = Int.ofNat i := Sum.inl.inj e
    cases h5
  · exact .inl ⟨h3 _ fun i hi e => (by cases e), rfl⟩
end
/-! ### parts in the heap -/
theorem At.part {H : Hp} {t u : Tr} {i : Nat} {v : V} (h : At H t v) (hu : t.part i = some u) : ∃ (a : Addr) (ws : List V) (uv : V), v = .ref a ∧ H a = some (.tup ws) ∧ ws.length ≤ 4 ∧ ws[i]? = some uv ∧ At H u uv ∧
    ∀ (H' : Hp) (p : Addr) (u' : Tr) (uv' : V), KT H H' → At H' u' uv' → H' p = some (.tup (ws.take i ++ [uv'] ++ ws.drop (i + 1))) → At H' (t.set i u') (.ref p) := by
  match t, i, hu, h with
  | .call _ _, 1, rfl, ⟨a, u1, u2, e, h, h1, h2⟩ => exact ⟨a, _, u1, e, h, by simp, rfl, h1, fun H' p u' uv' k g hp => ⟨p, uv', u2, rfl, hp, g, h2.mono k⟩⟩
  | .call _ _, 2, rfl, ⟨a, u1, u2, e, h, h1, h2⟩ => exact ⟨a, _, u2, e, h, by simp, rfl, h2, fun H' p u' uv' k g hp => ⟨p, u1, uv', rfl, hp, h1.mono k, g⟩⟩
  | .plus _ _, 1, rfl, ⟨a, u1, u2, e, h, h1, h2⟩ => exact ⟨a, _, u1, e, h, by simp, rfl, h1, fun H' p u' uv' k g hp => ⟨p, uv', u2, rfl, hp, g, h2.mono k⟩⟩
  | .plus _ _, 2, rfl, ⟨a, u1, u2, e, h, h1, h2⟩ => exact ⟨a, _, u2, e, h, by simp, rfl, h2, fun H' p u' uv' k g hp => ⟨p, u1, uv', rfl, hp, h1.mono k, g⟩⟩
  | .less _ _, 1, rfl, ⟨a, u1, u2, e, h, h1, h2⟩ => exact ⟨a, _, u1, e, h, by simp, rfl, h1, fun H' p u' uv' k g hp => ⟨p, uv', u2, rfl, hp, g, h2.mono k⟩⟩
  | .less _ _, 2, rfl, ⟨a, u1, u2, e, h, h1, h2⟩ => exact ⟨a, _, u2, e, h, by simp, rfl, h2, fun H' p u' uv' k g hp => ⟨p, u1, uv', rfl, hp, h1.mono k, g⟩⟩
  | .ite _ _ _, 1, rfl, ⟨a, u1, u2, u3, e, h, h1, h2, h3⟩ => exact ⟨a, _, u1, e, h, by simp, rfl, h1, fun H' p u' uv' k g hp => ⟨p, uv', u2, u3, rfl, hp, g, h2.mono k, h3.mono k⟩⟩
  | .lt _ _ _, 2, rfl, ⟨a, u1, u2, e, h, h1, h2⟩ => exact ⟨a, _, u1, e, h, by simp, rfl, h1, fun H' p u' uv' k g hp => ⟨p, uv', u2, rfl, hp, g, h2.mono k⟩⟩
theorem AtS.part {H : Hp} {t u : Sh} {i : Nat} {v : V} (h : AtS H t v) (hu : t.part i = some u) : ∃ (a : Addr) (ws : List V) (uv : V), v = .ref a ∧ H a = some (.tup ws) ∧ ws.length ≤ 4 ∧ ws[i]? = some uv ∧ AtS H u uv ∧
    ∀ (H' : Hp) (p : Addr) (u' : Sh) (uv' : V), KT H H' → AtS H' u' uv' → H' p = some (.tup (ws.take i ++ [uv'] ++ ws.drop (i + 1))) → AtS H' (t.set i u') (.ref p) := by
  match t, i, hu, h with
  | .call _ _, 1, rfl, ⟨a, u1, u2, e, h, h1, h2⟩ => exact ⟨a, _, u1, e, h, by simp, rfl, h1, fun H' p u' uv' k g hp => ⟨p, uv', u2, rfl, hp, g, h2.mono k⟩⟩
  | .call _ _, 2, rfl, ⟨a, u1, u2, e, h, h1, h2⟩ => exact ⟨a, _, u2, e, h, by simp, rfl, h2, fun H' p u' uv' k g hp => ⟨p, u1, uv', rfl, hp, h1.mono k, g⟩⟩
  | .plus _ _, 1, rfl, ⟨a, u1, u2, e, h, h1, h2⟩ => exact ⟨a, _, u1, e, h, by simp, rfl, h1, fun H' p u' uv' k g hp => ⟨p, uv', u2, rfl, hp, g, h2.mono k⟩⟩
  | .plus _ _, 2, rfl, ⟨a, u1, u2, e, h, h1, h2⟩ => exact ⟨a, _, u2, e, h, by simp, rfl, h2, fun H' p u' uv' k g hp => ⟨p, u1, uv', rfl, hp, h1.mono k, g⟩⟩
  | .less _ _, 1, rfl, ⟨a, u1, u2, e, h, h1, h2⟩ => exact ⟨a, _, u1, e, h, by simp, rfl, h1, fun H' p u' uv' k g hp => ⟨p, uv', u2, rfl, hp, g, h2.mono k⟩⟩
  | .less _ _, 2, rfl, ⟨a, u1, u2, e, h, h1, h2⟩ => exact ⟨a, _, u2, e, h, by simp, rfl, h2, fun H' p u' uv' k g hp => ⟨p, u1, uv', rfl, hp, h1.mono k, g⟩⟩
  | .ite _ _ _, 1, rfl, ⟨a, u1, u2, u3, e, h, h1, h2, h3⟩ => exact ⟨a, _, u1, e, h, by simp, rfl, h1, fun H' p u' uv' k g hp => ⟨p, uv', u2, u3, rfl, hp, g, h2.mono k, h3.mono k⟩⟩
  | .lt _ _ _, 2, rfl, ⟨a, u1, u2, e, h, h1, h2⟩ => exact ⟨a, _, u1, e, h, by simp, rfl, h1, fun H' p u' uv' k g hp => ⟨p, uv', u2, rfl, hp, g, h2.mono k⟩⟩
theorem part_pos {t u : Tr} {i : Nat} (hu : t.part i = some u) : 1 ≤ i := by
  match t, i, hu with
  | .call _ _, 1, _ => exact Nat.le_refl _
  | .call _ _, 2, _ => omega
  | .plus _ _, 1, _ => exact Nat.le_refl _
  | .plus _ _, 2, _ => omega
  | .less _ _, 1, _ => exact Nat.le_refl _
  | .less _ _, 2, _ => omega
  | .ite _ _ _, 1, _ => exact Nat.le_refl _
  | .lt _ _ _, 2, _ => omega
theorem isV_in (t : Tr) : inV (.str t.word) [.str "num", .str "fun"] = t.isV := by
  cases t with
  | num _ => exact (by decide +kernel : inV (.str "num") [.str "num", .str "fun"] = true)
  | name _ => exact (by decide +kernel : inV (.str "name") [.str "num", .str "fun"] = false)
  | fn _ _ => exact (by decide +kernel : inV (.str "fun") [.str "num", .str "fun"] = true)
  | call _ _ => exact (by decide +kernel : inV (.str "call") [.str "num", .str "fun"] = false)
  | plus _ _ => exact (by decide +kernel : inV (.str "plus") [.str "num", .str "fun"] = false)
  | less _ _ => exact (by decide +kernel : inV (.str "less") [.str "num", .str "fun"] = false)
  | ite _ _ _ => exact (by decide +kernel : inV (.str "if") [.str "num", .str "fun"] = false)
  | lt _ _ _ => exact (by decide +kernel : inV (.str "let") [.str "num", .str "fun"] = false)
theorem isV_cases {t : Tr} (h : t.isV = true) : (∃ n, t = .num n) ∨ ∃ x b, t = .fn x b := by
  cases t with
  | num n => exact .inl ⟨n, rfl⟩
  | fn x b => exact .inr ⟨x, b, rfl⟩
  | _ => cases h
theorem cut_lo (xs : List V) (j : Nat) : cutV xs (some (j : Int)) none = xs.drop j := by
  unfold cutV
  rw [HT.sIx_nat, HT.sIx_none]
  by_cases h : j ≤ xs.length
  · rw [Nat.min_eq_left h]
    exact List.take_of_length_le (by rw [List.length_drop]; exact Nat.le_refl _)
  · rw [Nat.min_eq_right (by omega), List.drop_length, List.drop_eq_nil_of_le (by omega), List.take_nil]
/-! ### what it promises -/
structure WTxt (K : PySem.W.Frag) (w : World) (mg : Str → Option Value) (E : Ers) (aA aV cW : Addr) : Prop extends Bt mg where
  AHEAD : mg "AHEAD" = some (.ref aA)
  ahead : ∀ p ∈ aheadL, ∃ a, RdK K w aA p.1 (.ref a) ∧ SqK K a p.2
  VALUES : mg "VALUES" = some (.ref aV)
  values : SqK K aV [.str "num", .str "fun"]
  cWork : mg "Work" = some (.ref cW)
  W_ : ClsX K cW workN
  NotClosed : ErrC K mg "NotClosed" E.closed
  NoNumber : ErrC K mg "NoNumber" E.number
  NoFunction : ErrC K mg "NoFunction" E.function
  Dry : ErrC K mg "Dry" E.dry
def spPlace : Sp := fun vs H Q _ => ∃ (t : Tr) (v : V), vs = [v] ∧ At H t v ∧ t.isV = false ∧ ∀ H', Same H H' → Q (match t.nxt with | none => .non | some i => .int (i : Int)) H'
def spWithPart : Sp := fun vs H Q _ => ∃ (a : Addr) (ws : List V) (i : Nat) (pv : V), vs = [.ref a, .int (i : Int), pv] ∧ H a = some (.tup ws) ∧ ws.length ≤ 4 ∧ i < ws.length ∧ 1 ≤ i ∧ ∀ (p : Addr) (H' : Hp), Same H H' → H' p = some (.tup (ws.take i ++ [pv] ++ ws.drop (i + 1))) → Q (.ref p) H'
def spNumP (E : Ers) : Sp := fun vs H Q X => ∃ (t : Tr) (v : V), vs = [v] ∧ At H t v ∧ match t with
  | .num n => Q (.int n) H
  | _ => X (.ref E.number) none H
section
variable (cW : Addr)
def spInitW : Sp := fun vs H Q _ => ∃ (a dx : Addr) (tv : V), vs = [.ref a, tv] ∧ H a = some (.ins cW dx []) ∧
  ∀ (lr fd sd : Addr) (H' : Hp), H lr = none → H fd = none → H sd = none → fd ≠ sd → (∀ b o, b ≠ a → H b = some o → H' b = some o) → H' a = some (.ins cW dx (workF ⟨a, dx, lr, fd, sd⟩ tv tv)) → H' lr = some (.lst []) → H' fd = some (.dK []) → H' sd = some (.dK []) → Q .non H'
def spEnter : Sp := fun vs H Q _ => ∃ (W : WA) (F u : Tr) (S su : Sh) (fr : List Fr) (fs : List Tr) (ss : List Sh) (i : Nat), vs = [.ref W.aW, .int (i : Int)] ∧ WorkAt cW W H F S fr fs ss ∧ F.part i = some u ∧ S.part i = some su ∧ fr.length ≤ 2000000 ∧
  ∀ H', KU W.has H H' → WorkAt cW W H' u su (fr ++ [⟨F, S, i⟩]) fs ss → Q .non H'
def spLeave : Sp := fun vs H Q _ => ∃ (W : WA) (F p : Tr) (S sp : Sh) (fr : List Fr) (f : Fr) (fs : List Tr) (ss : List Sh), vs = [.ref W.aW] ∧ WorkAt cW W H F S (fr ++ [f]) fs ss ∧ f.t.part f.i = some p ∧ f.s.part f.i = some sp ∧ f.i ≤ 2 ∧
  ∀ H', KU W.has H H' → WorkAt cW W H' (f.t.set f.i F) (f.s.set f.i S) fr fs ss → Q .non H'
def spShortV : Sp := fun vs H Q _ => ∃ (W : WA) (F w : Tr) (S sw : Sh) (fr : List Fr) (fs : List Tr) (ss : List Sh) (wv sv : V), vs = [.ref W.aW, wv, sv] ∧ WorkAt cW W H F S fr fs ss ∧ WOk F S fr fs ss ∧ At H w wv ∧ AtS H sw sv ∧ Rel fs sw w ∧ w.isV = true ∧ fs.length ≤ 90000 ∧
  ∀ (r : V) (s' : Sh) (fs' : List Tr) (ss' : List Sh) (H' : Hp), KU W.has H H' → WorkAt cW W H' F S fr fs' ss' → WOk F S fr fs' ss' → ShortV s' → Rel fs' s' w → AtS H' s' r → (∃ gs, fs' = fs ++ gs ∧ ∀ g ∈ gs, g = w) → fs'.length ≤ fs.length + 1 → Q r H'
def spPutIn : Sp := fun vs H Q _ => ∃ (W : WA) (F b w : Tr) (S sb : Sh) (fr : List Fr) (fs : List Tr) (ss : List Sh) (x : Str) (sv : V), vs = [.ref W.aW, .str x, sv] ∧ WorkAt cW W H F S fr fs ss ∧ WOk F S fr fs ss ∧ F.part 2 = some w ∧ w.isV = true ∧ AtS H sb sv ∧ Rel fs sb b ∧ fs.length ≤ 90000 ∧
  (∀ g ∈ fs, g.closed) ∧ (∃ sw, S.part 2 = some sw ∧ Rel fs sw w) ∧ b.dep ≤ 1000000 ∧ (b.put x w).dep ≤ 1000000 ∧
  ∀ (S' : Sh) (fs' : List Tr) (ss' : List Sh) (H' : Hp), KU W.has H H' → WorkAt cW W H' (b.put x w) S' fr fs' ss' → WOk (b.put x w) S' fr fs' ss' → (w.closed → ∀ g ∈ fs', g.closed) → fs'.length ≤ fs.length + 1 → Q .non H'
def DeedQ (E : Ers) (W : WA) (H : Hp) (F : Tr) (fr : List Fr) (fs : List Tr) (Q : VK) (X : XK) : Prop := match F.step with
  | .to F' => ∀ (S' : Sh) (fs' : List Tr) (ss' : List Sh) (H' : Hp), KU W.has H H' → WorkAt cW W H' F' S' fr fs' ss' → WOk F' S' fr fs' ss' → (F.closed → ∀ g ∈ fs', g.closed) → fs'.length ≤ fs.length + 1 → Q .non H'
  | .err c => ∀ H', KU W.has H H' → X (.ref (E.cls c)) none H'
  | .val => True
/-- one deed of one kind (k), of a node whose parts are values -/
def spDeedW (E : Ers) (k : Tr → Prop) : Sp := fun vs H Q X => ∃ (W : WA) (F : Tr) (S : Sh) (fr : List Fr) (fs : List Tr) (ss : List Sh), vs = [.ref W.aW] ∧ WorkAt cW W H F S fr fs ss ∧ WOk F S fr fs ss ∧ F.isV = false ∧ F.nxt = none ∧ k F ∧ fs.length ≤ 90000 ∧ (∀ g ∈ fs, g.closed) ∧ F.dep ≤ 1000000 ∧ (∀ F', F.step = .to F' → F'.dep ≤ 1000000) ∧ DeedQ cW E W H F fr fs Q X
def spSeek : Sp := fun vs H Q _ => ∃ (W : WA) (F : Tr) (S : Sh) (fr : List Fr) (fs : List Tr) (ss : List Sh), vs = [.ref W.aW] ∧ WorkAt cW W H F S fr fs ss ∧ WOk F S fr fs ss ∧ (plug fr F).dep ≤ 1000000 ∧
  (∀ (F' : Tr) (S' : Sh) (fr' : List Fr) (H' : Hp), KU W.has H H' → WorkAt cW W H' F' S' fr' fs ss → WOk F' S' fr' fs ss → plug fr' F' = plug fr F → F'.isV = false → F'.nxt = none → Q (.bl true) H') ∧
  ∀ (S' : Sh) (H' : Hp), KU W.has H H' → WorkAt cW W H' (plug fr F) S' [] fs ss → WOk (plug fr F) S' [] fs ss → (plug fr F).isV = true → Q (.bl false) H'
def spWholeW : Sp := fun vs H Q _ => ∃ (W : WA) (F : Tr) (S : Sh) (fr : List Fr) (fs : List Tr) (ss : List Sh), vs = [.ref W.aW] ∧ WorkAt cW W H F S fr fs ss ∧ FrOk fr ∧ ∀ (r : V) (H' : Hp), Same H H' → At H' (plug fr F) r → Q r H'
end
end My

namespace My
open PySem L2
/-! ### the deeds, one kind at a time -/
theorem nxt_two {a b : Tr} (h : nx2 a b = none) : a.step = .val ∧ b.step = .val ∧ a.isV = true ∧ b.isV = true := by
  obtain ⟨h1, h2⟩ := nx2_none h
  exact ⟨Tr.step_val.mpr h1, Tr.step_val.mpr h2, h1, h2⟩
theorem step_calln {n : Int} {b : Tr} (hb : b.isV = true) : (Tr.call (.num n) b).step = .err .function := by
  have := Tr.step_val.mpr hb
  simp only [Tr.step, this]
theorem step_callf {x : Str} {t b : Tr} (hb : b.isV = true) : (Tr.call (.fn x t) b).step = .to (t.put x b) := by
  have := Tr.step_val.mpr hb
  simp only [Tr.step, this]
def rkS (f : Int → Int → Int) : Tr → Tr → St1
  | .num m, .num n => .to (.num (f m n))
  | _, _ => .err .number
def itS (a b : Tr) : Tr → St1
  | .num n => .to (if n = 0 then b else a)
  | _ => .err .number
theorem step_plus {a b : Tr} (h : nx2 a b = none) : (Tr.plus a b).step = rkS (fun m n => m + n) a b := by
  obtain ⟨h1, h2, h3, h4⟩ := nxt_two h
  simp only [Tr.step, h1, h2]
  cases a <;> cases b <;> rfl
theorem step_less {a b : Tr} (h : nx2 a b = none) : (Tr.less a b).step = rkS (fun m n => m - n) a b := by
  obtain ⟨h1, h2, h3, h4⟩ := nxt_two h
  simp only [Tr.step, h1, h2]
  cases a <;> cases b <;> rfl
theorem step_ite {c a b : Tr} (h : c.isV = true) : (Tr.ite c a b).step = itS a b c := by
  have := Tr.step_val.mpr h
  simp only [Tr.step, this]
  cases c <;> rfl
theorem step_lt {x : Str} {e b : Tr} (h : e.isV = true) : (Tr.lt x e b).step = .to (b.put x e) := by
  have := Tr.step_val.mpr h
  simp only [Tr.step, this]
theorem nxt_ite {c a b : Tr} (h : (Tr.ite c a b).nxt = none) : c.isV = true := by
  have h : (if c.isV = false then some 1 else none) = none := h
  cases hc : c.isV with
  | true => rfl
  | false => rw [if_pos hc] at h; cases h
theorem nxt_lt {x : Str} {e b : Tr} (h : (Tr.lt x e b).nxt = none) : e.isV = true := by
  have h : (if e.isV = false then some 2 else none) = none := h
  cases hc : e.isV with
  | true => rfl
  | false => rw [if_pos hc] at h; cases h
def isCall (t : Tr) : Prop := ∃ a b, t = .call a b
def isIte (t : Tr) : Prop := ∃ c a b, t = .ite c a b
def isRk (t : Tr) : Prop := ∃ a b, t = .plus a b ∨ t = .less a b
def spReckonW : Sp := spReckon
section
variable {cW : Addr} {R : Ers} {W : WA} {H H' : Hp} {F : Tr} {fr : List Fr} {fs : List Tr} {Q : VK} {X : XK}
theorem DeedQ.mono (q : DeedQ cW R W H F fr fs Q X) (k : KU W.has H H') : DeedQ cW R W H' F fr fs Q X := by
  revert q
  unfold DeedQ
  cases F.step with
  | val => exact fun _ => trivial
  | to F' => exact fun q S' fs' ss' H'' k' => q S' fs' ss' H'' (k.trans k')
  | err c => exact fun q H'' k' => q H'' (k.trans k')
theorem DeedQ.to (q : DeedQ cW R W H F fr fs Q X) {F' : Tr} (h : F.step = .to F') : ∀ (S' : Sh) (fs' : List Tr) (ss' : List Sh) (H' : Hp), KU W.has H H' → WorkAt cW W H' F' S' fr fs' ss' → WOk F' S' fr fs' ss' → (F.closed → ∀ g ∈ fs', g.closed) → fs'.length ≤ fs.length + 1 → Q .non H' := by
  unfold DeedQ at q
  rw [h] at q
  exact q
theorem DeedQ.er (q : DeedQ cW R W H F fr fs Q X) {c : Er} (h : F.step = .err c) : ∀ H', KU W.has H H' → X (.ref (R.cls c)) none H' := by
  unfold DeedQ at q
  rw [h] at q
  exact q
end
end My

namespace My
open PySem L2
/-- a loop whose test does something -/
theorem whileS_ {c : TT} {tb : TS} {D : Ends} {σ : L2.St} {H : Hp} (W : Nat → L2.St → Hp → Prop) (m : Nat) (w0 : W m σ H)
    (h : ∀ m σ H, W m σ H → ∀ Qb : Bool → Hp → Prop, (∀ H1, (∀ N : L2.St → Hp → Prop, (∀ m' σ' H', m' < m → W m' σ' H' → N σ' H') → tb { D with nx := N, ct := N, bk := D.nx } σ H1) → Qb true H1) → (∀ H1, D.nx σ H1 → Qb false H1) → c σ H Qb) :
    tWhile c tb D σ H := by
  refine ⟨W, ⟨m, w0⟩, fun m σ H w => h m σ H w _ (fun H1 q => ?_) fun H1 q => q⟩
  exact ⟨fun σ' H' => ∃ m', m' < m ∧ W m' σ' H', fun _ _ n => n, q _ fun m' _ _ l w' => ⟨m', l, w'⟩⟩
theorem work_new {cW : Addr} {H H1 H3 : Hp} {x dx lr fd sd : Addr} {t : Tr} {v : V} (e1 : Same H H1) (ht : At H t v) (hx : H1 x = none) (hdx : H1 dx = none) (hne : dx ≠ x) (h1 : upd (upd H1 dx (.own x)) x (.ins cW dx []) lr = none) (h2 : upd (upd H1 dx (.own x)) x (.ins cW dx []) fd = none)
    (h3 : upd (upd H1 dx (.own x)) x (.ins cW dx []) sd = none) (nfs : fd ≠ sd) (kp : ∀ b o, b ≠ x → upd (upd H1 dx (.own x)) x (.ins cW dx []) b = some o → H3 b = some o) (hins : H3 x = some (.ins cW dx (workF ⟨x, dx, lr, fd, sd⟩ v v)))
    (g1 : H3 lr = some (.lst [])) (g2 : H3 fd = some (.dK [])) (g3 : H3 sd = some (.dK [])) : WorkAt cW ⟨x, dx, lr, fd, sd⟩ H3 t t.sh [] [] [] ∧ Same H H3 ∧ ∀ a, WA.has ⟨x, dx, lr, fd, sd⟩ a → H a = none := by
  have e12 : Same H1 (upd (upd H1 dx (.own x)) x (.ins cW dx [])) := (same_new hdx).trans (same_new (by rw [upd_ne hne.symm]; exact hx))
  have e13 : Same H H3 := fun b o hb => by
    have hb1 := e1 _ _ hb
    exact kp b o (ne_of_none hb1 hx) (e12 _ _ hb1)
  refine ⟨⟨⟨v, v, hins, ht.mono (same_kt e13), at_sh.mpr (ht.mono (same_kt e13))⟩, kp dx _ hne (by rw [upd_ne hne, upd_same]), nfs, ⟨[], g1, .nil⟩, ⟨[], g2, rfl, fun _ _ => rfl, fun j hj => absurd hj (Nat.not_lt_zero _)⟩, ⟨[], g3, rfl, fun _ _ => rfl, fun j hj => absurd hj (Nat.not_lt_zero _)⟩⟩, e13, ?_⟩
  rintro a (rfl | rfl | rfl | rfl)
  · exact e1.free hx
  · exact (e1.trans e12).free h1
  · exact (e1.trans e12).free h2
  · exact (e1.trans e12).free h3
theorem sub_sgnil (s : Sh) : s.sub (sg []) = s := by
  have : sg [] = Ss.none := by
    funext k
    rcases k with (j | j) | x <;> rfl
  rw [this, Sh.sub_none]
theorem wok_new (t : Tr) : WOk t t.sh [] [] [] := ⟨sub_sgnil _, (fun f hf => by cases hf), (fun f hf => by cases hf), (fun g hg => by cases hg), rfl, (fun j x b h => by cases h)⟩
theorem WorkAt.other {cW : Addr} {W : WA} {H : Hp} {F : Tr} {S : Sh} {fr : List Fr} {fs : List Tr} {ss : List Sh} (h : WorkAt cW W H F S fr fs ss) {l : Addr} {xs ys : List V} (hl : H l = some (.lst xs)) (hne : l ≠ W.lr) : WorkAt cW W (upd H l (.lst ys)) F S fr fs ss := by
  obtain ⟨fv0, sv0, i1, i2, i3⟩ := h.ins
  obtain ⟨vs0, a1, a2⟩ := h.ar
  have k : KT H (upd H l (.lst ys)) := kt_lst hl
  obtain ⟨kvs, f1, _⟩ := id h.fu
  obtain ⟨kvs2, s1, _⟩ := id h.sh
  exact ⟨⟨fv0, sv0, by rw [upd_ne (ne_of i1 hl (by intro z; cases z))]; exact i1, i2.mono k, i3.mono k⟩, by rw [upd_ne (ne_of h.own hl (by intro z; cases z))]; exact h.own, h.nfs, ⟨vs0, by rw [upd_ne hne.symm]; exact a1, pr_mono a2 fun _ _ h => h.kt k⟩,
    h.fu.mono (upd_ne (ne_of f1 hl (by intro z; cases z))) fun j r => RF.kt k, h.sh.mono (upd_ne (ne_of s1 hl (by intro z; cases z))) fun j r => RS.kt k⟩
/-- a step, wherever it is done -/
theorem plug_to {fr : List Fr} {F G : Tr} (h : FrOk fr) (hs : F.step = .to G) : (plug fr F).step = .to (plug fr G) := (plug_ctx h).to _ _ hs
theorem plug_er {fr : List Fr} {F : Tr} {c : Er} (h : FrOk fr) (hs : F.step = .err c) : (plug fr F).step = .err c := (plug_ctx h).err _ _ hs
theorem step_nv {F : Tr} (h : F.isV = false) : (∃ G, F.step = .to G) ∨ ∃ c, F.step = .err c := by
  cases hs : F.step with
  | val => rw [Tr.step_val.mp hs] at h; cases h
  | to G => exact .inl ⟨G, rfl⟩
  | err c => exact .inr ⟨c, rfl⟩
theorem plug_nv {fr : List Fr} {F : Tr} (h : FrOk fr) (hv : F.isV = false) : (plug fr F).isV = false := by
  cases fr with
  | nil => exact hv
  | cons f fr => exact plug_isV h
def spStep (E : Ers) : Sp := fun vs H Q X => ∃ (v : V) (t : Tr), vs = [v] ∧ At H t v ∧ t.dep ≤ 500000 ∧ (∀ t', t.step = .to t' → t'.dep ≤ 1000000) ∧
  match t.step with
  | .val => ∀ H', Same H H' → Q .non H'
  | .to t' => ∀ (r : V) (H' : Hp), Same H H' → At H' t' r → Q r H'
  | .err c => ∀ H', Same H H' → X (.ref (E.cls c)) none H'
/-- a work under way -/
structure Way (m : Nat) (t : Tr) (k : Nat) (T : Tr) (fs : List Tr) : Prop where
  work : work m t = work (m - k) T
  closed : T.closed
  bo : Bo 400 T
  dep : T.dep ≤ 400 + 400 * k
  le : k ≤ m
  most : m ≤ 1000
  fle : fs.length ≤ k
  fcl : ∀ g ∈ fs, g.closed
theorem Way.start {H : Hp} {t : Tr} {v : V} {m : Nat} (h : OkIn H t v m) : Way m t 0 t [] := ⟨by rw [Nat.sub_zero], h.closed, bo_dep (by have := t.dep_size; have := h.size; omega), by have := t.dep_size; have := h.size; omega, Nat.zero_le _, h.most, Nat.le_refl _, (fun g hg => by cases hg)⟩
theorem Way.dep' {m k : Nat} {t T : Tr} {fs : List Tr} (w : Way m t k T fs) : T.dep ≤ 500000 := by have := w.dep; have := w.le; have := w.most; omega
theorem Way.next {m k : Nat} {t T T' : Tr} {fs fs' : List Tr} (w : Way m t k T fs) (hk : k < m) (hs : T.step = .to T') (hf : fs'.length ≤ fs.length + 1) (hc : ∀ g ∈ fs', g.closed) : Way m t (k + 1) T' fs' := by
  have h1 := step_dep w.closed w.bo hs
  refine ⟨?_, (step_closed w.closed).2 T' hs, h1.1, by have := w.dep; omega, by omega, w.most, by have := w.fle; omega, hc⟩
  rw [w.work, show m - k = (m - (k + 1)) + 1 by omega, work_to hs]
theorem Way.todep {m k : Nat} {t T T' : Tr} {fs : List Tr} (w : Way m t k T fs) (hs : T.step = .to T') : T'.dep ≤ 1000000 := by
  have h1 := step_dep w.closed w.bo hs
  have := w.dep'
  omega
end My

namespace My
open PySem L2 L2H
open PyProof.Rows (envOfC)
/-! ### a def that is handed the exception which an except suite holds -/
structure FnE (P : Program) (w : World) (K : PySem.W.Frag) (mg : Str → Option Value) (base : Heap) (k : Nat) (f : Addr) (fd : FuncData) (ps : List Str) (sp : Addr × Obj → Sp) : Prop where
  len : ∀ p vs H Q E, sp p vs H Q E → vs.length = ps.length
  run : ∀ (A : Around) (outer : List PySem.Env) (s : Shared) (H : Hp) (args : Args) (us : List Value) (vs : List V) (Q : VK) (E : XK) (p : Addr × Obj),
    RoomH k A → PinOk outer H s p → Env0 P w K mg base A outer s H → BindsTo s fd args (ps.zip us) → Vals vs us → sp p vs H Q E → codeAny (model P w) A (.call (.ref f) args) (CR CX0 outer P w H s Q E) s
theorem fnE_of {P : Program} {w : World} {K : PySem.W.Frag} {mg : Str → Option Value} {base : Heap} {k : Nat} {x : Str} {st : Stmt} {f : Addr} {fd : FuncData} {N ps : List Str} {sp : Addr × Obj → Sp} (F : Fun K x x st f fd) (S : FnScope N ps (defScope st))
    (len : ∀ p vs H Q E, sp p vs H Q E → vs.length = ps.length)
    (hbody : ∀ (cdv : Value) (A : Around) (outer : List PySem.Env) (s : Shared) (H : Hp) (vs : List V) (Q : VK) (E : XK) (p : Addr × Obj), sp p vs H Q E →
      ∃ t, PSs (cxH CX0 P w K mg base N x (defScope st) f cdv A outer s H E p) (defBody st) t ∧ t { nx := fun _ H' => Q .non H', rt := Q } (L2.start N vs) H) : FnE P w K mg base (k + 1) f fd ps sp := by
  obtain ⟨oc, od, kV, doc, pm, an, cdv, ct, osl, rfl, lk, hcd⟩ := F.ex
  refine ⟨len, ?_⟩
  intro A outer s H args us vs Q E p hr hpin e0 hb r hsp
  have inK : K.In s.heap := e0.mod.kin.keeps fun b o e => (e0.bs b o e).1
  have nl : s.heap.NoLimit := e0.mod.nolimit.keeps fun b o e => (e0.bs b o e).1
  have kinds : ∀ y ∈ ps.zip us, (defScope st).names.lookup y.1 = some .local ∨ ((defScope st).names.lookup y.1 = some .cell ∧ ((cellsFrom (s.heap.objs.size + 1) (defScope st).names []).lookup y.1).isSome = true) := by
    rintro ⟨n, v⟩ hy
    exact (S.par n (List.of_mem_zip hy).1).imp id fun q => ⟨q, PySem.W.cellsFrom_some _ _ _ (.inl q)⟩
  refine codeAny_call_function hr.depth (inK _ _ lk) rfl S.co S.gen rfl (PySem.W.codeRec_of inK hcd) (hb _ _ _ _ ?_)
  refine wpAny_newFunctionEnv_cells S.kind kinds fun env he s1 z => ?_
  subst he
  obtain ⟨t, ht, hq⟩ := hbody cdv A outer s H vs Q E p hsp
  have I1 := inv_startH (CX := CX0) (E := E) (qual := x) (f := f) (cd := cdv) S hpin e0 (len _ _ _ _ _ hsp) r z
  refine ⟨nl.keeps z.toInCall.keep, codeAny_func (wpAny_mono (ht.run [] s1 _ H _ I1 hq) ?_ fun _ _ h => h)⟩
  intro fl s' hs
  match fl, hs with
  | .ret u, ⟨v, σ', H', J, rv, q⟩ => exact ⟨v, H', J.os, J.bare, J.base, J.hok, rv, q⟩
  | .next, ⟨σ', H', J, q⟩ => exact ⟨.non, H', J.os, J.bare, J.base, J.hok, rfl, q⟩
  | .brk, ⟨_, _, _, q⟩ => exact q.elim
  | .cont, ⟨_, _, _, q⟩ => exact q.elim
/-- such a def at the module's name -/
structure DfE (P : Program) (w : World) (K : PySem.W.Frag) (mg : Str → Option Value) (base : Heap) (k : Nat) (x : Str) (ps : List Str) (sp : Addr × Obj → Sp) : Prop where
  ex : ∃ (f : Addr) (fd : FuncData), FnE P w K mg base k f fd ps sp ∧ mg x = some (.ref f) ∧ PySem.W.keepIn K (.ref f) = true ∧ Binds K fd ps []
theorem FunAt.dfE {P : Program} {w : World} {K : PySem.W.Frag} {mg : Str → Option Value} {base : Heap} {x : Str} {st : Stmt} {N ps : List Str} {k : Nat} {sp : Addr × Obj → Sp} (F : FunAt K mg x st) (S : FnScope N ps (defScope st)) (hb : BindAll x st ps) (len : ∀ p vs H Q E, sp p vs H Q E → vs.length = ps.length)
    (hbody : ∀ (f : Addr) (cdv : Value) (A : Around) (outer : List PySem.Env) (s : Shared) (H : Hp) (vs : List V) (Q : VK) (E : XK) (p : Addr × Obj), sp p vs H Q E →
      ∃ t, PSs (cxH CX0 P w K mg base N x (defScope st) f cdv A outer s H E p) (defBody st) t ∧ t { nx := fun _ H' => Q .non H', rt := Q } (L2.start N vs) H) : DfE P w K mg base (k + 1) x ps sp := by
  obtain ⟨f, fd, h, m⟩ := F
  exact ⟨f, fd, fnE_of h S len (hbody f), m, h.kp, h.binds hb⟩
/-- its call within the suite -/
def tCallEx (pn : List (Addr × Obj)) (sp : Addr × Obj → Sp) (t : TA) : TE := fun σ H Q => t σ H fun vs H1 => ∃ p ∈ pn, sp p vs H1 Q E0
theorem pe_callEx {X : Cx} {j : Nat} {x : Str} {ps : List Str} {sp : Addr × Obj → Sp} {p0 pos : Pos} {e : Expr} {es : List Expr} {t : TA} (D : DfE X.prog X.w X.K X.mg X.base j x ps sp) (hr : RoomH j X.A) (hg : Gl X x) (ha : PA X (e :: es) t) (hdb : (x == ("__debug__" : Str)) = false := by decide)
    (he : starEach (e :: es) X.env = (false, eval e X.env) :: starEach es X.env := by rfl) (hpl : (backTo pos (starEach es X.env)).any (·.1) = false := by rfl) : PE X (.Call (.Name x p0) (e :: es) [] pos) (tCallEx X.pn sp t) := by
  obtain ⟨f, fd, F, m, kp, b⟩ := D.ex
  constructor
  intro pins s σ H Q I h
  refine wpAny_Call_Name_kw (ld_glob I hg m ?_ hdb)
  refine PySem.W.callWith_K (h₀ := X.base) I.ok.mod.kin kp (thn (ha.run pos pins s σ H _ I h) ?_) he hpl
  rintro us s1 ⟨vs, H1, I1, r, p, hp, q⟩
  refine ⟨I1.kIn, ?_⟩
  have hn : us.length = ps.length := by rw [← r.length]; exact F.len _ _ _ _ _ q
  have bb := b s1 us I1.kIn (by rw [List.append_nil]; exact hn)
  rw [List.append_nil] at bb
  have hpin := I1.pin p (List.mem_append_left _ hp)
  refine wpAny_call (codeAny_mono (F.run X.A X.stack s1 H1 ⟨us, []⟩ us vs Q E0 p hr ⟨hpin.1, hpin.2.1, fun hm => (List.mem_cons.mp (I1.stkSub p.1 hm)).elim hpin.2.2.1 hpin.2.2.2.1, hpin.2.2.2.2⟩ I1.env0 bb r q) ?_)
  intro r' s' hq
  match r', hq with
  | .error _, hq => exact hq.elim
  | .ok (.ret u), hq => exact I1.after hq
  | .ok .next, hq => exact False.elim hq
  | .ok .brk, hq => exact False.elim hq
  | .ok .cont, hq => exact False.elim hq
/-- what is promised by the exception's place, class and dict -/
def spOf (spz : Addr → Value → Option Addr → Sp) : Addr × Obj → Sp := fun p vs H Q E => ∃ (cls : Value) (d : Option Addr), Zc cls d p.2 ∧ (∃ vs, p.2.data = .fields vs) ∧ spz p.1 cls d vs H Q E
def tCallEz (spz : Addr → Value → Option Addr → Sp) (a : Addr) (cls : Value) (d : Option Addr) (t : TA) : TE := fun σ H Q => t σ H fun vs H1 => spz a cls d vs H1 Q E0
theorem room_suite {X : Cx} {a : Addr} {pn : List (Addr × Obj)} {j : Nat} (hr : Room j X.A) : RoomH j (X.suite a pn).A := ⟨hr.dp, hr.un⟩
theorem pe_callEz {X : Cx} {j : Nat} {x : Str} {ps : List Str} {spz : Addr → Value → Option Addr → Sp} {a : Addr} {cls : Value} {d : Option Addr} {oe : Obj} {pn : List (Addr × Obj)} {p0 pos : Pos} {e : Expr} {es : List Expr} {t : TA} (D : DfE X.prog X.w X.K X.mg X.base j x ps (spOf spz)) (hr : Room j X.A)
    (hz : Zc cls d oe) (hf : ∃ vs, oe.data = .fields vs) (hg : Gl (X.suite a ((a, oe) :: pn)) x) (ha : PA (X.suite a ((a, oe) :: pn)) (e :: es) t) (mono : ∀ σ H (Q Q' : List V → Hp → Prop), (∀ vs H1, Q vs H1 → Q' vs H1) → t σ H Q → t σ H Q') (hdb : (x == ("__debug__" : Str)) = false := by decide)
    (he : starEach (e :: es) X.env = (false, eval e X.env) :: starEach es X.env := by rfl) (hpl : (backTo pos (starEach es X.env)).any (·.1) = false := by rfl) : PE (X.suite a ((a, oe) :: pn)) (.Call (.Name x p0) (e :: es) [] pos) (tCallEz spz a cls d t) := by
  have h := pe_callEx (X := X.suite a ((a, oe) :: pn)) (p0 := p0) (pos := pos) (t := t) D (room_suite hr) hg ha hdb he hpl
  constructor
  intro pins s σ H Q I q
  refine h.run pins s σ H Q I ?_
  unfold tCallEx
  exact mono σ H _ _ (fun vs H1 q1 => ⟨(a, oe), List.mem_cons_self, cls, d, hz, hf, q1⟩) q
/-- isinstance of the exception that is handed on -/
theorem call_isPin {X : Cx} {a D : Addr} {oe : Obj} (C : ExcC X.K D) (hp : (a, oe) ∈ X.pn) (hz : Zc (.ref D) none oe) (hf : ∃ vs, oe.data = .fields vs) : CallR X (.builtin "isinstance") (rIsE X.K D a) := by
  intro pins s σ H xs us Q I r h
  obtain ⟨c, cv, b, rfl, hcv, e, q⟩ := h
  obtain ⟨u1, u2, rfl, r1, r2⟩ := vals2 r
  cases (show u1 = Value.ref a from r1)
  rw [hcv _ r2]
  obtain ⟨hget, _⟩ := I.pin (a, oe) (List.mem_append.mpr (.inl hp))
  obtain ⟨vs, hv⟩ := hf
  have J : PySem.W.InstAt s.heap a oe D none := by
    obtain ⟨oc, od, oda, osl⟩ := oe
    obtain ⟨g1, g2⟩ := hz
    cases g1
    cases g2
    cases (show oda = _ from hv)
    exact ⟨hget, rfl, rfl, trivial⟩
  refine PySem.W.kia_one (PySem.W.handS_kitx_exc C.hg C.hk C.hs C.hd C.ha C.hn C.ht C.hm) I.kIn J e (fun z => by cases z) ?_
  exact fun tk => ⟨.bl b, H, I.tok tk, rfl, q⟩
theorem vals_refs : ∀ {as : List Addr} {us : List Value}, Vals (as.map V.ref) us → us = as.map Value.ref
  | [], _, .nil => rfl
  | a :: as, _, .cons r t => by
    rw [vals_refs t, show _ = Value.ref a from r]
    rfl
def rIsPT (K : PySem.W.Frag) (D a : Addr) : List V → Hp → VK → Prop := fun xs H Q => ∃ (tp : Addr) (cs : List Addr) (b : Bool), xs = [.ref a, .ref tp] ∧ H tp = some (.tup (cs.map V.ref)) ∧ PySem.W.kitAny K (.ref D) (cs.map Value.ref) = some b ∧ Q (.bl b) H
theorem call_isPinT {X : Cx} {a D : Addr} {oe : Obj} (C : ExcC X.K D) (hp : (a, oe) ∈ X.pn) (hz : Zc (.ref D) none oe) (hf : ∃ vs, oe.data = .fields vs) : CallR X (.builtin "isinstance") (rIsPT X.K D a) := by
  intro pins s σ H xs us Q I r h
  obtain ⟨tp, cs, b, rfl, hT, e, q⟩ := h
  obtain ⟨u1, u2, rfl, r1, r2⟩ := vals2 r
  cases (show u1 = Value.ref a from r1)
  cases (show u2 = Value.ref tp from r2)
  obtain ⟨hget, _⟩ := I.pin (a, oe) (List.mem_append.mpr (.inl hp))
  obtain ⟨vs, hv⟩ := hf
  have J : PySem.W.InstAt s.heap a oe D none := by
    obtain ⟨oc, od, oda, osl⟩ := oe
    obtain ⟨g1, g2⟩ := hz
    cases g1
    cases g2
    cases (show oda = _ from hv)
    exact ⟨hget, rfl, rfl, trivial⟩
  obtain ⟨_, its, rv, o, h1, h2, n, h3⟩ := (show ObjOk X.prog X.w H s.heap tp (.tup (cs.map V.ref)) from I.hok tp _ hT)
  have e3 := vals_refs rv
  subst e3
  obtain ⟨oc, od, dt, sl⟩ := o
  simp only at h2 h3
  subst h2 h3
  refine PySem.W.kia_tup (PySem.W.handS_kitx_exc C.hg C.hk C.hs C.hd C.ha C.hn C.ht C.hm) I.kIn J h1 e (fun z => by cases z) ?_
  exact fun tk => ⟨.bl b, H, I.tok tk, rfl, q⟩
/-- how the classes of refusals are told apart by isinstance -/
structure IsT (K : PySem.W.Frag) (E : Ers) (D : Addr) (n f d : Bool) : Prop where
  ex : ExcC K D
  nn : PySem.W.kitOne K (.ref D) (.ref E.number) = some n
  ff : PySem.W.kitOne K (.ref D) (.ref E.function) = some f
  dd : PySem.W.kitOne K (.ref D) (.ref E.dry) = some d
  tc : PySem.W.kitAny K (.ref D) [.ref E.tree, .ref E.closed] = some false
  mt : PySem.W.kitAny K (.ref D) [.ref E.most, .ref E.text] = some false
  ve : PySem.W.kitOne K (.ref D) (.type "ValueError") = some true
def spWordsZ (E : Ers) : Addr → Value → Option Addr → Sp := fun a cls d vs H Q _ => ∃ (D : Addr) (z : Str), vs = [.ref a] ∧ cls = .ref D ∧ d = none ∧ ((D = E.number ∧ z = "number") ∨ (D = E.function ∧ z = "function") ∨ (D = E.dry ∧ z = "dry")) ∧ ∀ H', Same H H' → Q (.str z) H'
end My

namespace My
open PySem L2
open PySem.Spec PyProof.Rows
open PySem.W (exm_cls)
/-! ### except (A, B, ..) as e -/
section
variable {M : Model} {h : Heap}
theorem for_looks {β : Type} {f : Value → β → Sem (ForInStep β)} {b0 : β} : ∀ {cs : List Value}, (∀ c ∈ cs, PySem.W.Looks M h (f c b0) (.yield b0)) → PySem.W.Looks M h (forIn cs b0 f) b0
  | [], _ => by rw [List.forIn_nil]; exact .now
  | c :: cs, hs => by
    rw [List.forIn_cons]
    exact (hs c List.mem_cons_self).andThen (for_looks fun c hc => hs c (List.mem_cons_of_mem _ hc))
theorem for_any {β : Type} {f : Value → β → Sem (ForInStep β)} {g : Value → Bool} {b0 b1 : β} : ∀ {cs : List Value}, (∀ c ∈ cs, PySem.W.Looks M h (f c b0) (if g c = true then .done b1 else .yield b0)) → PySem.W.Looks M h (forIn cs b0 f) (if cs.any g = true then b1 else b0)
  | [], _ => by rw [List.forIn_nil]; exact .now
  | c :: cs, hs => by
    rw [List.forIn_cons]
    refine (hs c List.mem_cons_self).andThen ?_
    rw [List.any_cons]
    cases g c with
    | true => exact .now
    | false => exact for_any fun c hc => hs c (List.mem_cons_of_mem _ hc)
theorem any_each {K : PySem.W.Frag} {cls : Value} : ∀ {cs : List Value} {b : Bool}, PySem.W.exmAny K cls cs = some b → ∃ g : Value → Bool, (∀ c ∈ cs, PySem.W.exmOne K cls c = some (g c)) ∧ b = cs.any g := by
  intro cs b e
  refine ⟨fun c => (PySem.W.exmOne K cls c).getD false, ?_⟩
  induction cs generalizing b with
  | nil => exact ⟨fun c hc => (by cases hc), (Option.some.inj e).symm⟩
  | cons c cs ih =>
    obtain ⟨b1, d1, x1, y1, z1⟩ := PySem.W.exmAny_cons e
    obtain ⟨i1, i2⟩ := ih y1
    refine ⟨fun z hz => ?_, ?_⟩
    · rcases List.mem_cons.mp hz with rfl | hz
      · show _ = some ((PySem.W.exmOne K cls z).getD false)
        rw [x1]; rfl
      · exact i1 z hz
    · rw [z1, i2, List.any_cons, x1]; rfl
theorem exm_tupN {K : PySem.W.Frag} {cs : List Value} {cls : Value} {tp e : Addr} {b : Bool} (X : K.In h) (LT : PySem.W.Looks M h (typeOf (.ref e)) cls) (hp : h.get? tp = some { cls := .type "tuple", data := .seq cs.toArray }) (hx : PySem.W.exmAny K cls cs = some b) :
    PySem.W.Looks M h (excMatches (.ref e) (.ref tp)) b := by
  obtain ⟨g, hg, rfl⟩ := any_each hx
  have L0 : PySem.W.Looks M h (isInstance (.ref tp) (.type "tuple")) true := ((PySem.W.Looks.ld hp).andThen .now).andThen (PySem.W.Looks.of_pure isSubtype_tuple_tuple)
  unfold excMatches
  intro A Q E s k q
  refine wpAny_bind (L0 A _ E s k ?_)
  dsimp only
  rw [if_pos rfl]
  refine wpAny_bind (wpAny_seqItems (k _ _ hp) rfl (wpAny_bind (wpAny_pure ?_)))
  rw [Option.getD_some, List.toList_toArray]
  refine wpAny_bind (for_looks (M := M) (h := h) (fun c hc => ?_) A _ E s k ?_)
  · have h1 := (exm_cls (M := M) X (hg c hc)).1
    exact h1.andThen (by rw [if_neg (by decide)]; exact .now)
  refine wpAny_bind (LT A _ E s k ?_)
  refine wpAny_bind (for_any (M := M) (h := h) (g := g) (b1 := (some true, ())) (fun c hc => ?_) A _ E s k ?_)
  · refine (exm_cls (M := M) X (hg c hc)).2.andThen ?_
    cases g c with
    | true => rw [if_pos rfl, if_pos rfl]; exact .now
    | false => rw [if_neg (by decide), if_neg (by decide)]; exact .now
  cases hb : cs.any g with
  | true => rw [hb] at q; exact wpAny_pure q
  | false => rw [hb] at q; exact wpAny_pure q
end
theorem fly_grow {B : Heap} {l : List PySem.Env} {e : Addr} {Z : Obj → Prop} {h h' : Heap} (R : HandSPX.FlyingZ B l e Z h) (k : ∀ b o, h.get? b = some o → h'.get? b = some o) : HandSPX.FlyingZ B l e Z h' := by
  obtain ⟨r1, r2, r3, oe, vs, T, oT, ts, g1, g2, g3, g4, g5, g6, g7, g8, g9⟩ := R
  exact ⟨fun b o q => k _ _ (r1 b o q), r2, r3.of_keeps fun b o q _ => ⟨o, k b o q, rfl⟩, oe, vs, T, oT, ts, k _ _ g1, g2, g3, g4, g5, g6, k _ _ g7, g8, g9⟩
/-- the names of a tuple of classes -/
inductive TN (X : Cx) : List Expr → List Value → Prop
  | nil : TN X [] []
  | cons {x : Str} {c : Value} {p : Pos} {es : List Expr} {cs : List Value} (h : Names X x c) (r : TN X es cs) : TN X (.Name x p :: es) (c :: cs)
theorem TN.suite {X : Cx} {a : Addr} {pn : List (Addr × Obj)} {es : List Expr} {cs : List Value} (T : TN X es cs) : TN (X.suite a pn) es cs := by
  induction T with
  | nil => exact .nil
  | cons h _ ih => exact .cons h ih
theorem tn_run {Y : Cx} {es : List Expr} {cs : List Value} (T : TN Y es cs) {pos : Pos} {pins : List (Addr × Obj)} {σ : L2.St} {H : Hp} {s : Shared} {E : Value → Shared → Prop} (I : Inv Y pins σ H s) : ∀ {Q : List Value → Shared → Prop}, Q cs s →
    wpAny (model Y.prog Y.w) Y.A (spliced (backTo pos (starEach es Y.env))) Q E s := by
  induction T with
  | nil => exact fun q => wpAny_items_nil q
  | cons h _ ih =>
    intro Q q
    refine wpAny_items_cons ?_
    obtain ⟨hg, hd, hm | ⟨hm, hv, hn⟩⟩ := h
    · exact ld_glob I hg hm (ih q) hd
    · exact ld_blt I hg hm hv (ih q) hn hd
def wAsT (K : PySem.W.Frag) (cs : List Value) (i : Nat) (ts : Addr → Value → Option Addr → TS) (Wout : WX) (D : Ends) : WX := fun cls d σ H =>
  ∃ b, PySem.W.exmAny K cls cs = some b ∧ (b = false → Wout cls d σ H) ∧
    (b = true → ∀ a, H a = none → ts a cls d ⟨fun σ' H' => D.nx (σ'.set i none) H', D.rt, fun σ' H' => D.bk (σ'.set i none) H', fun σ' H' => D.ct (σ'.set i none) H'⟩ (σ.set i (some (.ref a))) H)
section
variable {X : Cx} {n : Str} {es : List Expr} {cs : List Value} {i : Nat} {body suite : List Stmt} {b₀ : Stmt} {kk : Nat} {tpos pos pos' : Pos} {tb : WX → TS} {ts : Addr → Value → Option Addr → TS} {Wout : WX}
theorem ps_try_asT (hs : X.stack = X.env :: X.outer) (hf : X.env.frame = some X.env.locals) (hN : X.N.Nodup) (hi : X.N[i]? = some n) (hln : X.env.kindOf n = some .local) (hc : TN X es cs) (hcl : cs.length ≤ sizeLine) (tk : Takes X Wout)
    (hb : ∀ (W : WX) (pn : List (Addr × Obj)) (xe : Value → Shared → Prop), Takes (X.tr pn xe) W → PassesOwn (model X.prog X.w) X.A X.env xe → PSs (X.tr pn xe) body (tb W))
    (hsu : ∀ (a : Addr) (oe : Obj) (cls : Value) (d : Option Addr) (pn : List (Addr × Obj)), Zc cls d oe → (∃ vs, oe.data = .fields vs) → PSs (X.suite a ((a, oe) :: pn)) (b₀ :: suite) (ts a cls d)) :
    PS X (.Try body [.ExceptHandler (some (.Tuple es kk tpos)) (some n) (b₀ :: suite) pos'] [] [] pos) (fun D => tb (wAsT X.K cs i ts Wout D) D) := by
  constructor
  intro pins s σ H D I h
  have ok := I.ok
  have frm : X.A.frames = some (X.env :: X.outer) := by rw [ok.frames, hs]
  refine wpAny_Try_except (wpAny_mono ((hb (wAsT X.K cs i ts Wout D) (X.pn ++ pins) _ (fun u s' xx => ?_) PassesOwn.looking).run [] s σ H D (I.toTry _) h) (fun f s1 hsp => ?_) (fun e s1 he => he))
  rotate_left
  · cases f with
    | next =>
      obtain ⟨τ, H', J', q⟩ := hsp
      exact wpAny_execs_nil ⟨τ, H', J'.ofTry ok, q⟩
    | brk =>
      obtain ⟨τ, H', J', q⟩ := hsp
      exact ⟨τ, H', J'.ofTry ok, q⟩
    | cont =>
      obtain ⟨τ, H', J', q⟩ := hsp
      exact ⟨τ, H', J'.ofTry ok, q⟩
    | ret u =>
      obtain ⟨v, τ, H', J', r, q⟩ := hsp
      exact ⟨v, τ, H', J'.ofTry ok, r, q⟩
  obtain ⟨a, B, sI, pins', τ, G, cls, d, rfl, J0, nb, up, sky, na, os, ag, b, hany, hno, hyes⟩ := xx
  have J := J0.ofTry ok
  refine Sky.land Zc.steady frm hf (by rw [← hs]; exact sky) fun g1 fl1 up1 => ?_
  have I1 : Inv X pins τ G { s' with heap := g1 } := J.landed nb fl1.1 (up.trans up1) os ag
  obtain ⟨o1, v1, get1, z1, dat1⟩ := fl1.there
  have away : ∀ {g : Heap} {o : Obj} {v : Array Value}, g.FunFrames B (X.env :: X.outer) → g.get? a = some o → o.data = .fields v → a ∉ frs (X.env :: X.outer) := by
    intro g o v ff e1 e2 hm
    obtain ⟨_, o', e3, e4⟩ := ff.mem hm
    rw [e1] at e3
    cases e3
    exact e4 _ e2
  have far := away fl1.2.2.1 get1 dat1
  have nL : a ≠ X.env.locals := fun e => far (List.mem_filterMap.mpr ⟨X.env, List.mem_cons_self, by rw [hf, e]⟩)
  have nF : a ∉ X.fs := fun hm => by
    obtain ⟨e, he, hq⟩ := List.mem_filterMap.mp hm
    exact far (List.mem_filterMap.mpr ⟨e, List.mem_cons_of_mem _ he, hq⟩)
  refine wpAny_handleBy_cons (codeAny_handlers_test (wpAny_Tuple ?_)) (fun e => by cases e)
  refine tn_run (Y := X.suite a ((a, o1) :: (X.pn ++ pins))) hc.suite (I1.suite get1 dat1 na nL nF) ⟨hcl, ?_⟩
  have grow : ∀ b o, g1.get? b = some o → (g1.push { cls := .type "tuple", data := .seq cs.toArray }).get? b = some o := fun _ _ e => Heap.get?_push_of_some _ e
  have newt : (g1.push { cls := .type "tuple", data := .seq cs.toArray }).get? g1.objs.size = some { cls := .type "tuple", data := .seq cs.toArray } := Heap.get?_push_size g1 rfl
  show wpAny _ _ (excMatches (.ref a) (.ref g1.objs.size)) _ _ { s' with heap := g1.push { cls := .type "tuple", data := .seq cs.toArray } }
  generalize g1.push { cls := .type "tuple", data := .seq cs.toArray } = g2 at grow newt ⊢
  generalize g1.objs.size = tp at newt ⊢
  have fl2 := fly_grow fl1 grow
  have up2 := (up.trans up1).trans (Heap.UpToSlots.of_keeps grow)
  have I2 : Inv X pins τ G { s' with heap := g2 } := J.landed nb fl2.1 up2 os ag
  have isC : PySem.W.Looks (model X.prog X.w) g2 (typeOf (.ref a)) cls := fun _ _ _ _ k q => wpAny_typeOf_ref (k _ _ (grow _ _ get1)) (by rw [z1.1]; exact q)
  refine (exm_tupN (M := model X.prog X.w) I2.kIn isC newt hany).here ?_
  cases b with
  | false =>
    refine wpAny_handleBy_nil ?_
    obtain ⟨_, _, _, o, v, T, oT, l, e1, _, e3, e4, _⟩ := id fl2
    unfold PySem.passOn
    refine wpAny_bind (wpAny_field e1 e3 e4 ?_)
    rw [if_neg (by simp)]
    have last : wpAny (model X.prog X.w) X.A (setFlight (.ref a) X.env.frame) (fun _ s4 => wpAny (model X.prog X.w) X.A (throw (.ref a) : Sem Flow) (SP X pins D) X.xe s4) X.xe { s' with heap := g2 } := by
      rw [hf]
      exact HandSPX.setFlight_upZ fl2 fun g3 held up3 => wpAny_throw (tk _ _ ⟨a, B, sI, pins, τ, G, cls, d, rfl, J, nb, up2.trans up3, .inr (.inr (by rw [hs]; exact held)), na, os, ag, hno rfl⟩)
    first
      | exact wpAny_bind last
      | exact wpAny_bind (wpAny_pure (wpAny_bind last))
  | true =>
    refine codeAny_handlers_suite_as (HandSPX.lands_againZ fl2 fun g4 fl4 up4 => ?_)
    have I4 : Inv X pins τ G { s' with heap := g4 } := J.landed nb fl4.1 (up2.trans up4) os ag
    obtain ⟨o4, v4, get4, z4, dat4⟩ := fl4.there
    refine store_ok (X := X.suite a ((a, o4) :: (X.pn ++ pins))) (v := .ref a) (I4.suite get4 dat4 na nL nF) hN hi (.inl hln) rfl (fun s5 S5 => ?_) (.inr hln)
    refine wpAny_mono ((hsu a o4 cls d (X.pn ++ pins) z4 ⟨_, dat4⟩).run [] s5 _ G _ S5 (hyes rfl a na)) (fun f s6 hsp => ?_) fun _ _ z => z.elim
    have gone : ∀ {τ6 : L2.St} {G6 : Hp} {Q : Shared → Prop}, Inv (X.suite a ((a, o4) :: (X.pn ++ pins))) [] τ6 G6 s6 → (∀ s7, Inv X pins (τ6.set i none) G6 s7 → Q s7) →
        wpAny (model X.prog X.w) X.A (do bindName X.env n .none; unbindBehindTheSuite X.env n pos') (fun _ s7 => Q s7) X.xe s6 := fun S6 hq => gone_ok (S6.unsuite ok) hN hi hln hq
    cases f with
    | next =>
      obtain ⟨_, _, S6, q6⟩ := hsp
      exact gone S6 fun s7 J7 => ⟨_, _, J7, q6⟩
    | brk =>
      obtain ⟨_, _, S6, q6⟩ := hsp
      exact gone S6 fun s7 J7 => ⟨_, _, J7, q6⟩
    | cont =>
      obtain ⟨_, _, S6, q6⟩ := hsp
      exact gone S6 fun s7 J7 => ⟨_, _, J7, q6⟩
    | ret u =>
      obtain ⟨_, _, _, S6, r6, q6⟩ := hsp
      exact gone S6 fun s7 J7 => ⟨_, _, _, J7, r6, q6⟩
end
end My

namespace My
open PySem L2
open Tr in
/-! ### the counting tree of k08 -/
def bodyT : Tr := .ite (.name "x") (.call (.call (.name "f") (.name "f")) (.less (.name "x") (.num 1))) (.num 9)
def innT : Tr := .fn "x" bodyT
def loopT : Tr := .fn "f" innT
def countT (n : Nat) : Tr := .lt "g" loopT (.call (.call (.name "g") (.name "g")) (.num n))
def loopV : Val := .fn "f" innT .nil
def innV : Val := .fn "x" bodyT (.cons "f" loopV .nil)
theorem keep_loop {e : Env} : e.keep (freeNames loopT) = .nil := by
  rw [show freeNames loopT = [] by decide +kernel]; rfl
theorem keep_inn {e : Env} {v : Val} : (Env.cons "f" v e).keep (freeNames innT) = .cons "f" v .nil := by
  rw [show freeNames innT = [("f" : Str)] by decide +kernel]
  unfold Env.keep
  rw [show (Env.cons "f" v e).look "f" = some v by unfold Env.look; rw [if_pos rfl]]
  rfl
def envC (k : Int) : Env := .cons "x" (.num k) (.cons "f" loopV .nil)
theorem look_x (k : Int) : (envC k).look "x" = some (.num k) := by unfold envC Env.look; rw [if_pos rfl]
theorem look_f (k : Int) : (envC k).look "f" = some loopV := by
  unfold envC Env.look
  rw [if_neg (by decide +kernel)]
  unfold Env.look
  rw [if_pos rfl]
theorem ff_run {m : Nat} (k : Int) : evF m (envC k) (.call (.name "f") (.name "f")) = deed m fun m' => .ok innV m' [innV] := by
  unfold evF
  have hf : ∀ m, ev freeNames m (envC k) (.name "f") = .ok loopV m [] := fun m => by rw [ev_name, look_f]
  rw [ev_call, hf]
  show ((ev freeNames m (envC k) (.name "f")).bind _) = _
  rw [hf]
  show deed m _ = _
  cases m with
  | zero => rfl
  | succ m =>
    show (ev freeNames m (.cons "f" loopV .nil) innT).log ([] ++ []) = _
    unfold innT
    rw [ev_fn]
    show Rv.ok (.fn "x" bodyT ((Env.cons "f" loopV .nil).keep (freeNames innT))) m _ = _
    rw [keep_inn]
    rfl
theorem body_run : ∀ (n m : Nat), evF (4 * n + 1 + m) (envC n) bodyT = .ok (.num 9) m (List.replicate n innV) ∧ evF (4 * n) (envC n) bodyT = .dry
  | 0, m => by
    constructor
    · unfold evF bodyT
      rw [ev_ite, ev_name, look_x, show 4 * 0 + 1 + m = m + 1 by omega]
      show (ev freeNames m (envC 0) (if ((0 : Nat) : Int) = 0 then .num 9 else _)).log [] = _
      rw [if_pos (show ((0 : Nat) : Int) = 0 from rfl), ev_num]
      rfl
    · unfold evF bodyT
      rw [ev_ite, ev_name, look_x]
      rfl
  | n + 1, m => by
    have step : ∀ k, evF (k + 4) (envC ((n + 1 : Nat) : Int)) bodyT = (evF k (envC n) bodyT).log [innV] := by
      intro k
      unfold evF
      conv => lhs; unfold bodyT
      rw [ev_ite, ev_name, look_x]
      show (ev freeNames (k + 3) (envC ((n + 1 : Nat) : Int)) (if ((n + 1 : Nat) : Int) = 0 then _ else _)).log [] = _
      rw [if_neg (by omega), ev_call]
      have h1 := ff_run (m := k + 3) ((n + 1 : Nat) : Int)
      unfold evF at h1
      rw [h1]
      show (((ev freeNames (k + 2) (envC ((n + 1 : Nat) : Int)) (.less (.name "x") (.num 1))).bind _)).log [] = _
      rw [ev_less, ev_name, look_x]
      show (((ev freeNames (k + 2) (envC ((n + 1 : Nat) : Int)) (.num 1)).bind _).bind _).log [] = _
      rw [ev_num]
      show (((ev freeNames k (.cons "x" (.num (((n + 1 : Nat) : Int) - 1)) (.cons "f" loopV .nil)) bodyT).log ([innV] ++ ([] ++ [])))).log [] = _
      rw [show ((n + 1 : Nat) : Int) - 1 = (n : Int) by omega]
      show ((ev freeNames k (envC n) bodyT).log [innV]).log [] = _
      cases ev freeNames k (envC n) bodyT <;> rfl
    obtain ⟨h1, h2⟩ := body_run n m
    constructor
    · rw [show 4 * (n + 1) + 1 + m = (4 * n + 1 + m) + 4 by omega, step, h1]
      rfl
    · rw [show 4 * (n + 1) = 4 * n + 4 by omega, step, h2]
      rfl
theorem count_ev (n k : Nat) : evF (k + 3) .nil (countT n) = (evF k (envC n) bodyT).log [loopV, innV] := by
  unfold evF countT
  rw [ev_lt]
  conv => lhs; unfold loopT
  rw [ev_fn]
  show (ev freeNames (k + 2) (.cons "g" (.fn "f" innT (Env.nil.keep (freeNames loopT))) .nil) _).log [.fn "f" innT (Env.nil.keep (freeNames loopT))] = _
  rw [keep_loop]
  show (ev freeNames (k + 2) (.cons "g" loopV .nil) _).log [loopV] = _
  have hg : (Env.cons "g" loopV .nil).look "g" = some loopV := by unfold Env.look; rw [if_pos rfl]
  have hn : ∀ m, ev freeNames m (.cons "g" loopV .nil) (.name "g") = .ok loopV m [] := fun m => by rw [ev_name, hg]
  rw [ev_call, ev_call, hn]
  show ((((ev freeNames (k + 2) (.cons "g" loopV .nil) (.name "g")).bind _)).bind _).log [loopV] = _
  rw [hn]
  show (((ev freeNames (k + 1) (.cons "f" loopV .nil) innT).log ([] ++ [])).bind _).log [loopV] = _
  conv => lhs; unfold innT
  rw [ev_fn]
  show (((Rv.ok (.fn "x" bodyT ((Env.cons "f" loopV .nil).keep (freeNames innT))) (k + 1) [.fn "x" bodyT ((Env.cons "f" loopV .nil).keep (freeNames innT))]).log ([] ++ [])).bind _).log [loopV] = _
  rw [keep_inn]
  show ((ev freeNames (k + 1) _ (.num n)).bind _).log [loopV] = _
  rw [ev_num]
  show ((ev freeNames k (envC n) bodyT).log ([innV] ++ [])).log [loopV] = _
  cases ev freeNames k (envC n) bodyT <;> rfl
theorem count_ok (n : Nat) : evF (4 * n + 4) .nil (countT n) = .ok (.num 9) 0 (loopV :: innV :: List.replicate n innV) := by
  rw [show 4 * n + 4 = (4 * n + 1 + 0) + 3 by omega, count_ev, (body_run n 0).1]
  rfl
theorem count_dry (n : Nat) : evF (4 * n + 3) .nil (countT n) = .dry := by
  rw [count_ev, (body_run n 0).2]
  rfl
theorem count_closed (n : Nat) : (countT n).closed := by
  intro x hx
  simp only [countT, loopT, innT, bodyT, Tr.fr] at hx
  grind
theorem count_good (n : Nat) (h : n < 1000) : Good (countT n) := by
  have hx : isName (Str.ofString "x") = true := by decide +kernel
  have hf : isName (Str.ofString "f") = true := by decide +kernel
  have hg : isName (Str.ofString "g") = true := by decide +kernel
  refine ⟨hg, ⟨hf, hx, hx, ⟨⟨hf, hf⟩, hx, by decide, by decide⟩, by decide, by decide⟩, ⟨hg, hg⟩, ?_, ?_⟩ <;> omega
theorem count_size (n : Nat) : (countT n).size ≤ 400 := by
  simp [countT, loopT, innT, bodyT, Tr.size]
/-- the tree that k08 takes where no name is free -/
def closedT : Tr := .fn "x" (.call (.num 1) (.num 2))
theorem closedT_ok : closedT.closed ∧ Good closedT ∧ closedT.size ≤ 400 ∧ closedT.step = .val := by
  refine ⟨fun x hx => ?_, ⟨by decide +kernel, ⟨by decide, by decide⟩, by decide, by decide⟩, by decide, rfl⟩
  simp only [closedT, Tr.fr] at hx
  grind
/-! ### what is refused before any deed -/
def RefAt (H : Hp) (tv mv : V) : Nat → Prop
  | 0 => ∃ n b, Wks H [tv] n b ∧ (400 < n ∨ b = true)
  | 1 => ∃ t, At H t tv ∧ Good t ∧ t.size ≤ 400 ∧ ¬ t.closed
  | _ => ∃ t, At H t tv ∧ Good t ∧ t.size ≤ 400 ∧ t.closed ∧ BadM H mv
def Ers.ref (E : Ers) : Nat → Addr
  | 0 => E.tree
  | 1 => E.closed
  | _ => E.most
def refW : Nat → Str
  | 0 => "tree"
  | 1 => "closed"
  | _ => "most"
def spBadS (E : Ers) : Sp := fun vs H Q X => ∃ (tv mv : V) (k : Nat), vs = [tv, mv] ∧ RefAt H tv mv k ∧ ∀ H', Same H H' → X (.ref (E.ref k)) none H'
theorem bad_start {E : Ers} {H : Hp} {tv mv : V} {k : Nat} {Q : VK} {X : XK} (h : RefAt H tv mv k) (q : ∀ H', Same H H' → X (.ref (E.ref k)) none H') : spStart E [tv, mv] H Q X := by
  refine ⟨tv, mv, rfl, ?_⟩
  match k, h with
  | 0, ⟨n, b, h1, h2⟩ => exact .inl ⟨n, b, h1, h2, q⟩
  | 1, ⟨t, h1, h2, h3, h4⟩ => exact .inr ⟨t, h1, h2, h3, .inl ⟨h4, q⟩⟩
  | k + 2, ⟨t, h1, h2, h3, h4, h5⟩ => exact .inr ⟨t, h1, h2, h3, .inr (.inl ⟨h4, h5, q⟩)⟩
def spAskB (E : Ers) : Sp := fun vs H Q X => ∃ (way : Int) (tv mv : V) (k : Nat), vs = [.int way, tv, mv] ∧ RefAt H tv mv k ∧ ∀ H', Same H H' → X (.ref (E.ref k)) none H'
def spWordB : Sp := fun vs H Q _ => ∃ (way : Int) (tv mv : V) (k : Nat), vs = [.int way, tv, mv] ∧ RefAt H tv mv k ∧ ∀ H', Same H H' → Q (.str (refW k)) H'
def spBasedB : Sp := fun vs H Q _ => ∃ (way : Int) (tv mv : V) (k : Nat), vs = [.int way, tv, mv] ∧ RefAt H tv mv k ∧ ∀ H', Same H H' → Q (.bl true) H'
def spAskG (E : Ers) (cK : Addr) : Sp := fun vs H Q X => ∃ (way : Int) (v : V) (t : Tr) (m : Nat), vs = [.int way, v, .int m] ∧ OkIn H t v m ∧ (way = 0 → spWorked E [v, .int m] H Q X) ∧ (way = 1 → spSteps E [v, .int m] H Q X) ∧
  (way = 2 → spRun E (KVm cK NoA) [v, .int m] H Q X) ∧ (way ≠ 0 → way ≠ 1 → way ≠ 2 → spMade E cK [v, .int m] H Q X)
def spWordG : Sp := fun vs H Q _ => ∃ (way : Int) (v : V) (t : Tr) (m : Nat), vs = [.int way, v, .int m] ∧ OkIn H t v m ∧
  (((∃ u m' L, evF m .nil t = .ok u m' L) ∧ ∀ H', Same H H' → Q (.str "") H') ∨ (evF m .nil t = .dry ∧ ∀ H', Same H H' → Q (.str "dry") H'))
/-! ### isinstance of what a suite holds, of any class -/
def rIsEa (K : PySem.W.Frag) (a : Addr) (cls : Value) (d : Option Addr) : List V → Hp → VK → Prop := fun xs H Q => ∃ D : Addr, cls = .ref D ∧ d = none ∧ ExcC K D ∧ rIsE K D a xs H Q
theorem call_isEa {X : Cx} {a : Addr} {cls : Value} {d : Option Addr} {oe : Obj} {pn : List (Addr × Obj)} (hz : Zc cls d oe) (hf : ∃ vs, oe.data = .fields vs) : CallR (X.suite a ((a, oe) :: pn)) (.builtin "isinstance") (rIsEa X.K a cls d) := by
  intro pins s σ H xs us Q I r h
  obtain ⟨D, rfl, rfl, C, q⟩ := h
  exact call_isE C hz hf pins s σ H xs us Q I r q
def rIsEaT (K : PySem.W.Frag) (a : Addr) (cls : Value) (d : Option Addr) : List V → Hp → VK → Prop := fun xs H Q => ∃ D : Addr, cls = .ref D ∧ d = none ∧ ExcC K D ∧ rIsPT K D a xs H Q
theorem call_isEaT {X : Cx} {a : Addr} {cls : Value} {d : Option Addr} {oe : Obj} {pn : List (Addr × Obj)} (hz : Zc cls d oe) (hf : ∃ vs, oe.data = .fields vs) : CallR (X.suite a ((a, oe) :: pn)) (.builtin "isinstance") (rIsEaT X.K a cls d) := by
  intro pins s σ H xs us Q I r h
  obtain ⟨D, rfl, rfl, C, q⟩ := h
  exact call_isPinT (X := X.suite a ((a, oe) :: pn)) C List.mem_cons_self hz hf pins s σ H xs us Q I r q
end My

namespace My
open PySem L2
def dataOf : Tr → PyData
  | .num n => .tuple [.str "num", .int n]
  | .name x => .tuple [.str "name", .str x]
  | .fn x b => .tuple [.str "fun", .str x, dataOf b]
  | .call f b => .tuple [.str "call", dataOf f, dataOf b]
  | .plus f b => .tuple [.str "plus", dataOf f, dataOf b]
  | .less f b => .tuple [.str "less", dataOf f, dataOf b]
  | .ite c f b => .tuple [.str "if", dataOf c, dataOf f, dataOf b]
  | .lt x f b => .tuple [.str "let", .str x, dataOf f, dataOf b]
theorem dp_of {K : PySem.W.Frag} {H : Hp} : ∀ {t : Tr} {v : V}, At H t v → Dp K H v (dataOf t)
  | .num n, _, ⟨a, rfl, h⟩ => .tup (SqT.of h) (.cons (.str _) (.cons (.int _) .nil))
  | .name x, _, ⟨a, rfl, h⟩ => .tup (SqT.of h) (.cons (.str _) (.cons (.str _) .nil))
  | .fn x b, _, ⟨a, u, rfl, h, h1⟩ => .tup (SqT.of h) (.cons (.str _) (.cons (.str _) (.cons (dp_of h1) .nil)))
  | .call f b, _, ⟨a, u, u', rfl, h, h1, h2⟩ => .tup (SqT.of h) (.cons (.str _) (.cons (dp_of h1) (.cons (dp_of h2) .nil)))
  | .plus f b, _, ⟨a, u, u', rfl, h, h1, h2⟩ => .tup (SqT.of h) (.cons (.str _) (.cons (dp_of h1) (.cons (dp_of h2) .nil)))
  | .less f b, _, ⟨a, u, u', rfl, h, h1, h2⟩ => .tup (SqT.of h) (.cons (.str _) (.cons (dp_of h1) (.cons (dp_of h2) .nil)))
  | .ite c f b, _, ⟨a, u, u', u'', rfl, h, h1, h2, h3⟩ => .tup (SqT.of h) (.cons (.str _) (.cons (dp_of h1) (.cons (dp_of h2) (.cons (dp_of h3) .nil))))
  | .lt x f b, _, ⟨a, u, u', rfl, h, h1, h2⟩ => .tup (SqT.of h) (.cons (.str _) (.cons (.str _) (.cons (dp_of h1) (.cons (dp_of h2) .nil))))
theorem strOk_name {x : Str} (h : isName x = true) : PyData.strOk x = true := by
  unfold isName at h
  simp only [Bool.and_eq_true, List.all_eq_true] at h
  show x.cps.all (· < 0x110000) = true
  rw [← Array.all_toList, List.all_eq_true]
  intro c hc
  have := h.2 c hc
  unfold isLet at this
  simp only [Bool.and_eq_true, decide_eq_true_eq] at this
  exact decide_eq_true (by omega)
theorem lay_of : ∀ {t : Tr}, Good t → (dataOf t).canLay0 = true
  | .num n, g => by show (PyData.strOk "num" && (true && true)) = true; decide +kernel
  | .name x, g => by show (PyData.strOk "name" && (PyData.strOk x && true)) = true; rw [strOk_name g]; decide +kernel
  | .fn x b, g => by show (PyData.strOk "fun" && (PyData.strOk x && ((dataOf b).canLay0 && true))) = true; rw [strOk_name g.1, lay_of g.2]; decide +kernel
  | .call f b, g => by show (PyData.strOk "call" && ((dataOf f).canLay0 && ((dataOf b).canLay0 && true))) = true; rw [lay_of g.1, lay_of g.2]; decide +kernel
  | .plus f b, g => by show (PyData.strOk "plus" && ((dataOf f).canLay0 && ((dataOf b).canLay0 && true))) = true; rw [lay_of g.1, lay_of g.2]; decide +kernel
  | .less f b, g => by show (PyData.strOk "less" && ((dataOf f).canLay0 && ((dataOf b).canLay0 && true))) = true; rw [lay_of g.1, lay_of g.2]; decide +kernel
  | .ite c f b, g => by show (PyData.strOk "if" && ((dataOf c).canLay0 && ((dataOf f).canLay0 && ((dataOf b).canLay0 && true)))) = true; rw [lay_of g.1, lay_of g.2.1, lay_of g.2.2]; decide +kernel
  | .lt x f b, g => by show (PyData.strOk "let" && (PyData.strOk x && ((dataOf f).canLay0 && ((dataOf b).canLay0 && true)))) = true; rw [strOk_name g.1, lay_of g.2.1, lay_of g.2.2]; decide +kernel
theorem depth_of : ∀ t : Tr, (dataOf t).depth ≤ t.size
  | .num n => by simp [dataOf, PyData.depth, PyData.depthAll, Tr.size]
  | .name x => by simp [dataOf, PyData.depth, PyData.depthAll, Tr.size]
  | .fn x b => by have := depth_of b; simp [dataOf, PyData.depth, PyData.depthAll, Tr.size]; omega
  | .call f b => by have := depth_of f; have := depth_of b; simp [dataOf, PyData.depth, PyData.depthAll, Tr.size]; omega
  | .plus f b => by have := depth_of f; have := depth_of b; simp [dataOf, PyData.depth, PyData.depthAll, Tr.size]; omega
  | .less f b => by have := depth_of f; have := depth_of b; simp [dataOf, PyData.depth, PyData.depthAll, Tr.size]; omega
  | .ite c f b => by have := depth_of c; have := depth_of f; have := depth_of b; simp [dataOf, PyData.depth, PyData.depthAll, Tr.size]; omega
  | .lt x f b => by have := depth_of f; have := depth_of b; simp [dataOf, PyData.depth, PyData.depthAll, Tr.size]; omega
theorem shp_of {t : Tr} (h : Good t) (hs : t.size ≤ 60) : SeqAt.shaped (dataOf t) = true := by
  unfold SeqAt.shaped
  have := depth_of t
  rw [Bool.and_eq_true]
  exact ⟨lay_of h, decide_eq_true (by omega)⟩
/-- trees as data are the same -/
theorem eq_tree {K : PySem.W.Frag} {H : Hp} {t : Tr} {u v : V} {Q : VK} (h1 : At H t u) (h2 : At H t v) (hg : Good t) (hs : t.size ≤ 60) (q : Q (.bl true) H) : rEqD K u v H Q := by
  refine ⟨dataOf t, dataOf t, dp_of h1, dp_of h2, shp_of hg hs, shp_of hg hs, ?_⟩
  rw [show PyData.eqv (dataOf t) (dataOf t) = true from SeqAt.eqv_refl _ (lay_of hg)]
  exact q
/-- a tree and a count in a tuple -/
theorem eq_pair {K : PySem.W.Frag} {H : Hp} {t : Tr} {u v : V} {p q : Addr} {n : Int} {Q : VK} (h1 : At H t u) (h2 : At H t v) (hg : Good t) (hs : t.size ≤ 60) (hp : H p = some (.tup [u, .int n])) (hq : H q = some (.tup [v, .int n])) (k : Q (.bl true) H) : rEqD K (.ref p) (.ref q) H Q := by
  have d1 : Dp K H (.ref p) (.tuple [dataOf t, .int n]) := .tup (SqT.of hp) (.cons (dp_of h1) (.cons (.int _) .nil))
  have d2 : Dp K H (.ref q) (.tuple [dataOf t, .int n]) := .tup (SqT.of hq) (.cons (dp_of h2) (.cons (.int _) .nil))
  have lay : (PyData.tuple [dataOf t, .int n]).canLay0 = true := by
    show ((dataOf t).canLay0 && (true && true)) = true
    rw [lay_of hg]; rfl
  have shp : SeqAt.shaped (.tuple [dataOf t, .int n]) = true := by
    unfold SeqAt.shaped
    have := depth_of t
    rw [Bool.and_eq_true]
    exact ⟨lay, decide_eq_true (by simp only [PyData.depth, PyData.depthAll]; omega)⟩
  refine ⟨_, _, d1, d2, shp, shp, ?_⟩
  rw [SeqAt.eqv_refl _ lay]
  exact k
/-- a list of one tree -/
theorem eq_lone {K : PySem.W.Frag} {H : Hp} {t : Tr} {u v : V} {p q : Addr} {Q : VK} (h1 : At H t u) (h2 : At H t v) (hg : Good t) (hs : t.size ≤ 60) (hp : H p = some (.lst [u])) (hq : H q = some (.lst [v])) (k : Q (.bl true) H) : rEqD K (.ref p) (.ref q) H Q := by
  have d1 : Dp K H (.ref p) (.list [dataOf t]) := .lst (SqL.of hp) (.cons (dp_of h1) .nil)
  have d2 : Dp K H (.ref q) (.list [dataOf t]) := .lst (SqL.of hq) (.cons (dp_of h2) .nil)
  have lay : (PyData.list [dataOf t]).canLay0 = true := by
    show ((dataOf t).canLay0 && true) = true
    rw [lay_of hg]; rfl
  have shp : SeqAt.shaped (.list [dataOf t]) = true := by
    unfold SeqAt.shaped
    have := depth_of t
    rw [Bool.and_eq_true]
    exact ⟨lay, decide_eq_true (by simp only [PyData.depth, PyData.depthAll]; omega)⟩
  refine ⟨_, _, d1, d2, shp, shp, ?_⟩
  rw [SeqAt.eqv_refl _ lay]
  exact k
/-- two whole numbers in a tuple -/
theorem eq_nums {K : PySem.W.Frag} {H : Hp} {m n : Int} {p q : Addr} {Q : VK} (hp : H p = some (.tup [.int m, .int n])) (hq : H q = some (.tup [.int m, .int n])) (k : Q (.bl true) H) : rEqD K (.ref p) (.ref q) H Q := by
  have d1 : Dp K H (.ref p) (.tuple [.int m, .int n]) := .tup (SqT.of hp) (.cons (.int _) (.cons (.int _) .nil))
  have d2 : Dp K H (.ref q) (.tuple [.int m, .int n]) := .tup (SqT.of hq) (.cons (.int _) (.cons (.int _) .nil))
  have lay : (PyData.tuple [.int m, .int n]).canLay0 = true := rfl
  have shp : SeqAt.shaped (.tuple [.int m, .int n]) = true := by
    unfold SeqAt.shaped
    rw [Bool.and_eq_true]
    exact ⟨lay, decide_eq_true (by simp only [PyData.depth, PyData.depthAll]; omega)⟩
  refine ⟨_, _, d1, d2, shp, shp, ?_⟩
  rw [SeqAt.eqv_refl _ lay]
  exact k
/-! ### the trees of k08 in which a name is free -/
def openX (c : Int) : Str := mkS (List.replicate (1 + c / 26 % 8).toNat [lett c]).flatten
def openT (i : Nat) (x : Str) : Tr := match i with
  | 0 => .name x
  | 1 => .fn "other" (.name x)
  | 2 => .plus (.num 0) (.name x)
  | 3 => .lt x (.name x) (.num 0)
  | 4 => .ite (.num 0) (.name x) (.num 0)
  | _ => .call (.fn x (.name x)) (.fn "other" (.less (.num 0) (.name x)))
theorem openX_ok (c : Int) : isName (openX c) = true ∧ openX c ≠ "other" := by
  have all : ∀ n < 8, ∀ k < 26, isName (mkS (List.replicate (n + 1) [97 + k]).flatten) = true ∧ mkS (List.replicate (n + 1) [97 + k]).flatten ≠ "other" := by decide +kernel
  unfold openX lett
  rw [show (1 + c / 26 % 8).toNat = (c / 26 % 8).toNat + 1 by omega]
  exact all _ (by omega) _ (by omega)
theorem openT_ok {i : Nat} {x : Str} (hx : isName x = true) (ho : x ≠ "other") : Good (openT i x) ∧ (openT i x).size ≤ 60 ∧ ¬ (openT i x).closed := by
  have hot : isName (Str.ofString "other") = true := by decide +kernel
  have h0 : N60 0 := ⟨by decide, by decide⟩
  unfold openT
  split
  · exact ⟨hx, by simp [Tr.size], fun h => h x rfl⟩
  · exact ⟨⟨hot, hx⟩, by simp [Tr.size], fun h => h x ⟨fun e => ho e.symm, rfl⟩⟩
  · exact ⟨⟨h0, hx⟩, by simp [Tr.size], fun h => h x (.inr rfl)⟩
  · exact ⟨⟨hx, hx, h0⟩, by simp [Tr.size], fun h => h x (.inl rfl)⟩
  · exact ⟨⟨h0, hx, h0⟩, by simp [Tr.size], fun h => h x (.inr (.inl rfl))⟩
  · exact ⟨⟨⟨hx, hx⟩, hot, h0, hx⟩, by simp [Tr.size], fun h => h x (.inr ⟨fun e => ho e.symm, .inr rfl⟩)⟩
/-- a step of them -/
def openS (i : Nat) (x : Str) : St1 := match i with
  | 0 => .err .closed
  | 1 => .val
  | 2 => .err .closed
  | 3 => .err .closed
  | 4 => .to (.num 0)
  | _ => .to (.fn "other" (.less (.num 0) (.name x)))
theorem openT_step : ∀ {i : Nat} {x : Str}, (openT i x).step = openS i x
  | 0, x => rfl
  | 1, x => rfl
  | 2, x => rfl
  | 3, x => rfl
  | 4, x => rfl
  | n + 5, x => by
    show (Tr.call (.fn x (.name x)) (.fn "other" (.less (.num 0) (.name x)))).step = .to (.fn "other" (.less (.num 0) (.name x)))
    simp [Tr.step, Tr.put, Tr.sub, Sb.one]
end My

namespace My
open PySem L2
/-! ### texts: replace and split by one sign -/
/-- what stands between the c's -/
def cutAt (c : Nat) : List Nat → List Nat → List (List Nat)
  | acc, [] => [acc]
  | acc, x :: r => if x = c then acc :: cutAt c [] r else cutAt c (acc ++ [x]) r
theorem spl_cut (c : Nat) : ∀ (l acc : List Nat), TL.spl [c] 0 acc l = cutAt c acc l
  | [], acc => rfl
  | x :: r, acc => by
    by_cases h : x = c
    · subst h
      rw [TL.spl_hit (by unfold TL.pre; simp), cutAt, if_pos rfl]
      exact congrArg _ (spl_cut x r [])
    · rw [TL.spl_miss (by unfold TL.pre; simp [h]), cutAt, if_neg h]
      exact spl_cut c r _
theorem kind_le (x : Str) (c : Nat) (hc : c < 256) : ¬ Builtin.Str.strKind x < Builtin.Str.strKind (mkS [c]) := by
  have h1 : Builtin.Str.strKind (mkS [c]) = 1 := by
    unfold Builtin.Str.strKind mkS
    simp [hc]
  rw [h1]
  unfold Builtin.Str.strKind
  split <;> (try split) <;> omega
theorem split_sign (l : List Nat) (c : Nat) (hc : c < 256) : Txt.split (mkS l) (mkS [c]) = (cutAt c [] l).map mkS := by
  have h := TL.split_spl (mkS l) (mkS [c]) (by show [c] ≠ []; simp) (kind_le _ _ hc)
  have h2 : (Txt.split (mkS l) (mkS [c])).map (fun z => z.cps.toList) = cutAt c [] l := h.trans (spl_cut c l [])
  rw [← h2, List.map_map]
  refine (List.map_id' _).symm.trans (List.map_congr_left fun z _ => ?_)
  exact mkS_of z
theorem sjoin_sep (r : List Nat) : ∀ parts : List (List Nat), Str.join (mkS r) (parts.map mkS) = mkS (List.intercalate r parts)
  | [] => rfl
  | [x] => by simp [List.intercalate]; rfl
  | x :: y :: q => by
    show mkS x ++ mkS r ++ Str.join (mkS r) ((y :: q).map mkS) = _
    rw [sjoin_sep r (y :: q), mkS_app, mkS_app]
    simp [List.intercalate]
theorem cut_ne (c : Nat) : ∀ (l acc : List Nat), cutAt c acc l ≠ []
  | [], acc => by simp [cutAt]
  | x :: r, acc => by
    unfold cutAt
    split
    · simp
    · exact cut_ne c r _
theorem inter_cons (r x : List Nat) {q : List (List Nat)} (h : q ≠ []) : List.intercalate r (x :: q) = x ++ r ++ List.intercalate r q := by
  cases q with
  | nil => exact absurd rfl h
  | cons y q => simp [List.intercalate]
theorem cut_join (c : Nat) (r : List Nat) : ∀ (l acc : List Nat), List.intercalate r (cutAt c acc l) = acc ++ l.flatMap fun x => if x = c then r else [x]
  | [], acc => by simp [cutAt, List.intercalate]
  | x :: q, acc => by
    unfold cutAt
    split
    · rename_i h
      rw [inter_cons _ _ (cut_ne _ _ _), cut_join c r q [], List.flatMap_cons, if_pos h]
      simp
    · rename_i h
      rw [cut_join c r q, List.flatMap_cons, if_neg h]
      simp
/-- replace of one sign -/
theorem replace_sign (l r : List Nat) (c : Nat) (hc : c < 256) : Txt.replace (mkS l) (mkS [c]) (mkS r) = mkS (l.flatMap fun x => if x = c then r else [x]) := by
  have e : Txt.replace (mkS l) (mkS [c]) (mkS r) = Txt.join (mkS r) (Txt.split (mkS l) (mkS [c])) := by
    unfold Txt.replace Txt.split Txt.join
    rw [show ((mkS [c]).length == 0) = false from rfl, Bool.false_and, Bool.or_false]
    by_cases h : (Builtin.Str.occurrences (mkS l) (mkS [c]) 0 (mkS l).length ((mkS l).length + 1)).isEmpty = true
    · rw [if_pos h, if_pos h]
      split <;> rfl
    · rw [if_neg h, if_neg h]
      split
      · rename_i h3
        exfalso
        rw [decide_eq_false (kind_le (mkS l) c hc), Bool.or_false, decide_eq_true_eq] at h3
        have hl : l = [] := by
          cases l with
          | nil => rfl
          | cons x q => rw [mkS_len, mkS_len] at h3; simp at h3
        subst hl
        cases ho : Builtin.Str.occurrences (mkS []) (mkS [c]) 0 (mkS []).length ((mkS []).length + 1) with
        | nil => rw [ho] at h; exact h rfl
        | cons i q =>
          have := (StrLaws.occ_spec (mkS []) (mkS [c]) 0 (mkS []).length ((mkS []).length + 1) i (by rw [ho]; exact List.mem_cons_self)).1
          rw [mkS_len, mkS_len] at this
          simp at this
      · rfl
  rw [e, TL.join_eq, split_sign l c hc, sjoin_sep, cut_join]
  rfl
/-! ### the words of a line: a scan of its signs -/
def flush (acc : List Nat) : List (List Nat) := if acc = [] then [] else [acc]
def scan : List Nat → List Nat → List (List Nat)
  | acc, [] => flush acc
  | acc, x :: r => if x = 32 then flush acc ++ scan [] r else if x = 40 ∨ x = 41 then flush acc ++ [x] :: scan [] r else scan (acc ++ [x]) r
def padL (x : Nat) : List Nat := if x = 40 then [32, 40, 32] else [x]
def padR (x : Nat) : List Nat := if x = 41 then [32, 41, 32] else [x]
def padded (l : List Nat) : List Nat := (l.flatMap padL).flatMap padR
theorem padded_cons (x : Nat) (l : List Nat) : padded (x :: l) = (padL x).flatMap padR ++ padded l := by
  unfold padded
  rw [List.flatMap_cons, List.flatMap_append]
theorem words_scan : ∀ (l acc : List Nat), (cutAt 32 acc (padded l)).filter (fun z => z ≠ []) = scan acc l
  | [], acc => by
    show ([acc] : List (List Nat)).filter _ = flush acc
    unfold flush
    by_cases h : acc = [] <;> simp [h]
  | x :: r, acc => by
    have ih := words_scan r
    have fl : ∀ q : List (List Nat), (acc :: q).filter (fun z => z ≠ []) = flush acc ++ q.filter (fun z => z ≠ []) := fun q => by
      unfold flush
      by_cases h : acc = [] <;> simp [h]
    rw [padded_cons]
    unfold scan
    by_cases h1 : x = 32
    · subst h1
      rw [if_pos rfl, show (padL 32).flatMap padR = [32] from rfl]
      show (cutAt 32 acc (32 :: padded r)).filter _ = _
      rw [cutAt, if_pos rfl, fl, ih]
    rw [if_neg h1]
    by_cases h2 : x = 40
    · subst h2
      rw [if_pos (.inl rfl), show (padL 40).flatMap padR = [32, 40, 32] from rfl]
      show (cutAt 32 acc (32 :: 40 :: 32 :: padded r)).filter _ = _
      rw [cutAt, if_pos rfl, cutAt, if_neg (by decide), cutAt, if_pos rfl, fl, ← ih]
      simp
    by_cases h3 : x = 41
    · subst h3
      rw [if_pos (.inr rfl), show (padL 41).flatMap padR = [32, 41, 32] from rfl]
      show (cutAt 32 acc (32 :: 41 :: 32 :: padded r)).filter _ = _
      rw [cutAt, if_pos rfl, cutAt, if_neg (by decide), cutAt, if_pos rfl, fl, ← ih]
      simp
    rw [if_neg (by simp [h2, h3])]
    rw [show (padL x).flatMap padR = [x] by simp [padL, padR, h2, h3]]
    show (cutAt 32 acc (x :: padded r)).filter _ = _
    rw [cutAt, if_neg h1, ih]
/-- the words that read looks at -/
theorem line_words (l : List Nat) : Txt.split (Txt.replace (Txt.replace (mkS l) "(" " ( ") ")" " ) ") " " = (cutAt 32 [] (padded l)).map mkS := by
  have e1 : (Str.ofString "(") = mkS [40] := by decide +kernel
  have e2 : (Str.ofString " ( ") = mkS [32, 40, 32] := by decide +kernel
  have e3 : (Str.ofString ")") = mkS [41] := by decide +kernel
  have e4 : (Str.ofString " ) ") = mkS [32, 41, 32] := by decide +kernel
  have e5 : (Str.ofString " ") = mkS [32] := by decide +kernel
  rw [e1, e2, e3, e4, e5, replace_sign _ _ _ (by decide), replace_sign _ _ _ (by decide), split_sign _ _ (by decide)]
  rfl
end My

namespace My
open PySem L2
/-! ### a tree as it is written, and its words -/
def PW (z : List Nat) : Prop := z ≠ [] ∧ ∀ c ∈ z, c ≠ 32 ∧ c ≠ 40 ∧ c ≠ 41
/-- a word ends here -/
def Ends1 : List Nat → Prop
  | [] => True
  | x :: _ => x = 32 ∨ x = 40 ∨ x = 41
theorem scan_acc : ∀ (z acc : List Nat) {r : List Nat}, (∀ c ∈ z, c ≠ 32 ∧ c ≠ 40 ∧ c ≠ 41) → scan acc (z ++ r) = scan (acc ++ z) r
  | [], acc, r, _ => by rw [List.nil_append, List.append_nil]
  | x :: z, acc, r, h => by
    have hx := h x List.mem_cons_self
    rw [List.cons_append]
    conv => lhs; unfold scan
    rw [if_neg hx.1, if_neg (by simp [hx.2.1, hx.2.2]), scan_acc z (acc ++ [x]) fun c hc => h c (List.mem_cons_of_mem _ hc), List.append_assoc]
    rfl
theorem scan_end {z : List Nat} (hz : z ≠ []) : ∀ {r : List Nat}, Ends1 r → scan z r = z :: scan [] r
  | [], _ => by
    show flush z = z :: flush []
    unfold flush
    rw [if_neg hz, if_pos rfl]
  | x :: r, h => by
    have f : flush z = [z] := by unfold flush; rw [if_neg hz]
    have g : flush [] = [] := rfl
    unfold scan
    by_cases h1 : x = 32
    · rw [if_pos h1, if_pos h1, f, g]; rfl
    · have h2 : x = 40 ∨ x = 41 := (show x = 32 ∨ x = 40 ∨ x = 41 from h).resolve_left h1
      rw [if_neg h1, if_neg h1, if_pos h2, if_pos h2, f, g]; rfl
theorem scan_word {z r : List Nat} (hz : PW z) (hr : Ends1 r) : scan [] (z ++ r) = z :: scan [] r := by
  rw [scan_acc z [] hz.2, List.nil_append, scan_end hz.1 hr]
theorem scan_sp (r : List Nat) : scan [] (32 :: r) = scan [] r := by
  conv => lhs; unfold scan
  rw [if_pos rfl]; rfl
theorem scan_op (r : List Nat) : scan [] (40 :: r) = [40] :: scan [] r := by
  conv => lhs; unfold scan
  rw [if_neg (by decide), if_pos (.inl rfl)]; rfl
theorem scan_cl (r : List Nat) : scan [] (41 :: r) = [41] :: scan [] r := by
  conv => lhs; unfold scan
  rw [if_neg (by decide), if_pos (.inr rfl)]; rfl
def numC (n : Int) : List Nat := (Str.ofString (toString n)).cps.toList
def wFun : List Nat := [102, 117, 110]
def wCall : List Nat := [99, 97, 108, 108]
def wPlus : List Nat := [112, 108, 117, 115]
def wLess : List Nat := [108, 101, 115, 115]
def wIf : List Nat := [105, 102]
def wLet : List Nat := [108, 101, 116]
def wr : Tr → List Nat
  | .num n => numC n
  | .name x => x.cps.toList
  | .fn x b => 40 :: (wFun ++ 32 :: (x.cps.toList ++ 32 :: (wr b ++ [41])))
  | .call a b => 40 :: (wCall ++ 32 :: (wr a ++ 32 :: (wr b ++ [41])))
  | .plus a b => 40 :: (wPlus ++ 32 :: (wr a ++ 32 :: (wr b ++ [41])))
  | .less a b => 40 :: (wLess ++ 32 :: (wr a ++ 32 :: (wr b ++ [41])))
  | .ite c a b => 40 :: (wIf ++ 32 :: (wr c ++ 32 :: (wr a ++ 32 :: (wr b ++ [41]))))
  | .lt x a b => 40 :: (wLet ++ 32 :: (x.cps.toList ++ 32 :: (wr a ++ 32 :: (wr b ++ [41]))))
def tks : Tr → List (List Nat)
  | .num n => [numC n]
  | .name x => [x.cps.toList]
  | .fn x b => [40] :: wFun :: x.cps.toList :: (tks b ++ [[41]])
  | .call a b => [40] :: wCall :: (tks a ++ (tks b ++ [[41]]))
  | .plus a b => [40] :: wPlus :: (tks a ++ (tks b ++ [[41]]))
  | .less a b => [40] :: wLess :: (tks a ++ (tks b ++ [[41]]))
  | .ite c a b => [40] :: wIf :: (tks c ++ (tks a ++ (tks b ++ [[41]])))
  | .lt x a b => [40] :: wLet :: x.cps.toList :: (tks a ++ (tks b ++ [[41]]))
theorem e32 {r : List Nat} : Ends1 (32 :: r) := .inl rfl
theorem e41 {r : List Nat} : Ends1 (41 :: r) := .inr (.inr rfl)
theorem pw_name {x : Str} (h : isName x = true) : PW x.cps.toList := by
  unfold isName at h
  simp only [Bool.and_eq_true, decide_eq_true_eq, List.all_eq_true] at h
  refine ⟨fun e => ?_, fun c hc => ?_⟩
  · have h1 := h.1.1.1
    have : x.length = x.cps.toList.length := by show x.cps.size = _; simp
    rw [this, e] at h1
    simp at h1
  · have := h.2 c hc
    unfold isLet at this
    simp only [Bool.and_eq_true, decide_eq_true_eq] at this
    omega
theorem dig_pw (m : Nat) : PW ((Nat.toDigits 10 m).map Char.toNat) ∧ ∀ c ∈ (Nat.toDigits 10 m).map Char.toNat, 48 ≤ c ∧ c ≤ 57 := by
  have d : ∀ c ∈ (Nat.toDigits 10 m).map Char.toNat, 48 ≤ c ∧ c ≤ 57 := by
    intro c hc
    obtain ⟨z, hz, rfl⟩ := List.mem_map.mp hc
    have := Nat.isDigit_of_mem_toDigits (by decide) (by decide) hz
    unfold Char.isDigit at this
    simp only [Bool.and_eq_true, decide_eq_true_eq] at this
    exact ⟨this.1, this.2⟩
  refine ⟨⟨fun e => ?_, fun c hc => ?_⟩, d⟩
  · have := List.map_eq_nil_iff.mp e
    have h := Nat.toDigits_ne_nil (n := m) (b := 10)
    exact h this
  · have := d c hc
    omega
theorem pw_num (n : Int) : PW (numC n) := by
  unfold numC
  cases n with
  | ofNat m =>
    rw [show (Int.ofNat m) = ((m : Nat) : Int) from rfl, PySem.W.KIN.signs_num]
    exact (dig_pw m).1
  | negSucc m =>
    have e : (Str.ofString (toString (Int.negSucc m))).cps.toList = 45 :: (Nat.toDigits 10 (m + 1)).map Char.toNat := by
      rw [Str.ofString_eq_toList]
      show (toString (Int.negSucc m)).toList.map Char.toNat = _
      rw [show toString (Int.negSucc m) = "-" ++ Nat.repr (m + 1) from rfl, String.toList_append, List.map_append, Nat.toList_repr]
      rfl
    rw [e]
    refine ⟨by simp, fun c hc => ?_⟩
    rcases List.mem_cons.mp hc with rfl | hc
    · decide
    · exact (dig_pw (m + 1)).1.2 c hc
theorem scan_wr : ∀ {t : Tr}, Good t → ∀ {r : List Nat}, Ends1 r → scan [] (wr t ++ r) = tks t ++ scan [] r
  | .num n, _, r, hr => scan_word (pw_num n) hr
  | .name x, g, r, hr => scan_word (pw_name g) hr
  | .fn x b, g, r, hr => by
    have h1 := scan_wr g.2 (r := 41 :: r) e41
    simp only [wr, tks, List.cons_append, List.append_assoc, List.nil_append]
    rw [scan_op, scan_word ⟨by decide, by decide⟩ e32, scan_sp, scan_word (pw_name g.1) e32, scan_sp, h1, scan_cl]
  | .call a b, g, r, hr => by
    have h1 := scan_wr g.2 (r := 41 :: r) e41
    have h2 := scan_wr g.1 (r := 32 :: (wr b ++ 41 :: r)) e32
    simp only [wr, tks, List.cons_append, List.append_assoc, List.nil_append]
    rw [scan_op, scan_word ⟨by decide, by decide⟩ e32, scan_sp, h2, scan_sp, h1, scan_cl]
  | .plus a b, g, r, hr => by
    have h1 := scan_wr g.2 (r := 41 :: r) e41
    have h2 := scan_wr g.1 (r := 32 :: (wr b ++ 41 :: r)) e32
    simp only [wr, tks, List.cons_append, List.append_assoc, List.nil_append]
    rw [scan_op, scan_word ⟨by decide, by decide⟩ e32, scan_sp, h2, scan_sp, h1, scan_cl]
  | .less a b, g, r, hr => by
    have h1 := scan_wr g.2 (r := 41 :: r) e41
    have h2 := scan_wr g.1 (r := 32 :: (wr b ++ 41 :: r)) e32
    simp only [wr, tks, List.cons_append, List.append_assoc, List.nil_append]
    rw [scan_op, scan_word ⟨by decide, by decide⟩ e32, scan_sp, h2, scan_sp, h1, scan_cl]
  | .ite c a b, g, r, hr => by
    have h1 := scan_wr g.2.2 (r := 41 :: r) e41
    have h2 := scan_wr g.2.1 (r := 32 :: (wr b ++ 41 :: r)) e32
    have h3 := scan_wr g.1 (r := 32 :: (wr a ++ 32 :: (wr b ++ 41 :: r))) e32
    simp only [wr, tks, List.cons_append, List.append_assoc, List.nil_append]
    rw [scan_op, scan_word ⟨by decide, by decide⟩ e32, scan_sp, h3, scan_sp, h2, scan_sp, h1, scan_cl]
  | .lt x a b, g, r, hr => by
    have h1 := scan_wr g.2.2 (r := 41 :: r) e41
    have h2 := scan_wr g.2.1 (r := 32 :: (wr b ++ 41 :: r)) e32
    simp only [wr, tks, List.cons_append, List.append_assoc, List.nil_append]
    rw [scan_op, scan_word ⟨by decide, by decide⟩ e32, scan_sp, scan_word (pw_name g.1) e32, scan_sp, h2, scan_sp, h1, scan_cl]
end My

namespace My
open PySem L2
/-! ### read's stack, over words -/
inductive Itm where
  | w (z : List Nat) | t (u : Tr)
/-- what a word is in a tree -/
def numOf (z : List Nat) : Option Int := if z = [48] then some 0 else match z with
  | 45 :: r => if r.all (fun c => 48 ≤ c && c ≤ 57) && decide (r ≠ []) && decide (r.head? ≠ some 48) && decide (r.length ≤ 60) then some (-(NumText.digitsVal r : Int)) else none
  | r => if r.all (fun c => 48 ≤ c && c ≤ 57) && decide (r ≠ []) && decide (r.head? ≠ some 48) && decide (r.length ≤ 60) then some (NumText.digitsVal r : Int) else none
def Itm.tree : Itm → Tr
  | .t u => u
  | .w z => match numOf z with
    | some n => .num n
    | none => .name (mkS z)
/-- what a bracket holds -/
def nodeI : List Itm → Option Tr
  | [.w h, .w x, b] => if h = wFun then some (.fn (mkS x) b.tree) else if h = wCall then some (.call (Itm.w x).tree b.tree) else if h = wPlus then some (.plus (Itm.w x).tree b.tree) else if h = wLess then some (.less (Itm.w x).tree b.tree) else none
  | [.w h, .t x, b] => if h = wCall then some (.call x b.tree) else if h = wPlus then some (.plus x b.tree) else if h = wLess then some (.less x b.tree) else none
  | [.w h, .w x, a, b] => if h = wIf then some (.ite (Itm.w x).tree a.tree b.tree) else if h = wLet then some (.lt (mkS x) a.tree b.tree) else none
  | [.w h, .t x, a, b] => if h = wIf then some (.ite x a.tree b.tree) else none
  | _ => none
def runI : List (List Itm) → List Itm → List (List Nat) → Option (List (List Itm) × List Itm)
  | ar, its, [] => some (ar, its)
  | ar, its, z :: r => if z = [40] then runI (its :: ar) [] r else if z = [41] then
      match ar, nodeI its with
      | up :: ar', some u => runI ar' (up ++ [.t u]) r
      | _, _ => none
    else runI ar (its ++ [.w z]) r
def itmOf : Tr → Itm
  | .num n => .w (numC n)
  | .name x => .w x.cps.toList
  | t => .t t
theorem dig_split {m : Nat} (h : ¬ m < 10) : Nat.toDigits 10 m = Nat.toDigits 10 (m / 10) ++ Nat.toDigits 10 (m % 10) := by
  have t : Nat.toDigits 10 (m / 10) ++ Nat.toDigits 10 (m % 10) = Nat.toDigits 10 (10 * (m / 10) + m % 10) := Nat.toDigits_append_toDigits (by decide) (by omega) (Nat.mod_lt m (by decide))
  rw [t, Nat.div_add_mod]
theorem dig_len' : ∀ (k m : Nat), m < 10 ^ (k + 1) → (Nat.toDigits 10 m).length ≤ k + 1
  | 0, m, h => by
    rw [Nat.toDigits_of_lt_base (by simpa using h)]
    exact Nat.le_refl _
  | k + 1, m, h => by
    by_cases h1 : m < 10
    · rw [Nat.toDigits_of_lt_base h1]
      simp
    · rw [dig_split h1, List.length_append, Nat.toDigits_of_lt_base (Nat.mod_lt m (by decide))]
      have := dig_len' k (m / 10) (by
        rw [Nat.div_lt_iff_lt_mul (by decide), ← Nat.pow_succ]
        exact h)
      simp only [List.length_singleton]
      omega
theorem dig_len {m : Nat} (h : m < 10 ^ 60) : (Nat.toDigits 10 m).length ≤ 60 := dig_len' 59 m h
theorem dig_head {m : Nat} (h : m ≠ 0) : ((Nat.toDigits 10 m).map Char.toNat).head? ≠ some 48 := by
  induction m using Nat.strongRecOn with
  | _ m ih =>
    by_cases h1 : m < 10
    · rw [Nat.toDigits_of_lt_base h1]
      have all : ∀ d : Nat, d < 10 → d ≠ 0 → (Nat.digitChar d).toNat ≠ 48 := by decide
      intro e
      exact all m h1 h (Option.some.inj e)
    · rw [dig_split h1, List.map_append, List.head?_append]
      have := ih (m / 10) (by omega) (by omega)
      intro e
      cases e2 : ((Nat.toDigits 10 (m / 10)).map Char.toNat).head? with
      | none =>
        have := List.head?_eq_none_iff.mp e2
        exact (dig_pw (m / 10)).1.1 this
      | some c =>
        rw [e2] at e this
        exact this e
theorem numC_pos (m : Nat) : numC (m : Int) = (Nat.toDigits 10 m).map Char.toNat := PySem.W.KIN.signs_num m
theorem numC_neg (m : Nat) : numC (Int.negSucc m) = 45 :: (Nat.toDigits 10 (m + 1)).map Char.toNat := by
  unfold numC
  rw [Str.ofString_eq_toList]
  show (toString (Int.negSucc m)).toList.map Char.toNat = _
  rw [show toString (Int.negSucc m) = "-" ++ Nat.repr (m + 1) from rfl, String.toList_append, List.map_append, Nat.toList_repr]
  rfl
theorem num_test {m : Nat} (h : m < 10 ^ 60) (h0 : m ≠ 0) : (((Nat.toDigits 10 m).map Char.toNat).all (fun c => 48 ≤ c && c ≤ 57) && decide ((Nat.toDigits 10 m).map Char.toNat ≠ []) && decide (((Nat.toDigits 10 m).map Char.toNat).head? ≠ some 48) && decide (((Nat.toDigits 10 m).map Char.toNat).length ≤ 60)) = true := by
  obtain ⟨⟨d1, _⟩, d2⟩ := dig_pw m
  rw [decide_eq_true d1, decide_eq_true (dig_head h0), decide_eq_true (by rw [List.length_map]; exact dig_len h), Bool.and_true, Bool.and_true, Bool.and_true, List.all_eq_true]
  intro c hc
  have := d2 c hc
  simp only [Bool.and_eq_true, decide_eq_true_eq]
  exact this
theorem num_back {n : Int} (h : -(10 ^ 60) < n) (h2 : n < 10 ^ 60) : numOf (numC n) = some n := by
  cases n with
  | ofNat m =>
    rw [show Int.ofNat m = (m : Int) from rfl, numC_pos]
    by_cases h0 : m = 0
    · subst h0
      rfl
    · have ht := num_test (m := m) (by have : (Int.ofNat m) = (m : Int) := rfl; omega) h0
      have hv := PySem.W.KIN.val_back m
      revert ht hv
      obtain ⟨⟨d1, _⟩, d2⟩ := dig_pw m
      have hd := dig_head h0
      generalize (Nat.toDigits 10 m).map Char.toNat = z at d1 d2 hd ⊢
      intro ht hv
      unfold numOf
      rw [if_neg (by intro e; rw [e] at hd; exact hd rfl)]
      split
      · rename_i r
        have := d2 45 List.mem_cons_self
        omega
      · rw [if_pos ht, hv]
  | negSucc m =>
    rw [numC_neg]
    have ht := num_test (m := m + 1) (by omega) (by omega)
    unfold numOf
    rw [if_neg (by intro e; cases e)]
    show (if _ then some (-((NumText.digitsVal ((Nat.toDigits 10 (m + 1)).map Char.toNat) : Nat) : Int)) else none) = _
    rw [if_pos ht, PySem.W.KIN.val_back]
    rfl
theorem name_back {x : Str} (h : isName x = true) : numOf x.cps.toList = none := by
  unfold isName at h
  simp only [Bool.and_eq_true, decide_eq_true_eq, List.all_eq_true] at h
  have hl := h.2
  unfold numOf
  cases e : x.cps.toList with
  | nil => simp
  | cons c r =>
    rw [e] at hl
    have hc := hl c List.mem_cons_self
    unfold isLet at hc
    simp only [Bool.and_eq_true, decide_eq_true_eq] at hc
    rw [if_neg (by intro z; cases z; omega)]
    split
    · rename_i hq
      cases hq
      omega
    · rename_i q hq
      rw [if_neg]
      intro z
      simp only [Bool.and_eq_true, List.all_cons, decide_eq_true_eq] at z
      omega
theorem itm_tree {t : Tr} (g : Good t) : (itmOf t).tree = t := by
  cases t with
  | num n =>
    show (match numOf (numC n) with | some n => Tr.num n | none => _) = _
    rw [num_back g.1 g.2]
  | name x =>
    show (match numOf x.cps.toList with | some n => Tr.num n | none => _) = _
    rw [name_back g]
    rfl
  | fn x b => rfl
  | call a b => rfl
  | plus a b => rfl
  | less a b => rfl
  | ite c a b => rfl
  | lt x a b => rfl
theorem w1 : ¬ wCall = wFun := by decide
theorem w2 : ¬ wPlus = wFun := by decide
theorem w3 : ¬ wPlus = wCall := by decide
theorem w4 : ¬ wLess = wFun := by decide
theorem w5 : ¬ wLess = wCall := by decide
theorem w6 : ¬ wLess = wPlus := by decide
theorem w7 : ¬ wLet = wIf := by decide
theorem node_call (i j : Itm) : nodeI [.w wCall, i, j] = some (.call i.tree j.tree) := by
  cases i <;> simp [nodeI, w1, Itm.tree]
theorem node_plus (i j : Itm) : nodeI [.w wPlus, i, j] = some (.plus i.tree j.tree) := by
  cases i <;> simp [nodeI, w2, w3, Itm.tree]
theorem node_less (i j : Itm) : nodeI [.w wLess, i, j] = some (.less i.tree j.tree) := by
  cases i <;> simp [nodeI, w4, w5, w6, Itm.tree]
theorem node_fn (x : List Nat) (j : Itm) : nodeI [.w wFun, .w x, j] = some (.fn (mkS x) j.tree) := by
  simp [nodeI]
theorem node_ite (i j k : Itm) : nodeI [.w wIf, i, j, k] = some (.ite i.tree j.tree k.tree) := by
  cases i <;> simp [nodeI, Itm.tree]
theorem node_lt (x : List Nat) (j k : Itm) : nodeI [.w wLet, .w x, j, k] = some (.lt (mkS x) j.tree k.tree) := by
  simp [nodeI, w7]
theorem run_word {ar : List (List Itm)} {its : List Itm} {z : List Nat} {r : List (List Nat)} (h : PW z) : runI ar its (z :: r) = runI ar (its ++ [.w z]) r := by
  conv => lhs; unfold runI
  rw [if_neg (by intro e; exact (h.2 40 (by rw [e]; exact List.mem_cons_self)).2.1 rfl), if_neg (by intro e; exact (h.2 41 (by rw [e]; exact List.mem_cons_self)).2.2 rfl)]
theorem run_open {ar : List (List Itm)} {its : List Itm} {r : List (List Nat)} : runI ar its ([40] :: r) = runI (its :: ar) [] r := by
  conv => lhs; unfold runI
  rw [if_pos rfl]
theorem run_close {ar : List (List Itm)} {up its : List Itm} {u : Tr} {r : List (List Nat)} (h : nodeI its = some u) : runI (up :: ar) its ([41] :: r) = runI ar (up ++ [.t u]) r := by
  conv => lhs; unfold runI
  rw [if_neg (by decide), if_pos rfl, h]
/-- the words of a tree make its item -/
theorem run_tks : ∀ {t : Tr}, Good t → ∀ {ar : List (List Itm)} {its : List Itm} {r : List (List Nat)}, runI ar its (tks t ++ r) = runI ar (its ++ [itmOf t]) r
  | .num n, _, _, _, _ => run_word (pw_num n)
  | .name x, g, _, _, _ => run_word (pw_name g)
  | .fn x b, g, _, _, _ => by
    simp only [tks, List.cons_append, List.append_assoc, List.nil_append]
    rw [run_open, run_word ⟨by decide, by decide⟩, run_word (pw_name g.1), run_tks g.2]
    exact (run_close (node_fn x.cps.toList (itmOf b))).trans (by rw [itm_tree g.2]; rfl)
  | .call a b, g, _, _, _ => by
    simp only [tks, List.cons_append, List.append_assoc, List.nil_append]
    rw [run_open, run_word ⟨by decide, by decide⟩, run_tks g.1, run_tks g.2]
    exact (run_close (node_call (itmOf a) (itmOf b))).trans (by rw [itm_tree g.1, itm_tree g.2]; rfl)
  | .plus a b, g, _, _, _ => by
    simp only [tks, List.cons_append, List.append_assoc, List.nil_append]
    rw [run_open, run_word ⟨by decide, by decide⟩, run_tks g.1, run_tks g.2]
    exact (run_close (node_plus (itmOf a) (itmOf b))).trans (by rw [itm_tree g.1, itm_tree g.2]; rfl)
  | .less a b, g, _, _, _ => by
    simp only [tks, List.cons_append, List.append_assoc, List.nil_append]
    rw [run_open, run_word ⟨by decide, by decide⟩, run_tks g.1, run_tks g.2]
    exact (run_close (node_less (itmOf a) (itmOf b))).trans (by rw [itm_tree g.1, itm_tree g.2]; rfl)
  | .ite c a b, g, _, _, _ => by
    simp only [tks, List.cons_append, List.append_assoc, List.nil_append]
    rw [run_open, run_word ⟨by decide, by decide⟩, run_tks g.1, run_tks g.2.1, run_tks g.2.2]
    exact (run_close (node_ite (itmOf c) (itmOf a) (itmOf b))).trans (by rw [itm_tree g.1, itm_tree g.2.1, itm_tree g.2.2]; rfl)
  | .lt x a b, g, _, _, _ => by
    simp only [tks, List.cons_append, List.append_assoc, List.nil_append]
    rw [run_open, run_word ⟨by decide, by decide⟩, run_word (pw_name g.1), run_tks g.2.1, run_tks g.2.2]
    exact (run_close (node_lt x.cps.toList (itmOf a) (itmOf b))).trans (by rw [itm_tree g.2.1, itm_tree g.2.2]; rfl)
/-- a tree's line, read -/
theorem run_line {t : Tr} (g : Good t) {l : List Nat} (h : scan [] l = tks t) : runI [] [] (scan [] l) = some ([], [itmOf t]) := by
  have := run_tks g (ar := []) (its := []) (r := [])
  rw [List.append_nil] at this
  rw [h, this]
  rfl
theorem scan_line {t : Tr} (g : Good t) : scan [] (wr t) = tks t := by
  have := scan_wr g (r := []) trivial
  rw [List.append_nil] at this
  rw [this]
  show tks t ++ flush [] = _
  rw [show flush [] = [] from rfl, List.append_nil]
end My

namespace My
open PySem L2
/-! ### replace of more signs than one; the wide lines -/
theorem kind_le' (x : Str) (S : List Nat) (hc : ∀ c ∈ S, c < 256) : ¬ Builtin.Str.strKind x < Builtin.Str.strKind (mkS S) := by
  have h1 : Builtin.Str.strKind (mkS S) = 1 := by
    unfold Builtin.Str.strKind mkS
    rw [if_pos]
    rw [Array.all_eq_true']
    intro c h
    exact decide_eq_true (hc c (by simpa using h))
  rw [h1]
  unfold Builtin.Str.strKind
  split <;> (try split) <;> omega
/-- l with r for each S -/
def repl (S r : List Nat) : Nat → List Nat → List Nat
  | _, [] => []
  | 0, c :: q => if TL.pre S (c :: q) = true then r ++ repl S r (S.length - 1) q else c :: repl S r 0 q
  | k + 1, _ :: q => repl S r k q
theorem spl_ne (S : List Nat) : ∀ (l : List Nat) (k : Nat) (acc : List Nat), TL.spl S k acc l ≠ []
  | [], k, acc => by rw [TL.spl_nil]; simp
  | c :: q, 0, acc => by
    by_cases h : TL.pre S (c :: q) = true
    · rw [TL.spl_hit h]; simp
    · rw [TL.spl_miss (by simpa using h)]
      exact spl_ne S q 0 _
  | c :: q, k + 1, acc => spl_ne S q k acc
theorem spl_join (S r : List Nat) : ∀ (l : List Nat) (k : Nat) (acc : List Nat), List.intercalate r (TL.spl S k acc l) = acc ++ repl S r k l
  | [], k, acc => by rw [TL.spl_nil]; simp [List.intercalate, repl]
  | c :: q, 0, acc => by
    unfold repl
    by_cases h : TL.pre S (c :: q) = true
    · rw [TL.spl_hit h, inter_cons _ _ (spl_ne _ _ _ _), spl_join S r q, if_pos h]
      simp
    · rw [TL.spl_miss (by simpa using h), spl_join S r q, if_neg h]
      simp
  | c :: q, k + 1, acc => spl_join S r q k acc
theorem split_pat (l S : List Nat) (hS : S ≠ []) (hc : ∀ c ∈ S, c < 256) : Txt.split (mkS l) (mkS S) = (TL.spl S 0 [] l).map mkS := by
  have h := TL.split_spl (mkS l) (mkS S) hS (kind_le' _ _ hc)
  have h2 : (Txt.split (mkS l) (mkS S)).map (fun z => z.cps.toList) = TL.spl S 0 [] l := h
  rw [← h2, List.map_map]
  refine (List.map_id' _).symm.trans (List.map_congr_left fun z _ => ?_)
  exact mkS_of z
theorem replace_pat (l S r : List Nat) (hS : S ≠ []) (hc : ∀ c ∈ S, c < 256) : Txt.replace (mkS l) (mkS S) (mkS r) = mkS (repl S r 0 l) := by
  have hlen : (mkS S).length ≠ 0 := by rw [mkS_len]; intro e; exact hS (List.length_eq_zero_iff.mp e)
  have e : Txt.replace (mkS l) (mkS S) (mkS r) = Txt.join (mkS r) (Txt.split (mkS l) (mkS S)) := by
    unfold Txt.replace Txt.split Txt.join
    rw [show ((mkS S).length == 0) = false by simpa using hlen, Bool.false_and, Bool.or_false]
    by_cases h : (Builtin.Str.occurrences (mkS l) (mkS S) 0 (mkS l).length ((mkS l).length + 1)).isEmpty = true
    · rw [if_pos h, if_pos h]
      split <;> rfl
    · rw [if_neg h, if_neg h]
      split
      · rename_i h3
        exfalso
        rw [decide_eq_false (kind_le' (mkS l) S hc), Bool.or_false, decide_eq_true_eq] at h3
        cases ho : Builtin.Str.occurrences (mkS l) (mkS S) 0 (mkS l).length ((mkS l).length + 1) with
        | nil => rw [ho] at h; exact h rfl
        | cons i q =>
          have := (StrLaws.occ_spec (mkS l) (mkS S) 0 (mkS l).length ((mkS l).length + 1) i (by rw [ho]; exact List.mem_cons_self)).1
          omega
      · rfl
  rw [e, TL.join_eq, split_pat l S hS hc, sjoin_sep, spl_join]
  rfl
theorem scan_sp' (acc r : List Nat) : scan acc (32 :: r) = flush acc ++ scan [] r := by
  conv => lhs; unfold scan
  rw [if_pos rfl]
theorem scan_br (x : Nat) (hx : x = 40 ∨ x = 41) (acc r : List Nat) : scan acc (x :: r) = flush acc ++ [x] :: scan [] r := by
  conv => lhs; unfold scan
  rw [if_neg (by omega), if_pos hx]
theorem scan_in (x : Nat) (h1 : x ≠ 32) (h2 : x ≠ 40) (h3 : x ≠ 41) (acc r : List Nat) : scan acc (x :: r) = scan (acc ++ [x]) r := by
  conv => lhs; unfold scan
  rw [if_neg h1, if_neg (by simp [h2, h3])]
/-- a pattern that may go without the words being others -/
theorem scan_repl {S r : List Nat} {n : Nat} (hn : S.length = n + 1) (hit : ∀ acc q, scan acc (S ++ q) = scan acc (r ++ q)) (hr : ∀ acc q q', scan [] q = scan [] q' → scan acc (r ++ q) = scan acc (r ++ q')) : ∀ (k : Nat) (l acc : List Nat), l.length ≤ k → scan acc (repl S r 0 l) = scan acc l := by
  intro k
  induction k with
  | zero =>
    intro l acc h
    have : l = [] := List.length_eq_zero_iff.mp (by omega)
    subst this
    rfl
  | succ k ih =>
    intro l acc h
    cases l with
    | nil => rfl
    | cons c q =>
      unfold repl
      by_cases hp : TL.pre S (c :: q) = true
      · rw [if_pos hp]
        have drop : ∀ (m : Nat) (z : List Nat), repl S r m z = repl S r 0 (z.drop m) := by
          intro m
          induction m with
          | zero => intro z; rfl
          | succ m ihm =>
            intro z
            cases z with
            | nil => rfl
            | cons x z => exact ihm z
        have hs : c :: q = S ++ q.drop n := by
          have e : (c :: q).take S.length = S := by
            have := hp
            unfold TL.pre at this
            exact beq_iff_eq.mp this
          have := List.take_append_drop S.length (c :: q)
          rw [e, hn] at this
          exact this.symm
        rw [hn, Nat.add_sub_cancel, drop n q, hs, hit]
        refine hr _ _ _ (ih _ _ ?_)
        rw [List.length_drop]
        simp only [List.length_cons] at h
        omega
      · rw [if_neg hp]
        have hq : q.length ≤ k := by simp only [List.length_cons] at h; omega
        by_cases h1 : c = 32
        · subst h1
          rw [scan_sp', scan_sp', ih q [] hq]
        by_cases h2 : c = 40 ∨ c = 41
        · rw [scan_br c h2, scan_br c h2, ih q [] hq]
        · rw [scan_in c h1 (by omega) (by omega), scan_in c h1 (by omega) (by omega), ih q _ hq]
theorem fl_nil : flush [] = [] := rfl
theorem scan_r1 (l acc : List Nat) : scan acc (repl [32, 40] [40] 0 l) = scan acc l :=
  scan_repl (n := 1) rfl (fun acc q => by
    show scan acc (32 :: 40 :: q) = scan acc (40 :: q)
    rw [scan_sp', scan_br 40 (.inl rfl), scan_br 40 (.inl rfl), fl_nil, List.nil_append])
    (fun acc q q' e => by
      show scan acc (40 :: q) = scan acc (40 :: q')
      rw [scan_br 40 (.inl rfl), scan_br 40 (.inl rfl), e]) _ l acc (Nat.le_refl _)
theorem scan_r2 (l acc : List Nat) : scan acc (repl [41, 32] [41] 0 l) = scan acc l :=
  scan_repl (n := 1) rfl (fun acc q => by
    show scan acc (41 :: 32 :: q) = scan acc (41 :: q)
    rw [scan_br 41 (.inr rfl), scan_br 41 (.inr rfl), scan_sp', fl_nil, List.nil_append])
    (fun acc q q' e => by
      show scan acc (41 :: q) = scan acc (41 :: q')
      rw [scan_br 41 (.inr rfl), scan_br 41 (.inr rfl), e]) _ l acc (Nat.le_refl _)
theorem scan_r3 (l acc : List Nat) : scan acc (repl [41, 32, 40] [41, 40] 0 l) = scan acc l :=
  scan_repl (n := 2) rfl (fun acc q => by
    show scan acc (41 :: 32 :: 40 :: q) = scan acc (41 :: 40 :: q)
    rw [scan_br 41 (.inr rfl), scan_br 41 (.inr rfl), scan_sp', fl_nil, List.nil_append])
    (fun acc q q' e => by
      show scan acc (41 :: 40 :: q) = scan acc (41 :: 40 :: q')
      rw [scan_br 41 (.inr rfl), scan_br 41 (.inr rfl), scan_br 40 (.inl rfl), scan_br 40 (.inl rfl), e]) _ l acc (Nat.le_refl _)
theorem scan_r4 (l acc : List Nat) : scan acc (repl [32] [32, 32] 0 l) = scan acc l :=
  scan_repl (n := 0) rfl (fun acc q => by
    show scan acc (32 :: q) = scan acc (32 :: 32 :: q)
    rw [scan_sp', scan_sp', scan_sp', fl_nil, List.nil_append])
    (fun acc q q' e => by
      show scan acc (32 :: 32 :: q) = scan acc (32 :: 32 :: q')
      rw [scan_sp', scan_sp', scan_sp', scan_sp', e]) _ l acc (Nat.le_refl _)
theorem scan_r5 (l acc : List Nat) : scan acc (repl [32] [32, 32, 32] 0 l) = scan acc l :=
  scan_repl (n := 0) rfl (fun acc q => by
    show scan acc (32 :: q) = scan acc (32 :: 32 :: 32 :: q)
    rw [scan_sp', scan_sp', scan_sp', scan_sp', fl_nil, List.nil_append, List.nil_append])
    (fun acc q q' e => by
      show scan acc (32 :: 32 :: 32 :: q) = scan acc (32 :: 32 :: 32 :: q')
      rw [scan_sp', scan_sp', scan_sp', scan_sp' acc, scan_sp' [], scan_sp' [], e]) _ l acc (Nat.le_refl _)
theorem scan_r6 (l acc : List Nat) : scan acc (repl [40] [32, 40, 32] 0 l) = scan acc l :=
  scan_repl (n := 0) rfl (fun acc q => by
    show scan acc (40 :: q) = scan acc (32 :: 40 :: 32 :: q)
    rw [scan_sp', scan_br 40 (.inl rfl), scan_br 40 (.inl rfl), scan_sp', fl_nil, List.nil_append, List.nil_append])
    (fun acc q q' e => by
      show scan acc (32 :: 40 :: 32 :: q) = scan acc (32 :: 40 :: 32 :: q')
      rw [scan_sp', scan_br 40 (.inl rfl), scan_sp', scan_sp' acc, scan_br 40 (.inl rfl), scan_sp' [], e]) _ l acc (Nat.le_refl _)
theorem scan_r7 (l acc : List Nat) : scan acc (repl [41] [32, 32, 41] 0 l) = scan acc l :=
  scan_repl (n := 0) rfl (fun acc q => by
    show scan acc (41 :: q) = scan acc (32 :: 32 :: 41 :: q)
    rw [scan_sp', scan_sp', scan_br 41 (.inr rfl), scan_br 41 (.inr rfl), fl_nil, List.nil_append, List.nil_append])
    (fun acc q q' e => by
      show scan acc (32 :: 32 :: 41 :: q) = scan acc (32 :: 32 :: 41 :: q')
      rw [scan_sp', scan_sp', scan_br 41 (.inr rfl), scan_sp' acc, scan_sp' [], scan_br 41 (.inr rfl), e]) _ l acc (Nat.le_refl _)
theorem scan_trail : ∀ (l acc : List Nat), scan acc (l ++ [32]) = scan acc l
  | [], acc => by
    show scan acc [32] = flush acc
    rw [scan_sp']
    show flush acc ++ flush [] = _
    rw [fl_nil, List.append_nil]
  | c :: q, acc => by
    show scan acc (c :: (q ++ [32])) = _
    by_cases h1 : c = 32
    · subst h1
      rw [scan_sp', scan_sp', scan_trail q]
    by_cases h2 : c = 40 ∨ c = 41
    · rw [scan_br c h2, scan_br c h2, scan_trail q]
    · rw [scan_in c h1 (by omega) (by omega), scan_in c h1 (by omega) (by omega), scan_trail q]
/-- the three wide lines have the same words -/
theorem wide0 (l : List Nat) : scan [] ([32, 32] ++ repl [41] [32, 32, 41] 0 (repl [40] [32, 40, 32] 0 (repl [32] [32, 32, 32] 0 l)) ++ [32]) = scan [] l := by
  rw [scan_trail]
  show scan [] (32 :: 32 :: repl [41] [32, 32, 41] 0 (repl [40] [32, 40, 32] 0 (repl [32] [32, 32, 32] 0 l))) = _
  rw [scan_sp', scan_sp', fl_nil, List.nil_append, List.nil_append, scan_r7, scan_r6, scan_r5]
theorem wide1 (l : List Nat) : scan [] (repl [41, 32] [41] 0 (repl [32, 40] [40] 0 l)) = scan [] l := by rw [scan_r2, scan_r1]
theorem wide2 (l : List Nat) : scan [] (repl [32] [32, 32] 0 (repl [41, 32, 40] [41, 40] 0 l)) = scan [] l := by rw [scan_r4, scan_r3]
end My

namespace My
open PySem L2
def unMinus : List Nat → List Nat
  | 45 :: r => r
  | l => l
theorem remove_minus (l : List Nat) : Txt.removeprefix (mkS l) "-" = mkS (unMinus l) := by
  rw [show (Str.ofString "-") = mkS [45] by decide +kernel]
  unfold Txt.removeprefix
  cases l with
  | nil => rfl
  | cons c r =>
    have hx : Builtin.Str.subAt (mkS (c :: r)) (mkS [45]) 0 = decide (c = 45) := by
      unfold Builtin.Str.subAt mkS
      by_cases h : c = 45
      · subst h
        rw [decide_eq_true rfl, beq_iff_eq]
        apply Array.toList_inj.mp
        simp [Str.length]
      · rw [decide_eq_false h, beq_eq_false_iff_ne]
        intro e
        have := congrArg Array.toList e
        simp [Str.length] at this
        exact h this
    rw [hx]
    by_cases h : c = 45
    · subst h
      rw [if_pos (by decide)]
      show (if ((mkS (45 :: r)).length - (mkS [45]).length == (mkS (45 :: r)).length) = true then mkS (45 :: r) else Builtin.Str.strSub (mkS (45 :: r)) (mkS [45]).length (mkS (45 :: r)).length) = _
      rw [if_neg (by rw [mkS_len, mkS_len]; simp)]
      show Builtin.Str.strSub (mkS (45 :: r)) (mkS [45]).length (mkS (45 :: r)).length = mkS r
      apply TL.ext_tl
      unfold Builtin.Str.strSub
      rw [mkS_len, mkS_len]
      simp [mkS]
    · rw [if_neg (by simpa using h)]
      have : unMinus (c :: r) = c :: r := by
        unfold unMinus
        split
        · rename_i e; cases e; exact absurd rfl h
        · rfl
      rw [this]
      rfl
end My

namespace My
open PySem PySem.Spec PyProof.Rows L2 CwR
open PyProof.Rows (envOfC)
/-! ### behind it a token is out -/
def PE1 (X : Cx) (e : Expr) (t : TE) : Prop :=
  ∀ (pins : List (Addr × Obj)) (s : Shared) (σ : L2.St) (H : Hp) (Q : VK), Inv X pins σ H s → t σ H Q → wpAny (model X.prog X.w) X.A (eval e X.env) (fun u s' => 1 ≤ s'.toks ∧ EP X pins σ Q u s') X.xe s
def PA1 (X : Cx) (es : List Expr) (t : TA) : Prop :=
  ∀ (pos : Pos) (pins : List (Addr × Obj)) (s : Shared) (σ : L2.St) (H : Hp) (Q : List V → Hp → Prop), Inv X pins σ H s → t σ H Q → wpAny (model X.prog X.w) X.A (spliced (backTo pos (starEach es X.env))) (fun us s' => 1 ≤ s'.toks ∧ AP X pins σ Q us s') X.xe s
theorem tk1 {α : Type} {M : Model} {A : Around} {s : Shared} {t : Sem α} {Q : α → Shared → Prop} {E : Value → Shared → Prop} (hn : 1 ≤ s.toks) (h : wpAny M A t Q E s) : wpAny M A t (fun a s' => 1 ≤ s'.toks ∧ Q a s') E s :=
  wpAny_mono (wpAny_toks_of hn h) (fun _ _ q => q) fun _ _ q => q.2
section
variable {X : Cx} {e o : Expr} {es : List Expr} {te ta tb to : TE} {t : TA} {a b : Expr} {pos p : Pos}
theorem PE1.pe (h : PE1 X e te) : PE X e te := ⟨fun pins s σ H Q I q => wpAny_mono (h pins s σ H Q I q) (fun _ _ z => z.2) fun _ _ z => z⟩
theorem pe1_int {i : Int} {j : Nat} : PE1 X (.Constant (.int i) j pos) (tC (.int i)) := fun _ s _ H _ I h => wpAny_Constant_int ⟨by show 1 ≤ s.toks + 1; omega, .int i, H, I.tok _, ⟨_, rfl⟩, h⟩
theorem pe1_str {z : Str} {j : Nat} : PE1 X (.Constant (.str z) j pos) (tC (.str z)) := fun _ s _ H _ I h => Calls.Constant_str ⟨by show 1 ≤ s.toks + 1; omega, .str z, H, I.tok _, ⟨_, rfl⟩, h⟩
theorem pe1_opL {op : Operator} {r : R2} (ho : OpR X (binaryOp op) r) (ha : PE1 X a ta) (hb : PE X b tb) : PE1 X (.BinOp a op b pos) (tOp r ta tb) := by
  intro pins s σ H Q I h
  refine wpAny_BinOp (thn (ha pins s σ H _ I h) fun v s1 ⟨hk, x, H1, I1, r1, q1⟩ => ?_)
  exact thn (tk1 hk (hb.run pins s1 σ H1 _ I1 q1)) fun u s2 ⟨hk2, y, H2, I2, r2, q2⟩ => tk1 hk2 (ho pins s2 σ H2 x y v u Q I2 r1 r2 q2)
theorem pe1_opR {op : Operator} {r : R2} (ho : OpR X (binaryOp op) r) (ha : PE X a ta) (hb : PE1 X b tb) : PE1 X (.BinOp a op b pos) (tOp r ta tb) := by
  intro pins s σ H Q I h
  refine wpAny_BinOp (thn (ha.run pins s σ H _ I h) fun v s1 ⟨x, H1, I1, r1, q1⟩ => ?_)
  exact thn (hb pins s1 σ H1 _ I1 q1) fun u s2 ⟨hk2, y, H2, I2, r2, q2⟩ => tk1 hk2 (ho pins s2 σ H2 x y v u Q I2 r1 r2 q2)
/-- the left operand gives the token that the right one wants -/
theorem pe1_opT {op : Operator} {r : R2} (ho : OpR X (binaryOp op) r) (ha : PE1 X a ta) (hb : PET X b tb) : PE1 X (.BinOp a op b pos) (tOp r ta tb) := by
  intro pins s σ H Q I h
  refine wpAny_BinOp (thn (ha pins s σ H _ I h) fun v s1 ⟨hk, x, H1, I1, r1, q1⟩ => ?_)
  exact thn (tk1 hk (hb pins s1 σ H1 _ hk I1 q1)) fun u s2 ⟨hk2, y, H2, I2, r2, q2⟩ => tk1 hk2 (ho pins s2 σ H2 x y v u Q I2 r1 r2 q2)
theorem pe1_ix {r : R2} (hr : IxR X r) (ha : PE X a ta) (hb : PE1 X b tb) (hs : PlainIx b) : PE1 X (.Subscript a b pos) (tOp r ta tb) := by
  intro pins s σ H Q I h
  refine Subscript_ (thn (ha.run pins s σ H _ I h) fun v s1 ⟨x, H1, I1, r1, q1⟩ => ?_)
  exact thn (hb pins s1 σ H1 _ I1 q1) fun u s2 ⟨hk2, y, H2, I2, r2, q2⟩ => tk1 hk2 (hr a b pins s2 σ H2 x y v u Q I2 r1 r2 q2 (hs _ _))
theorem pa1_here (ha : PE1 X e te) (hr : PA X es t) (hs : starEach (e :: es) X.env = (false, eval e X.env) :: starEach es X.env := by rfl) : PA1 X (e :: es) (tCons te t) := by
  intro pos pins s σ H Q I h
  rw [hs]
  show wpAny _ _ (spliced ((false, eval e X.env) :: backTo pos (starEach es X.env))) _ _ s
  refine Calls.spliced_cons (thn (ha pins s σ H _ I h) fun u s1 ⟨hk, x, H1, I1, r1, q1⟩ => ?_)
  exact thn (tk1 hk (hr.run pos pins s1 σ H1 _ I1 q1)) fun us s2 ⟨hk2, xs, H2, I2, r2, q2⟩ => ⟨hk2, x :: xs, H2, I2, .cons r1 r2, q2⟩
theorem pa1_next (ha : PE X e te) (hr : PA1 X es t) (hs : starEach (e :: es) X.env = (false, eval e X.env) :: starEach es X.env := by rfl) : PA1 X (e :: es) (tCons te t) := by
  intro pos pins s σ H Q I h
  rw [hs]
  show wpAny _ _ (spliced ((false, eval e X.env) :: backTo pos (starEach es X.env))) _ _ s
  refine Calls.spliced_cons (thn (ha.run pins s σ H _ I h) fun u s1 ⟨x, H1, I1, r1, q1⟩ => ?_)
  exact thn (hr pos pins s1 σ H1 _ I1 q1) fun us s2 ⟨hk2, xs, H2, I2, r2, q2⟩ => ⟨hk2, x :: xs, H2, I2, .cons r1 r2, q2⟩
/-- the first argument gives the token that the others want -/
theorem pa_mix (ha : PE1 X e te) (hr : PAT X es t) (hs : starEach (e :: es) X.env = (false, eval e X.env) :: starEach es X.env := by rfl) : PA X (e :: es) (tCons te t) := by
  refine ⟨fun pos pins s σ H Q I h => ?_⟩
  rw [hs]
  show wpAny _ _ (spliced ((false, eval e X.env) :: backTo pos (starEach es X.env))) _ _ s
  refine Calls.spliced_cons (thn (ha pins s σ H _ I h) fun u s1 ⟨hk, x, H1, I1, r1, q1⟩ => ?_)
  exact thn (hr pos pins s1 σ H1 _ hk I1 q1) fun us s2 ⟨xs, H2, I2, r2, q2⟩ => ⟨x :: xs, H2, I2, .cons r1 r2, q2⟩
theorem PAT.of (h : PA X es t) : PAT X es t := fun pos pins s σ H Q _ I q => h.run pos pins s σ H Q I q
/-- where a token is out, one stays out -/
theorem PAT.of1 (h : PAT X es t) : ∀ (pos : Pos) (pins : List (Addr × Obj)) (s : Shared) (σ : L2.St) (H : Hp) (Q : List V → Hp → Prop), 1 ≤ s.toks → Inv X pins σ H s → t σ H Q →
    wpAny (model X.prog X.w) X.A (spliced (backTo pos (starEach es X.env))) (fun us s' => 1 ≤ s'.toks ∧ AP X pins σ Q us s') X.xe s := fun pos pins s σ H Q hk I q => tk1 hk (h pos pins s σ H Q hk I q)
theorem pe1_callD {j k : Nat} {x : Str} {ps : List Str} {sp : Sp} (D : Df X.prog X.w X.K X.mg X.base j x ps sp) (hr : Room k X.A) (hj : j ≤ k) (hg : Gl X x) (ha : PA1 X (e :: es) t) (hdb : (x == ("__debug__" : Str)) = false := by decide)
    (he : starEach (e :: es) X.env = (false, eval e X.env) :: starEach es X.env := by rfl) (hpl : (backTo pos (starEach es X.env)).any (·.1) = false := by rfl) :
    PE1 X (.Call (.Name x p) (e :: es) [] pos) (tCallD sp t) := by
  obtain ⟨f, fd, F, m, kp, bb⟩ := D.ex
  intro pins s σ H Q I h
  refine wpAny_Call_Name_kw (ld_glob I hg m ?_ hdb)
  refine PySem.W.callWith_K (h₀ := X.base) I.ok.mod.kin kp (thn (ha pos pins s σ H _ I h) fun us s1 ⟨hk, vs, H1, I1, r, q⟩ => ⟨I1.kIn, tk1 hk ?_⟩) he hpl
  exact run_fn (dvs := []) F (hr.mono hj) bb .nil pass0 I1 r (by rw [List.append_nil]; exact q)
end
/-! ### a def that wants a token to be out -/
structure FnT (P : Program) (w : World) (K : PySem.W.Frag) (mg : Str → Option Value) (base : Heap) (CX : CXT) (k : Nat) (f : Addr) (fd : FuncData) (ps : List Str) (sp : Sp) : Prop where
  len : ∀ vs H Q E, sp vs H Q E → vs.length = ps.length
  run : ∀ (A : Around) (outer : List PySem.Env) (s : Shared) (H : Hp) (args : Args) (us : List Value) (vs : List V) (Q : VK) (E : XK), 1 ≤ s.toks → Room k A → Env0 P w K mg base A outer s H → BindsTo s fd args (ps.zip us) → Vals vs us → sp vs H Q E →
    codeAny (model P w) A (.call (.ref f) args) (CR CX outer P w H s Q E) s
theorem fnT_of {CX : CXT} {P : Program} {w : World} {K : PySem.W.Frag} {mg : Str → Option Value} {base : Heap} {k : Nat} {x qual : Str} {st : Stmt} {f : Addr} {fd : FuncData} {N ps : List Str} {sp : Sp} (F : Fun K x qual st f fd) (S : FnScope N ps (defScope st))
    (len : ∀ vs H Q E, sp vs H Q E → vs.length = ps.length)
    (hbody : ∀ (cdv : Value) (A : Around) (outer : List PySem.Env) (s : Shared) (H : Hp) (vs : List V) (Q : VK) (E : XK), Room k (A.deeper (envOfC qual (defScope st) s.heap.objs.size f cdv)) → sp vs H Q E →
      ∃ t, PSsT (cxOf CX P w K mg base N qual (defScope st) f cdv A outer s H E) (defBody st) t ∧ t { nx := fun _ H' => Q .non H', rt := Q } (L2.start N vs) H) : FnT P w K mg base CX (k + 1) f fd ps sp := by
  obtain ⟨oc, od, kV, doc, pm, an, cdv, ct, osl, rfl, lk, hcd⟩ := F.ex
  refine ⟨len, fun A outer s H args us vs Q E h1 hr e0 hb r hsp => ?_⟩
  have hl := len _ _ _ _ hsp
  have KX : K.In s.heap := e0.mod.kin.keeps fun b o e => (e0.bs b o e).1
  have lim : s.heap.NoLimit := e0.mod.nolimit.keeps fun b o e => (e0.bs b o e).1
  have kinds : ∀ y ∈ ps.zip us, (defScope st).names.lookup y.1 = some .local ∨ ((defScope st).names.lookup y.1 = some .cell ∧ ((cellsFrom (s.heap.objs.size + 1) (defScope st).names []).lookup y.1).isSome = true) := by
    rintro ⟨n, v⟩ hy
    exact (S.par n (List.of_mem_zip hy).1).imp id fun q => ⟨q, PySem.W.cellsFrom_some _ _ _ (.inl q)⟩
  refine codeAny_call_function hr.depth (KX _ _ lk) rfl S.co S.gen rfl (PySem.W.codeRec_of KX hcd) (hb _ _ _ _ ?_)
  refine wpAny_mono (tk1 h1 (wpAny_newFunctionEnv_cells (Q := fun env s1 => env = envOfC qual (defScope st) s.heap.objs.size f cdv ∧
      InCallC s s.heap.objs.size (bindL (envOfC qual (defScope st) s.heap.objs.size f cdv).kindOf (ps.zip us) fun _ => none) (cellsFrom (s.heap.objs.size + 1) (defScope st).names []) (bindC (envOfC qual (defScope st) s.heap.objs.size f cdv).kindOf (ps.zip us) fun _ => none) s1)
      S.kind kinds fun env he s1 z => ⟨he, by subst he; exact z⟩)) (fun env s1 q => ?_) fun _ _ q => q
  obtain ⟨h1', he, z⟩ := q
  subst he
  obtain ⟨t, ht, hq⟩ := hbody cdv A outer s H vs Q E (hr.deeper _) hsp
  have I1 : Inv (cxOf CX P w K mg base N qual (defScope st) f cdv A outer s H E) [] (L2.start N vs) H s1 := inv_start S hr.hd e0 hl r z
  refine ⟨lim.keeps z.toInCall.keep, codeAny_func (wpAny_mono (ht [] s1 _ H _ h1' I1 hq) ?_ fun _ _ h => h)⟩
  intro fl s' hs
  match fl, hs with
  | .ret u, ⟨v, σ', H', J, rv, q⟩ => exact ⟨v, H', J.os, J.bare, J.base, J.hok, rv, q⟩
  | .next, ⟨σ', H', J, q⟩ => exact ⟨.non, H', J.os, J.bare, J.base, J.hok, rfl, q⟩
  | .brk, ⟨_, _, _, q⟩ => exact q.elim
  | .cont, ⟨_, _, _, q⟩ => exact q.elim
structure DfT (CX : CXT) (P : Program) (w : World) (K : PySem.W.Frag) (mg : Str → Option Value) (base : Heap) (k : Nat) (x : Str) (ps : List Str) (sp : Sp) : Prop where
  ex : ∃ (f : Addr) (fd : FuncData), FnT P w K mg base CX k f fd ps sp ∧ mg x = some (.ref f) ∧ PySem.W.keepIn K (.ref f) = true ∧ Binds K fd ps []
theorem FunAt.dfT {CX : CXT} {P : Program} {w : World} {K : PySem.W.Frag} {mg : Str → Option Value} {base : Heap} {x : Str} {st : Stmt} {N ps : List Str} {k : Nat} {sp : Sp} (F : FunAt K mg x st) (S : FnScope N ps (defScope st)) (hb : BindAll x st ps) (len : ∀ vs H Q E, sp vs H Q E → vs.length = ps.length)
    (hbody : ∀ (f : Addr) (cdv : Value) (A : Around) (outer : List PySem.Env) (s : Shared) (H : Hp) (vs : List V) (Q : VK) (E : XK), Room k (A.deeper (envOfC x (defScope st) s.heap.objs.size f cdv)) → sp vs H Q E →
      ∃ t, PSsT (cxOf CX P w K mg base N x (defScope st) f cdv A outer s H E) (defBody st) t ∧ t { nx := fun _ H' => Q .non H', rt := Q } (L2.start N vs) H) : DfT CX P w K mg base (k + 1) x ps sp := by
  obtain ⟨f, fd, h, m⟩ := F
  exact ⟨f, fd, fnT_of h S len (hbody f), m, h.kp, h.binds hb⟩
theorem DfT.imp {CX : CXT} {P : Program} {w : World} {K : PySem.W.Frag} {mg : Str → Option Value} {base : Heap} {k : Nat} {x : Str} {ps : List Str} {sp sp' : Sp} (D : DfT CX P w K mg base k x ps sp) (h : ∀ vs H Q E, sp' vs H Q E → sp vs H Q E) : DfT CX P w K mg base k x ps sp' := by
  obtain ⟨f, fd, F, m, kp, b⟩ := D.ex
  exact ⟨f, fd, ⟨fun vs H Q E q => F.len vs H Q E (h _ _ _ _ q), fun A outer s H args us vs Q E h1 hr e0 bb r q => F.run A outer s H args us vs Q E h1 hr e0 bb r (h _ _ _ _ q)⟩, m, kp, b⟩
section
variable {X : Cx} {CX : CXT} {E : L2.St → XK} {j k : Nat} {x : Str} {ps : List Str} {sp : Sp} {e : Expr} {es : List Expr} {t : TA} {pos p : Pos}
theorem run_fnT {f : Addr} {fd : FuncData} {pins : List (Addr × Obj)} {σ : L2.St} {H : Hp} {s : Shared} {Q : VK} {us : List Value} {vs : List V} (F : FnT X.prog X.w X.K X.mg X.base CX k f fd ps sp) (h1 : 1 ≤ s.toks) (hr : Room k X.A) (hb : Binds X.K fd ps []) (hx : PassesAt CX X σ (E σ))
    (I : Inv X pins σ H s) (r : Vals vs us) (h : sp vs H Q (E σ)) : wpAny (model X.prog X.w) X.A (call (.ref f) us) (EP X pins σ Q) X.xe s := by
  have hl : us.length = ps.length := by rw [← r.length]; exact F.len _ _ _ _ h
  have bb := hb s us I.kIn (by rw [List.append_nil]; exact hl)
  rw [List.append_nil] at bb
  refine wpAny_call (codeAny_mono (F.run X.A X.stack s H ⟨us, []⟩ us vs Q (E σ) h1 hr I.env0 bb r h) fun r s' hq => ?_)
  cases r with
  | error e => exact hx pins H s e s' I hq
  | ok fl =>
    cases fl with
    | ret u => exact I.after hq
    | next => exact False.elim hq
    | brk => exact False.elim hq
    | cont => exact False.elim hq
/-- its call, where a token is out -/
theorem pet_callT (D : DfT CX X.prog X.w X.K X.mg X.base j x ps sp) (hr : Room k X.A) (hj : j ≤ k) (hg : Gl X x) (hx : ∀ σ, PassesAt CX X σ (E σ)) (ha : PAT X (e :: es) t) (hdb : (x == ("__debug__" : Str)) = false := by decide)
    (he : starEach (e :: es) X.env = (false, eval e X.env) :: starEach es X.env := by rfl) (hpl : (backTo pos (starEach es X.env)).any (·.1) = false := by rfl) :
    PET X (.Call (.Name x p) (e :: es) [] pos) (tCallS sp E t) := by
  obtain ⟨f, fd, F, m, kp, bb⟩ := D.ex
  intro pins s σ H Q hk I h
  refine wpAny_Call_Name_kw (ld_glob I hg m ?_ hdb)
  refine PySem.W.callWith_K (h₀ := X.base) I.ok.mod.kin kp (thn (PAT.of1 ha pos pins s σ H _ hk I h) fun us s1 ⟨hk1, vs, H1, I1, r, q⟩ => ⟨I1.kIn, ?_⟩) he hpl
  exact run_fnT F hk1 (hr.mono hj) bb (hx σ) I1 r q
/-- its call, where its arguments give a token -/
theorem pe_callT1 (D : DfT CX X.prog X.w X.K X.mg X.base j x ps sp) (hr : Room k X.A) (hj : j ≤ k) (hg : Gl X x) (hx : ∀ σ, PassesAt CX X σ (E σ)) (ha : PA1 X (e :: es) t) (hdb : (x == ("__debug__" : Str)) = false := by decide)
    (he : starEach (e :: es) X.env = (false, eval e X.env) :: starEach es X.env := by rfl) (hpl : (backTo pos (starEach es X.env)).any (·.1) = false := by rfl) :
    PE X (.Call (.Name x p) (e :: es) [] pos) (tCallS sp E t) := by
  obtain ⟨f, fd, F, m, kp, bb⟩ := D.ex
  refine ⟨fun pins s σ H Q I h => ?_⟩
  refine wpAny_Call_Name_kw (ld_glob I hg m ?_ hdb)
  refine PySem.W.callWith_K (h₀ := X.base) I.ok.mod.kin kp (thn (ha pos pins s σ H _ I h) fun us s1 ⟨hk1, vs, H1, I1, r, q⟩ => ⟨I1.kIn, ?_⟩) he hpl
  exact run_fnT F hk1 (hr.mono hj) bb (hx σ) I1 r q
theorem at0T {σ : L2.St} : PassesAt CX0 X σ E0 := fun _ _ _ _ _ _ h => h.elim
theorem atLT {σ : L2.St} : PassesAt (L2.CX X.prog X.w) X σ E0 := fun _ _ _ _ _ I h => passL _ _ _ _ _ _ I h
end
section
variable {X : Cx} {e o : Expr} {te to : TE} {pos : Pos} {rest : List Stmt} {u : TS}
/-- o.m(e), o of a token -/
theorem pet_m1 {id : String} {name : Str} {apos pos : Pos} {r : V → List V → Hp → VK → Prop} (slot : Slot "str" name id) (ty : typeOf (.builtin id) = pure (.type "method_descriptor")) (rule : MtR X id r) (ho : PET X o to) (he : PE X e te)
    (hs : starEach [e] X.env = [(false, eval e X.env)] := by rfl) (hbase : attributeBase o name X.env (eval o X.env) = eval o X.env := by rfl) (hline : (apos.endLine == pos.line) = true := by rfl) :
    PET X (.Call (.Attribute o name apos) [e] [] pos) (tM1 r to te) := by
  intro pins s σ H Q hk I h
  refine PySem.Call_method1 hbase hs hline (thn (ho pins s σ H _ hk I h) fun v s1 ⟨x, H1, I1, r1, q1⟩ => ?_)
  obtain ⟨⟨a, rfl⟩, q1⟩ := q1
  obtain ⟨t, rfl⟩ := _root_.id r1
  refine ⟨"str", _, F.plainAttrs_str, slot, ty, typeIs_str _ _ _, (fun _ e => nomatch e), Calls.callWith_builtin rfl (Calls.evalArgs_plain (Calls.spliced_cons ?_))⟩
  exact thn (he.run pins s1 σ H1 _ I1 q1) fun u s2 ⟨y, H2, I2, r2, q2⟩ => Calls.spliced_nil (rule pins s2 σ H2 _ [y] _ [u] Q I2 r1 (.cons r2 .nil) q2)
theorem pet_split {apos pos : Pos} (ho : PET X o to) (he : PE X e te) (hs : starEach [e] X.env = [(false, eval e X.env)] := by rfl) (hbase : attributeBase o "split" X.env (eval o X.env) = eval o X.env := by rfl) (hline : (apos.endLine == pos.line) = true := by rfl) :
    PET X (.Call (.Attribute o "split" apos) [e] [] pos) (tM1 (fun x xs H Q => ∃ a b, x = .str a ∧ xs = [.str b] ∧ (b.length == 0) = false ∧ a.length + 2 ≤ sizeLine ∧ rNewStrs (Txt.split a b) H Q) to te) :=
  pet_m1 F.slot_str_split F.type_str_split mt_split ho he hs hbase hline
theorem pst_set {i : Nat} {x : Str} {pos' : Pos} (hN : X.N.Nodup) (hi : X.N[i]? = some x) (hx : Loc X.env.scope x) (he : PET X e te) (hs : swapsWith e (some (.Name x pos')) pos.line X.env = pure false := by rfl) (hf : X.fn x = true ∨ X.env.scope.names.lookup x = some .local := by first | exact .inl rfl | exact .inr rfl | assumption) :
    PST X (.Assign [.Name x pos'] e pos) (tAsg te (gName i)) := by
  intro pins s σ H D hk I h
  refine wpAny_Assign_Name (thn (he pins s σ H _ hk I h) fun v s1 ⟨y, H1, I1, r1, q1⟩ => ?_) hs
  exact store_ok I1 hN hi hx r1 (fun s2 I2 => ⟨_, H1, I2, q1⟩) hf
/-- x = e, behind which a token is out -/
theorem pss_set1 {i : Nat} {x : Str} {pos' : Pos} (hN : X.N.Nodup) (hi : X.N[i]? = some x) (hx : Loc X.env.scope x) (he : PE1 X e te) (h2 : PSsT X rest u) (hs : swapsWith e (some (.Name x pos')) pos.line X.env = pure false := by rfl) (hf : X.fn x = true ∨ X.env.scope.names.lookup x = some .local := by first | exact .inl rfl | exact .inr rfl | assumption) :
    PSs X (.Assign [.Name x pos'] e pos :: rest) (tSeq (tAsg te (gName i)) u) := by
  refine ⟨fun pins s σ H D I h => ?_⟩
  refine wpAny_execs_cons (wpAny_Assign_Name (thn (he pins s σ H _ I h) fun v s1 ⟨hk, y, H1, I1, r1, q1⟩ => ?_) hs)
  refine wpAny_mono (tk1 hk (store_ok (Q := fun _ s2 => Inv X pins (σ.set i (some y)) H1 s2) I1 hN hi hx r1 (fun s2 I2 => I2) hf)) (fun _ s2 q => ?_) fun _ _ z => z
  exact h2 pins s2 _ H1 D q.1 q.2 q1
end
end My

namespace My
open PySem L2
/-! ### read's stack over words, with what is no tree -/
inductive It2 where
  | w (z : List Nat) | t (r : Option Tr)
def It2.tree : It2 → Option Tr
  | .t r => r
  | .w z => match numOf z with
    | some n => some (.num n)
    | none => if isName (mkS z) = true then some (.name (mkS z)) else none
def binO (f : Tr → Tr → Tr) (i j : Option Tr) : Option Tr := match i, j with | some a, some b => some (f a b) | _, _ => none
def triO (f : Tr → Tr → Tr → Tr) (i j k : Option Tr) : Option Tr := match i, j, k with | some a, some b, some c => some (f a b c) | _, _, _ => none
/-- what a bracket of a word and the items behind it is -/
def body2 (h : List Nat) (i j : It2) : Option Tr :=
  if h = wFun then (match i with | .w x => if isName (mkS x) = true then j.tree.map (Tr.fn (mkS x)) else none | .t _ => none)
  else if h = wCall then binO .call i.tree j.tree else if h = wPlus then binO .plus i.tree j.tree else if h = wLess then binO .less i.tree j.tree else none
def body3 (h : List Nat) (i j k : It2) : Option Tr :=
  if h = wIf then triO .ite i.tree j.tree k.tree else if h = wLet then (match i with | .w x => if isName (mkS x) = true then binO (.lt (mkS x)) j.tree k.tree else none | .t _ => none) else none
def bodyO (h : List Nat) : List It2 → Option Tr
  | [i, j] => body2 h i j
  | [i, j, k] => body3 h i j k
  | _ => none
def nodeO : List It2 → Option Tr
  | .w h :: r => bodyO h r
  | _ => none
def runO : List (List It2) → List It2 → List (List Nat) → Option (List (List It2) × List It2)
  | ar, its, [] => some (ar, its)
  | ar, its, z :: r => if z = [40] then runO (its :: ar) [] r else if z = [41] then
      match ar with
      | up :: ar' => runO ar' (up ++ [.t (nodeO its)]) r
      | [] => none
    else runO ar (its ++ [.w z]) r
def endO : Option (List (List It2) × List It2) → Option Tr
  | some ([], [i]) => match i.tree with
    | some t => if t.size ≤ 400 then some t else none
    | none => none
  | _ => none
/-- what read tells of a line -/
def readO (l : List Nat) : Option Tr := endO (runO [] [] (scan [] l))
/-- the empty words are passed over -/
theorem runO_filter : ∀ (ws : List (List Nat)) (ar : List (List It2)) (its : List It2), runO ar its (ws.filter fun z => z ≠ []) = (match ws with
    | [] => some (ar, its)
    | z :: r => if z = [] then runO ar its (r.filter fun z => z ≠ []) else runO ar its (z :: r.filter fun z => z ≠ []))
  | [], ar, its => rfl
  | z :: r, ar, its => by
    by_cases h : z = []
    · subst h; simp
    · simp [h]
def itmO : Tr → It2
  | .num n => .w (numC n)
  | .name x => .w x.cps.toList
  | t => .t (some t)
theorem itmO_tree {t : Tr} (g : Good t) : (itmO t).tree = some t := by
  cases t with
  | num n =>
    show (match numOf (numC n) with | some n => some (Tr.num n) | none => _) = _
    rw [num_back g.1 g.2]
  | name x =>
    show (match numOf x.cps.toList with | some n => some (Tr.num n) | none => _) = _
    rw [name_back g]
    show (if isName (mkS x.cps.toList) = true then some (Tr.name (mkS x.cps.toList)) else none) = _
    rw [← mkS_of x, if_pos (show isName x = true from g)]
  | _ => rfl
theorem runO_word {ar : List (List It2)} {its : List It2} {z : List Nat} {r : List (List Nat)} (h : PW z) : runO ar its (z :: r) = runO ar (its ++ [.w z]) r := by
  conv => lhs; unfold runO
  rw [if_neg (by intro e; exact (h.2 40 (by rw [e]; exact List.mem_cons_self)).2.1 rfl), if_neg (by intro e; exact (h.2 41 (by rw [e]; exact List.mem_cons_self)).2.2 rfl)]
theorem runO_open {ar : List (List It2)} {its : List It2} {r : List (List Nat)} : runO ar its ([40] :: r) = runO (its :: ar) [] r := by
  conv => lhs; unfold runO
  rw [if_pos rfl]
theorem runO_close {ar : List (List It2)} {up its : List It2} {r : List (List Nat)} : runO (up :: ar) its ([41] :: r) = runO ar (up ++ [.t (nodeO its)]) r := by
  conv => lhs; unfold runO
  rw [if_neg (by decide), if_pos rfl]
theorem bodyO_call (i j : It2) : bodyO wCall [i, j] = binO .call i.tree j.tree := by show body2 _ _ _ = _; unfold body2; rw [if_neg w1, if_pos rfl]
theorem bodyO_plus (i j : It2) : bodyO wPlus [i, j] = binO .plus i.tree j.tree := by show body2 _ _ _ = _; unfold body2; rw [if_neg w2, if_neg w3, if_pos rfl]
theorem bodyO_less (i j : It2) : bodyO wLess [i, j] = binO .less i.tree j.tree := by show body2 _ _ _ = _; unfold body2; rw [if_neg w4, if_neg w5, if_neg w6, if_pos rfl]
theorem bodyO_ite (i j k : It2) : bodyO wIf [i, j, k] = triO .ite i.tree j.tree k.tree := by show body3 _ _ _ _ = _; unfold body3; rw [if_pos rfl]
theorem bodyO_fn (x : List Nat) (j : It2) : bodyO wFun [.w x, j] = if isName (mkS x) = true then j.tree.map (Tr.fn (mkS x)) else none := by
  have e : bodyO wFun [.w x, j] = body2 wFun (.w x) j := rfl
  rw [e]; unfold body2; rw [if_pos rfl]
theorem bodyO_lt (x : List Nat) (j k : It2) : bodyO wLet [.w x, j, k] = if isName (mkS x) = true then binO (.lt (mkS x)) j.tree k.tree else none := by
  have e : bodyO wLet [.w x, j, k] = body3 wLet (.w x) j k := rfl
  rw [e]; unfold body3; rw [if_neg w7, if_pos rfl]
theorem runO_tks : ∀ {t : Tr}, Good t → ∀ {ar : List (List It2)} {its : List It2} {r : List (List Nat)}, runO ar its (tks t ++ r) = runO ar (its ++ [itmO t]) r
  | .num n, _, _, _, _ => runO_word (pw_num n)
  | .name x, g, _, _, _ => runO_word (pw_name g)
  | .fn x b, g, _, _, _ => by
    simp only [tks, List.cons_append, List.append_assoc, List.nil_append]
    rw [runO_open, runO_word ⟨by decide, by decide⟩, runO_word (pw_name g.1), runO_tks g.2, runO_close]
    show runO _ (_ ++ [.t (bodyO wFun [.w x.cps.toList, itmO b])]) _ = _
    rw [bodyO_fn, itmO_tree g.2, ← mkS_of x, if_pos (show isName x = true from g.1)]
    rfl
  | .call a b, g, _, _, _ => by
    simp only [tks, List.cons_append, List.append_assoc, List.nil_append]
    rw [runO_open, runO_word ⟨by decide, by decide⟩, runO_tks g.1, runO_tks g.2, runO_close]
    show runO _ (_ ++ [.t (bodyO wCall [itmO a, itmO b])]) _ = _
    rw [bodyO_call, itmO_tree g.1, itmO_tree g.2]; rfl
  | .plus a b, g, _, _, _ => by
    simp only [tks, List.cons_append, List.append_assoc, List.nil_append]
    rw [runO_open, runO_word ⟨by decide, by decide⟩, runO_tks g.1, runO_tks g.2, runO_close]
    show runO _ (_ ++ [.t (bodyO wPlus [itmO a, itmO b])]) _ = _
    rw [bodyO_plus, itmO_tree g.1, itmO_tree g.2]; rfl
  | .less a b, g, _, _, _ => by
    simp only [tks, List.cons_append, List.append_assoc, List.nil_append]
    rw [runO_open, runO_word ⟨by decide, by decide⟩, runO_tks g.1, runO_tks g.2, runO_close]
    show runO _ (_ ++ [.t (bodyO wLess [itmO a, itmO b])]) _ = _
    rw [bodyO_less, itmO_tree g.1, itmO_tree g.2]; rfl
  | .ite c a b, g, _, _, _ => by
    simp only [tks, List.cons_append, List.append_assoc, List.nil_append]
    rw [runO_open, runO_word ⟨by decide, by decide⟩, runO_tks g.1, runO_tks g.2.1, runO_tks g.2.2, runO_close]
    show runO _ (_ ++ [.t (bodyO wIf [itmO c, itmO a, itmO b])]) _ = _
    rw [bodyO_ite, itmO_tree g.1, itmO_tree g.2.1, itmO_tree g.2.2]; rfl
  | .lt x a b, g, _, _, _ => by
    simp only [tks, List.cons_append, List.append_assoc, List.nil_append]
    rw [runO_open, runO_word ⟨by decide, by decide⟩, runO_word (pw_name g.1), runO_tks g.2.1, runO_tks g.2.2, runO_close]
    show runO _ (_ ++ [.t (bodyO wLet [.w x.cps.toList, itmO a, itmO b])]) _ = _
    rw [bodyO_lt, itmO_tree g.2.1, itmO_tree g.2.2, ← mkS_of x, if_pos (show isName x = true from g.1)]; rfl
/-- a tree's line is read -/
theorem readO_line {t : Tr} (g : Good t) (hs : t.size ≤ 400) {l : List Nat} (h : scan [] l = tks t) : readO l = some t := by
  unfold readO
  have := runO_tks g (ar := []) (its := []) (r := [])
  rw [List.append_nil] at this
  rw [h, this]
  show endO (some ([], [itmO t])) = _
  show (match (itmO t).tree with | some t => if t.size ≤ 400 then some t else none | none => none) = _
  rw [itmO_tree g]
  show (if t.size ≤ 400 then some t else none) = _
  rw [if_pos hs]
/-! ### items on the heap -/
def ItR (H : Hp) (i : It2) (v : V) : Prop := match i with
  | .w z => v = .str (mkS z) ∧ z.length ≤ 10000
  | .t r => ∃ (a : Addr) (xs : List V) (n : Nat), v = .ref a ∧ H a = some (.tup xs) ∧ Wks H [v] n r.isNone ∧ ∀ t, r = some t → Good t ∧ At H t v ∧ n = t.size
theorem ItR.same {H H' : Hp} (e : Same H H') : ∀ {i : It2} {v : V}, ItR H i v → ItR H' i v
  | .w z, v, h => h
  | .t r, v, ⟨a, xs, n, h1, h2, h3, h4⟩ => ⟨a, xs, n, h1, e _ _ h2, h3.same e, fun t ht => ⟨(h4 t ht).1, (h4 t ht).2.1.mono (same_kt e), (h4 t ht).2.2⟩⟩
/-- a list becomes another one -/
theorem kd_up {H : Hp} {l : Addr} {xs ys : List V} (hl : H l = some (.lst xs)) {v : V} (h : Kd H v) : Kd (upd H l (.lst ys)) v := by
  obtain ⟨n, h⟩ := h
  cases v with
  | ref p =>
    by_cases e : p = l
    · subst e
      exact ⟨"list", show (match upd H p (.lst ys) p with | some (.lst _) => some "list" | some (.tup _) => some "tuple" | _ => none) = some "list" by rw [upd_same]⟩
    · refine ⟨n, ?_⟩
      have h' : (match H p with | some (.lst _) => some "list" | some (.tup _) => some "tuple" | _ => none) = some n := h
      show (match upd H l (.lst ys) p with | some (.lst _) => some "list" | some (.tup _) => some "tuple" | _ => none) = some n
      rw [upd_ne e]
      exact h'
  | _ => exact ⟨n, h⟩
theorem tup_up {H : Hp} {l a : Addr} {xs ys us : List V} (hl : H l = some (.lst xs)) (h : upd H l (.lst ys) a = some (.tup us)) : H a = some (.tup us) := by
  by_cases e : a = l
  · subst e
    rw [upd_same] at h
    cases h
  · rwa [upd_ne e] at h
theorem up_tup {H : Hp} {l a : Addr} {xs ys us : List V} (hl : H l = some (.lst xs)) (h : H a = some (.tup us)) : upd H l (.lst ys) a = some (.tup us) := by
  rw [upd_ne (by intro e; subst e; rw [hl] at h; cases h)]
  exact h
theorem Bad.up {H : Hp} {l : Addr} {xs ys : List V} (hl : H l = some (.lst xs)) {v : V} (h : Bad H v) : Bad (upd H l (.lst ys)) v where
  kn := ⟨kd_up hl h.kn.1, fun a us e ha => ⟨(h.kn.2 a us e (tup_up hl ha)).1, fun x hx => kd_up hl ((h.kn.2 a us e (tup_up hl ha)).2 x hx)⟩⟩
  st := h.st
  sts := fun a us x e ha => h.sts a us x e (tup_up hl ha)
  no := by
    cases v with
    | ref a =>
      show (match upd H l (.lst ys) a with | some (.tup xs) => nodeC xs | _ => false) = false
      have h0 : (match H a with | some (.tup xs) => nodeC xs | _ => false) = false := h.no
      by_cases e : a = l
      · subst e; rw [upd_same]
      · rw [upd_ne e]; exact h0
    | _ => rfl
theorem Wks.up {H : Hp} {l : Addr} {xs ys : List V} (hl : H l = some (.lst xs)) {vs : List V} {n : Nat} {b : Bool} (h : Wks H vs n b) : Wks (upd H l (.lst ys)) vs n b := by
  induction h with
  | nil => exact .nil
  | nd h ho hn hw hl' h1 h2 ih1 ih2 => exact .nd (up_tup hl h) ho hn hw hl' ih1 ih2
  | odd h h2 ih => exact .odd (h.up hl) ih
theorem ItR.up {H : Hp} {l : Addr} {xs ys : List V} (hl : H l = some (.lst xs)) : ∀ {i : It2} {v : V}, ItR H i v → ItR (upd H l (.lst ys)) i v
  | .w z, v, h => h
  | .t r, v, ⟨a, us, n, h1, h2, h3, h4⟩ => ⟨a, us, n, h1, up_tup hl h2, h3.up hl, fun t ht => ⟨(h4 t ht).1, (h4 t ht).2.1.mono (kt_lst hl), (h4 t ht).2.2⟩⟩
theorem ItR.kd {H : Hp} : ∀ {i : It2} {v : V}, ItR H i v → Kd H v ∧ ∀ x, v = .str x → x.length ≤ 10000
  | .w z, v, ⟨h, hz⟩ => by
    subst h
    exact ⟨⟨"str", rfl⟩, fun x e => by cases e; rw [mkS_len]; exact hz⟩
  | .t r, v, ⟨a, us, n, h1, h2, _⟩ => by
    subst h1
    exact ⟨kd_tup h2, fun x e => by cases e⟩
/-- a tuple of items that is no node -/
theorem bad_tup {H : Hp} {a : Addr} {xs : List V} (ha : H a = some (.tup xs)) (hl : xs.length ≤ 10000) (hk : ∀ x ∈ xs, Kd H x ∧ ∀ z, x = .str z → z.length ≤ 10000) (hn : nodeC xs = false) : ItR H (.t none) (.ref a) := by
  refine ⟨a, xs, _, rfl, ha, .odd (c := false) ⟨⟨kd_tup ha, fun b us e hb => ?_⟩, fun x e => (by cases e), fun b us x e hb hx => ?_, ?_⟩ .nil, fun t ht => by cases ht⟩
  · cases e
    rw [ha] at hb
    cases hb
    exact ⟨hl, fun x hx => (hk x hx).1⟩
  · cases e
    rw [ha] at hb
    cases hb
    exact (hk _ hx).2 x rfl
  · show (match H a with | some (.tup xs) => nodeC xs | _ => false) = false
    rw [ha]
    exact hn
theorem val_lt : ∀ (r : List Nat) (a : Nat), (∀ c ∈ r, 48 ≤ c ∧ c ≤ 57) → r.foldl (fun acc c => acc * 10 + (c - 48)) a < (a + 1) * 10 ^ r.length
  | [], a, _ => by simp
  | c :: r, a, hc => by
    have h1 := hc c List.mem_cons_self
    have h2 := val_lt r (a * 10 + (c - 48)) fun x hx => hc x (List.mem_cons_of_mem _ hx)
    rw [List.foldl_cons, List.length_cons]
    refine Nat.lt_of_lt_of_le h2 ?_
    rw [Nat.pow_succ, Nat.mul_comm (10 ^ r.length) 10, ← Nat.mul_assoc]
    exact Nat.mul_le_mul_right _ (by omega)
theorem val_60 {r : List Nat} (h : (r.all (fun c => 48 ≤ c && c ≤ 57) && decide (r ≠ []) && decide (r.head? ≠ some 48) && decide (r.length ≤ 60)) = true) : NumText.digitsVal r < 10 ^ 60 := by
  simp only [Bool.and_eq_true, decide_eq_true_eq, List.all_eq_true] at h
  have h1 := val_lt r 0 fun c hc => h.1.1.1 c hc
  have h2 : (10 : Nat) ^ r.length ≤ 10 ^ 60 := Nat.pow_le_pow_right (by decide) h.2
  unfold NumText.digitsVal
  omega
theorem num_fits {z : List Nat} {n : Int} (h : numOf z = some n) : -(10 ^ 60) < n ∧ n < 10 ^ 60 := by
  unfold numOf at h
  split at h
  · cases h
    exact ⟨by decide, by decide⟩
  · split at h
    · split at h
      · rename_i r ht
        cases h
        have := val_60 ht
        omega
      · cases h
    · split at h
      · rename_i ht
        cases h
        have := val_60 ht
        omega
      · cases h
end My

namespace My
open PySem L2
/-! ### what a bracket makes -/
theorem wks_parts {H : Hp} : ∀ {rs : List (Option Tr)} {ws : List V}, Paired (ItR H) (rs.map It2.t) ws → ∃ n, Wks H ws n (rs.any Option.isNone) ∧ ∀ ts : List Tr, rs = ts.map some → (∀ t ∈ ts, Good t) ∧ Ats H ts ws ∧ n = sizes ts
  | [], _, .nil => ⟨0, .nil, fun ts e => by
    cases ts with
    | nil => exact ⟨fun t h => (by cases h), .nil, rfl⟩
    | cons _ _ => cases e⟩
  | r :: rs, _, .cons (b := v) h1 h2 => by
    obtain ⟨n, k1, k2⟩ := wks_parts h2
    obtain ⟨a, xs, m, rfl, g1, g2, g3⟩ := (show ∃ (a : Addr) (xs : List V) (n : Nat), v = .ref a ∧ H a = some (.tup xs) ∧ Wks H [v] n r.isNone ∧ ∀ t, r = some t → Good t ∧ At H t v ∧ n = t.size from h1)
    refine ⟨m + n, g2.append k1, fun ts e => ?_⟩
    cases ts with
    | nil => cases e
    | cons t ts =>
      simp only [List.map_cons, List.cons.injEq] at e
      obtain ⟨p1, p2, p3⟩ := g3 t e.1
      obtain ⟨q1, q2, q3⟩ := k2 ts e.2
      refine ⟨fun u hu => ?_, .cons p2 q2, by rw [sizes_cons, p3, q3]⟩
      rcases List.mem_cons.mp hu with rfl | hu
      · exact p1
      · exact q1 u hu
theorem node_nd {H : Hp} {a : Addr} (t : Wd) (own ws : List V) {rs : List (Option Tr)} {r : Option Tr} (ha : H a = some (.tup (.str t.str :: own ++ ws))) (ho : (own.length : Int) + 1 = t.start) (hn : nodeC (.str t.str :: own ++ ws) = true) (hw : ∀ x ∈ own, OwnV x) (hl : ws.length ≤ 3)
    (hp : Paired (ItR H) (rs.map It2.t) ws) (hr : r.isNone = rs.any Option.isNone) (ht : ∀ u, r = some u → ∃ ts : List Tr, rs = ts.map some ∧ ((∀ t ∈ ts, Good t) → Good u) ∧ (Ats H ts ws → At H u (.ref a)) ∧ u.size = 1 + sizes ts) : ItR H (.t r) (.ref a) := by
  obtain ⟨n, k1, k2⟩ := wks_parts hp
  refine ⟨a, _, 1 + n, rfl, ha, ?_, fun u hu => ?_⟩
  · rw [hr]
    exact nodeW t own ws ha ho hn hw hl k1
  · obtain ⟨ts, e1, e2, e3, e4⟩ := ht u hu
    obtain ⟨q1, q2, q3⟩ := k2 ts e1
    exact ⟨e2 q1, e3 q2, by rw [e4, q3]⟩
theorem bin_none (f : Tr → Tr → Tr) (i j : Option Tr) : (binO f i j).isNone = [i, j].any Option.isNone := by cases i <;> cases j <;> rfl
theorem tri_none (f : Tr → Tr → Tr → Tr) (i j k : Option Tr) : (triO f i j k).isNone = [i, j, k].any Option.isNone := by cases i <;> cases j <;> cases k <;> rfl
theorem bin_some {f : Tr → Tr → Tr} {i j : Option Tr} {u : Tr} (h : binO f i j = some u) : ∃ a b, i = some a ∧ j = some b ∧ u = f a b := by
  cases i with
  | none => cases h
  | some a => cases j with
    | none => cases h
    | some b => exact ⟨a, b, rfl, rfl, (Option.some.inj h).symm⟩
theorem tri_some {f : Tr → Tr → Tr → Tr} {i j k : Option Tr} {u : Tr} (h : triO f i j k = some u) : ∃ a b c, i = some a ∧ j = some b ∧ k = some c ∧ u = f a b c := by
  cases i with
  | none => cases h
  | some a => cases j with
    | none => cases h
    | some b => cases k with
      | none => cases h
      | some c => exact ⟨a, b, c, rfl, rfl, rfl, (Option.some.inj h).symm⟩
/-- the place from which on the items are trees -/
def startO : It2 → Nat
  | .w h => if h = wFun ∨ h = wLet then 2 else 1
  | .t _ => 1
theorem ats2 {H : Hp} {a b : Tr} {u v : V} (h : Ats H [a, b] [u, v]) : At H a u ∧ At H b v := by
  cases h with
  | cons h1 h => cases h with
    | cons h2 h => exact ⟨h1, h2⟩
theorem ats3 {H : Hp} {a b c : Tr} {u v x : V} (h : Ats H [a, b, c] [u, v, x]) : At H a u ∧ At H b v ∧ At H c x := by
  cases h with
  | cons h1 h => cases h with
    | cons h2 h => cases h with
      | cons h3 h => exact ⟨h1, h2, h3⟩
theorem find_w {h : List Nat} {t : Wd} (e : Wd.find (mkS h) = some t) : h = t.str.cps.toList := by
  have := Wd.of_find e
  rw [← this]
  rfl
theorem body_no {h : List Nat} (h1 : h ≠ wFun) (h2 : h ≠ wCall) (h3 : h ≠ wPlus) (h4 : h ≠ wLess) (h5 : h ≠ wIf) (h6 : h ≠ wLet) : ∀ rest : List It2, bodyO h rest = none
  | [] => rfl
  | [_] => rfl
  | [i, j] => by
    show body2 h i j = none
    unfold body2
    rw [if_neg h1, if_neg h2, if_neg h3, if_neg h4]
  | [i, j, k] => by
    show body3 h i j k = none
    unfold body3
    rw [if_neg h5, if_neg h6]
  | _ :: _ :: _ :: _ :: _ => rfl
theorem node_len {t : Wd} {r : List V} (h : ¬ (r.length : Int) + 1 = t.len) : nodeC (.str t.str :: r) = false := by
  rw [nodeC_str, Wd.find_str]
  show (decide _ && _) = false
  rw [decide_eq_false h, Bool.false_and]
theorem node_own {t : Wd} {r : List V} (h : t.ownOk r = false) : nodeC (.str t.str :: r) = false := by
  rw [nodeC_str, Wd.find_str]
  show (_ && t.ownOk r) = false
  rw [h, Bool.and_false]
theorem node_yes {t : Wd} {r : List V} (h : (r.length : Int) + 1 = t.len) (h2 : t.ownOk r = true) : nodeC (.str t.str :: r) = true := by
  rw [nodeC_str, Wd.find_str]
  show (decide _ && t.ownOk r) = true
  rw [h2, decide_eq_true h]
  rfl
theorem itR_t {H : Hp} {r : Option Tr} {v : V} (h : ItR H (.t r) v) : ∃ a, v = .ref a := ⟨h.choose, h.choose_spec.choose_spec.choose_spec.1⟩
theorem wd_w (t : Wd) : t.str.cps.toList = (match t with | .num => [110, 117, 109] | .name => [110, 97, 109, 101] | .fn => wFun | .call => wCall | .plus => wPlus | .less => wLess | .ite => wIf | .lt => wLet) := by
  cases t <;> decide +kernel
theorem node_made {H : Hp} {a : Addr} {i0 : It2} {rest : List It2} {v0 : V} {vs us : List V} (h0 : ItR H i0 v0) (hp : Paired (ItR H) rest vs) (hu : Paired (ItR H) (((i0 :: rest).drop (startO i0)).map fun i => It2.t i.tree) us)
    (ha : H a = some (.tup ((v0 :: vs).take (startO i0) ++ us))) (hl : rest.length ≤ 4000) : ItR H (.t (nodeO (i0 :: rest))) (.ref a) := by
  have hvl : vs.length = rest.length := (Paired.length hp).symm
  have hul : us.length ≤ rest.length + 1 := by
    have := Paired.length hu
    rw [List.length_map, List.length_drop] at this
    simp only [List.length_cons] at this
    omega
  have kds : ∀ {is : List It2} {xs : List V}, Paired (ItR H) is xs → ∀ x ∈ xs, Kd H x ∧ ∀ z, x = .str z → z.length ≤ 10000 := by
    intro is xs h
    induction h with
    | nil => intro x hx; cases hx
    | cons r t ih =>
      intro x hx
      rcases List.mem_cons.mp hx with rfl | hx
      · exact r.kd
      · exact ih x hx
  have hkd : ∀ x ∈ (v0 :: vs).take (startO i0) ++ us, Kd H x ∧ ∀ z, x = .str z → z.length ≤ 10000 := by
    intro x hx
    rcases List.mem_append.mp hx with hx | hx
    · exact kds (.cons h0 hp) x (List.mem_of_mem_take hx)
    · exact kds hu x hx
  have hln : ((v0 :: vs).take (startO i0) ++ us).length ≤ 10000 := by
    rw [List.length_append, List.length_take]
    simp only [List.length_cons]
    omega
  have bad : nodeO (i0 :: rest) = none → nodeC ((v0 :: vs).take (startO i0) ++ us) = false → ItR H (.t (nodeO (i0 :: rest))) (.ref a) := fun e1 e2 => by
    rw [e1]
    exact bad_tup ha hln hkd e2
  cases i0 with
  | t r =>
    obtain ⟨b, rfl⟩ := itR_t h0
    exact bad rfl rfl
  | w h =>
    obtain ⟨rfl, hz⟩ := (show v0 = .str (mkS h) ∧ h.length ≤ 10000 from h0)
    cases hf : Wd.find (mkS h) with
    | none =>
      have ne : ∀ t : Wd, h ≠ t.str.cps.toList := fun t e => by
        rw [e, ← mkS_of, Wd.find_str] at hf
        cases hf
      have n1 : h ≠ wFun := by have := ne .fn; rwa [wd_w] at this
      have n2 : h ≠ wCall := by have := ne .call; rwa [wd_w] at this
      have n3 : h ≠ wPlus := by have := ne .plus; rwa [wd_w] at this
      have n4 : h ≠ wLess := by have := ne .less; rwa [wd_w] at this
      have n5 : h ≠ wIf := by have := ne .ite; rwa [wd_w] at this
      have n6 : h ≠ wLet := by have := ne .lt; rwa [wd_w] at this
      refine bad (body_no n1 n2 n3 n4 n5 n6 rest) ?_
      have e : startO (.w h) = 1 := by show (if h = wFun ∨ h = wLet then 2 else 1) = 1; rw [if_neg (by simp [n1, n6])]
      rw [e]
      show nodeC (.str (mkS h) :: us) = false
      rw [nodeC_str, hf]
    | some t =>
      have hm : mkS h = t.str := Wd.of_find hf
      have hh : h = t.str.cps.toList := find_w hf
      rw [wd_w] at hh
      rw [hm] at ha hkd hln bad
      have two : ∀ {is : List It2} {xs : List V}, Paired (ItR H) (is.map fun i => It2.t i.tree) xs → ∀ x ∈ xs, ∃ b, x = V.ref b := by
        intro is
        induction is with
        | nil => intro xs h x hx; cases h; cases hx
        | cons i is ih =>
          intro xs h x hx
          cases h with
          | cons r t =>
            rcases List.mem_cons.mp hx with rfl | hx
            · exact itR_t r
            · exact ih t x hx
      cases t with
      | num =>
        subst hh
        refine bad (body_no (by decide) (by decide) (by decide) (by decide) (by decide) (by decide) rest) ?_
        show nodeC (.str Wd.num.str :: us) = false
        cases us with
        | nil => exact node_len (by decide)
        | cons x q =>
          obtain ⟨b, rfl⟩ := two hu x List.mem_cons_self
          exact node_own rfl
      | name =>
        subst hh
        refine bad (body_no (by decide) (by decide) (by decide) (by decide) (by decide) (by decide) rest) ?_
        show nodeC (.str Wd.name.str :: us) = false
        cases us with
        | nil => exact node_len (by decide)
        | cons x q =>
          obtain ⟨b, rfl⟩ := two hu x List.mem_cons_self
          exact node_own rfl
      | fn =>
        subst hh
        match rest, vs, hp, hu, ha, bad with
        | [], _, .nil, .nil, ha, bad => exact bad rfl (node_len (by decide))
        | [i], _, .cons h1 .nil, .nil, ha, bad => exact bad rfl (node_len (by show ¬ ((1 : Nat) : Int) + 1 = 3; decide))
        | i :: j :: k :: q, _, .cons h1 (.cons h2 (.cons h3 h4)), hu, ha, bad =>
          refine bad (by cases q <;> rfl) (node_len ?_)
          have := Paired.length hu
          simp [startO] at this
          show ¬ (((_ :: us).length : Int)) + 1 = 3
          simp only [List.length_cons]
          omega
        | [i, j], _, .cons (b := v1) h1 (.cons (b := v2) h2 .nil), .cons (b := u) g1 .nil, ha, bad =>
          cases i with
          | t r =>
            obtain ⟨b, rfl⟩ := itR_t h1
            exact bad rfl (node_own rfl)
          | w x =>
            obtain ⟨rfl, hx⟩ := (show v1 = .str (mkS x) ∧ x.length ≤ 10000 from h1)
            by_cases hn : isName (mkS x) = true
            · have e : nodeO [.w wFun, .w x, j] = j.tree.map (Tr.fn (mkS x)) := by
                show bodyO wFun [.w x, j] = _
                rw [bodyO_fn, if_pos hn]
              rw [e]
              refine node_nd .fn [.str (mkS x)] [u] (rs := [j.tree]) ha rfl (node_yes rfl hn) (name_own hn) (by simp) (.cons g1 .nil) (by cases j.tree <;> rfl) fun w hw => ?_
              cases hj : j.tree with
              | none => rw [hj] at hw; cases hw
              | some b =>
                rw [hj] at hw
                cases hw
                refine ⟨[b], rfl, fun g => ⟨hn, g b List.mem_cons_self⟩, fun g => ?_, by simp only [Tr.size, sizes_cons, sizes_nil]; omega⟩
                cases g with
                | cons g1 g => exact ⟨a, u, rfl, ha, g1⟩
            · have hn' : isName (mkS x) = false := by simpa using hn
              refine bad ?_ (node_own hn')
              show bodyO wFun [.w x, j] = none
              rw [bodyO_fn, if_neg hn]
      | lt =>
        subst hh
        match rest, vs, hp, hu, ha, bad with
        | [], _, .nil, .nil, ha, bad => exact bad rfl (node_len (by decide))
        | [i], _, .cons h1 .nil, .nil, ha, bad => exact bad rfl (node_len (by show ¬ ((1 : Nat) : Int) + 1 = 4; decide))
        | [i, j], _, .cons h1 (.cons h2 .nil), .cons g1 .nil, ha, bad =>
          refine bad ?_ (node_len (by simp only [Wd.len, List.length_cons]; simp))
          show body2 wLet i j = none
          unfold body2
          rw [if_neg (by decide), if_neg (by decide), if_neg (by decide), if_neg (by decide)]
        | i :: j :: k :: l :: q, _, .cons h1 (.cons h2 (.cons h3 (.cons h4 h5))), hu, ha, bad =>
          refine bad rfl (node_len ?_)
          have := Paired.length hu
          simp [startO] at this
          show ¬ (((_ :: us).length : Int)) + 1 = 4
          simp only [List.length_cons]
          omega
        | [i, j, k], _, .cons (b := v1) h1 (.cons (b := v2) h2 (.cons h3 .nil)), .cons (b := u) g1 (.cons (b := u') g2 .nil), ha, bad =>
          cases i with
          | t r =>
            obtain ⟨b, rfl⟩ := itR_t h1
            refine bad ?_ (node_own rfl)
            show body3 wLet (.t r) j k = none
            unfold body3
            rw [if_neg (by decide), if_pos rfl]
          | w x =>
            obtain ⟨rfl, hx⟩ := (show v1 = .str (mkS x) ∧ x.length ≤ 10000 from h1)
            by_cases hn : isName (mkS x) = true
            · have e : nodeO [.w wLet, .w x, j, k] = binO (.lt (mkS x)) j.tree k.tree := by
                show bodyO wLet [.w x, j, k] = _
                rw [bodyO_lt, if_pos hn]
              rw [e]
              refine node_nd .lt [.str (mkS x)] [u, u'] (rs := [j.tree, k.tree]) ha rfl (node_yes rfl hn) (name_own hn) (by simp) (.cons g1 (.cons g2 .nil)) (bin_none _ _ _) fun w hw => ?_
              obtain ⟨b, c, e1, e2, rfl⟩ := bin_some hw
              rw [e1, e2]
              refine ⟨[b, c], rfl, fun g => ⟨hn, g b (by simp), g c (by simp)⟩, fun g => ?_, by simp only [Tr.size, sizes_cons, sizes_nil]; omega⟩
              obtain ⟨g1, g2⟩ := ats2 g
              exact ⟨a, u, u', rfl, ha, g1, g2⟩
            · have hn' : isName (mkS x) = false := by simpa using hn
              refine bad ?_ (node_own hn')
              show bodyO wLet [.w x, j, k] = none
              rw [bodyO_lt, if_neg hn]
      | ite =>
        subst hh
        match rest, vs, hp, hu, ha, bad with
        | [], _, .nil, .nil, ha, bad => exact bad rfl (node_len (by decide))
        | [i], _, .cons h1 .nil, .cons g1 .nil, ha, bad => exact bad rfl (node_len (by simp only [Wd.len, List.length_cons]; simp))
        | [i, j], _, .cons h1 (.cons h2 .nil), .cons g1 (.cons g2 .nil), ha, bad =>
          refine bad ?_ (node_len (by simp only [Wd.len, List.length_cons]; simp))
          show body2 wIf i j = none
          unfold body2
          rw [if_neg (by decide), if_neg (by decide), if_neg (by decide), if_neg (by decide)]
        | i :: j :: k :: l :: q, _, .cons h1 (.cons h2 (.cons h3 (.cons h4 h5))), hu, ha, bad =>
          refine bad rfl (node_len ?_)
          have := Paired.length hu
          simp only [startO, List.drop, List.length_map, List.length_cons] at this
          show ¬ ((us.length : Int)) + 1 = 4
          rw [if_neg (by decide)] at this
          simp at this
          omega
        | [i, j, k], _, .cons h1 (.cons h2 (.cons h3 .nil)), .cons (b := u) g1 (.cons (b := u') g2 (.cons (b := u'') g3 .nil)), ha, bad =>
          have e : nodeO [.w wIf, i, j, k] = triO .ite i.tree j.tree k.tree := bodyO_ite i j k
          rw [e]
          refine node_nd .ite [] [u, u', u''] (rs := [i.tree, j.tree, k.tree]) ha rfl (node_yes rfl rfl) (fun v hv => by cases hv) (by simp) (.cons g1 (.cons g2 (.cons g3 .nil))) (tri_none _ _ _ _) fun w hw => ?_
          obtain ⟨b, c, d, e1, e2, e3, rfl⟩ := tri_some hw
          rw [e1, e2, e3]
          refine ⟨[b, c, d], rfl, fun g => ⟨g b (by simp), g c (by simp), g d (by simp)⟩, fun g => ?_, by simp only [Tr.size, sizes_cons, sizes_nil]; omega⟩
          obtain ⟨g1, g2, g3⟩ := ats3 g
          exact ⟨a, u, u', u'', rfl, ha, g1, g2, g3⟩
      | call =>
        subst hh
        match rest, vs, hp, hu, ha, bad with
        | [], _, .nil, .nil, ha, bad => exact bad rfl (node_len (by decide))
        | [i], _, .cons h1 .nil, .cons g1 .nil, ha, bad => exact bad rfl (node_len (by simp only [Wd.len, List.length_cons]; simp))
        | i :: j :: k :: q, _, .cons h1 (.cons h2 (.cons h3 h4)), hu, ha, bad =>
          refine bad ?_ (node_len ?_)
          · show bodyO wCall (i :: j :: k :: q) = none
            cases q with
            | nil =>
              show body3 wCall i j k = none
              unfold body3
              rw [if_neg (by decide), if_neg (by decide)]
            | cons _ _ => rfl
          · have := Paired.length hu
            simp only [startO, List.drop, List.length_map, List.length_cons] at this
            show ¬ ((us.length : Int)) + 1 = 3
            rw [if_neg (by decide)] at this
            simp at this
            omega
        | [i, j], _, .cons h1 (.cons h2 .nil), .cons (b := u) g1 (.cons (b := u') g2 .nil), ha, bad =>
          have e : nodeO [.w wCall, i, j] = binO .call i.tree j.tree := bodyO_call i j
          rw [e]
          refine node_nd .call [] [u, u'] (rs := [i.tree, j.tree]) ha rfl (node_yes rfl rfl) (fun v hv => by cases hv) (by simp) (.cons g1 (.cons g2 .nil)) (bin_none _ _ _) fun w hw => ?_
          obtain ⟨b, c, e1, e2, rfl⟩ := bin_some hw
          rw [e1, e2]
          refine ⟨[b, c], rfl, fun g => ⟨g b (by simp), g c (by simp)⟩, fun g => ?_, by simp only [Tr.size, sizes_cons, sizes_nil]; omega⟩
          obtain ⟨g1, g2⟩ := ats2 g
          exact ⟨a, u, u', rfl, ha, g1, g2⟩
      | plus =>
        subst hh
        match rest, vs, hp, hu, ha, bad with
        | [], _, .nil, .nil, ha, bad => exact bad rfl (node_len (by decide))
        | [i], _, .cons h1 .nil, .cons g1 .nil, ha, bad => exact bad rfl (node_len (by simp only [Wd.len, List.length_cons]; simp))
        | i :: j :: k :: q, _, .cons h1 (.cons h2 (.cons h3 h4)), hu, ha, bad =>
          refine bad ?_ (node_len ?_)
          · show bodyO wPlus (i :: j :: k :: q) = none
            cases q with
            | nil =>
              show body3 wPlus i j k = none
              unfold body3
              rw [if_neg (by decide), if_neg (by decide)]
            | cons _ _ => rfl
          · have := Paired.length hu
            simp only [startO, List.drop, List.length_map, List.length_cons] at this
            show ¬ ((us.length : Int)) + 1 = 3
            rw [if_neg (by decide)] at this
            simp at this
            omega
        | [i, j], _, .cons h1 (.cons h2 .nil), .cons (b := u) g1 (.cons (b := u') g2 .nil), ha, bad =>
          have e : nodeO [.w wPlus, i, j] = binO .plus i.tree j.tree := bodyO_plus i j
          rw [e]
          refine node_nd .plus [] [u, u'] (rs := [i.tree, j.tree]) ha rfl (node_yes rfl rfl) (fun v hv => by cases hv) (by simp) (.cons g1 (.cons g2 .nil)) (bin_none _ _ _) fun w hw => ?_
          obtain ⟨b, c, e1, e2, rfl⟩ := bin_some hw
          rw [e1, e2]
          refine ⟨[b, c], rfl, fun g => ⟨g b (by simp), g c (by simp)⟩, fun g => ?_, by simp only [Tr.size, sizes_cons, sizes_nil]; omega⟩
          obtain ⟨g1, g2⟩ := ats2 g
          exact ⟨a, u, u', rfl, ha, g1, g2⟩
      | less =>
        subst hh
        match rest, vs, hp, hu, ha, bad with
        | [], _, .nil, .nil, ha, bad => exact bad rfl (node_len (by decide))
        | [i], _, .cons h1 .nil, .cons g1 .nil, ha, bad => exact bad rfl (node_len (by simp only [Wd.len, List.length_cons]; simp))
        | i :: j :: k :: q, _, .cons h1 (.cons h2 (.cons h3 h4)), hu, ha, bad =>
          refine bad ?_ (node_len ?_)
          · show bodyO wLess (i :: j :: k :: q) = none
            cases q with
            | nil =>
              show body3 wLess i j k = none
              unfold body3
              rw [if_neg (by decide), if_neg (by decide)]
            | cons _ _ => rfl
          · have := Paired.length hu
            simp only [startO, List.drop, List.length_map, List.length_cons] at this
            show ¬ ((us.length : Int)) + 1 = 3
            rw [if_neg (by decide)] at this
            simp at this
            omega
        | [i, j], _, .cons h1 (.cons h2 .nil), .cons (b := u) g1 (.cons (b := u') g2 .nil), ha, bad =>
          have e : nodeO [.w wLess, i, j] = binO .less i.tree j.tree := bodyO_less i j
          rw [e]
          refine node_nd .less [] [u, u'] (rs := [i.tree, j.tree]) ha rfl (node_yes rfl rfl) (fun v hv => by cases hv) (by simp) (.cons g1 (.cons g2 .nil)) (bin_none _ _ _) fun w hw => ?_
          obtain ⟨b, c, e1, e2, rfl⟩ := bin_some hw
          rw [e1, e2]
          refine ⟨[b, c], rfl, fun g => ⟨g b (by simp), g c (by simp)⟩, fun g => ?_, by simp only [Tr.size, sizes_cons, sizes_nil]; omega⟩
          obtain ⟨g1, g2⟩ := ats2 g
          exact ⟨a, u, u', rfl, ha, g1, g2⟩
end My

namespace My
open PySem L2
/-! ### a text or a tuple compared with a text -/
def rEqT (K : PySem.W.Frag) : R2 := fun x y H Q => (scal x y = true ∧ Q (.bl (decide (x = y))) H) ∨ ∃ (a : Addr) (xs : List V) (z : Str), x = .ref a ∧ y = .str z ∧ SqT K H a xs ∧ Q (.bl false) H
theorem op_eqT {X : Cx} (hu : X.A.units < cLine) : OpR X (compareOp .Eq) (rEqT X.K) := by
  intro pins s σ H x y v u Q I rx ry h
  rcases h with h | ⟨a, xs, z, rfl, rfl, ha, q⟩
  · exact op_eq pins s σ H x y v u Q I rx ry h
  · cases rx
    obtain ⟨t, rfl⟩ := ry
    obtain ⟨its, r1, p1, _⟩ := I.tuple ha
    exact SeqAt.RcAt.tuple_str z t (show s.heap.IsTuple a its.toArray from p1) hu X.prog X.w X.xe _ ⟨.bl false, H, I, rfl, q⟩
/-! ### promises of reading -/
def spIsN : Sp := fun vs H Q _ => ∃ (z : List Nat), vs = [.str (mkS z)] ∧ z.length ≤ 10000 ∧ ∀ H', Same H H' → Q (.bl (numOf z).isSome) H'
def spPart : Sp := fun vs H Q _ => ∃ (i : It2) (v : V), vs = [v] ∧ ItR H i v ∧ ∀ (r : V) (H' : Hp), Same H H' → ItR H' (.t i.tree) r → Q r H'
def spNode (K : PySem.W.Frag) : Sp := fun vs H Q _ => ∃ (l : Addr) (its : List It2) (us : List V), vs = [.ref l] ∧ H l = some (.lst us) ∧ Paired (ItR H) its us ∧ its.length ≤ 4000 ∧ ∀ (r : V) (H' : Hp), Same H H' → ItR H' (.t (nodeO its)) r → Q r H'
def spRead (cX : Addr) : Sp := fun vs H Q E => ∃ v, vs = [v] ∧ ((∃ l : List Nat, v = .str (mkS l) ∧ l.length ≤ 1000000 ∧ (scan [] l).length ≤ 3999 ∧ (∀ z ∈ scan [] l, z.length ≤ 10000) ∧ ∀ H', Same H H' → (∀ t r, readO l = some t → Good t → At H' t r → Q r H') ∧ (readO l = none → E (.ref cX) none H')) ∨ (Kd H v ∧ (∀ z, v ≠ .str z) ∧ E (.ref cX) none H))
theorem num_text {z : List Nat} {n : Int} (h : numOf z = some n) : PySem.intText? (mkS z) = some n ∧ (mkS z).length ≤ 640 := by
  rw [mkS_len]
  unfold numOf at h
  split at h
  · rename_i e
    subst e
    cases h
    exact ⟨by decide +kernel, by decide⟩
  · split at h
    · split at h
      · rename_i ht
        cases h
        simp only [Bool.and_eq_true, decide_eq_true_eq, List.all_eq_true] at ht
        refine ⟨intText_neg (x := mkS _) (cs := _) rfl ht.1.1.1 ht.1.1.2 (by rw [mkS_len]; simp only [List.length_cons]; omega), by simp only [List.length_cons]; omega⟩
      · cases h
    · split at h
      · rename_i ht
        cases h
        simp only [Bool.and_eq_true, decide_eq_true_eq, List.all_eq_true] at ht
        exact ⟨intText_digits (x := mkS z) ht.1.1.1 ht.1.1.2 (by rw [mkS_len]; omega), by omega⟩
      · cases h
theorem itR_num {H : Hp} {z : List Nat} {n : Int} {p : Addr} (hn : numOf z = some n) (h : H p = some (.tup [.str "num", .int n])) : ItR H (.t (It2.w z).tree) (.ref p) := by
  have ht : (It2.w z).tree = some (.num n) := by
    show (match numOf z with | some n => some (Tr.num n) | none => _) = _
    rw [hn]
  have g : Good (.num n) := num_fits hn
  have ha : At H (.num n) (.ref p) := ⟨p, rfl, h⟩
  rw [ht]
  exact ⟨p, _, 1, rfl, h, wks_of ha g, fun t e => by cases e; exact ⟨g, ha, rfl⟩⟩
theorem itR_name {H : Hp} {z : List Nat} {p : Addr} (hn : numOf z = none) (hz : z.length ≤ 10000) (h : H p = some (.tup [.str "name", .str (mkS z)])) : ItR H (.t (It2.w z).tree) (.ref p) := by
  have ht : (It2.w z).tree = if isName (mkS z) = true then some (.name (mkS z)) else none := by
    show (match numOf z with | some n => some (Tr.num n) | none => _) = _
    rw [hn]
  rw [ht]
  by_cases g : isName (mkS z) = true
  · rw [if_pos g]
    have ha : At H (.name (mkS z)) (.ref p) := ⟨p, rfl, h⟩
    exact ⟨p, _, 1, rfl, h, wks_of ha g, fun t e => by cases e; exact ⟨g, ha, rfl⟩⟩
  · rw [if_neg g]
    have hn' : isName (mkS z) = false := by simpa using g
    refine bad_tup h (by simp) (fun x hx => ?_) (node_own (t := .name) hn')
    rcases List.mem_cons.mp hx with rfl | hx
    · exact ⟨⟨"str", rfl⟩, fun z e => by cases e; decide +kernel⟩
    · rw [List.mem_singleton.mp hx]
      exact ⟨⟨"str", rfl⟩, fun z e => by cases e; rw [mkS_len]; exact hz⟩
end My

namespace My
open PySem PySem.Spec PyProof.Rows L2
open PyProof.Rows (envOfC)
/-! ### a def whose exceptions come with no context -/
structure DfN (P : Program) (w : World) (K : PySem.W.Frag) (mg : Str → Option Value) (base : Heap) (k : Nat) (x : Str) (ps : List Str) (sp : Sp) : Prop where
  ex : ∃ (f : Addr) (fd : FuncData), FnOk P w K mg base (L2N.CX P w) k f fd ps sp ∧ mg x = some (.ref f) ∧ PySem.W.keepIn K (.ref f) = true ∧ Binds K fd ps []
section
variable {P : Program} {w : World} {K : PySem.W.Frag} {mg : Str → Option Value} {base : Heap}
theorem FunAt.dfN {x : Str} {st : Stmt} {N ps : List Str} {k : Nat} {sp : Sp} (F : FunAt K mg x st) (S : FnScope N ps (defScope st)) (hb : BindAll x st ps) (len : ∀ vs H Q E, sp vs H Q E → vs.length = ps.length)
    (hbody : ∀ (f : Addr) (cdv : Value) (A : Around) (outer : List PySem.Env) (s : Shared) (H : Hp) (vs : List V) (Q : VK) (E : XK), Room k (A.deeper (envOfC x (defScope st) s.heap.objs.size f cdv)) → sp vs H Q E →
      ∃ t, PSs (cxOf (L2N.CX P w) P w K mg base N x (defScope st) f cdv A outer s H E) (defBody st) t ∧ t { nx := fun _ H' => Q .non H', rt := Q } (L2.start N vs) H) : DfN P w K mg base (k + 1) x ps sp := by
  obtain ⟨f, fd, h, m⟩ := F
  obtain ⟨oc, od, kV, doc, pm, an, cdv, ct, osl, rfl, lk, hcd⟩ := h.ex
  exact ⟨f, _, fn_of lk hcd S len fun A outer s H vs Q E hr hsp => hbody f cdv A outer s H vs Q E hr hsp, m, h.kp, h.binds hb⟩
end
section
variable {X : Cx} {j k : Nat} {x : Str} {ps : List Str} {sp : Sp} {p pos : Pos} {e : Expr} {es : List Expr} {t : TA} {E : L2.St → XK}
theorem pe_callNS (D : DfN X.prog X.w X.K X.mg X.base j x ps sp) (hr : Room k X.A) (hj : j ≤ k) (hg : Gl X x) (hx : ∀ σ, PassesAt (L2N.CX X.prog X.w) X σ (E σ)) (ha : PA X (e :: es) t) (hdb : (x == ("__debug__" : Str)) = false := by decide)
    (he : starEach (e :: es) X.env = (false, eval e X.env) :: starEach es X.env := by rfl) (hpl : (backTo pos (starEach es X.env)).any (·.1) = false := by rfl) :
    PE X (.Call (.Name x p) (e :: es) [] pos) (tCallS sp E t) := by
  obtain ⟨f, fd, F, m, kp, b⟩ := D.ex
  exact pe_callS F (hr.mono hj) hg m kp b hx ha hdb he hpl
end
section
variable {X : Cx} {C : Addr} {bmB : List Value} {B newId initId : String}
/-- X('m'), its record of six fields -/
theorem pmk5_own {x m : Str} {j : Nat} {p p2 pos : Pos} (F : ExcBaseFacts B newId initId bmB) (q : PySem.W.excIn X.K C bmB newId = true) (gC : X.mg x = some (.ref C)) (kC : PySem.W.keepIn X.K (.ref C) = true) (r : Raises X (.ref C)) (hg : Gl X x)
    (hdb : (x == ("__debug__" : Str)) = false := by decide) : L2H.PMk5 X (.Call (.Name x p) [.Constant (.str m) j p2] [] pos) (fun _ H Q => Q (.ref C) none H) := by
  intro pins s σ H Q I h
  refine wpAny_Call_Name_kw (ld_glob I hg gC ?_ hdb)
  have ha : PA X [.Constant (.str m) j p2] (tCons (tC (.str m)) tNil) := pa_cons pe_str pa_nil
  refine PySem.W.callWith_K (h₀ := X.base) I.ok.mod.kin kC (thn (ha.run pos pins s σ H (fun vs H1 => vs = [V.str m] ∧ H = H1) I ⟨rfl, rfl⟩) fun us s1 hh => ?_)
  obtain ⟨vs, H1, I1, r1, ev, eH⟩ := hh
  subst ev
  rw [← eH] at I1
  refine ⟨I1.kIn, ?_⟩
  cases r1 with
  | cons ru rn =>
    rename_i u us'
    cases rn
    show wpAny _ _ (call (.ref C) [u]) _ _ _
    obtain ⟨bm, N, nm, qn, bs, hdct, sn, sub, ab, col, dd, k0, k1, k2, k3, k5, mN, hC, hN, hni, T⟩ := exc_obj I1.kIn q
    refine wpAny_call_exc_subT F T hC hN hni (fun h' e hm => ?_) (by show 1 ≤ sizeLine; rw [sizeLine_eq]; omega)
    exact L2H.mk_of5 I1 hm r h (I1.hok.gone hm.new)
end
/-- what notes.py's top has written -/
structure NTxt (K : PySem.W.Frag) (w : World) (mg : Str → Option Value) (aL aS cT cX : Addr) : Prop extends PTxt K w mg aL aS cT where
  FIGURES : GStr mg "FIGURES" "0123456789"
  MOST_FIGURES : GInt mg "MOST_FIGURES" 60
  NoText : ErrC K mg "NoText" cX
  divmod : mg "divmod" = none
theorem in_fig (c : Nat) : decide (c ∈ (Str.ofString "0123456789").cps.toList) = (decide (48 ≤ c) && decide (c ≤ 57)) := by
  rw [show (Str.ofString "0123456789") = mkS [48, 49, 50, 51, 52, 53, 54, 55, 56, 57] by decide +kernel, mkS_cps, Bool.eq_iff_iff]
  simp only [decide_eq_true_eq, Bool.and_eq_true, List.mem_cons, List.not_mem_nil, or_false]
  omega
theorem pr_get {α β : Type} {R : α → β → Prop} : ∀ {ts : List α} {vs : List β}, Paired R ts vs → ∀ {i : Nat} {v : β}, vs[i]? = some v → ∃ t, ts[i]? = some t ∧ R t v
  | _, _, .nil, i, v, h => by simp at h
  | _, _, .cons r t, 0, v, h => ⟨_, rfl, by cases h; exact r⟩
  | _, _, .cons r t, i + 1, v, h => pr_get t (by simpa using h)
section
variable {K : PySem.W.Frag} {a : Addr} {xs : List V} {j : Nat} {tt : TT} {te : TE} {vs : List Nat} {σ : L2.St} {H1 : Hp} {Q : VK}
/-- as lcL, for what outlives new objects and a list's change -/
theorem lcLU (P : Nat → List V → Hp → Prop) (ms : ∀ i acc H H', Same H H' → P i acc H → P i acc H') (mu : ∀ i acc H D us ws, H D = some (.lst us) → P i acc H → P i acc (upd H D (.lst ws))) (hx : SqL K H1 a xs) (hl : xs.length ≤ 100000) (hw : ∀ x, wipe ((wipe σ vs).set j (some x)) vs = wipe σ vs) (h0 : P 0 [] H1)
    (hs : ∀ i x acc H, xs[i]? = some x → acc.length ≤ i → Same H1 H → P i acc H → LcTurn tt te ((wipe σ vs).set j (some x)) P i acc H)
    (hq : ∀ D ys H', H1 D = none → Same H1 H' → H' D = some (.lst ys) → P xs.length ys H' → Q (.ref D) H') : LcGo (Itl K a) (gName j) tt te vs σ H1 Q := fun D hD =>
  lc_list (xs := xs) (LcInv H1 D P) ⟨[], upd_same, Nat.zero_le _, same_new hD, ms _ _ _ _ (same_new hD) h0⟩ (fun i H _ ⟨_, _, _, e, _⟩ => e.seq hx)
    (fun i x H hi p => ⟨hw x, by
      have hi' : i ≤ 100000 := by have := (List.getElem?_eq_some_iff.mp hi).1; omega
      obtain ⟨acc, h1, h2, h3, h4⟩ := p
      exact hs i x acc H hi h2 h3 h4 _ (fun y H4 e p => ⟨acc, e _ _ h1, szLt (by omega), acc ++ [y], upd_same, by simp; omega, same_mut (h3.trans e) hD, mu _ _ _ _ _ _ (e _ _ h1) p⟩) _
        (fun H3 e p => ⟨acc, e _ _ h1, by omega, h3.trans e, p⟩)⟩)
    (fun H ⟨acc, h1, h2, h3, h4⟩ => hq D acc H hD h3 h1 h4)
end
end My

namespace My
open PySem L2
/-! ### read's lists -/
structure RdI (H0 : Hp) (wl ar cur : Addr) (words : List V) (stk : List (Addr × List It2)) (its : List It2) (H : Hp) : Prop where
  same : Same H0 H
  hw : H wl = some (.lst words)
  ha : H ar = some (.lst ((stk.map fun q => V.ref q.1).reverse))
  hc : ∃ us, H cur = some (.lst us) ∧ Paired (ItR H) its us
  hs : ∀ q ∈ stk, ∃ us, H q.1 = some (.lst us) ∧ Paired (ItR H) q.2 us
  nd : (wl :: ar :: cur :: stk.map (·.1)).Nodup
  fr : H0 ar = none ∧ H0 cur = none ∧ ∀ q ∈ stk, H0 q.1 = none
section
variable {H0 H H' : Hp} {wl ar cur : Addr} {words : List V} {stk : List (Addr × List It2)} {its : List It2}
theorem RdI.ext (r : RdI H0 wl ar cur words stk its H) (e : Same H H') : RdI H0 wl ar cur words stk its H' :=
  ⟨r.same.trans e, e _ _ r.hw, e _ _ r.ha, by obtain ⟨us, h1, h2⟩ := r.hc; exact ⟨us, e _ _ h1, pr_mono h2 fun _ _ z => z.same e⟩,
    fun q hq => by obtain ⟨us, h1, h2⟩ := r.hs q hq; exact ⟨us, e _ _ h1, pr_mono h2 fun _ _ z => z.same e⟩, r.nd, r.fr⟩
theorem RdI.ne (r : RdI H0 wl ar cur words stk its H) : wl ≠ ar ∧ wl ≠ cur ∧ ar ≠ cur ∧ ∀ q ∈ stk, wl ≠ q.1 ∧ ar ≠ q.1 ∧ cur ≠ q.1 := by
  have n := r.nd
  simp only [List.nodup_cons, List.mem_cons, not_or, List.mem_map, not_exists, not_and] at n
  obtain ⟨⟨n1, n2, n3⟩, ⟨n4, n5⟩, n6, _⟩ := n
  exact ⟨n1, n2, n4, fun q hq => ⟨fun e => n3 q hq e.symm, fun e => n5 q hq e.symm, fun e => n6 q hq e.symm⟩⟩
/-- one more item -/
theorem RdI.word (r : RdI H0 wl ar cur words stk its H) {us : List V} (hu : H cur = some (.lst us)) {i : It2} {v : V} (hi : ItR H i v) : RdI H0 wl ar cur words stk (its ++ [i]) (upd H cur (.lst (us ++ [v]))) := by
  obtain ⟨n1, n2, n3, n4⟩ := r.ne
  obtain ⟨us', h1, h2⟩ := r.hc
  rw [hu] at h1
  cases h1
  refine ⟨same_mut r.same r.fr.2.1, by rw [upd_ne n2]; exact r.hw, by rw [upd_ne n3]; exact r.ha, ⟨_, upd_same, pr_append (pr_mono h2 fun _ _ z => z.up hu) (.cons (hi.up hu) .nil)⟩, fun q hq => ?_, r.nd, r.fr⟩
  obtain ⟨ws, g1, g2⟩ := r.hs q hq
  exact ⟨ws, by rw [upd_ne (n4 q hq).2.2.symm]; exact g1, pr_mono g2 fun _ _ z => z.up hu⟩
/-- a bracket opens -/
theorem RdI.push (r : RdI H0 wl ar cur words stk its H) {p : Addr} (hp : upd H ar (.lst ((stk.map fun q => V.ref q.1).reverse ++ [.ref cur])) p = none) :
    RdI H0 wl ar p words ((cur, its) :: stk) [] (upd (upd H ar (.lst ((stk.map fun q => V.ref q.1).reverse ++ [.ref cur]))) p (.lst [])) := by
  obtain ⟨n1, n2, n3, n4⟩ := r.ne
  have e1 : Same H0 (upd H ar (.lst ((stk.map fun q => V.ref q.1).reverse ++ [.ref cur]))) := same_mut r.same r.fr.1
  have key : RdI H0 wl ar cur words stk its (upd (upd H ar (.lst ((stk.map fun q => V.ref q.1).reverse ++ [.ref cur]))) p (.lst [])) → True := fun _ => trivial
  have hu := r.ha
  have s2 : Same (upd H ar (.lst ((stk.map fun q => V.ref q.1).reverse ++ [.ref cur]))) (upd (upd H ar (.lst ((stk.map fun q => V.ref q.1).reverse ++ [.ref cur]))) p (.lst [])) := same_new hp
  have ha' : upd H ar (.lst ((stk.map fun q => V.ref q.1).reverse ++ [.ref cur])) ar = some (.lst ((stk.map fun q => V.ref q.1).reverse ++ [.ref cur])) := upd_same
  have hw' : upd H ar (.lst ((stk.map fun q => V.ref q.1).reverse ++ [.ref cur])) wl = some (.lst words) := by rw [upd_ne n1]; exact r.hw
  obtain ⟨us, h1, h2⟩ := r.hc
  have hc' : upd H ar (.lst ((stk.map fun q => V.ref q.1).reverse ++ [.ref cur])) cur = some (.lst us) := by rw [upd_ne n3.symm]; exact h1
  have hs' : ∀ q ∈ stk, ∃ us, upd H ar (.lst ((stk.map fun q => V.ref q.1).reverse ++ [.ref cur])) q.1 = some (.lst us) ∧ Paired (ItR (upd H ar (.lst ((stk.map fun q => V.ref q.1).reverse ++ [.ref cur])))) q.2 us := fun q hq => by
    obtain ⟨ws, g1, g2⟩ := r.hs q hq
    exact ⟨ws, by rw [upd_ne (n4 q hq).2.1.symm]; exact g1, pr_mono g2 fun _ _ z => z.up hu⟩
  have nw : p ≠ wl := fun e => by rw [e, hw'] at hp; cases hp
  have na : p ≠ ar := fun e => by rw [e, ha'] at hp; cases hp
  have nc : p ≠ cur := fun e => by rw [e, hc'] at hp; cases hp
  have ns : ∀ q ∈ stk, p ≠ q.1 := fun q hq e => by
    obtain ⟨us, g, _⟩ := hs' q hq
    rw [e, g] at hp
    cases hp
  refine ⟨e1.trans s2, s2 _ _ hw', ?_, ⟨[], upd_same, .nil⟩, fun q hq => ?_, ?_, r.fr.1, ?_, fun q hq => ?_⟩
  · rw [s2 _ _ ha']
    simp
  · rcases List.mem_cons.mp hq with rfl | hq
    · exact ⟨us, s2 _ _ hc', pr_mono h2 fun _ _ z => (z.up hu).same s2⟩
    · obtain ⟨ws, g1, g2⟩ := hs' q hq
      exact ⟨ws, s2 _ _ g1, pr_mono g2 fun _ _ z => z.same s2⟩
  · have n := r.nd
    simp only [List.map_cons, List.nodup_cons, List.mem_cons, not_or, List.mem_map, not_exists, not_and] at n ⊢
    obtain ⟨⟨k1, k2, k3⟩, ⟨k4, k5⟩, k6, k7⟩ := n
    exact ⟨⟨k1, nw.symm, k2, k3⟩, ⟨na.symm, k4, k5⟩, ⟨nc, fun q hq e => ns q hq e.symm⟩, k6, k7⟩
  · exact Same.free e1 hp
  · rcases List.mem_cons.mp hq with rfl | hq
    · exact r.fr.2.1
    · exact r.fr.2.2 q hq
/-- a bracket closes -/
theorem RdI.pop {p : Addr} {up : List It2} (r : RdI H0 wl ar cur words ((p, up) :: stk) its H) : RdI H0 wl ar p words stk up (upd H ar (.lst ((stk.map fun q => V.ref q.1).reverse))) := by
  obtain ⟨n1, n2, n3, n4⟩ := r.ne
  have hu := r.ha
  obtain ⟨us, h1, h2⟩ := r.hs (p, up) List.mem_cons_self
  refine ⟨same_mut r.same r.fr.1, by rw [upd_ne n1]; exact r.hw, upd_same, ⟨us, by rw [upd_ne (n4 _ List.mem_cons_self).2.1.symm]; exact h1, pr_mono h2 fun _ _ z => z.up hu⟩, fun q hq => ?_, ?_, r.fr.1, r.fr.2.2 _ List.mem_cons_self, fun q hq => r.fr.2.2 q (List.mem_cons_of_mem _ hq)⟩
  · obtain ⟨ws, g1, g2⟩ := r.hs q (List.mem_cons_of_mem _ hq)
    exact ⟨ws, by rw [upd_ne (n4 _ (List.mem_cons_of_mem _ hq)).2.1.symm]; exact g1, pr_mono g2 fun _ _ z => z.up hu⟩
  · have n := r.nd
    simp only [List.map_cons, List.nodup_cons, List.mem_cons, not_or] at n ⊢
    obtain ⟨⟨k1, k2, k3, k4⟩, ⟨k5, k6, k7⟩, ⟨k8, k9⟩, k10, k11⟩ := n
    exact ⟨⟨k1, k3, k4⟩, ⟨k6, k7⟩, k10, k11⟩
theorem RdI.start {wl ar cur : Addr} {words : List V} (e : Same H0 H) (hw : H wl = some (.lst words)) (ha : H ar = some (.lst [])) (hc : H cur = some (.lst [])) (n1 : wl ≠ ar) (n2 : wl ≠ cur) (n3 : ar ≠ cur) (f1 : H0 ar = none) (f2 : H0 cur = none) : RdI H0 wl ar cur words [] [] H :=
  ⟨e, hw, ha, ⟨[], hc, .nil⟩, (fun q hq => by cases hq), (by simp [n1, n2, n3]), f1, f2, fun q hq => by cases hq⟩
end
theorem flush_len (acc : List Nat) : (flush acc).length ≤ acc.length := by
  unfold flush
  split
  · simp
  · rename_i h
    cases acc with
    | nil => exact absurd rfl h
    | cons a q => simp
theorem scan_len : ∀ (l acc : List Nat), (scan acc l).length ≤ acc.length + l.length
  | [], acc => by have := flush_len acc; simpa [scan] using this
  | x :: r, acc => by
    unfold scan
    have h0 := flush_len acc
    have h1 := scan_len r []
    have h2 := scan_len r (acc ++ [x])
    split
    · rw [List.length_append]; simp only [List.length_cons, List.length_nil] at *; omega
    · split
      · rw [List.length_append]; simp only [List.length_cons, List.length_nil] at *; omega
      · rw [List.length_append] at h2; simp only [List.length_cons, List.length_nil] at *; omega
theorem cut_len (c : Nat) : ∀ (l acc : List Nat), (cutAt c acc l).length ≤ l.length + 1
  | [], acc => by simp [cutAt]
  | x :: r, acc => by
    unfold cutAt
    have h1 := cut_len c r []
    have h2 := cut_len c r (acc ++ [x])
    split <;> simp only [List.length_cons] at * <;> omega
theorem padded_len : ∀ l : List Nat, (padded l).length ≤ 9 * l.length
  | [] => by simp [padded]
  | x :: r => by
    rw [padded_cons, List.length_append]
    have := padded_len r
    have h : ((padL x).flatMap padR).length ≤ 9 := by
      unfold padL
      split
      · decide
      · simp only [List.flatMap_cons, List.flatMap_nil, List.append_nil]
        unfold padR
        split <;> simp
    simp only [List.length_cons]
    omega
/-- how long a line's words are -/
theorem flush_mem {acc z : List Nat} (h : z ∈ flush acc) : z = acc := by
  unfold flush at h
  split at h
  · cases h
  · exact List.mem_singleton.mp h
theorem scan_mem : ∀ (l acc : List Nat) {z : List Nat}, z ∈ scan acc l → z.length ≤ acc.length + l.length
  | [], acc, z, h => by rw [flush_mem (show z ∈ flush acc from h)]; simp
  | x :: r, acc, z, h => by
    unfold scan at h
    simp only [List.length_cons]
    split at h
    · rcases List.mem_append.mp h with h | h
      · rw [flush_mem h]; omega
      · have := scan_mem r [] h; simp only [List.length_nil] at this; omega
    · split at h
      · rcases List.mem_append.mp h with h | h
        · rw [flush_mem h]; omega
        · rcases List.mem_cons.mp h with rfl | h
          · simp only [List.length_cons, List.length_nil]; omega
          · have := scan_mem r [] h; simp only [List.length_nil] at this; omega
      · have := scan_mem r _ h; simp only [List.length_append, List.length_singleton] at this; omega
theorem rep_one (l : List Nat) : Txt.replace (mkS l) "(" " ( " = mkS (l.flatMap padL) := by
  rw [show (Str.ofString "(") = mkS [40] by decide +kernel, show (Str.ofString " ( ") = mkS [32, 40, 32] by decide +kernel, replace_sign _ _ _ (by decide)]
  rfl
theorem rep_two (l : List Nat) : Txt.replace (mkS (l.flatMap padL)) ")" " ) " = mkS (padded l) := by
  rw [show (Str.ofString ")") = mkS [41] by decide +kernel, show (Str.ofString " ) ") = mkS [32, 41, 32] by decide +kernel, replace_sign _ _ _ (by decide)]
  rfl
theorem padL_len (l : List Nat) : (l.flatMap padL).length ≤ 3 * l.length := by
  induction l with
  | nil => simp
  | cons x r ih =>
    rw [List.flatMap_cons, List.length_append]
    have : (padL x).length ≤ 3 := by unfold padL; split <;> simp
    simp only [List.length_cons]
    omega
theorem split_words (l : List Nat) : Txt.split (mkS (padded l)) " " = (cutAt 32 [] (padded l)).map mkS := by
  rw [show (Str.ofString " ") = mkS [32] by decide +kernel, split_sign _ _ (by decide)]
/-- the rest of the words, the empty ones left out -/
def restW (l : List Nat) (i : Nat) : List (List Nat) := ((cutAt 32 [] (padded l)).drop i).filter fun z => z ≠ []
theorem rest0 (l : List Nat) : restW l 0 = scan [] l := words_scan l []
theorem rest_step {l : List Nat} {i : Nat} {z : List Nat} (h : (cutAt 32 [] (padded l))[i]? = some z) : restW l i = if z = [] then restW l (i + 1) else z :: restW l (i + 1) := by
  unfold restW
  obtain ⟨h1, h2⟩ := List.getElem?_eq_some_iff.mp h
  rw [List.drop_eq_getElem_cons h1, h2]
  by_cases hz : z = []
  · subst hz; simp
  · simp [hz]
theorem rest_end (l : List Nat) : restW l (cutAt 32 [] (padded l)).length = [] := by
  unfold restW
  rw [List.drop_length]
  rfl
theorem rest_mem {l : List Nat} {i : Nat} {z : List Nat} (h : z ∈ restW l i) : z ∈ scan [] l := by
  rw [← rest0]
  unfold restW at h ⊢
  obtain ⟨h1, h2⟩ := List.mem_filter.mp h
  exact List.mem_filter.mpr ⟨List.mem_of_mem_drop h1, h2⟩
end My

namespace My
open PySem L2
/-! ### figures in pieces -/
def digs (m : Nat) : List Nat := (Nat.toDigits 10 m).map Char.toNat
def padK (k : Nat) (z : List Nat) : List Nat := List.replicate (k - z.length) 48 ++ z
theorem digs_split {m : Nat} (h : ¬ m < 10) : digs m = digs (m / 10) ++ digs (m % 10) := by
  unfold digs
  rw [dig_split h, List.map_append]
theorem digs_len1 {m : Nat} (h : m < 10) : (digs m).length = 1 := by
  unfold digs
  rw [Nat.toDigits_of_lt_base h]
  rfl
theorem pad_step {k q r : Nat} (hk : 1 ≤ k) (hq : q < 10 ^ k) (hr : r < 10) : padK k (digs q) ++ digs r = padK (k + 1) (digs (10 * q + r)) := by
  have lr := digs_len1 hr
  by_cases h0 : q = 0
  · subst h0
    have e0 : digs 0 = [48] := by decide
    rw [e0, Nat.mul_zero, Nat.zero_add]
    unfold padK
    rw [lr]
    show (List.replicate (k - 1) 48 ++ [48]) ++ digs r = List.replicate (k + 1 - 1) 48 ++ digs r
    rw [← List.replicate_succ', show k - 1 + 1 = k by omega, show k + 1 - 1 = k by omega]
  · have h1 : ¬ 10 * q + r < 10 := by omega
    rw [digs_split h1, show (10 * q + r) / 10 = q by omega, show (10 * q + r) % 10 = r by omega]
    unfold padK
    rw [List.length_append, lr, show k + 1 - ((digs q).length + 1) = k - (digs q).length by omega, List.append_assoc]
theorem digs_pow : ∀ (k m : Nat), 1 ≤ k → 10 ^ k ≤ m → digs m = digs (m / 10 ^ k) ++ padK k (digs (m % 10 ^ k))
  | 0, m, h, _ => by omega
  | 1, m, _, h => by
    have h1 : ¬ m < 10 := by simpa using h
    rw [digs_split h1, Nat.pow_one]
    unfold padK
    rw [digs_len1 (Nat.mod_lt m (by decide))]
    rfl
  | k + 2, m, _, h => by
    have hp : 10 ^ (k + 2) = 10 ^ (k + 1) * 10 := Nat.pow_succ 10 (k + 1)
    have hk0 : 1 ≤ 10 ^ (k + 1) := Nat.one_le_pow _ _ (by decide)
    have h1 : ¬ m < 10 := by omega
    have h2 : 10 ^ (k + 1) ≤ m / 10 := by rw [Nat.le_div_iff_mul_le (by decide)]; omega
    rw [digs_split h1, digs_pow (k + 1) (m / 10) (by omega) h2, List.append_assoc, pad_step (by omega) (Nat.mod_lt _ hk0) (Nat.mod_lt m (by decide)), Nat.div_div_eq_div_mul, hp, Nat.mul_comm 10]
    congr 3
    have e1 := Nat.mod_mul_right_div_self m 10 (10 ^ (k + 1))
    have e2 : m % (10 ^ (k + 1) * 10) % 10 = m % 10 := Nat.mod_mul_left_mod m (10 ^ (k + 1)) 10
    rw [Nat.mul_comm 10] at e1
    have e3 := Nat.div_add_mod (m % (10 ^ (k + 1) * 10)) 10
    congr 1
    omega
theorem numC_digs (m : Nat) : numC (m : Int) = digs m := numC_pos m
theorem numC_abs (n : Int) : numC n = if n < 0 then 45 :: digs n.natAbs else digs n.natAbs := by
  cases n with
  | ofNat m =>
    rw [if_neg (by have : Int.ofNat m = (m : Int) := rfl; omega)]
    exact numC_pos m
  | negSucc m =>
    rw [if_pos (Int.negSucc_lt_zero m)]
    exact numC_neg m
theorem to_numC (n : Int) : Str.ofString (toString n) = mkS (numC n) := mkS_of _
theorem digs_len {m : Nat} (h : m < 10 ^ 80) : (digs m).length ≤ 80 := by
  unfold digs
  rw [List.length_map]
  exact dig_len' 79 m h
theorem digs_ne (m : Nat) : digs m ≠ [] := (dig_pw m).1.1
theorem zfill_digs {m : Nat} (h : m < 10 ^ 60) : Txt.zfill (mkS (digs m)) 60 = mkS (padK 60 (digs m)) := by
  have hd := (dig_pw m).2
  have hl : (digs m).length ≤ 60 := by
    unfold digs
    rw [List.length_map]
    exact dig_len h
  unfold Txt.zfill padK
  rw [mkS_len]
  by_cases e : (60 : Int) ≤ (digs m).length
  · rw [if_pos e, show 60 - (digs m).length = 0 by omega]
    rfl
  · rw [if_neg e]
    unfold zfilled
    have hc : ∀ c, (mkS (digs m)).cps[0]? = some c → 48 ≤ c := fun c hc => by
      have : c ∈ digs m := by
        have h2 : (digs m)[0]? = some c := by
          have : (mkS (digs m)).cps = (digs m).toArray := rfl
          rw [this] at hc
          simpa using hc
        exact List.mem_of_getElem? h2
      exact (hd c this).1
    split
    · rename_i hq
      have := hc _ hq
      omega
    · rename_i hq
      have := hc _ hq
      omega
    · apply TL.ext_tl
      show (Array.replicate _ 48 ++ (mkS (digs m)).cps ++ Array.replicate 0 48).toList = _
      rw [show (60 : Int).toNat = 60 from rfl]
      simp [mkS]
theorem join_empty (parts : List (List Nat)) : Txt.join "" (parts.map mkS) = mkS parts.flatten := by
  rw [show Str.ofString "" = mkS [] by decide +kernel, TL.join_eq, sjoin_sep]
  congr 1
  induction parts with
  | nil => rfl
  | cons x q ih =>
    cases q with
    | nil => simp [List.intercalate]
    | cons y q =>
      rw [inter_cons _ _ (by simp), ih]
      simp
theorem pyl (i : Int) : CDivP i (10 ^ 60) := ⟨by decide, by
  unfold Builtin.divisionGoesByPylong
  have h : ((if ((10 : Int) ^ 60 == 0) = true then 0 else ((10 : Int) ^ 60).natAbs.log2 / 30 + 1) > 300) = False := by
    apply eq_false
    decide +kernel
  simp only [h]
  rfl⟩
/-! ### a tree's text, piece by piece -/
inductive Pc where
  | s (z : List Nat) | t (u : Tr)
def Pc.wr : Pc → List Nat
  | .s z => z
  | .t u => My.wr u
def Pc.cost : Pc → Nat
  | .s _ => 1
  | .t u => 5 * u.size
def PcR (H : Hp) (p : Pc) (v : V) : Prop := match p with
  | .s z => v = .str (mkS z)
  | .t u => At H u v
theorem PcR.mono {H H' : Hp} (k : KT H H') : ∀ {p : Pc} {v : V}, PcR H p v → PcR H' p v
  | .s _, _, h => h
  | .t _, _, h => At.mono k h
def N80 (n : Int) : Prop := n.natAbs < 10 ^ 80
def Fine (t : Tr) : Prop := t.all (fun x => isName x = true) N80
/-- what stands ahead of a node's parts -/
def headC : Tr → List Nat
  | .fn x _ => wFun ++ 32 :: x.cps.toList
  | .lt x _ _ => wLet ++ 32 :: x.cps.toList
  | t => t.word.cps.toList
def tailC : List Tr → List Nat
  | [] => [41]
  | t :: ts => 32 :: (wr t ++ tailC ts)
theorem wr_head {t : Tr} (h : t.leaf = false) : wr t = 40 :: (headC t ++ tailC t.kids) := by
  have e1 : (Str.ofString "call").cps.toList = wCall := by decide +kernel
  have e2 : (Str.ofString "plus").cps.toList = wPlus := by decide +kernel
  have e3 : (Str.ofString "less").cps.toList = wLess := by decide +kernel
  have e4 : (Str.ofString "if").cps.toList = wIf := by decide +kernel
  cases t with
  | num n => cases h
  | name x => cases h
  | fn x b => simp only [wr, headC, tailC, Tr.kids, List.append_assoc, List.cons_append]
  | call a b => simp only [wr, headC, tailC, Tr.kids, Tr.word, e1, List.append_assoc, List.cons_append]
  | plus a b => simp only [wr, headC, tailC, Tr.kids, Tr.word, e2, List.append_assoc, List.cons_append]
  | less a b => simp only [wr, headC, tailC, Tr.kids, Tr.word, e3, List.append_assoc, List.cons_append]
  | ite a b c => simp only [wr, headC, tailC, Tr.kids, Tr.word, e4, List.append_assoc, List.cons_append]
  | lt x a b => simp only [wr, headC, tailC, Tr.kids, List.append_assoc, List.cons_append]
theorem name_len {x : Str} (h : isName x = true) : x.cps.toList.length ≤ 8 := by
  unfold isName at h
  simp only [Bool.and_eq_true, decide_eq_true_eq] at h
  have : x.length = x.cps.toList.length := by show x.cps.size = _; simp
  omega
theorem num_len {n : Int} (h : N80 n) : (numC n).length ≤ 81 := by
  rw [numC_abs]
  have := digs_len h
  split
  · simp only [List.length_cons]; omega
  · omega
theorem wr_len : ∀ {t : Tr}, Fine t → (wr t).length ≤ 100 * t.size
  | .num n, g => by have := num_len (n := n) g; simp only [wr, Tr.size]; omega
  | .name x, g => by have := name_len (x := x) g; simp only [wr, Tr.size]; omega
  | .fn x b, g => by have h1 := name_len g.1; have h2 := wr_len g.2; simp only [wr, Tr.size, wFun, List.length_cons, List.length_append, List.length_nil]; omega
  | .call a b, g => by have h1 := wr_len g.1; have h2 := wr_len g.2; simp only [wr, Tr.size, wCall, List.length_cons, List.length_append, List.length_nil]; omega
  | .plus a b, g => by have h1 := wr_len g.1; have h2 := wr_len g.2; simp only [wr, Tr.size, wPlus, List.length_cons, List.length_append, List.length_nil]; omega
  | .less a b, g => by have h1 := wr_len g.1; have h2 := wr_len g.2; simp only [wr, Tr.size, wLess, List.length_cons, List.length_append, List.length_nil]; omega
  | .ite c a b, g => by have h1 := wr_len g.1; have h2 := wr_len g.2.1; have h3 := wr_len g.2.2; simp only [wr, Tr.size, wIf, List.length_cons, List.length_append, List.length_nil]; omega
  | .lt x a b, g => by have h0 := name_len g.1; have h1 := wr_len g.2.1; have h2 := wr_len g.2.2; simp only [wr, Tr.size, wLet, List.length_cons, List.length_append, List.length_nil]; omega
end My

namespace My
open PySem L2
theorem all_monoN {S : Str → Prop} {N N' : Int → Prop} (hn : ∀ x, N x → N' x) : ∀ {t : Tr}, t.all S N → t.all S N'
  | .num n, h => hn n h
  | .name x, h => h
  | .fn x b, h => ⟨h.1, all_monoN hn h.2⟩
  | .call a b, h => ⟨all_monoN hn h.1, all_monoN hn h.2⟩
  | .plus a b, h => ⟨all_monoN hn h.1, all_monoN hn h.2⟩
  | .less a b, h => ⟨all_monoN hn h.1, all_monoN hn h.2⟩
  | .ite c a b, h => ⟨all_monoN hn h.1, all_monoN hn h.2.1, all_monoN hn h.2.2⟩
  | .lt x a b, h => ⟨h.1, all_monoN hn h.2.1, all_monoN hn h.2.2⟩
theorem fine_of {t : Tr} (g : Good t) : Fine t := all_monoN (fun n h => by
  obtain ⟨h1, h2⟩ := (show -(10 ^ 60) < n ∧ n < 10 ^ 60 from h)
  show n.natAbs < 10 ^ 80
  have : (10 : Nat) ^ 60 ≤ 10 ^ 80 := Nat.pow_le_pow_right (by decide) (by decide)
  omega) g
theorem fine_kids {t : Tr} (g : Fine t) : ∀ u ∈ t.kids, Fine u := by
  intro u hu
  cases t with
  | num n => cases hu
  | name x => cases hu
  | fn x b => obtain rfl : u = b := by simpa [Tr.kids] using hu
              exact g.2
  | call a b =>
    rcases (show u = a ∨ u = b by simpa [Tr.kids] using hu) with rfl | rfl
    · exact g.1
    · exact g.2
  | plus a b =>
    rcases (show u = a ∨ u = b by simpa [Tr.kids] using hu) with rfl | rfl
    · exact g.1
    · exact g.2
  | less a b =>
    rcases (show u = a ∨ u = b by simpa [Tr.kids] using hu) with rfl | rfl
    · exact g.1
    · exact g.2
  | ite a b c =>
    rcases (show u = a ∨ u = b ∨ u = c by simpa [Tr.kids] using hu) with rfl | rfl | rfl
    · exact g.1
    · exact g.2.1
    · exact g.2.2
  | lt x a b =>
    rcases (show u = a ∨ u = b by simpa [Tr.kids] using hu) with rfl | rfl
    · exact g.2.1
    · exact g.2.2
def spFig : Sp := fun vs H Q _ => ∃ n : Int, vs = [.int n] ∧ N80 n ∧ ∀ H', Same H H' → Q (.str (mkS (numC n))) H'
def spHead : Sp := fun vs H Q _ => ∃ (t : Tr) (v : V), vs = [v] ∧ At H t v ∧ t.leaf = false ∧ Fine t ∧ ∀ H', Same H H' → Q (.str (mkS (headC t))) H'
def spShown : Sp := fun vs H Q _ => ∃ (t : Tr) (v : V), vs = [v] ∧ At H t v ∧ Fine t ∧ t.size ≤ 2000 ∧ ∀ H', Same H H' → Q (.str (mkS (wr t))) H'
/-- what is still to be written, the next piece last -/
def restC (ps : List Pc) : List Nat := (ps.reverse.map Pc.wr).flatten
theorem restC_snoc (ps : List Pc) (p : Pc) : restC (ps ++ [p]) = p.wr ++ restC ps := by unfold restC; simp
def costs (ps : List Pc) : Nat := (ps.map Pc.cost).sum
theorem costs_snoc (ps : List Pc) (p : Pc) : costs (ps ++ [p]) = costs ps + p.cost := by unfold costs; simp
theorem costs_len : ∀ ps : List Pc, ps.length ≤ costs ps
  | [] => Nat.le_refl _
  | p :: ps => by
    have := costs_len ps
    have h1 : 1 ≤ p.cost := by
      cases p with
      | s z => exact Nat.le_refl _
      | t u => have := u.size_pos; show 1 ≤ 5 * u.size; omega
    simp only [costs, List.map_cons, List.sum_cons, List.length_cons] at *
    omega
/-- a node's parts, put off: the last one first -/
def laterP : List Tr → List Pc
  | [] => [.s [41]]
  | t :: ts => laterP ts ++ [.t t, .s [32]]
theorem restC_later (ps : List Pc) : ∀ ts : List Tr, restC (ps ++ laterP ts) = tailC ts ++ restC ps
  | [] => by rw [show laterP [] = [.s [41]] from rfl, restC_snoc]; rfl
  | t :: ts => by
    rw [show laterP (t :: ts) = laterP ts ++ [.t t] ++ [.s [32]] by simp [laterP], ← List.append_assoc, restC_snoc, ← List.append_assoc, restC_snoc, restC_later ps ts]
    show [32] ++ (wr t ++ (tailC ts ++ restC ps)) = 32 :: (wr t ++ tailC ts) ++ restC ps
    simp
theorem costs_later (ps : List Pc) : ∀ ts : List Tr, costs (ps ++ laterP ts) = costs ps + 5 * sizes ts + ts.length + 1
  | [] => by rw [show laterP [] = [.s [41]] from rfl, costs_snoc]; simp [sizes_nil, Pc.cost]
  | t :: ts => by
    rw [show laterP (t :: ts) = laterP ts ++ [.t t] ++ [.s [32]] by simp [laterP], ← List.append_assoc, costs_snoc, ← List.append_assoc, costs_snoc, costs_later ps ts, sizes_cons]
    simp only [Pc.cost, List.length_cons]
    omega
theorem log_small {m : Nat} (h : m < 10 ^ 80) : m.log2 < 1920 := by
  by_cases h0 : m = 0
  · subst h0; decide
  · rw [Nat.log2_lt h0]
    exact Nat.lt_trans h (by decide +kernel)
theorem pow_6080 : (10 : Nat) ^ 60 ≤ 10 ^ 80 := Nat.pow_le_pow_right (by decide) (by decide)
theorem to_digs (m : Nat) : Str.ofString (toString (m : Int)) = mkS (digs m) := by rw [to_numC, numC_digs]
theorem sum_flat : ∀ us : List (List Nat), ((us.map mkS).map (fun x : Str => x.length)).sum = us.flatten.length
  | [] => rfl
  | z :: us => by
    rw [List.map_cons, List.map_cons, List.sum_cons, sum_flat us, List.flatten_cons, List.length_append, mkS_len]
theorem rev_strs (us : List (List Nat)) : (us.map fun z => V.str (mkS z)).reverse = (us.reverse.map mkS).map V.str := by
  rw [← List.map_reverse, List.map_map]
  rfl
theorem empty_len : (Str.ofString "").length = 0 := by decide +kernel
theorem cost_pos (p : Pc) : 1 ≤ p.cost := by
  cases p with
  | s z => exact Nat.le_refl _
  | t u => have := u.size_pos; show 1 ≤ 5 * u.size; omega
theorem later_mem : ∀ {ts : List Tr} {u : Tr}, Pc.t u ∈ laterP ts → u ∈ ts
  | [], u, h => by cases List.mem_singleton.mp h
  | t :: ts, u, h => by
    rcases List.mem_append.mp h with h | h
    · exact List.mem_cons_of_mem _ (later_mem h)
    · rcases List.mem_cons.mp h with h | h
      · cases h; exact List.mem_cons_self
      · cases List.mem_singleton.mp h
theorem later_len : ∀ ts : List Tr, (laterP ts).length = 2 * ts.length + 1
  | [] => rfl
  | t :: ts => by
    rw [show laterP (t :: ts) = laterP ts ++ [.t t, .s [32]] from rfl, List.length_append, later_len ts]
    simp only [List.length_cons, List.length_nil]
    omega
theorem later_drop {ts : List Tr} {k : Tr} {i : Nat} (hi : i < ts.length) (h : ts[ts.length - 1 - i]? = some k) : laterP (ts.drop (ts.length - (i + 1))) = laterP (ts.drop (ts.length - i)) ++ [.t k, .s [32]] := by
  obtain ⟨h1, h2⟩ := List.getElem?_eq_some_iff.mp h
  have e : ts.drop (ts.length - (i + 1)) = k :: ts.drop (ts.length - i) := by
    rw [show ts.length - (i + 1) = ts.length - 1 - i by omega, List.drop_eq_getElem_cons h1, h2, show ts.length - 1 - i + 1 = ts.length - i by omega]
  rw [e]
  rfl
end My

namespace My
open PySem L2
/-! ### k06: trees with their texts -/
def spNm : Sp := fun vs H Q _ => ∃ c : Int, vs = [.int c] ∧ ∀ (x : Str) (H' : Hp), isName x = true → Same H H' → Q (.str x) H'
def PairAt (H : Hp) (t : Tr) (v : V) : Prop := ∃ (p : Addr) (u : V), v = .ref p ∧ H p = some (.tup [u, .str (mkS (wr t))]) ∧ At H t u
theorem PairAt.mono {H H' : Hp} (k : KT H H') {t : Tr} {v : V} : PairAt H t v → PairAt H' t v := fun ⟨p, u, e, h, a⟩ => ⟨p, u, e, k _ _ h, a.mono k⟩
def spPair2 : Sp := fun vs H Q _ => ∃ (k : Int) (x : Str) (a b : Tr) (u v : V), vs = [.int k, .str x, u, v] ∧ 0 ≤ k ∧ isName x = true ∧ PairAt H a u ∧ PairAt H b v ∧ Good a ∧ Good b ∧ a.size ≤ 500 ∧ b.size ≤ 500 ∧
  ∀ (t : Tr) (r : V) (H' : Hp), Same H H' → PairAt H' t r → Good t → t.size ≤ a.size + b.size + 2 → Q r H'
def spBuilt2 (K : PySem.W.Frag) : Sp := fun vs H Q _ => ∃ (a : Addr) (ns : List Int), vs = [.ref a] ∧ SqL K H a (ns.map V.int) ∧ ns.length ≤ 60 ∧ ∀ (t : Tr) (r : V) (H' : Hp), Same H H' → PairAt H' t r → Good t → t.size ≤ 3 * ns.length + 1 → Q r H'
def spWide : Sp := fun vs H Q _ => ∃ (l : List Nat) (c : Int), vs = [.str (mkS l), .int c] ∧ l.length ≤ 35000 ∧ ∀ (l' : List Nat) (H' : Hp), Same H H' → scan [] l' = scan [] l → l'.length ≤ 27 * l.length + 3 → Q (.str (mkS l')) H'
theorem pair_len {t : Tr} (g : Good t) (h : t.size ≤ 2000) : (wr t).length ≤ 200000 := by
  have := wr_len (fine_of g)
  omega
theorem szM {n : Nat} (h : n ≤ 1000000) : n ≤ sizeLine := Nat.le_trans h (by decide)
theorem repl_len (S r : List Nat) (hr : 1 ≤ r.length) : ∀ (k : Nat) (l : List Nat), (repl S r k l).length ≤ r.length * l.length
  | _, [] => by simp [repl]
  | 0, c :: q => by
    unfold repl
    have h1 := repl_len S r hr (S.length - 1) q
    have h2 := repl_len S r hr 0 q
    have e : r.length * (c :: q).length = r.length * q.length + r.length := by rw [List.length_cons, Nat.mul_succ]
    rw [e]
    split
    · rw [List.length_append]; omega
    · rw [List.length_cons]; omega
  | k + 1, c :: q => by
    have h1 := repl_len S r hr k q
    have e : r.length * (c :: q).length = r.length * q.length + r.length := by rw [List.length_cons, Nat.mul_succ]
    rw [e]
    show (repl S r k q).length ≤ _
    omega
theorem ls_lp : Str.ofString "(" = mkS [40] := by decide +kernel
theorem ls_rp : Str.ofString ")" = mkS [41] := by decide +kernel
theorem ls_sp : Str.ofString " " = mkS [32] := by decide +kernel
theorem ls_let : Str.ofString "(let " = mkS [40, 108, 101, 116, 32] := by decide +kernel
theorem ls_if : Str.ofString "(if " = mkS [40, 105, 102, 32] := by decide +kernel
theorem ls_fun : Str.ofString "(fun " = mkS [40, 102, 117, 110, 32] := by decide +kernel
theorem ls_sp2 : Str.ofString "  " = mkS [32, 32] := by decide +kernel
theorem ls_sp3 : Str.ofString "   " = mkS [32, 32, 32] := by decide +kernel
theorem ls_spc : Str.ofString " ( " = mkS [32, 40, 32] := by decide +kernel
theorem ls_rp3 : Str.ofString "  )" = mkS [32, 32, 41] := by decide +kernel
theorem ls_splp : Str.ofString " (" = mkS [32, 40] := by decide +kernel
theorem ls_rpsp : Str.ofString ") " = mkS [41, 32] := by decide +kernel
theorem ls_rsl : Str.ofString ") (" = mkS [41, 32, 40] := by decide +kernel
theorem ls_rl : Str.ofString ")(" = mkS [41, 40] := by decide +kernel
theorem ls_deep : Str.ofString "(fun deep " = mkS [40, 102, 117, 110, 32, 100, 101, 101, 112, 32] := by decide +kernel
theorem ls_minus : Str.ofString "-" = mkS [45] := by decide +kernel
theorem ls_call : Str.ofString "call" = mkS [99, 97, 108, 108] := by decide +kernel
theorem ls_plus : Str.ofString "plus" = mkS [112, 108, 117, 115] := by decide +kernel
theorem ls_less : Str.ofString "less" = mkS [108, 101, 115, 115] := by decide +kernel
theorem ls_dp : Str.ofString "deep" = mkS [100, 101, 101, 112] := by decide +kernel
theorem ls_rest : Str.ofString "rest" = mkS [114, 101, 115, 116] := by decide +kernel
theorem ls_zero : Str.ofString "0" = mkS [48] := by decide +kernel
end My
namespace My
open PySem L2
/-- a stack of trees with their texts -/
structure StkP (H0 : Hp) (l : Addr) (H : Hp) (vs : List V) (ts : List Tr) : Prop where
  same : Same H0 H
  at_ : H l = some (.lst vs)
  prs : Paired (PairAt H) ts vs
  good : ∀ t ∈ ts, Good t
section
variable {H0 H H' : Hp} {l : Addr} {vs : List V} {ts : List Tr} {t u : Tr} {r v : V}
theorem StkP.ext (s : StkP H0 l H vs ts) (e : Same H H') : StkP H0 l H' vs ts := ⟨s.same.trans e, e _ _ s.at_, pr_mono s.prs fun _ _ h => h.mono (same_kt e), s.good⟩
theorem StkP.len (s : StkP H0 l H vs ts) : vs.length = ts.length := (Paired.length s.prs).symm
theorem StkP.push (s : StkP H0 l H vs ts) (hl : H0 l = none) (h : PairAt H t r) (g : Good t) : StkP H0 l (upd H l (.lst (vs ++ [r]))) (vs ++ [r]) (ts ++ [t]) :=
  ⟨same_mut s.same hl, upd_same, pr_append (pr_mono s.prs fun _ _ h => h.mono (kt_lst s.at_)) (.cons (h.mono (kt_lst s.at_)) .nil), fun x hx => by
    rcases List.mem_append.mp hx with hx | hx
    · exact s.good x hx
    · rw [List.mem_singleton.mp hx]; exact g⟩
theorem StkP.top (s : StkP H0 l H (vs ++ [v]) ts) : ∃ us t, ts = us ++ [t] ∧ PairAt H t v ∧ Good t ∧ Paired (PairAt H) us vs ∧ ∀ x ∈ us, Good x := by
  obtain ⟨us, t, e, h1, h2⟩ := pr_snoc s.prs
  exact ⟨us, t, e, h2, s.good t (by rw [e]; simp), h1, fun x hx => s.good x (by rw [e]; simp [hx])⟩
theorem StkP.pop (s : StkP H0 l H (vs ++ [v]) ts) (hl : H0 l = none) : ∃ us t, ts = us ++ [t] ∧ PairAt (upd H l (.lst vs)) t v ∧ Good t ∧ StkP H0 l (upd H l (.lst vs)) vs us := by
  obtain ⟨us, t, e, h2, g, h1, hg⟩ := s.top
  have k : KT H (upd H l (.lst vs)) := kt_lst s.at_
  exact ⟨us, t, e, h2.mono k, g, same_mut s.same hl, upd_same, pr_mono h1 fun _ _ h => h.mono k, hg⟩
theorem StkP.put (s : StkP H0 l H (vs ++ [v]) (ts ++ [t])) (hl : H0 l = none) (h : PairAt H u r) (g : Good u) : StkP H0 l (upd H l (.lst (vs ++ [r]))) (vs ++ [r]) (ts ++ [u]) := by
  obtain ⟨us, t', e, h2, _, h1, hg⟩ := s.top
  obtain ⟨rfl, _⟩ := List.append_inj' e rfl
  have k : KT H (upd H l (.lst (vs ++ [r]))) := kt_lst s.at_
  refine ⟨same_mut s.same hl, upd_same, pr_append (pr_mono h1 fun _ _ h => h.mono k) (.cons (h.mono k) .nil), fun x hx => ?_⟩
  rcases List.mem_append.mp hx with hx | hx
  · exact hg x hx
  · rw [List.mem_singleton.mp hx]; exact g
end
theorem num_range (c : Int) : -(10 ^ 60) < c % (2 * 10 ^ 60 - 1) - 10 ^ 60 + 1 ∧ c % (2 * 10 ^ 60 - 1) - 10 ^ 60 + 1 < 10 ^ 60 := by
  have h0 : 0 ≤ c % (2 * 10 ^ 60 - 1) := Int.emod_nonneg _ (by decide)
  have h1 : c % (2 * 10 ^ 60 - 1) < 2 * 10 ^ 60 - 1 := Int.emod_lt_of_pos _ (by decide)
  omega
theorem log60 {n : Int} (h : -(10 ^ 60) < n ∧ n < 10 ^ 60) : n.natAbs.log2 < 1920 := log_small (by have := pow_6080; omega)
theorem atI_lastV (xs : List V) (x : V) : atI (xs ++ [x]) (-1) = some x := by
  have h := at_last (f := fun v : V => v) (x := x) (xs := xs)
  rwa [List.map_id'] at h
theorem tks_len : ∀ t : Tr, (tks t).length ≤ 4 * t.size
  | .num n => by simp [tks, Tr.size]
  | .name x => by simp [tks, Tr.size]
  | .fn x b => by have := tks_len b; simp only [tks, Tr.size, List.length_cons, List.length_append, List.length_nil]; omega
  | .call a b => by have := tks_len a; have := tks_len b; simp only [tks, Tr.size, List.length_cons, List.length_append, List.length_nil]; omega
  | .plus a b => by have := tks_len a; have := tks_len b; simp only [tks, Tr.size, List.length_cons, List.length_append, List.length_nil]; omega
  | .less a b => by have := tks_len a; have := tks_len b; simp only [tks, Tr.size, List.length_cons, List.length_append, List.length_nil]; omega
  | .ite c a b => by have := tks_len c; have := tks_len a; have := tks_len b; simp only [tks, Tr.size, List.length_cons, List.length_append, List.length_nil]; omega
  | .lt x a b => by have := tks_len a; have := tks_len b; simp only [tks, Tr.size, List.length_cons, List.length_append, List.length_nil]; omega
theorem tks_words : ∀ {t : Tr}, Good t → ∀ z ∈ tks t, z.length ≤ 10000
  | .num n, g, z, h => by
    rw [List.mem_singleton.mp h]
    have := num_len (n := n) (fine_of (t := .num n) g)
    omega
  | .name x, g, z, h => by
    rw [List.mem_singleton.mp h]
    have := name_len (x := x) g
    omega
  | .fn x b, g, z, h => by
    have h1 := name_len g.1
    simp only [tks, List.mem_cons, List.mem_append, List.not_mem_nil, or_false] at h
    rcases h with rfl | rfl | rfl | h | rfl
    · decide
    · decide
    · omega
    · exact tks_words g.2 z h
    · decide
  | .call a b, g, z, h => by
    simp only [tks, List.mem_cons, List.mem_append, List.not_mem_nil, or_false] at h
    rcases h with rfl | rfl | h | h | rfl
    · decide
    · decide
    · exact tks_words g.1 z h
    · exact tks_words g.2 z h
    · decide
  | .plus a b, g, z, h => by
    simp only [tks, List.mem_cons, List.mem_append, List.not_mem_nil, or_false] at h
    rcases h with rfl | rfl | h | h | rfl
    · decide
    · decide
    · exact tks_words g.1 z h
    · exact tks_words g.2 z h
    · decide
  | .less a b, g, z, h => by
    simp only [tks, List.mem_cons, List.mem_append, List.not_mem_nil, or_false] at h
    rcases h with rfl | rfl | h | h | rfl
    · decide
    · decide
    · exact tks_words g.1 z h
    · exact tks_words g.2 z h
    · decide
  | .ite c a b, g, z, h => by
    simp only [tks, List.mem_cons, List.mem_append, List.not_mem_nil, or_false] at h
    rcases h with rfl | rfl | h | h | h | rfl
    · decide
    · decide
    · exact tks_words g.1 z h
    · exact tks_words g.2.1 z h
    · exact tks_words g.2.2 z h
    · decide
  | .lt x a b, g, z, h => by
    have h1 := name_len g.1
    simp only [tks, List.mem_cons, List.mem_append, List.not_mem_nil, or_false] at h
    rcases h with rfl | rfl | rfl | h | h | rfl
    · decide
    · decide
    · omega
    · exact tks_words g.2.1 z h
    · exact tks_words g.2.2 z h
    · decide
end My

namespace My
open PySem PySem.Spec PyProof.Rows L2 CwR
open PyProof.Rows (envOfC)
section
variable {X : Cx} {e a b : Expr} {es rest : List Expr} {t : TA} {te ta tb : TE} {pos p : Pos}
theorem tkT {α : Type} {M : Model} {A : Around} {s : Shared} {t : Sem α} {Q : α → Shared → Prop} {E : Value → Shared → Prop} (hn : 1 ≤ s.toks) (h : wpAny M A t Q E s) : wpAny M A t (fun a s' => 1 ≤ s'.toks ∧ Q a s') E s := tk1 hn h
theorem pet_one {op} {t : TE} (h : PET X a t) : PET X (.BoolOp op [a] pos) t := fun pins s σ H Q hk I hw => BoolOp_one (h pins s σ H Q hk I hw)
theorem pet_and (ha : PET X a ta) (hb : PET X (.BoolOp .And (b :: rest) pos) tb) : PET X (.BoolOp .And (a :: b :: rest) pos) (tAndV ta tb) := by
  intro pins s σ H Q hk I h
  refine BoolOp_and (thn (tk1 hk (ha pins s σ H _ hk I h)) fun v s1 ⟨hk1, x, H1, I1, r1, q1⟩ => ?_)
  obtain ⟨c, rfl, q1⟩ := q1
  cases r1
  refine wpAny_truthy_bool ?_
  cases c with
  | true => exact hb pins s1 σ H1 Q hk1 I1 q1
  | false => exact ⟨.bl false, H1, I1, rfl, q1⟩
theorem pet_callD {j k : Nat} {x : Str} {ps : List Str} {sp : Sp} (D : Df X.prog X.w X.K X.mg X.base j x ps sp) (hr : Room k X.A) (hj : j ≤ k) (hg : Gl X x) (ha : PAT X (e :: es) t) (hdb : (x == ("__debug__" : Str)) = false := by decide)
    (he : starEach (e :: es) X.env = (false, eval e X.env) :: starEach es X.env := by rfl) (hpl : (backTo pos (starEach es X.env)).any (·.1) = false := by rfl) :
    PET X (.Call (.Name x p) (e :: es) [] pos) (tCallD sp t) := by
  obtain ⟨f, fd, F, m, kp, bb⟩ := D.ex
  intro pins s σ H Q hk I h
  refine wpAny_Call_Name_kw (ld_glob I hg m ?_ hdb)
  refine PySem.W.callWith_K (h₀ := X.base) I.ok.mod.kin kp (thn (ha pos pins s σ H _ hk I h) fun us s1 ⟨vs, H1, I1, r, q⟩ => ⟨I1.kIn, ?_⟩) he hpl
  exact run_fn (dvs := []) F (hr.mono hj) bb .nil pass0 I1 r (by rw [List.append_nil]; exact q)
theorem pet_callB {x : Str} {id : String} {r : List V → Hp → VK → Prop} (hc : CallR X (.builtin id) r) (hg : Gl X x) (hm : X.mg x = none) (hv : bootBuiltins x = some (.builtin id)) (ha : PAT X (e :: es) t) (hn : x ≠ "__name__" := by decide) (hdb : (x == ("__debug__" : Str)) = false := by decide)
    (he : starEach (e :: es) X.env = (false, eval e X.env) :: starEach es X.env := by rfl) (hpl : (backTo pos (starEach es X.env)).any (·.1) = false := by rfl) : PET X (.Call (.Name x p) (e :: es) [] pos) (tCB r t) := by
  intro pins s σ H Q hk I h
  refine wpAny_Call_Name_kw (ld_blt I hg hm hv ?_ hn hdb)
  exact PyProof.Rows.callWith_builtin1 (thn (ha pos pins s σ H _ hk I h) fun us s1 ⟨vs, H1, I1, r1, q1⟩ => hc pins s1 σ H1 vs us Q I1 r1 q1) he hpl
theorem pst_expr (he : PET X e te) (hs : swapsWith e none pos.line X.env = pure false := by rfl) : PST X (.Expr e pos) (tDrop te) := by
  intro pins s σ H D hk I h
  exact wpAny_Expr_any (thn (he pins s σ H _ hk I h) fun v s1 ⟨x, H1, I1, r1, q1⟩ => ⟨σ, H1, I1, q1⟩) I.quiet hs
/-- z.join(e), z written: a token is out behind it -/
theorem pe1_join {o : Expr} {to : TE} {apos pos : Pos} (ho : PE1 X o to) (he : PE X e te) (hs : starEach [e] X.env = [(false, eval e X.env)] := by rfl) (hbase : attributeBase o "join" X.env (eval o X.env) = eval o X.env := by rfl) (hline : (apos.endLine == pos.line) = true := by rfl) :
    PE1 X (.Call (.Attribute o "join" apos) [e] [] pos) (tM1 (fun x xs H Q => ∃ a p, ∃ ys : List Str, x = .str a ∧ xs = [.ref p] ∧ (SqL X.K H p (ys.map V.str) ∨ SqT X.K H p (ys.map V.str)) ∧
      (ys.map (·.length)).sum + ys.length * a.length ≤ 16777216 ∧ Q (.str (Txt.join a ys)) H) to te) := by
  intro pins s σ H Q I h
  refine PySem.Call_method1 hbase hs hline (thn (ho pins s σ H _ I h) fun v s1 ⟨hk, x, H1, I1, r1, q1⟩ => ?_)
  obtain ⟨⟨a, rfl⟩, q1⟩ := q1
  obtain ⟨t, rfl⟩ := _root_.id r1
  refine ⟨"str", _, F.plainAttrs_str, F.slot_str_join, F.type_str_join, typeIs_str _ _ _, (fun _ e => nomatch e), Calls.callWith_builtin rfl (Calls.evalArgs_plain (Calls.spliced_cons ?_))⟩
  refine thn (tk1 hk (he.run pins s1 σ H1 _ I1 q1)) fun u s2 ⟨hk2, y, H2, I2, r2, q2⟩ => Calls.spliced_nil (tk1 hk2 ?_)
  exact mt_join pins s2 σ H2 _ [y] _ [u] Q I2 r1 (.cons r2 .nil) q2
end
end My

namespace My
open PySem L2
open PySem.Spec PyProof.Rows
theorem name_run {Y : Cx} {x : Str} {c : Value} {np : Pos} (hc : Names Y x c) {pins : List (Addr × Obj)} {σ : L2.St} {H : Hp} {s : Shared} {E : Value → Shared → Prop} (I : Inv Y pins σ H s) {Q : Value → Shared → Prop} (q : Q c s) : wpAny (model Y.prog Y.w) Y.A (eval (.Name x np) Y.env) Q E s := by
  obtain ⟨hg, hd, hm | ⟨hm, hv, hn⟩⟩ := hc
  · exact ld_glob I hg hm q hd
  · exact ld_blt I hg hm hv q hn hd
section
variable {X : Cx} {n : Str} {x : Str} {c : Value} {i : Nat} {body suite : List Stmt} {b₀ : Stmt} {np pos pos' : Pos} {tb : WX → TS} {ts : Addr → Value → Option Addr → TS} {Wout : WX}
/-- except A as e, where a token is out ahead -/
theorem pst_try_as (hs : X.stack = X.env :: X.outer) (hf : X.env.frame = some X.env.locals) (hN : X.N.Nodup) (hi : X.N[i]? = some n) (hln : X.env.kindOf n = some .local) (hc : Names X x c) (tk : Takes X Wout)
    (hb : ∀ (W : WX) (pn : List (Addr × Obj)) (xe : Value → Shared → Prop), Takes (X.tr pn xe) W → PassesOwn (model X.prog X.w) X.A X.env xe → PSsT (X.tr pn xe) body (tb W))
    (hsu : ∀ (a : Addr) (oe : Obj) (cls : Value) (d : Option Addr) (pn : List (Addr × Obj)), Zc cls d oe → (∃ vs, oe.data = .fields vs) → PSs (X.suite a ((a, oe) :: pn)) (b₀ :: suite) (ts a cls d)) :
    PST X (.Try body [.ExceptHandler (some (.Name x np)) (some n) (b₀ :: suite) pos'] [] [] pos) (fun D => tb (wAs X.K c i ts Wout D) D) := by
  intro pins s σ H D hk I h
  have ok := I.ok
  have frm : X.A.frames = some (X.env :: X.outer) := by rw [ok.frames, hs]
  refine wpAny_Try_except (wpAny_mono (hb (wAs X.K c i ts Wout D) (X.pn ++ pins) _ (fun u s' xx => ?_) PassesOwn.looking [] s σ H D hk (I.toTry _) h) (fun f s1 hsp => ?_) (fun e s1 he => he))
  rotate_left
  · cases f with
    | next =>
      obtain ⟨τ, H', J', q⟩ := hsp
      exact wpAny_execs_nil ⟨τ, H', J'.ofTry ok, q⟩
    | brk =>
      obtain ⟨τ, H', J', q⟩ := hsp
      exact ⟨τ, H', J'.ofTry ok, q⟩
    | cont =>
      obtain ⟨τ, H', J', q⟩ := hsp
      exact ⟨τ, H', J'.ofTry ok, q⟩
    | ret u =>
      obtain ⟨v, τ, H', J', r, q⟩ := hsp
      exact ⟨v, τ, H', J'.ofTry ok, r, q⟩
  obtain ⟨a, B, sI, pins', τ, G, cls, d, rfl, J0, nb, up, sky, na, os, ag, b, hany, hyes, hno⟩ := xx
  have J := J0.ofTry ok
  refine Sky.land Zc.steady frm hf (by rw [← hs]; exact sky) fun g1 fl1 up1 => ?_
  have I1 : Inv X pins τ G { s' with heap := g1 } := J.landed nb fl1.1 (up.trans up1) os ag
  obtain ⟨o1, v1, get1, z1, dat1⟩ := fl1.there
  have away : ∀ {g : Heap} {o : Obj} {v : Array Value}, g.FunFrames B (X.env :: X.outer) → g.get? a = some o → o.data = .fields v → a ∉ frs (X.env :: X.outer) := by
    intro g o v ff e1 e2 hm
    obtain ⟨_, o', e3, e4⟩ := ff.mem hm
    rw [e1] at e3
    cases e3
    exact e4 _ e2
  have far := away fl1.2.2.1 get1 dat1
  have nL : a ≠ X.env.locals := fun e => far (List.mem_filterMap.mpr ⟨X.env, List.mem_cons_self, by rw [hf, e]⟩)
  have nF : a ∉ X.fs := fun hm => by
    obtain ⟨e, he, hq⟩ := List.mem_filterMap.mp hm
    exact far (List.mem_filterMap.mpr ⟨e, List.mem_cons_of_mem _ he, hq⟩)
  have isC : PySem.W.Looks (model X.prog X.w) g1 (typeOf (.ref a)) cls := fun _ _ _ _ k q => wpAny_typeOf_ref (k _ _ get1) (by rw [z1.1]; exact q)
  have up2 := up.trans up1
  refine wpAny_handleBy_cons (codeAny_handlers_test ?_) (fun e => by cases e)
  refine name_run (Y := X.suite a ((a, o1) :: (X.pn ++ pins))) hc (I1.suite get1 dat1 na nL nF) ?_
  refine (PySem.W.exm_one (M := model X.prog X.w) I1.kIn isC hany).here ?_
  cases b with
  | false =>
    refine wpAny_handleBy_nil ?_
    obtain ⟨_, _, _, o, v, T, oT, l, e1, _, e3, e4, _⟩ := id fl1
    unfold PySem.passOn
    refine wpAny_bind (wpAny_field e1 e3 e4 ?_)
    rw [if_neg (by simp)]
    have last : wpAny (model X.prog X.w) X.A (setFlight (.ref a) X.env.frame) (fun _ s4 => wpAny (model X.prog X.w) X.A (throw (.ref a) : Sem Flow) (SP X pins D) X.xe s4) X.xe { s' with heap := g1 } := by
      rw [hf]
      exact HandSPX.setFlight_upZ fl1 fun g3 held up3 => wpAny_throw (tk _ _ ⟨a, B, sI, pins, τ, G, cls, d, rfl, J, nb, up2.trans up3, .inr (.inr (by rw [hs]; exact held)), na, os, ag, hno rfl⟩)
    first
      | exact wpAny_bind last
      | exact wpAny_bind (wpAny_pure (wpAny_bind last))
  | true =>
    refine codeAny_handlers_suite_as (HandSPX.lands_againZ fl1 fun g4 fl4 up4 => ?_)
    have I4 : Inv X pins τ G { s' with heap := g4 } := J.landed nb fl4.1 (up2.trans up4) os ag
    obtain ⟨o4, v4, get4, z4, dat4⟩ := fl4.there
    refine store_ok (X := X.suite a ((a, o4) :: (X.pn ++ pins))) (v := .ref a) (I4.suite get4 dat4 na nL nF) hN hi (.inl hln) rfl (fun s5 S5 => ?_) (.inr hln)
    refine wpAny_mono ((hsu a o4 cls d (X.pn ++ pins) z4 ⟨_, dat4⟩).run [] s5 _ G _ S5 (hyes rfl a na)) (fun f s6 hsp => ?_) fun _ _ z => z.elim
    have gone : ∀ {τ6 : L2.St} {G6 : Hp} {Q : Shared → Prop}, Inv (X.suite a ((a, o4) :: (X.pn ++ pins))) [] τ6 G6 s6 → (∀ s7, Inv X pins (τ6.set i none) G6 s7 → Q s7) →
        wpAny (model X.prog X.w) X.A (do bindName X.env n .none; unbindBehindTheSuite X.env n pos') (fun _ s7 => Q s7) X.xe s6 := fun S6 hq => gone_ok (S6.unsuite ok) hN hi hln hq
    cases f with
    | next =>
      obtain ⟨_, _, S6, q6⟩ := hsp
      exact gone S6 fun s7 J7 => ⟨_, _, J7, q6⟩
    | brk =>
      obtain ⟨_, _, S6, q6⟩ := hsp
      exact gone S6 fun s7 J7 => ⟨_, _, J7, q6⟩
    | cont =>
      obtain ⟨_, _, S6, q6⟩ := hsp
      exact gone S6 fun s7 J7 => ⟨_, _, J7, q6⟩
    | ret u =>
      obtain ⟨_, _, _, S6, r6, q6⟩ := hsp
      exact gone S6 fun s7 J7 => ⟨_, _, _, J7, r6, q6⟩
end
end My

namespace My
open PySem L2
/-! ### k07: what is read has good words, and as many brackets that open as close -/
/-- a word that a tree may have -/
def okW (z : List Nat) : Prop := (numOf z).isSome = true ∨ ∀ c ∈ z, 97 ≤ c ∧ c < 123
def It2.bad : It2 → Prop
  | .w z => ¬ okW z
  | .t r => r = none
theorem isName_let {x : List Nat} (h : isName (mkS x) = true) : ∀ c ∈ x, 97 ≤ c ∧ c < 123 := by
  unfold isName at h
  simp only [Bool.and_eq_true, decide_eq_true_eq, List.all_eq_true] at h
  intro c hc
  have := h.2 c (by rw [mkS_cps]; exact hc)
  unfold isLet at this
  simp only [Bool.and_eq_true, decide_eq_true_eq] at this
  exact this
theorem bad_tree {i : It2} (h : i.bad) : i.tree = none := by
  cases i with
  | t r => exact h
  | w z =>
    have h : ¬ okW z := h
    show (match numOf z with | some n => some (Tr.num n) | none => if isName (mkS z) = true then some (.name (mkS z)) else none) = none
    cases hn : numOf z with
    | some n => exact absurd (.inl (by rw [hn]; rfl)) h
    | none =>
      show (if isName (mkS z) = true then _ else none) = none
      rw [if_neg fun e => h (.inr (isName_let e))]
theorem bin_bad {f : Tr → Tr → Tr} {i j : It2} (h : i.bad ∨ j.bad) : binO f i.tree j.tree = none := by
  rcases h with h | h
  · rw [bad_tree h]; rfl
  · rw [bad_tree h]; cases i.tree <;> rfl
theorem tri_bad {f : Tr → Tr → Tr → Tr} {i j k : It2} (h : i.bad ∨ j.bad ∨ k.bad) : triO f i.tree j.tree k.tree = none := by
  rcases h with h | h | h
  · rw [bad_tree h]; rfl
  · rw [bad_tree h]; cases i.tree <;> rfl
  · rw [bad_tree h]; cases i.tree <;> cases j.tree <;> rfl
theorem body2_bad (h : List Nat) {i j : It2} (hb : i.bad ∨ j.bad) : body2 h i j = none := by
  unfold body2
  split
  · cases i with
    | t r => rfl
    | w x =>
      show (if isName (mkS x) = true then j.tree.map (Tr.fn (mkS x)) else none) = none
      split
      · rename_i hx
        rcases hb with hb | hb
        · exact absurd (.inr (isName_let hx)) hb
        · rw [bad_tree hb]; rfl
      · rfl
  · split
    · exact bin_bad hb
    · split
      · exact bin_bad hb
      · split
        · exact bin_bad hb
        · rfl
theorem body3_bad (h : List Nat) {i j k : It2} (hb : i.bad ∨ j.bad ∨ k.bad) : body3 h i j k = none := by
  unfold body3
  split
  · exact tri_bad hb
  · split
    · cases i with
      | t r => rfl
      | w x =>
        show (if isName (mkS x) = true then binO (.lt (mkS x)) j.tree k.tree else none) = none
        split
        · rename_i hx
          rcases hb with hb | hb | hb
          · exact absurd (.inr (isName_let hx)) hb
          · exact bin_bad (.inl hb)
          · exact bin_bad (.inr hb)
        · rfl
    · rfl
theorem key_ok {h : List Nat} (hb : ¬ okW h) : h ≠ wFun ∧ h ≠ wCall ∧ h ≠ wPlus ∧ h ≠ wLess ∧ h ≠ wIf ∧ h ≠ wLet :=
  ⟨fun e => hb (.inr (by rw [e]; decide)), fun e => hb (.inr (by rw [e]; decide)), fun e => hb (.inr (by rw [e]; decide)), fun e => hb (.inr (by rw [e]; decide)), fun e => hb (.inr (by rw [e]; decide)), fun e => hb (.inr (by rw [e]; decide))⟩
theorem node_bad {its : List It2} (h : ∃ i ∈ its, i.bad) : nodeO its = none := by
  obtain ⟨i, hi, hb⟩ := h
  cases its with
  | nil => cases hi
  | cons i0 rest =>
    cases i0 with
    | t r => rfl
    | w h0 =>
      show bodyO h0 rest = none
      rcases List.mem_cons.mp hi with rfl | hi
      · obtain ⟨n1, n2, n3, n4, n5, n6⟩ := key_ok hb
        exact body_no n1 n2 n3 n4 n5 n6 rest
      · match rest, hi with
        | [], hi => rfl
        | [_], hi => rfl
        | [a, b], hi =>
          refine body2_bad h0 ?_
          rcases List.mem_cons.mp hi with rfl | hi
          · exact .inl hb
          · rw [List.mem_singleton.mp hi] at hb; exact .inr hb
        | [a, b, c], hi =>
          refine body3_bad h0 ?_
          rcases List.mem_cons.mp hi with rfl | hi
          · exact .inl hb
          · rcases List.mem_cons.mp hi with rfl | hi
            · exact .inr (.inl hb)
            · rw [List.mem_singleton.mp hi] at hb; exact .inr (.inr hb)
        | _ :: _ :: _ :: _ :: _, hi => rfl
theorem end_bad {ar : List (List It2)} {its : List It2} (h : (∃ i ∈ its, i.bad) ∨ ∃ l ∈ ar, ∃ i ∈ l, i.bad) : endO (some (ar, its)) = none := by
  cases ar with
  | cons a ar => cases its <;> rfl
  | nil =>
    rcases h with ⟨i, hi, hb⟩ | ⟨l, hl, _⟩
    · match its, hi with
      | [j], hi =>
        rw [List.mem_singleton.mp hi] at hb
        show (match j.tree with | some t => if t.size ≤ 400 then some t else none | none => none) = none
        rw [bad_tree hb]
      | _ :: _ :: _, _ => rfl
    · cases hl
/-- a word of the line that no tree has: nothing is read -/
theorem run_bad : ∀ (ws : List (List Nat)) (ar : List (List It2)) (its : List It2), ((∃ i ∈ its, i.bad) ∨ (∃ l ∈ ar, ∃ i ∈ l, i.bad) ∨ ∃ z ∈ ws, z ≠ [40] ∧ z ≠ [41] ∧ ¬ okW z) → endO (runO ar its ws) = none
  | [], ar, its, h => end_bad (by
      rcases h with h | h | ⟨z, hz, _⟩
      · exact .inl h
      · exact .inr h
      · cases hz)
  | z :: r, ar, its, h => by
    unfold runO
    by_cases h40 : z = [40]
    · rw [if_pos h40]
      refine run_bad r _ _ ?_
      rcases h with h | ⟨l, hl, h⟩ | ⟨y, hy, h1, h2, h3⟩
      · exact .inr (.inl ⟨its, List.mem_cons_self, h⟩)
      · exact .inr (.inl ⟨l, List.mem_cons_of_mem _ hl, h⟩)
      · rcases List.mem_cons.mp hy with rfl | hy
        · exact absurd h40 h1
        · exact .inr (.inr ⟨y, hy, h1, h2, h3⟩)
    rw [if_neg h40]
    by_cases h41 : z = [41]
    · rw [if_pos h41]
      cases ar with
      | nil => rfl
      | cons up ar =>
        refine run_bad r _ _ ?_
        rcases h with h | ⟨l, hl, i, hi, hb⟩ | ⟨y, hy, h1, h2, h3⟩
        · exact .inl ⟨.t (nodeO its), by simp, node_bad h⟩
        · rcases List.mem_cons.mp hl with rfl | hl
          · exact .inl ⟨i, List.mem_append_left _ hi, hb⟩
          · exact .inr (.inl ⟨l, hl, i, hi, hb⟩)
        · rcases List.mem_cons.mp hy with rfl | hy
          · exact absurd h41 h2
          · exact .inr (.inr ⟨y, hy, h1, h2, h3⟩)
    rw [if_neg h41]
    refine run_bad r _ _ ?_
    rcases h with ⟨i, hi, hb⟩ | h | ⟨y, hy, h1, h2, h3⟩
    · exact .inl ⟨i, List.mem_append_left _ hi, hb⟩
    · exact .inr (.inl h)
    · rcases List.mem_cons.mp hy with rfl | hy
      · exact .inl ⟨.w y, by simp, h3⟩
      · exact .inr (.inr ⟨y, hy, h1, h2, h3⟩)
theorem read_bad {l z : List Nat} (hz : z ∈ scan [] l) (h1 : z ≠ [40]) (h2 : z ≠ [41]) (h3 : ¬ okW z) : readO l = none := run_bad _ _ _ (.inr (.inr ⟨z, hz, h1, h2, h3⟩))
/-! brackets -/
theorem run_count : ∀ (ws : List (List Nat)) (ar ar' : List (List It2)) (its its' : List It2), runO ar its ws = some (ar', its') → ar'.length + ws.count [41] = ar.length + ws.count [40]
  | [], ar, ar', its, its', h => by cases h; rfl
  | z :: r, ar, ar', its, its', h => by
    unfold runO at h
    by_cases h40 : z = [40]
    · rw [if_pos h40] at h
      subst h40
      have := run_count r _ _ _ _ h
      rw [List.count_cons_self, List.count_cons_of_ne (by decide)]
      simp only [List.length_cons] at this
      omega
    rw [if_neg h40] at h
    by_cases h41 : z = [41]
    · rw [if_pos h41] at h
      subst h41
      cases ar with
      | nil => cases h
      | cons up ar =>
        have := run_count r _ _ _ _ h
        rw [List.count_cons_self, List.count_cons_of_ne (by decide)]
        simp only [List.length_cons]
        omega
    rw [if_neg h41] at h
    have := run_count r _ _ _ _ h
    rw [List.count_cons_of_ne h41, List.count_cons_of_ne h40]
    exact this
theorem flush_count {acc : List Nat} {x : Nat} (h : x ∉ acc) : (flush acc).count [x] = 0 := by
  unfold flush
  split
  · rfl
  · rw [List.count_singleton]
    rw [if_neg]
    intro e
    have e := eq_of_beq e
    exact h (by rw [e]; exact List.mem_singleton.mpr rfl)
theorem scan_count {x : Nat} (hx : x = 40 ∨ x = 41) : ∀ (l acc : List Nat), x ∉ acc → (scan acc l).count [x] = l.count x
  | [], acc, h => flush_count h
  | y :: r, acc, h => by
    unfold scan
    by_cases h1 : y = 32
    · rw [if_pos h1, List.count_append, flush_count h, scan_count hx r [] (by simp), List.count_cons_of_ne (by omega)]
      omega
    rw [if_neg h1]
    by_cases h2 : y = 40 ∨ y = 41
    · rw [if_pos h2, List.count_append, flush_count h, List.count_cons, List.count_cons, scan_count hx r [] (by simp)]
      by_cases e : y = x
      · subst e; simp
      · have e2 : ¬ ([y] : List Nat) = [x] := fun z => e (by simpa using z)
        simp [e, e2]
    · rw [if_neg h2, scan_count hx r (acc ++ [y]) (by simp [h]; omega), List.count_cons_of_ne (by omega)]
theorem read_count {l : List Nat} (h : readO l ≠ none) : l.count 40 = l.count 41 := by
  unfold readO at h
  cases hr : runO [] [] (scan [] l) with
  | none => rw [hr] at h; exact absurd rfl h
  | some p =>
    obtain ⟨ar, its⟩ := p
    cases ar with
    | cons a ar => rw [hr] at h; exact absurd (by cases its <;> rfl) h
    | nil =>
      have := run_count _ _ _ _ _ hr
      rw [scan_count (.inl rfl) _ _ (by simp), scan_count (.inr rfl) _ _ (by simp)] at this
      simpa using this.symm
/-! signs -/
theorem scan_cover {c : Nat} (hc : c ≠ 32) : ∀ (l acc : List Nat), (c ∈ acc ∨ c ∈ l) → ∃ z ∈ scan acc l, c ∈ z
  | [], acc, h => by
    have h : c ∈ acc := by simpa using h
    refine ⟨acc, ?_, h⟩
    show acc ∈ flush acc
    unfold flush
    rw [if_neg (by intro e; rw [e] at h; cases h)]
    exact List.mem_singleton.mpr rfl
  | x :: r, acc, h => by
    have fl : c ∈ acc → ∃ z ∈ flush acc, c ∈ z := fun h => ⟨acc, by
      unfold flush
      rw [if_neg (by intro e; rw [e] at h; cases h)]
      exact List.mem_singleton.mpr rfl, h⟩
    unfold scan
    by_cases h1 : x = 32
    · rw [if_pos h1]
      rcases h with h | h
      · obtain ⟨z, hz, hcz⟩ := fl h
        exact ⟨z, List.mem_append_left _ hz, hcz⟩
      · rcases List.mem_cons.mp h with h | h
        · exact absurd (h.trans h1) hc
        · obtain ⟨z, hz, hcz⟩ := scan_cover hc r [] (.inr h)
          exact ⟨z, List.mem_append_right _ hz, hcz⟩
    rw [if_neg h1]
    by_cases h2 : x = 40 ∨ x = 41
    · rw [if_pos h2]
      rcases h with h | h
      · obtain ⟨z, hz, hcz⟩ := fl h
        exact ⟨z, List.mem_append_left _ hz, hcz⟩
      · rcases List.mem_cons.mp h with h | h
        · exact ⟨[x], by simp, by rw [h]; exact List.mem_singleton.mpr rfl⟩
        · obtain ⟨z, hz, hcz⟩ := scan_cover hc r [] (.inr h)
          exact ⟨z, List.mem_append_right _ (List.mem_cons_of_mem _ hz), hcz⟩
    · rw [if_neg h2]
      refine scan_cover hc r (acc ++ [x]) ?_
      rcases h with h | h
      · exact .inl (List.mem_append_left _ h)
      · rcases List.mem_cons.mp h with h | h
        · exact .inl (by rw [h]; simp)
        · exact .inr h
theorem numOf_signs {z : List Nat} (h : (numOf z).isSome = true) : ∀ c ∈ z, c = 45 ∨ 48 ≤ c ∧ c ≤ 57 := by
  unfold numOf at h
  split at h
  · rename_i e
    subst e
    intro c hc
    rw [List.mem_singleton.mp hc]
    omega
  · split at h
    · split at h
      · rename_i r ht
        simp only [Bool.and_eq_true, decide_eq_true_eq, List.all_eq_true] at ht
        intro c hc
        rcases List.mem_cons.mp hc with rfl | hc
        · exact .inl rfl
        · exact .inr (ht.1.1.1 c hc)
      · cases h
    · split at h
      · rename_i ht
        simp only [Bool.and_eq_true, decide_eq_true_eq, List.all_eq_true] at ht
        exact fun c hc => .inr (ht.1.1.1 c hc)
      · cases h
def okC (c : Nat) : Bool := c == 32 || c == 40 || c == 41 || c == 45 || (48 ≤ c && c ≤ 57) || (97 ≤ c && c < 123)
theorem read_sign {l : List Nat} {c : Nat} (hc : c ∈ l) (h : okC c = false) : readO l = none := by
  have h32 : c ≠ 32 := fun e => by subst e; cases h
  obtain ⟨z, hz, hcz⟩ := scan_cover h32 l [] (.inr hc)
  refine read_bad hz (fun e => ?_) (fun e => ?_) fun e => ?_
  · rw [e] at hcz; rw [List.mem_singleton.mp hcz] at h; cases h
  · rw [e] at hcz; rw [List.mem_singleton.mp hcz] at h; cases h
  · have h' : ¬ (c = 45) ∧ ¬ (48 ≤ c ∧ c ≤ 57) ∧ ¬ (97 ≤ c ∧ c < 123) := by
      unfold okC at h
      simp only [Bool.or_eq_false_iff, Bool.and_eq_false_iff, beq_eq_false_iff_ne, decide_eq_false_iff_not] at h
      omega
    rcases e with e | e
    · rcases numOf_signs e c hcz with e | e
      · exact h'.1 e
      · exact h'.2.1 e
    · exact h'.2.2 (e c hcz)
theorem readO_big {t : Tr} (g : Good t) (hs : 400 < t.size) {l : List Nat} (h : scan [] l = tks t) : readO l = none := by
  unfold readO
  have := runO_tks g (ar := []) (its := []) (r := [])
  rw [List.append_nil] at this
  rw [h, this]
  show (match (itmO t).tree with | some t => if t.size ≤ 400 then some t else none | none => none) = _
  rw [itmO_tree g]
  exact if_neg (by omega)
end My

namespace My
open PySem L2
def Rd (l : List Nat) : Prop := l.length ≤ 1000000 ∧ (scan [] l).length ≤ 3999 ∧ ∀ z ∈ scan [] l, z.length ≤ 10000
theorem rd_short {l : List Nat} (h : l.length ≤ 3999) : Rd l := by
  refine ⟨by omega, ?_, fun z hz => ?_⟩
  · have := scan_len l []
    simp only [List.length_nil] at this
    omega
  · have := scan_mem l [] hz
    simp only [List.length_nil] at this
    omega
theorem rd_tree {t : Tr} (g : Good t) (hs : t.size ≤ 900) : Rd (wr t) := by
  have h1 := wr_len (fine_of g)
  have h2 := tks_len t
  rw [Rd, scan_line g]
  exact ⟨by omega, by omega, tks_words g⟩
/-- the law's words for refusals -/
structure LT7 (K : PySem.W.Frag) (mg : Str → Option Value) (cX cM cT cC cB cN cF cD : Addr) : Prop extends Bt mg where
  cNoText : mg "NoText" = some (.ref cX)
  cMillError : mg "MillError" = some (.ref cM)
  cNoTree : mg "NoTree" = some (.ref cT)
  cNotClosed : mg "NotClosed" = some (.ref cC)
  cBadMost : mg "BadMost" = some (.ref cB)
  cNoNumber : mg "NoNumber" = some (.ref cN)
  cNoFunction : mg "NoFunction" = some (.ref cF)
  cDry : mg "Dry" = some (.ref cD)
  ex : ExcC K cX
  any1 : PySem.W.kitAny K (.ref cX) ([cT, cC, cB].map Value.ref) = some false
  any2 : PySem.W.kitAny K (.ref cX) ([cN, cF, cD].map Value.ref) = some false
  mm : PySem.W.kitOne K (.ref cX) (.ref cM) = some true
  vv : PySem.W.kitOne K (.ref cX) (.type "ValueError") = some true
  mC : PySem.W.exmOne K (.ref cX) (.ref cX) = some true
def spRef : Sp := fun vs H Q _ => ∃ v, vs = [v] ∧ ((∃ l : List Nat, v = .str (mkS l) ∧ Rd l ∧ readO l = none) ∨ (Kd H v ∧ ∀ z, v ≠ .str z)) ∧ ∀ H', Same H H' → Q (.bl true) H'
def spOdd : Sp := fun vs H Q _ => ∃ c : Int, vs = [.int c] ∧ ∀ (l : List Nat) (H' : Hp), Same H H' → Rd l → readO l = none → Q (.str (mkS l)) H'
def oddS : List Nat := [95, 43, 46, 44, 126, 58, 9, 10, 33, 63, 59, 39, 34, 96, 124, 42, 47, 92, 61, 60, 62, 91, 93, 123, 125, 35, 36, 38, 64, 94] ++ (List.range 26).map fun i => 90 - i
def spSigns : Sp := fun vs H Q _ => vs = [] ∧ ∀ H', Same H H' → Q (.str (mkS oddS)) H'
theorem odd_no : ∀ c ∈ oddS, okC c = false := by decide
def spNoBl : Sp := fun vs H Q _ => (∃ n : Int, vs = [.int n] ∧ (n = 1 ∨ n = 3)) ∧ ∀ H', Same H H' → Q (.bl true) H'
def oddT : List (List Nat) := ["", " ", "()", "( )", "(", ")", "(plus 1)", "(plus 1 2 3)", "(fun x)", "(fun 1 2)", "(fun (fun x x) x)", "(let x 1)", "(let 1 x x)", "(if 1 2)", "(if 1 2 3 4)", "(num 1)", "(name x)", "(1 2 3)", "(x 1 2)",
  "1 2", "x y", "(fun x x) 1", "007", "-0", "-", "--1", "+1", "1.0", "fun", "let", "name", "num", "abcdefghi", "xA", "x1", "1x", "(plus 1 2", "plus 1 2", "((plus 1 2))", "(plus 1\n2)", "call", "plus", "less", "if", "(fun plus plus)", "(let less 1 2)",
  "(fun abcdefghi 1)", "(let abcdefghi 1 2)", "(fun x1 2)", "(let x1 1 2)"].map fun s : String => s.toList.map Char.toNat
set_option maxRecDepth 1000000 in
theorem oddT_no : ∀ z ∈ oddT, z.length ≤ 100 ∧ readO z = none := by
  have h : oddT.all (fun z => decide (z.length ≤ 100) && (readO z).isNone) = true := by decide +kernel
  intro z hz
  have := List.all_eq_true.mp h z hz
  simp only [Bool.and_eq_true, decide_eq_true_eq, Option.isNone_iff_eq_none] at this
  exact this
def signsL : List Nat := ("0123456789zyxwvutsrqponmlkjihgfedcba-()".toList.map Char.toNat) ++ oddS
def pre1 : List Nat := "(if".toList.map Char.toNat
def post1 : List Nat := "xy (plus 10 z) 20)".toList.map Char.toNat
def pre3 : List Nat := "(if xy (plus".toList.map Char.toNat
def post3 : List Nat := "10 z) 20)".toList.map Char.toNat
set_option maxRecDepth 1000000 in
theorem blank_no1 : ∀ c ∈ signsL, readO (pre1 ++ [c] ++ post1) = none := by
  have h : signsL.all (fun c => (readO (pre1 ++ [c] ++ post1)).isNone) = true := by decide +kernel
  intro c hc
  exact Option.isNone_iff_eq_none.mp (List.all_eq_true.mp h c hc)
set_option maxRecDepth 1000000 in
theorem blank_no3 : ∀ c ∈ signsL, readO (pre3 ++ [c] ++ post3) = none := by
  have h : signsL.all (fun c => (readO (pre3 ++ [c] ++ post3)).isNone) = true := by decide +kernel
  intro c hc
  exact Option.isNone_iff_eq_none.mp (List.all_eq_true.mp h c hc)
theorem forS {l : List Nat} {g : TG} {tb : TS} {D : Ends} {σ : L2.St} {H : Hp} (Pv : Nat → L2.St → Hp → Prop) (h0 : Pv 0 σ H)
    (hs : ∀ i c σ H, l[i]? = some c → Pv i σ H → ∀ N : L2.St → Hp → Prop, (∀ σ' H', Pv (i + 1) σ' H' → N σ' H') → g (.str (mkS [c])) σ H fun σ2 H2 => tb { D with nx := N, ct := N, bk := D.nx } σ2 H2) (hd : ∀ σ H, Pv l.length σ H → D.nx σ H) : ForGo (Its (mkS l)) g tb D σ H := by
  have hz : (mkS l).cps.size = l.length := by show l.toArray.size = _; simp
  refine ⟨fun i m σ H => Pv i σ H ∧ i ≤ l.length ∧ m = l.length - i, ⟨_, h0, Nat.zero_le _, rfl⟩, ?_⟩
  rintro i m σ H ⟨hp, hi, rfl⟩
  by_cases he : i = l.length
  · subst he
    exact .inl ⟨Nat.le_of_eq hz, hd σ H hp⟩
  · refine .inr ⟨by show i < (mkS l).cps.size; omega, fun σ' H' => Pv (i + 1) σ' H', fun σ' H' h => ⟨l.length - (i + 1), by omega, h, by omega, rfl⟩, ?_⟩
    rintro x H' ⟨rfl, c, hc, rfl⟩
    refine hs i c σ H' ?_ hp _ fun _ _ z => z
    rw [← hc]
    show _ = (l.toArray)[i]?
    simp
def blankL : List Str := ["(if", "xy", "(plus", "10 z) 20)"]
theorem blank_cut {n : Int} (h : n = 1 ∨ n = 3) : ∃ (ys1 ys2 : List Str) (p q : List Nat), cutV (blankL.map V.str) none (some n) = ys1.map V.str ∧ cutV (blankL.map V.str) (some n) none = ys2.map V.str ∧ Txt.join " " ys1 = mkS p ∧ Txt.join " " ys2 = mkS q ∧
    (ys1.map (·.length)).sum + ys1.length * (Str.ofString " ").length ≤ 1000 ∧ (ys2.map (·.length)).sum + ys2.length * (Str.ofString " ").length ≤ 1000 ∧ p.length ≤ 100 ∧ q.length ≤ 100 ∧ ∀ c ∈ signsL, readO (p ++ [c] ++ q) = none := by
  rcases h with rfl | rfl
  · exact ⟨["(if"], ["xy", "(plus", "10 z) 20)"], pre1, post1, by decide +kernel, by decide +kernel, by decide +kernel, by decide +kernel, by decide +kernel, by decide +kernel, by decide +kernel, by decide +kernel, blank_no1⟩
  · exact ⟨["(if", "xy", "(plus"], ["10 z) 20)"], pre3, post3, by decide +kernel, by decide +kernel, by decide +kernel, by decide +kernel, by decide +kernel, by decide +kernel, by decide +kernel, by decide +kernel, blank_no3⟩
end My

namespace My
open PySem L2
def spGoodT (K : PySem.W.Frag) : Sp := fun vs H Q _ => ∃ (a : Addr) (ns : List Int), vs = [.ref a] ∧ SqL K H a (ns.map V.int) ∧ ns.length ≤ 8 ∧ ∀ (t : Tr) (H' : Hp), Same H H' → Good t → (ns ≠ [] → t.leaf = false) → t.size ≤ 1 + 3 * ns.length → Q (.str (mkS (wr t))) H'
def n7 : Int := 777777777777777777777777777777777777777777777777777777777777
theorem n7_num : numC n7 = List.replicate 60 55 := by decide +kernel
def deepT : Nat → Tr
  | 0 => .num n7
  | n + 1 => .fn "ab" (deepT n)
theorem deep_good : ∀ n, Good (deepT n)
  | 0 => ⟨by decide, by decide⟩
  | n + 1 => ⟨by decide +kernel, deep_good n⟩
theorem deep_size : ∀ n, (deepT n).size = n + 1
  | 0 => rfl
  | n + 1 => by
    show 1 + (deepT n).size = _
    rw [deep_size n]
    omega
def spLong : Sp := fun vs H Q _ => ∃ (size shape : Int), vs = [.int size, .int shape] ∧ 1 ≤ size ∧ size ≤ 404 ∧ 0 ≤ shape ∧ shape ≤ 3 ∧ ∀ (t : Tr) (H' : Hp), Same H H' → Good t → (t.size : Int) = size → (shape = 0 → ∃ n, t = deepT n) → Q (.str (mkS (wr t))) H'
def spSpoilt : Sp := fun vs H Q _ => ∃ (t : Tr) (c : Int), vs = [.str (mkS (wr t)), .int c] ∧ Good t ∧ t.leaf = false ∧ t.size ≤ 30 ∧ ∀ (l : List Nat) (H' : Hp), Same H H' → Rd l → readO l = none → Q (.str (mkS l)) H'
theorem lk_fun : Str.ofString "(fun ab " = mkS [40, 102, 117, 110, 32, 97, 98, 32] := by decide +kernel
theorem lk_let : Str.ofString "(let cd " = mkS [40, 108, 101, 116, 32, 99, 100, 32] := by decide +kernel
theorem lk_ef : Str.ofString " ef)" = mkS [32, 101, 102, 41] := by decide +kernel
theorem lk_plus1 : Str.ofString "(plus 1 " = mkS [40, 112, 108, 117, 115, 32, 49, 32] := by decide +kernel
theorem lk_let1 : Str.ofString "(let ab 1 " = mkS [40, 108, 101, 116, 32, 97, 98, 32, 49, 32] := by decide +kernel
theorem lk_call1 : Str.ofString "(call 1 " = mkS [40, 99, 97, 108, 108, 32, 49, 32] := by decide +kernel
theorem lk_less : Str.ofString "(less x " = mkS [40, 108, 101, 115, 115, 32, 120, 32] := by decide +kernel
theorem lk_x2 : Str.ofString " x 2)" = mkS [32, 120, 32, 50, 41] := by decide +kernel
theorem lk_x : Str.ofString "x" = mkS [120] := by decide +kernel
theorem lk_ab : (Str.ofString "ab").cps.toList = [97, 98] := by decide +kernel
theorem lk_cd : (Str.ofString "cd").cps.toList = [99, 100] := by decide +kernel
theorem lk_efn : (Str.ofString "ef").cps.toList = [101, 102] := by decide +kernel
theorem lk_xn : (Str.ofString "x").cps.toList = [120] := by decide +kernel
theorem numC1 : numC 1 = [49] := by decide +kernel
theorem numC2 : numC 2 = [50] := by decide +kernel
end My
namespace My
open PySem L2
theorem lead_bad {z : List Nat} (h : z ≠ []) : ¬ okW (48 :: z) ∧ ¬ okW (45 :: 48 :: z) := by
  constructor
  · intro e
    rcases e with e | e
    · unfold numOf at e
      rw [if_neg (by intro q; simp at q; exact h q)] at e
      split at e
      · rename_i hq; simp at hq
      · rw [if_neg (by simp)] at e
        cases e
    · have := e 48 List.mem_cons_self; omega
  · intro e
    rcases e with e | e
    · unfold numOf at e
      rw [if_neg (by intro q; simp at q)] at e
      split at e
      · rename_i r hq
        have hq : r = 48 :: z := by simpa using hq.symm
        subst hq
        rw [if_neg (by simp)] at e
        cases e
      · rename_i hq
        exact absurd rfl (hq (48 :: z))
    · have := e 45 List.mem_cons_self; omega
theorem scan_second {w L : List Nat} (hw : PW w) : w ∈ scan [] ([40, 112, 108, 117, 115, 32] ++ w ++ [32] ++ L ++ [41]) := by
  have e : [40, 112, 108, 117, 115, 32] ++ w ++ [32] ++ L ++ [41] = 40 :: ([112, 108, 117, 115] ++ 32 :: (w ++ 32 :: (L ++ [41]))) := by simp
  rw [e, scan_op, scan_word ⟨by decide, by decide⟩ e32, scan_sp, scan_word hw e32]
  simp
theorem lk_plus : Str.ofString "(plus " = mkS [40, 112, 108, 117, 115, 32] := by decide +kernel
theorem count_take {L : List Nat} {j x y : Nat} (h : L[j]? = some y) : L.count x = (L.take j ++ L.drop (j + 1)).count x + if y = x then 1 else 0 := by
  obtain ⟨h1, h2⟩ := List.getElem?_eq_some_iff.mp h
  have e : L = L.take j ++ y :: L.drop (j + 1) := by
    conv => lhs; rw [← List.take_append_drop j L]
    rw [List.drop_eq_getElem_cons h1, h2]
  conv => lhs; rw [e]
  rw [List.count_append, List.count_append, List.count_cons]
  by_cases hy : y = x
  · simp [hy]; omega
  · simp [hy]
theorem count_ins {L : List Nat} {j x y : Nat} : (L.take j ++ [y] ++ L.drop j).count x = L.count x + if y = x then 1 else 0 := by
  conv => rhs; rw [← List.take_append_drop j L]
  rw [List.count_append, List.count_append, List.count_append, List.count_singleton]
  by_cases hy : y = x
  · simp [hy]; omega
  · simp [hy]
theorem unbalanced {l : List Nat} (h : l.count 40 ≠ l.count 41) : readO l = none := by
  cases e : readO l with
  | none => rfl
  | some t => exact absurd (read_count (by rw [e]; exact fun z => by cases z)) h
end My

namespace My
open PySem PySem.Spec PyProof.Rows L2 CwR
open PyProof.Rows (envOfC)
/-! ### a text in a local name, its token known -/
section
variable {X : Cx} {pins : List (Addr × Obj)} {σ : L2.St} {H : Hp} {s : Shared}
theorem inv_put (I : Inv X pins σ H s) {i : Nat} {g : Str} {v : V} {u : Value} {m : Str → Option Value} {h' : Heap} (hN : X.N.Nodup) (hi : X.N[i]? = some g) (hk : X.env.kindOf g = some .local) (r : RelV v u)
    (look : ∀ (j : Nat) (y : Str) (v' : V), X.N[j]? = some y → σ[j]? = some (some v') → Vis X.env.scope y → ∃ u', RelV v' u' ∧ Look X.env s.heap m y u')
    (hn : h'.Ns X.env.locals fun y => if y = g then some u else m y) (hs : Heap.SameBut X.env.locals s.heap h') (t : Nat) : Inv X pins (σ.set i (some v)) H { s with heap := h', toks := t } := by
  have early : ∀ b o, X.s_0.heap.get? b = some o → b ≠ X.env.locals := fun b o e q => by
    subst q
    exact Nat.lt_irrefl _ (Nat.lt_of_lt_of_le (Heap.lt_size e) I.ok.above)
  have other : ∀ b, b ≠ X.env.locals → h'.get? b = s.heap.get? b := fun b hb => hs.2 b hb
  have cells : ∀ {y : Str} {c : Addr} {w : Option Value}, X.env.cells.lookup y = some c → s.heap.IsCell c w → h'.IsCell c w := fun e q => q.sameBut hs (I.cne _ _ e)
  have frame : ∃ o, s.heap.get? X.env.locals = some o := by
    obtain ⟨_, ⟨o, _, _, e, _⟩, _⟩ := I.loc
    exact ⟨o, e⟩
  exact {
    ok := I.ok
    os := I.os
    bare := I.bare
    base := {
      keep := fun b o e n hb hx => by rw [other b (early b o e)]; exact I.base.keep b o e n hb hx
      slot := fun b o e n hb hx => by rw [other b (early b o e)]; exact I.base.slot b o e n hb hx
      free := I.base.free
      there := fun b o e hx => by rw [other b (early b o e)]; exact I.base.there b o e hx
      tups := I.base.tups
      frzs := I.base.frzs
      tbls := I.base.tbls }
    loc := by
      refine ⟨_, hn, fun j y v' e1 e2 e3 => ?_⟩
      by_cases hj : i = j
      · subst hj
        rw [hi] at e1
        cases e1
        have hlt : i < σ.length := by
          rw [I.len]
          exact (List.getElem?_eq_some_iff.mp hi).1
        rw [List.getElem?_set_self hlt] at e2
        cases e2
        refine ⟨u, r, .inl ⟨hk, ?_⟩⟩
        show (if g = g then some u else _) = _
        rw [if_pos rfl]
      · rw [List.getElem?_set_ne hj] at e2
        obtain ⟨u', r', q⟩ := look j y v' e1 e2 e3
        have hy : y ≠ g := fun e => hj (by
          subst e
          exact nodup_ix hN hi e1)
        rcases q with ⟨q1, q2⟩ | ⟨q1, c, q2, q3⟩
        · refine ⟨u', r', .inl ⟨q1, ?_⟩⟩
          show (if y = g then some u else m y) = _
          rw [if_neg hy]
          exact q2
        · exact ⟨u', r', .inr ⟨q1, c, q2, cells q2 q3⟩⟩
    cell := fun y c e => ⟨_, cells e (I.cell y c e).choose_spec⟩
    free := I.free
    freeC := I.freeC
    pin := fun p hp => by
      obtain ⟨e, n, ne, nf, d⟩ := I.pin p hp
      exact ⟨by rw [← e]; exact other p.1 ne, n, ne, nf, d⟩
    hok := fun b o e => (I.hok b o e).stay (fun c w hc q => by
      have hcl : c ≠ X.env.locals := fun z => by
        subst z
        rcases hc with hc | hc
        · rw [← hc, I.free] at e; cases e
        · rw [I.free] at hc; cases hc
      exact (other c hcl).trans q) (fun _ q => q) fun _ _ q => q
    len := by rw [List.length_set]; exact I.len }
/-- the name g holds the text z, its token one of those given out ahead of T -/
def TokAt (X : Cx) (g : Str) (z : Str) (T : Nat) (h : Heap) : Prop := ∃ m t, h.Ns X.env.locals m ∧ m g = some (.str z t) ∧ 1 ≤ t ∧ t < T
theorem store_tok {i : Nat} {g z : Str} {t : Tok} {M : Model} {A : Around} {E : Value → Shared → Prop} {Q : Unit → Shared → Prop} (I : Inv X pins σ H s) (hN : X.N.Nodup) (hi : X.N[i]? = some g) (hk : X.env.kindOf g = some .local) (h1 : 1 ≤ t) (h2 : t < s.toks)
    (q : ∀ s', Inv X pins (σ.set i (some (.str z))) H s' → TokAt X g z s'.toks s'.heap → Q () s') : wpAny M A (storeName X.env g (.str z t)) Q E s := by
  obtain ⟨m, hm, look⟩ := id I.loc
  have kind : (X.env.scope.kind == .class || (X.env.scope.kind == .module && X.env.locals != X.env.globals)) = false := by rw [I.ok.kind]; rfl
  refine wpAny_storeName_local hk hm (fun h' hn hs => q _ (inv_put I hN hi hk (show RelV (.str z) (.str z t) from ⟨t, rfl⟩) look hn hs _) ⟨_, t, hn, ?_, h1, ?_⟩) kind
  · show (if g = g then some (Value.str z t) else _) = _
    rw [if_pos rfl]
  · exact Nat.lt_succ_of_lt h2
end
/-! ### readings that leave the heap as it is -/
def PEh (X : Cx) (e : Expr) (t : TE) : Prop :=
  ∀ (pins : List (Addr × Obj)) (s : Shared) (σ : L2.St) (H : Hp) (Q : VK), Inv X pins σ H s → t σ H Q → wpAny (model X.prog X.w) X.A (eval e X.env) (fun u s' => s'.heap = s.heap ∧ s.toks ≤ s'.toks ∧ EP X pins σ Q u s') X.xe s
def PAh (X : Cx) (es : List Expr) (t : TA) : Prop :=
  ∀ (pos : Pos) (pins : List (Addr × Obj)) (s : Shared) (σ : L2.St) (H : Hp) (Q : List V → Hp → Prop), Inv X pins σ H s → t σ H Q → wpAny (model X.prog X.w) X.A (spliced (backTo pos (starEach es X.env))) (fun us s' => s'.heap = s.heap ∧ s.toks ≤ s'.toks ∧ AP X pins σ Q us s') X.xe s
section
variable {X : Cx} {a b e : Expr} {es : List Expr} {ta tb te : TE} {t : TA} {pos p : Pos}
theorem peh_int {i : Int} {j : Nat} : PEh X (.Constant (.int i) j pos) (tC (.int i)) := fun _ s _ H _ I h => wpAny_Constant_int ⟨rfl, Nat.le_succ _, .int i, H, I.tok _, ⟨_, rfl⟩, h⟩
theorem peh_var {i : Nat} {x : Str} (hN : X.N[i]? = some x) (hv : Vis X.env.scope x) (hd : (x == ("__debug__" : Str)) = false := by decide) (hcd : (x == ("__classdict__" : Str)) = false := by decide) : PEh X (.Name x pos) (tVar i) := by
  intro pins s σ H Q I h
  obtain ⟨v, hσ, q⟩ := h
  exact raw_name hN hv I hσ (fun u r => ⟨rfl, Nat.le_refl _, v, H, I, r, q⟩) hd hcd
def rH (C : Int → Int → Prop) (g : Int → Int → Int) : R2 := fun x y H Q => ∃ i j, x = .int i ∧ y = .int j ∧ C i j ∧ Q (.int (g i j)) H
theorem peh_op {op : Operator} {C : Int → Int → Prop} {g : Int → Int → Int}
    (rule : ∀ (i j : Int) (t u : Tok) (s : Shared) (Q : Value → Shared → Prop) (E : Value → Shared → Prop), C i j → Q (.int (g i j) s.toks) { s with toks := s.toks + 1 } → wpAny (model X.prog X.w) X.A (binaryOp op (.int i t) (.int j u)) Q E s)
    (ha : PEh X a ta) (hb : PEh X b tb) : PEh X (.BinOp a op b pos) (tOp (rH C g) ta tb) := by
  intro pins s σ H Q I h
  refine wpAny_BinOp (thn (ha pins s σ H _ I h) fun v s1 ⟨k1, l1, x, H1, I1, r1, q1⟩ => ?_)
  refine thn (hb pins s1 σ H1 _ I1 q1) fun u s2 ⟨k2, l2, y, H2, I2, r2, q2⟩ => ?_
  obtain ⟨i, j, rfl, rfl, hc, q⟩ := q2
  obtain ⟨t1, rfl⟩ := r1
  obtain ⟨t2, rfl⟩ := r2
  exact rule i j t1 t2 s2 _ _ hc ⟨k2.trans k1, Nat.le_succ_of_le (Nat.le_trans l1 l2), .int (g i j), H2, I2.tok _, ⟨_, rfl⟩, q⟩
theorem peh_add (ha : PEh X a ta) (hb : PEh X b tb) : PEh X (.BinOp a .Add b pos) (tOp (rH (fun _ _ => True) fun i j => i + j) ta tb) := peh_op (fun _ _ _ _ _ _ _ _ q => add_int q) ha hb
theorem peh_fdiv (ha : PEh X a ta) (hb : PEh X b tb) : PEh X (.BinOp a .FloorDiv b pos) (tOp (rH CDiv fun i j => i / j) ta tb) := peh_op (fun i j _ _ _ _ _ hc q => by
  obtain ⟨h1, h2⟩ := (show 0 < j ∧ j < 1073741824 from hc)
  exact floordiv_int (by omega) (by rw [Int.fdiv_eq_ediv_of_nonneg i (by omega)]; exact q) (.inl (PyProof.noPylong_small (by omega)))) ha hb
theorem peh_mod (ha : PEh X a ta) (hb : PEh X b tb) : PEh X (.BinOp a .Mod b pos) (tOp (rH (fun _ j => 0 < j) fun i j => i % j) ta tb) := peh_op (fun i j _ _ _ _ _ hc q => by
  have h1 : (0 : Int) < j := hc
  exact mod_int' (by omega) (by rw [Int.fmod_eq_emod_of_nonneg i (by omega)]; exact q)) ha hb
theorem pah_nil : PAh X [] tNil := fun _ _ _ _ H Q I h => Calls.spliced_nil ⟨rfl, Nat.le_refl _, [], H, I, .nil, h⟩
theorem pah_cons (ha : PEh X e te) (hr : PAh X es t) (hs : starEach (e :: es) X.env = (false, eval e X.env) :: starEach es X.env := by rfl) : PAh X (e :: es) (tCons te t) := by
  intro pos pins s σ H Q I h
  rw [hs]
  show wpAny _ _ (spliced ((false, eval e X.env) :: backTo pos (starEach es X.env))) _ _ s
  refine Calls.spliced_cons (thn (ha pins s σ H _ I h) fun u s1 ⟨k1, l1, x, H1, I1, r1, q1⟩ => ?_)
  exact thn (hr pos pins s1 σ H1 _ I1 q1) fun us s2 ⟨k2, l2, xs, H2, I2, r2, q2⟩ => ⟨k2.trans k1, Nat.le_trans l1 l2, x :: xs, H2, I2, .cons r1 r2, q2⟩
/-- a def's call leaves the name's text as it is -/
theorem call_tok {j k : Nat} {x g z : Str} {T : Nat} {ps : List Str} {sp : Sp} (D : Df X.prog X.w X.K X.mg X.base j x ps sp) (hr : Room k X.A) (hj : j ≤ k) (hg : Gl X x) (ha : PAh X (e :: es) t) (hdb : (x == ("__debug__" : Str)) = false := by decide)
    (he : starEach (e :: es) X.env = (false, eval e X.env) :: starEach es X.env := by rfl) (hpl : (backTo pos (starEach es X.env)).any (·.1) = false := by rfl)
    {pins : List (Addr × Obj)} {s : Shared} {σ : L2.St} {H : Hp} {Q : VK} (I : Inv X pins σ H s) (hz : TokAt X g z T s.heap) (hT : T ≤ s.toks) (h : t σ H fun vs H1 => sp vs H1 Q E0) :
    wpAny (model X.prog X.w) X.A (eval (.Call (.Name x p) (e :: es) [] pos) X.env) (fun u s' => TokAt X g z T s'.heap ∧ T ≤ s'.toks ∧ EP X pins σ Q u s') X.xe s := by
  obtain ⟨f, fd, F, m, kp, bb⟩ := D.ex
  refine wpAny_Call_Name_kw (ld_glob I hg m ?_ hdb)
  refine PySem.W.callWith_K (h₀ := X.base) I.ok.mod.kin kp (thn (ha pos pins s σ H _ I h) fun us s1 ⟨k1, l1, vs, H1, I1, r, q⟩ => ⟨I1.kIn, ?_⟩) he hpl
  have hl : us.length = ps.length := by rw [← r.length]; exact F.len _ _ _ _ q
  have b2 := bb s1 us I1.kIn (by rw [List.append_nil]; exact hl)
  rw [List.append_nil] at b2
  have run := F.run X.A X.stack s1 H1 ⟨us, []⟩ us vs Q E0 (hr.mono hj) I1.env0 b2 r q
  have w : wpAny (model X.prog X.w) X.A (call (.ref f) us) (fun u s' => TokAt X g z T s'.heap ∧ EP X pins σ Q u s') X.xe s1 := by
    refine wpAny_call (codeAny_mono run fun r' s' hq => ?_)
    match r', hq with
    | .error _, hq => exact hq.elim
    | .ok (.ret u), hq =>
      refine ⟨?_, I1.after hq⟩
      obtain ⟨v, H', os, bare, un, hok, rv, q'⟩ := hq
      obtain ⟨m', t', hn, hm, h1, h2⟩ := hz
      obtain ⟨o, es', ep, ho, hd, hk⟩ := hn
      rw [← k1] at ho
      obtain ⟨sl, ho'⟩ := un.any ho I1.free (by simp)
      exact ⟨m', t', ⟨_, es', ep, ho', hd, hk⟩, hm, h1, h2⟩
    | .ok .next, hq => exact False.elim hq
    | .ok .brk, hq => exact False.elim hq
    | .ok .cont, hq => exact False.elim hq
  exact wpAny_mono (wpAny_toks_of (Nat.le_trans hT l1) w) (fun u s' h => ⟨h.2.1, h.1, h.2.2⟩) fun _ _ h => h.2
end
end My

namespace My
open PySem PySem.Spec PyProof.Rows L2 CwR
open PyProof.Rows (envOfC)
def s7 (n : Nat) : Str := mkS (List.replicate n 55)
theorem mul7 {n : Nat} (hn : 1 < n) (h2 : n ≤ 1000) : (⟨(List.replicate n (Str.ofString "7").cps).foldl (· ++ ·) #[]⟩ : Str) = s7 n := by
  rw [show (Str.ofString "7") = mkS [55] by decide +kernel]
  rw [mkS_of ⟨_⟩]
  show mkS ((List.replicate n (mkS [55]).cps).foldl (· ++ ·) #[]).toList = _
  rw [foldl_app, List.map_replicate]
  unfold s7
  congr 1
  show (List.replicate n [55]).flatten = _
  simp
section
variable {X : Cx}
/-- "7" * n, its token the newest one -/
theorem raw_7n {n : Nat} {j0 j1 : Nat} {c0 c1 mp : Pos} {s : Shared} {Q E : Value → Shared → Prop} (hn : 1 < n) (h2 : n ≤ 1000) (q : Q (.str (s7 n) (s.toks + 2)) { s with toks := s.toks + 3 }) :
    wpAny (model X.prog X.w) X.A (eval (.BinOp (.Constant (.str "7") j0 c0) .Mult (.Constant (.int (n : Int)) j1 c1) mp) X.env) Q E s := by
  refine wpAny_BinOp (Calls.Constant_str (wpAny_Constant_int ?_))
  have hl7 : (Str.ofString "7").length = 1 := by decide +kernel
  refine PySem.P.mul_str ?_ ?_ ?_ ?_
  · simp only [Bool.or_eq_false_iff, decide_eq_false_iff_not]
    omega
  · intro _ _
    rw [hl7]
    have : (2 ^ 63 - 1 : Int) / (n : Int) ≥ 1 := by
      rw [ge_iff_le, Int.le_ediv_iff_mul_le (by omega)]
      omega
    omega
  · intro _ _
    rw [hl7]
    unfold Builtin.Str.tooLong
    exact decide_eq_false (by rw [sizeLine_eq]; omega)
  · rw [if_neg (by omega), if_neg (by rw [hl7]; simp; omega), Int.toNat_natCast, mul7 hn h2]
    refine ⟨?_, q⟩
    unfold s7
    rw [mkS_len, List.length_replicate]
    exact szM (by omega)
variable {i j1 j2 k : Nat} {g lx rx : Str} {eL e : Expr} {es : List Expr} {teL : TE} {t1 : TA} {psl psr : List Str} {spL spR : Sp}
/-- g = eL + "7" * a; return r(f(..).replace("7" * b, g)) -/
def tGreat (i a b : Nat) (teL : TE) (t1 : TA) (spL spR : Sp) : TS := fun D σ H => teL σ H fun x H1 => ∃ zl, x = .str zl ∧ zl.length ≤ 1000 ∧ t1 (σ.set i (some (.str (zl ++ s7 a)))) H1 fun vs H2 =>
  spL vs H2 (fun y H3 => ∃ l, y = .str l ∧ l.length + (l.length + 1) * (zl ++ s7 a).length ≤ 16777216 ∧ (s7 b == zl ++ s7 a) = false ∧ spR [.str (Txt.replace l (s7 b) (zl ++ s7 a))] H3 D.rt E0) E0
theorem psst_great {a b : Nat} {k0 k1 k2 k3 : Nat} {c0 c1 c2 c3 gp bp bp2 ap cp lp atp mp gp2 p2 p3 rp retp : Pos} (ha1 : 1 < a) (ha2 : a ≤ 1000) (hb1 : 1 < b) (hb2 : b ≤ 1000)
    (hN : X.N.Nodup) (hi : X.N[i]? = some g) (hk : X.env.kindOf g = some .local) (heL : PE X eL teL)
    (DL : Df X.prog X.w X.K X.mg X.base j1 lx psl spL) (DR : DfT CX0 X.prog X.w X.K X.mg X.base j2 rx psr spR) (hr : Room k X.A) (hj1 : j1 ≤ k) (hj2 : j2 ≤ k) (hgl : Gl X lx) (hgr : Gl X rx) (hargs : PAh X (e :: es) t1)
    (hs : swapsWith (.BinOp eL .Add (.BinOp (.Constant (.str "7") k0 c0) .Mult (.Constant (.int (a : Int)) k1 c1) bp) bp2) (some (.Name g gp)) ap.line X.env = pure false := by rfl)
    (hdl : (lx == ("__debug__" : Str)) = false := by decide) (hdr : (rx == ("__debug__" : Str)) = false := by decide) (hdg : (g == ("__debug__" : Str)) = false := by decide)
    (hel : starEach (e :: es) X.env = (false, eval e X.env) :: starEach es X.env := by rfl) (hpl : (backTo cp (starEach es X.env)).any (·.1) = false := by rfl)
    (hst : starEach [.BinOp (.Constant (.str "7") k2 c2) .Mult (.Constant (.int (b : Int)) k3 c3) mp, .Name g gp2] X.env =
      [(false, eval (.BinOp (.Constant (.str "7") k2 c2) .Mult (.Constant (.int (b : Int)) k3 c3) mp) X.env), (false, eval (.Name g gp2) X.env)] := by rfl)
    (hbase : attributeBase (.Call (.Name lx lp) (e :: es) [] cp) "replace" X.env (eval (.Call (.Name lx lp) (e :: es) [] cp) X.env) = eval (.Call (.Name lx lp) (e :: es) [] cp) X.env := by rfl)
    (hline : (atp.endLine == p2.line) = true := by rfl)
    (her : starEach [.Call (.Attribute (.Call (.Name lx lp) (e :: es) [] cp) "replace" atp) [.BinOp (.Constant (.str "7") k2 c2) .Mult (.Constant (.int (b : Int)) k3 c3) mp, .Name g gp2] [] p2] X.env =
      (false, eval (.Call (.Attribute (.Call (.Name lx lp) (e :: es) [] cp) "replace" atp) [.BinOp (.Constant (.str "7") k2 c2) .Mult (.Constant (.int (b : Int)) k3 c3) mp, .Name g gp2] [] p2) X.env) :: starEach [] X.env := by rfl)
    (hpr : (backTo p3 (starEach [] X.env)).any (·.1) = false := by rfl) :
    PSsT X [.Assign [.Name g gp] (.BinOp eL .Add (.BinOp (.Constant (.str "7") k0 c0) .Mult (.Constant (.int (a : Int)) k1 c1) bp) bp2) ap,
      .Return (some (.Call (.Name rx rp) [.Call (.Attribute (.Call (.Name lx lp) (e :: es) [] cp) "replace" atp) [.BinOp (.Constant (.str "7") k2 c2) .Mult (.Constant (.int (b : Int)) k3 c3) mp, .Name g gp2] [] p2] [] p3)) retp] (tGreat i a b teL t1 spL spR) := by
  intro pins s σ H D hk1 I h
  refine wpAny_execs_cons (wpAny_Assign_Name (wpAny_BinOp (thn (heL.run pins s σ H _ I h) fun v s1 ⟨x, H1, I1, r1, q1⟩ => ?_)) hs)
  obtain ⟨zl, rfl, hzl, q1⟩ := q1
  obtain ⟨tl, rfl⟩ := r1
  refine raw_7n ha1 ha2 ?_
  -- behind the store
  have rest : ∀ s4 : Shared, Inv X pins (σ.set i (some (.str (zl ++ s7 a)))) H1 s4 → TokAt X g (zl ++ s7 a) s4.toks s4.heap → wpAny (model X.prog X.w) X.A (execs [.Return (some (.Call (.Name rx rp) [.Call (.Attribute (.Call (.Name lx lp) (e :: es) [] cp) "replace" atp) [.BinOp (.Constant (.str "7") k2 c2) .Mult (.Constant (.int (b : Int)) k3 c3) mp, .Name g gp2] [] p2] [] p3)) retp] X.env) (SP X pins D) X.xe s4 := by
    intro s4 I4 tok4
    refine wpAny_execs_cons (wpAny_Return_some ?_)
    suffices w : wpAny (model X.prog X.w) X.A (eval (.Call (.Name rx rp) [.Call (.Attribute (.Call (.Name lx lp) (e :: es) [] cp) "replace" atp) [.BinOp (.Constant (.str "7") k2 c2) .Mult (.Constant (.int (b : Int)) k3 c3) mp, .Name g gp2] [] p2] [] p3) X.env) (EP X pins (σ.set i (some (.str (zl ++ s7 a)))) D.rt) X.xe s4 from
      thn w fun v s5 ⟨x, H5, I5, r5, q5⟩ => ⟨x, _, H5, I5, r5, q5⟩
    obtain ⟨f, fd, FR, m, kp, bb⟩ := DR.ex
    refine wpAny_Call_Name_kw (ld_glob I4 hgr m ?_ hdr)
    refine PySem.W.callWith_K (h₀ := X.base) I4.ok.mod.kin kp ?_ her hpr
    rw [her]
    show wpAny _ _ (spliced ((false, _) :: backTo p3 (starEach [] X.env))) _ _ s4
    refine Calls.spliced_cons (PySem.Call_method2 hbase hst hline (thn (call_tok DL hr hj1 hgl hargs hdl hel hpl I4 tok4 (Nat.le_refl _) q1) fun v s5 ⟨tok5, l5, x5, H5, I5, r5, q5⟩ => ?_))
    obtain ⟨l, rfl, hb, hne, q5⟩ := q5
    obtain ⟨tx, rfl⟩ := r5
    obtain ⟨m5, t5, ns5, hm5, h51, h52⟩ := tok5
    refine ⟨"str", _, F.plainAttrs_str, F.slot_str_replace, F.type_str_replace, typeIs_str _ _ _, (fun _ e => nomatch e), Calls.callWith_builtin rfl (Calls.evalArgs_plain (Calls.spliced_cons ?_))⟩
    refine raw_7n hb1 hb2 ?_
    refine Calls.spliced_cons (wpAny_Name (wpAny_loadName_local I5.ok.kind hk ns5 hm5 (Calls.spliced_nil ?_)) hdg)
    have hlt : t5 < s5.toks := Nat.lt_of_lt_of_le h52 l5
    have hne5 : (s5.toks + 2 : Nat) ≠ t5 := fun e => Nat.lt_irrefl _ (Nat.lt_of_lt_of_le (e ▸ hlt : s5.toks + 2 < s5.toks) (Nat.le_add_right _ 2))
    refine wpAny_mono (tk1 (Q := fun u s' => ∃ t' n, u = Value.str (Txt.replace l (s7 b) (zl ++ s7 a)) t' ∧ s' = { s5 with toks := n }) (Nat.succ_le_succ (Nat.zero_le _)) (PySem.SC.replace (Nat.succ_ne_zero _) (Nat.pos_iff_ne_zero.mp h51) hne5 hne hb fun t' n => ⟨t', n, rfl, rfl⟩)) (fun u s' hq => ?_) fun _ _ z => z
    obtain ⟨h1, t', n, rfl, rfl⟩ := hq
    refine Calls.spliced_nil ⟨(I5.tok n).kIn, ?_⟩
    exact run_fnT (E := fun _ => E0) FR h1 (hr.mono hj2) bb at0T (I5.tok n) (.cons (show RelV (.str (Txt.replace l (s7 b) (zl ++ s7 a))) (.str _ t') from ⟨t', rfl⟩) .nil) q5
  refine PySem.P.add_str ?_
  have l7 : (s7 a).length = a := by unfold s7; rw [mkS_len, List.length_replicate]
  by_cases hz : zl.length = 0
  · have he : zl ++ s7 a = s7 a := by
      have : zl = mkS [] := by
        rw [mkS_of zl]
        congr 1
        exact List.length_eq_zero_iff.mp (by rw [← mkS_len, ← mkS_of]; exact hz)
      rw [this]
      unfold s7
      rw [mkS_app]
      rfl
    rw [if_pos (by simpa using hz), ← he]
    exact store_tok (I1.tok (s1.toks + 3)) hN hi hk (Nat.succ_le_succ (Nat.zero_le _)) (Nat.lt_succ_self _) fun s4 I4 tok4 => rest s4 I4 tok4
  · rw [if_neg (by simpa using hz), if_neg (by rw [l7]; simp; omega)]
    refine ⟨?_, store_tok (I1.tok (s1.toks + 4)) hN hi hk (Nat.succ_le_succ (Nat.zero_le _)) (Nat.lt_succ_self _) fun s4 I4 tok4 => rest s4 I4 tok4⟩
    show (zl ++ s7 a).length ≤ sizeLine
    rw [mkS_of zl]
    unfold s7
    rw [mkS_app, mkS_len, List.length_append, List.length_replicate]
    have : zl.cps.toList.length = zl.length := by show _ = zl.cps.size; simp
    exact szM (by omega)
end
end My

namespace My
open PySem L2
/-! ### the number of sixty-one figures within functions -/
def S60 : List Nat := List.replicate 60 55
def S61 : List Nat := List.replicate 61 55
def pre7 : Nat → List Nat
  | 0 => []
  | n + 1 => [40, 102, 117, 110, 32, 97, 98, 32] ++ pre7 n
theorem wr_deep : ∀ n, wr (deepT n) = pre7 n ++ (S60 ++ List.replicate n 41)
  | 0 => by
    rw [show wr (deepT 0) = numC n7 from rfl, n7_num]
    simp [pre7, S60]
  | n + 1 => by
    rw [show wr (deepT (n + 1)) = 40 :: (wFun ++ 32 :: ((Str.ofString "ab").cps.toList ++ 32 :: (wr (deepT n) ++ [41]))) from rfl, lk_ab, wr_deep n, List.replicate_succ']
    simp [pre7, wFun]
theorem repl_pass {r : List Nat} : ∀ (p q : List Nat), (∀ c ∈ p, c ≠ 55) → repl S60 r 0 (p ++ q) = p ++ repl S60 r 0 q
  | [], q, _ => rfl
  | c :: p, q, h => by
    have hc : c ≠ 55 := h c List.mem_cons_self
    rw [List.cons_append]
    conv => lhs; unfold repl
    have hp : TL.pre S60 (c :: (p ++ q)) = false := by
      unfold TL.pre S60
      rw [List.replicate_succ]
      simp [hc]
    rw [if_neg (by rw [hp]; decide), repl_pass p q fun x hx => h x (List.mem_cons_of_mem _ hx)]
    rfl
theorem repl_skip {r : List Nat} : ∀ (p q : List Nat), repl S60 r p.length (p ++ q) = repl S60 r 0 q
  | [], q => rfl
  | c :: p, q => repl_skip p q
theorem repl_hit {r q : List Nat} : repl S60 r 0 (S60 ++ q) = r ++ repl S60 r 0 q := by
  have e : S60 ++ q = 55 :: (List.replicate 59 55 ++ q) := by
    unfold S60
    rw [List.replicate_succ]
    rfl
  rw [e]
  conv => lhs; unfold repl
  have hp : TL.pre S60 (55 :: (List.replicate 59 55 ++ q)) = true := by
    rw [← e]
    unfold TL.pre
    simp
  rw [if_pos hp]
  have h2 := repl_skip (r := r) (List.replicate 59 55) q
  rw [List.length_replicate] at h2
  rw [show S60.length - 1 = 59 by decide, h2]
theorem pre7_no : ∀ n, ∀ c ∈ pre7 n, c ≠ 55
  | 0, c, h => by cases h
  | n + 1, c, h => by
    rcases List.mem_append.mp h with h | h
    · intro e; subst e; revert h; decide
    · exact pre7_no n c h
theorem repl_deep (r : List Nat) (n : Nat) : repl S60 r 0 (wr (deepT n)) = pre7 n ++ (r ++ List.replicate n 41) := by
  have h41 : ∀ c ∈ List.replicate n 41, c ≠ 55 := fun c hc => by rw [List.eq_of_mem_replicate hc]; decide
  have h := repl_pass (r := r) (List.replicate n 41) [] h41
  rw [List.append_nil] at h
  rw [wr_deep, repl_pass _ _ (pre7_no n), repl_hit, h]
  simp [repl]
theorem scan_pre7 {r : List Nat} (hr : PW r) : ∀ (n : Nat) (q : List Nat), Ends1 q → r ∈ scan [] (pre7 n ++ (r ++ q))
  | 0, q, hq => by
    show r ∈ scan [] (r ++ q)
    rw [scan_word hr hq]
    exact List.mem_cons_self
  | n + 1, q, hq => by
    have ih := scan_pre7 hr n q hq
    have e : pre7 (n + 1) ++ (r ++ q) = 40 :: ([102, 117, 110] ++ 32 :: ([97, 98] ++ 32 :: (pre7 n ++ (r ++ q)))) := by simp [pre7]
    rw [e, scan_op, scan_word ⟨by decide, by decide⟩ e32, scan_sp, scan_word ⟨by decide, by decide⟩ e32, scan_sp]
    exact List.mem_cons_of_mem _ (List.mem_cons_of_mem _ (List.mem_cons_of_mem _ ih))
theorem great_none {zl : List Nat} (hz : zl = [] ∨ zl = [45]) {n : Nat} (hn : n ≤ 100) : Rd (repl S60 (zl ++ S61) 0 (wr (deepT n))) ∧ readO (repl S60 (zl ++ S61) 0 (wr (deepT n))) = none := by
  rw [repl_deep]
  have hpl : ∀ n, (pre7 n).length = 8 * n := by
    intro n
    induction n with
    | zero => rfl
    | succ n ih => simp only [pre7, List.length_append, ih, List.length_cons, List.length_nil]; omega
  have hzl : zl.length ≤ 1 := by rcases hz with rfl | rfl <;> decide
  have hpw : PW (zl ++ S61) := by rcases hz with rfl | rfl <;> exact ⟨by decide, by decide⟩
  have hok : ¬ okW (zl ++ S61) := by
    intro e
    rcases e with e | e
    · rcases hz with rfl | rfl
      · exact absurd e (by decide +kernel)
      · exact absurd e (by decide +kernel)
    · have := e 55 (List.mem_append_right _ (by decide))
      omega
  have he : Ends1 (List.replicate n 41) := by
    cases n with
    | zero => trivial
    | succ n => exact .inr (.inr rfl)
  refine ⟨rd_short ?_, read_bad (scan_pre7 hpw n _ he) (fun e => ?_) (fun e => ?_) hok⟩
  · simp only [List.length_append, hpl, List.length_replicate, S61]; omega
  · exact absurd rfl (hpw.2 40 (by rw [e]; exact List.mem_singleton.mpr rfl)).2.1
  · exact absurd rfl (hpw.2 41 (by rw [e]; exact List.mem_singleton.mpr rfl)).2.2
theorem great_text {zl l : List Nat} : Txt.replace (mkS l) (s7 60) (mkS zl ++ s7 61) = mkS (repl S60 (zl ++ S61) 0 l) := by
  unfold s7
  rw [mkS_app, replace_pat _ _ _ (by decide) (fun c hc => by rw [List.eq_of_mem_replicate hc]; decide)]
  rfl
theorem great_ne (zl : List Nat) : (s7 60 == mkS zl ++ s7 61) = false := by
  rw [beq_eq_false_iff_ne]
  unfold s7
  rw [mkS_app]
  intro e
  have := congrArg List.length (mkS_inj e)
  simp only [List.length_append, List.length_replicate] at this
  omega
end My

namespace K07
open PySem L2 My
open PyProof.Rows (envOfC)
local macro_rules | `(tactic| walk_at "rd") => `(tactic| simp only [tCallS, CwR.tReplC, rEqT, rNewStrs, My.ife, My.tFor_eq, My.cx_K, My.cx_w, My.rRdK, My.rNeSelf, rIsi, tAsg, tDrop, tChain, tThenZ, kTyp, My.rInK, My.rMulS, iStr, sFld, sFldAug, tFld, tMe, tMkD, tCallE, tDZ, rDZ, tRevT, rAdd, sTail, tThen, kTup, tDisp, tPairs, tDIn, tDNotIn, V.ty.injEq, rAll, rU, tRet, tRetN, tIfS, tVar, tC, tOp, tUn, rI0, rI, rEq, rNe, CDiv, CMul, CPow, My.tTup_eq, My.tLst_eq, My.tDNewK_eq, My.tRevL_eq, My.tRevS, tM1, tM0, My.sz0, My.sz1, My.sz2, My.sz3, My.sz4, My.sz5, My.sz8, tCons, tNil, My.tCallD, tCB, gName, gTup, gCons, gNil, gSub, tTest, tB, tAnd, tOr, tNot, tIf, tAndV, tOrV, tNotV, rSetL, rSlS, rIxL, rIxT, rIxS, My.rSlT_eq, My.rSlL_eq, rIn, rCat, tLc_eq, iList, iTup, iRng1, iRng2, iRng3, wipe, List.map_cons, List.map_nil, tSl, tPart, tNoPart, tBM, tBM0, rAppend, My.rPopL, rExtend, My.rExtendT, tNext, tBreak, tCont, My.scal_ii, My.scal_ss, My.scal_bb, My.scal_is, My.scal_si, ipI, rListD, sDPut, tDGet, tDGet2, tAug, List.getElem?_cons_zero, List.getElem?_cons_succ, List.set_cons_zero, List.set_cons_succ, Option.some.injEq, exists_eq_left', exists_eq_left, V.int.injEq, V.ref.injEq, V.str.injEq, V.bl.injEq, exists_and_left, true_and, and_true, List.cons.injEq, exists_const, Bool.false_eq_true, ↓reduceIte, reduceCtorEq, false_and, and_assoc, decide_true, decide_false])
local macro_rules | `(tactic| walk_at "st") => `(tactic| (refine My.seq_ fun R hR => ?_))
local macro_rules | `(tactic| walk_at "sd") => `(tactic| repeat (first | refine ⟨by decide, ?_⟩ | refine ⟨.inl (by decide), ?_⟩))

def topS (i : Nat) : Stmt := PySem.Challenge.pw_closuremill_k07_texts_refused.main.body.getD i (.Pass ⟨0, 0, 0, 0⟩)
abbrev s_parts : Stmt := topS 17
abbrev N_parts : List Str := ["tree"]
theorem sc_parts : FnScope N_parts ["tree"] (defScope s_parts) := ⟨rfl, rfl, rfl, by decide +kernel, rfl, by decide +kernel, by decide +kernel⟩
theorem bd_parts : BindAll "parts" s_parts ["tree"] := fun _ _ _ _ _ _ us hl => match us, hl with | [_], _ => rfl
theorem st_parts (v0 : V) : start N_parts [v0] = [some v0] := rfl
abbrev s_need_tree : Stmt := topS 16
abbrev N_need_tree : List Str := ["tree", "count", "waiting", "node"]
theorem sc_need_tree : FnScope N_need_tree ["tree"] (defScope s_need_tree) := ⟨rfl, rfl, rfl, by decide +kernel, rfl, by decide +kernel, by decide +kernel⟩
theorem bd_need_tree : BindAll "need_tree" s_need_tree ["tree"] := fun _ _ _ _ _ _ us hl => match us, hl with | [_], _ => rfl
theorem st_need_tree (v0 : V) : start N_need_tree [v0] = [some v0, none, none, none] := rfl
abbrev s__is_node : Stmt := topS 18
abbrev N__is_node : List Str := ["node", "word"]
theorem sc__is_node : FnScope N__is_node ["node"] (defScope s__is_node) := ⟨rfl, rfl, rfl, by decide +kernel, rfl, by decide +kernel, by decide +kernel⟩
theorem bd__is_node : BindAll "_is_node" s__is_node ["node"] := fun _ _ _ _ _ _ us hl => match us, hl with | [_], _ => rfl
theorem st__is_node (v0 : V) : start N__is_node [v0] = [some v0, none] := rfl
abbrev s_is_number_trees : Stmt := topS 19
abbrev N_is_number_trees : List Str := ["n"]
theorem sc_is_number_trees : FnScope N_is_number_trees ["n"] (defScope s_is_number_trees) := ⟨rfl, rfl, rfl, by decide +kernel, rfl, by decide +kernel, by decide +kernel⟩
theorem bd_is_number_trees : BindAll "_is_number" s_is_number_trees ["n"] := fun _ _ _ _ _ _ us hl => match us, hl with | [_], _ => rfl
theorem st_is_number_trees (v0 : V) : start N_is_number_trees [v0] = [some v0] := rfl
abbrev s__is_name : Stmt := topS 21
abbrev N__is_name : List Str := ["x", "sign"]
theorem sc__is_name : FnScope N__is_name ["x"] (defScope s__is_name) := ⟨rfl, rfl, rfl, by decide +kernel, rfl, by decide +kernel, by decide +kernel⟩
theorem bd__is_name : BindAll "_is_name" s__is_name ["x"] := fun _ _ _ _ _ _ us hl => match us, hl with | [_], _ => rfl
theorem st__is_name (v0 : V) : start N__is_name [v0] = [some v0, none] := rfl
section
variable {P : Program} {w : World} {K : PySem.W.Frag} {mg : Str → Option Value} {base : Heap} {aL aS cT : Addr}
theorem df_num (T : PTxt K w mg aL aS cT) (F : FunQ K mg "is_number_trees" "_is_number" s_is_number_trees) : Df P w K mg base 1 "is_number_trees" ["n"] spNum := by
  refine F.df sc_is_number_trees bd_is_number_trees (fun vs H Q E h => ?_) (fun f cdv A outer s H vs Q E hr h => ?_)
  · obtain ⟨_, rfl, _⟩ := h; rfl
  obtain ⟨v, rfl, ⟨n, hn⟩, q⟩ := h
  have nd := sc_is_number_trees.nd
  refine ⟨_, (pss_one (ps_ret (pe_and (pe_cmpR op_isTy (pe_typeOf (by rfl) T.type (pv 0)) (pe_bltn (v := .ty "int") (by rfl) T.int (by decide +kernel) rfl) (nomark _)) (pe_one (pe_chain op_lt op_lt (pe_un un_neg (pe_gint (by rfl) T.TOO_GREAT)) (pv 0) (pe_gint (by rfl) T.TOO_GREAT)))))), ?_⟩
  rw [st_is_number_trees]
  walk_at "rd"
  refine ⟨n, hn, ?_⟩
  refine ⟨n, rfl, ?_⟩
  by_cases hi : n = "int"
  · subst hi
    obtain ⟨i, rfl⟩ := zTy_int hn
    rw [if_pos rfl]
    refine ⟨i, rfl, ?_⟩
    have e : numV (.int i) = (decide (-10 ^ 60 < i) && decide (i < 10 ^ 60)) := rfl
    by_cases h1 : -10 ^ 60 < i
    · rw [if_pos h1]
      rw [e, decide_eq_true h1, Bool.true_and] at q
      exact ⟨i, rfl, q⟩
    · rw [if_neg h1]
      rw [e, decide_eq_false h1, Bool.false_and] at q
      exact q
  · rw [if_neg hi]
    rw [num_no hn hi] at q
    exact q
theorem df_isname (T : PTxt K w mg aL aS cT) (F : FunAt K mg "_is_name" s__is_name) : Df P w K mg base 1 "_is_name" ["x"] spIsName := by
  refine F.df sc__is_name bd__is_name (fun vs H Q E h => ?_) (fun f cdv A outer s H vs Q E hr h => ?_)
  · obtain ⟨_, rfl, _⟩ := h; rfl
  obtain ⟨v, rfl, ⟨n, hn⟩, hx, q⟩ := h
  have nd := sc__is_name.nd
  refine ⟨_, (pss_cons (ps_if (PW.pt (pw_or (pt_cmpR op_isNotTy (pe_typeOf (by rfl) T.type (pv 0)) (pe_bltn (v := .ty "str") (by rfl) T.str (by decide +kernel) rfl) (nomark _)) (pw_or1 (pt_not (pt_chain op_le op_le pe_int (pe_callB call_len_str (by rfl) T.len PySem.boot_len (pa_cons (pv 0) pa_nil)) (pe_gint (by rfl) T.MOST_SIGNS))))))
    (pss_one (ps_ret pe_bl))
    pss_nil)
  (pss_one (ps_ret (pe_and (pe_cmpR (op_notIn_kde T.KLENGTHS) (pv 0) (pe_gref (by rfl) T.LENGTHS) rfl) (pe_one (pe_callB (cr_all rfl) (by rfl) T.all (by decide +kernel) (pa_cons (pe_lc (own := [("sign", 1)]) (g := gName 1) rfl nd (pi_str (pv 0)) (blkOk_by (N := N__is_name) (sc := defScope s__is_name) (by decide +kernel)) (fun _ _ _ _ _ => (pg_name (i := 1) nd rfl (Or.inl rfl))) (fun _ _ _ _ _ => pts_nil) (fun _ _ _ _ _ => (pe_cmpR op_in_sign (pv 1) (pe_gstr (by rfl) T.SIGNS) rfl))) pa_nil))))))), ?_⟩
  rw [st__is_name]
  refine seq_ fun R hR => ?_
  walk_at "rd"
  refine ⟨n, hn, n, rfl, ?_⟩
  by_cases hi : n = "str"
  · subst hi
    obtain ⟨x, rfl⟩ := zTy_str hn
    have hx := hx x rfl
    rw [if_neg (by decide)]
    refine ⟨x, rfl, szL (by omega), ?_⟩
    have e : nameV (.str x) = (decide (1 ≤ x.length) && decide (x.length ≤ 8) && (Wd.find x).isNone && x.cps.toList.all isLet) := rfl
    by_cases h1 : 1 ≤ x.length
    · rw [if_pos (by omega)]
      rw [e, decide_eq_true h1, Bool.true_and] at q
      by_cases h2 : x.length ≤ 8
      · rw [decide_eq_true h2, Bool.true_and] at q
        rw [decide_eq_true (by omega), if_neg (by decide), hR]
        clear hR
        walk_at "rd"
        obtain ⟨r, hr1, hr2⟩ := T.has x
        refine ⟨r.isSome, ⟨r, hr1, rfl⟩, ?_⟩
        rw [hr2]
        by_cases h3 : (Wd.find x).isSome = true
        · rw [h3, if_neg (by decide)]
          have : (Wd.find x).isNone = false := by
            cases h : Wd.find x with
            | none => rw [h] at h3; cases h3
            | some t => rfl
          rw [this, Bool.false_and] at q
          exact q _ (Same.refl _)
        · have h4 : (Wd.find x).isSome = false := by simpa using h3
          have : (Wd.find x).isNone = true := by
            cases h : Wd.find x with
            | none => rfl
            | some t => rw [h] at h4; cases h4
          rw [this, Bool.true_and] at q
          rw [h4, if_pos (by decide)]
          refine lcS (fun i acc _ => acc = ((x.cps.toList.take i).map isLet).map V.bl) (fun _ _ _ _ _ h => h) (by show x.length ≤ 100000; omega) (fun _ => rfl) rfl ?_ ?_
          · rintro i c acc H1 hc hi e1 rfl Qy hy Qn hn
            walk_at "rd"
            refine ⟨c, rfl, ?_⟩
            rw [in_abc]
            refine hy _ _ (Same.refl _) ?_
            have hc' : x.cps.toList[i]? = some c := by rw [Array.getElem?_toList]; exact hc
            show _ = ((x.cps.toList.take (i + 1)).map isLet).map V.bl
            rw [List.take_succ, hc', List.map_append, List.map_append]
            rfl
          · intro D ys H' hD e1 h1 h2
            rw [show x.cps.size = x.cps.toList.length from (Array.length_toList).symm, List.take_length] at h2
            subst h2
            refine ⟨D, rfl, _, SqL.of h1, ?_⟩
            rw [List.all_map]
            exact q _ e1
      · rw [decide_eq_false h2, Bool.false_and, Bool.false_and] at q
        rw [decide_eq_false (by omega), if_pos (by decide)]
        exact q _ (Same.refl _)
    · rw [if_neg (by omega), if_pos (by decide)]
      rw [e, decide_eq_false h1, Bool.false_and, Bool.false_and, Bool.false_and] at q
      exact q _ (Same.refl _)
  · rw [decide_eq_false hi, if_pos (by decide)]
    rw [name_no hn hi] at q
    exact q _ (Same.refl _)

theorem df_parts (T : PTxt K w mg aL aS cT) (F : FunAt K mg "parts" s_parts) : Df P w K mg base 1 "parts" ["tree"] spParts := by
  refine F.df sc_parts bd_parts (fun vs H Q E h => ?_) (fun f cdv A outer s H vs Q E hr h => ?_)
  · obtain ⟨_, _, _, _, rfl, _⟩ := h; rfl
  obtain ⟨t, a, own, ws, rfl, h1, h2, h3, q⟩ := h
  have nd := sc_parts.nd
  refine ⟨_, (pss_one (ps_ret (pe_callTy call_list_of (by rfl) T.list (by decide +kernel) (pa_cons (pe_slice sl_tup (pv 0) (po_some (pe_ix ix_kd (pe_gref (by rfl) T.STARTS) (pe_ix ix_tup (pv 0) pe_int (fun _ _ => rfl)) (fun _ _ => rfl))) po_none) pa_nil)))), ?_⟩
  rw [st_parts]
  walk_at "rd"
  refine ⟨_, SqT.of h1, _, at0 _ _, _, rfl, _, T.starts t, _, rfl, ?_⟩
  obtain ⟨n, e, h0, hd, hle⟩ := own_at (ws := ws) h2
  rw [e]
  refine ⟨_, SqT.of h1, not_whole h0 hle, fun p hp => ?_⟩
  rw [cut_from hle, hd]
  refine ⟨_, .inr (SqT.of upd_same), fun l hl => ?_⟩
  have hl0 : H l = none := Same.free (same_new hp) hl
  exact q l _ hl0 ((same_new hp).trans (same_new hl)) upd_same
theorem df_isnode (T : PTxt K w mg aL aS cT) (F : FunAt K mg "_is_node" s__is_node) (D_is_number_trees : Df P w K mg base 1 "is_number_trees" ["n"] spNum) (D__is_name : Df P w K mg base 1 "_is_name" ["x"] spIsName) :
    Df P w K mg base 2 "_is_node" ["node"] spIsNode := by
  refine F.df sc__is_node bd__is_node (fun vs H Q E h => ?_) (fun f cdv A outer s H vs Q E hr h => ?_)
  · obtain ⟨_, rfl, _⟩ := h; rfl
  obtain ⟨v, rfl, ⟨⟨n, hn⟩, hk⟩, hx, q⟩ := h
  have nd := sc__is_node.nd
  refine ⟨_, (pss_cons (ps_if (PW.pt (pw_or (pt_cmpR op_isNotTy (pe_typeOf (by rfl) T.type (pv 0)) (pe_bltn (v := .ty "tuple") (by rfl) T.tuple (by decide +kernel) rfl) (nomark _)) (pw_or1 (pt_cmpR op_eq (pe_callB call_len_seq (by rfl) T.len PySem.boot_len (pa_cons (pv 0) pa_nil)) pe_int (nomark _)))))
    (pss_one (ps_ret pe_bl))
    pss_nil)
  (pss_cons (ps_set (i := 1) nd rfl (Or.inl rfl) (pe_ix ix_tup (pv 0) pe_int (fun _ _ => rfl)))
  (pss_cons (ps_if (PW.pt (pw_or (pt_cmpR op_isNotTy (pe_typeOf (by rfl) T.type (pv 1)) (pe_bltn (v := .ty "str") (by rfl) T.str (by decide +kernel) rfl) (nomark _)) (pw_or1 (pt_cmpR (op_notIn_kde T.KLENGTHS) (pv 1) (pe_gref (by rfl) T.LENGTHS) rfl))))
    (pss_one (ps_ret pe_bl))
    pss_nil)
  (pss_cons (ps_if (pt_cmpR op_ne (pe_callB call_len_seq (by rfl) T.len PySem.boot_len (pa_cons (pv 0) pa_nil)) (pe_ix ix_kd (pe_gref (by rfl) T.LENGTHS) (pv 1) (fun _ _ => rfl)) (nomark _))
    (pss_one (ps_ret pe_bl))
    pss_nil)
  (pss_cons (ps_if (pt_cmpR op_eq (pv 1) pe_str (nomark _))
    (pss_one (ps_ret (pe_callD D_is_number_trees hr (by decide) rfl (pa_cons (pe_ix ix_tup (pv 0) pe_int (fun _ _ => rfl)) pa_nil))))
    pss_nil)
  (pss_cons (ps_if (PW.pt (pw_or (pt_cmpR op_eq (pv 1) pe_str (nomark _)) (pw_or (pt_cmpR op_eq (pv 1) pe_str (nomark _)) (pw_or1 (pt_cmpR op_eq (pv 1) pe_str (nomark _))))))
    (pss_one (ps_ret (pe_callD D__is_name hr (by decide) rfl (pa_cons (pe_ix ix_tup (pv 0) pe_int (fun _ _ => rfl)) pa_nil))))
    pss_nil)
  (pss_one (ps_ret pe_bl)))))))), ?_⟩
  rw [st__is_node]
  refine seq_ fun R hR => ?_
  walk_at "rd"
  refine ⟨n, hn, n, rfl, ?_⟩
  by_cases hi : n = "tuple"
  · subst hi
    obtain ⟨a, xs, rfl, ha⟩ := zTy_tup hn
    obtain ⟨hl, hk⟩ := hk a xs rfl ha
    have hx := fun x => hx a xs x rfl ha
    have hq : nodeV H (.ref a) = nodeC xs := by show (match H a with | some (.tup xs) => nodeC xs | _ => false) = _; rw [ha]
    rw [hq] at q
    rw [if_neg (by decide)]
    refine ⟨a, rfl, xs, .inr (SqT.of ha), ?_⟩
    cases xs with
    | nil =>
      rw [if_pos (by simp)]
      exact q _ (Same.refl _)
    | cons z r =>
    have hl1 : (((z :: r).length : Nat) : Int) = (r.length : Int) + 1 := by simp
    rw [if_neg (by omega), hR]
    clear hR
    refine seq_ fun R hR => ?_
    walk_at "rd"
    refine ⟨_, SqT.of ha, z, at0 _ _, ?_⟩
    rw [hR]; clear hR
    refine seq_ fun R hR => ?_
    walk_at "rd"
    obtain ⟨n, hz⟩ := hk z (by simp)
    refine ⟨n, hz, n, rfl, ?_⟩
    by_cases hi : n = "str"
    · subst hi
      obtain ⟨x, rfl⟩ := zTy_str hz
      rw [if_neg (by decide)]
      obtain ⟨o, hr1, hr2⟩ := T.has x
      refine ⟨x, rfl, o.isSome, ⟨o, hr1, rfl⟩, ?_⟩
      rw [hr2]
      cases hf : Wd.find x with
      | none =>
        rw [if_pos (by decide)]
        have e : nodeC (.str x :: r) = false := by rw [nodeC_str, hf]
        rw [e] at q
        exact q _ (Same.refl _)
      | some t =>
        rw [if_neg (by simp), hR]
        clear hR
        obtain rfl := Wd.of_find hf
        have e : nodeC (.str t.str :: r) = (decide ((r.length : Int) + 1 = t.len) && t.ownOk r) := by
          rw [nodeC_str, hf]
        rw [e] at q
        clear e
        refine seq_ fun R hR => ?_
        walk_at "rd"
        refine ⟨_, .inr (SqT.of ha), _, T.lengths t, ?_⟩
        refine ⟨rfl, ?_⟩
        by_cases hlen : (r.length : Int) + 1 = t.len
        · rw [if_neg (by rw [hl1, hlen]; simp), hR]
          clear hR
          rw [decide_eq_true hlen, Bool.true_and] at q
          cases r with
          | nil => exact absurd hlen (by cases t <;> decide)
          | cons y r =>
          obtain ⟨m, hy⟩ := hk y (by simp)
          have hy2 : ∀ x, y = .str x → x.length ≤ 10000 := fun x e => hx x (by rw [e]; simp)
          refine seq_ fun R hR => ?_
          walk_at "rd"
          by_cases e1 : t = .num
          · subst e1
            rw [if_pos (by rfl)]
            exact ⟨_, SqT.of ha, y, at1 _ _ _, y, rfl, ⟨m, hy⟩, q _ (Same.refl _)⟩
          · rw [if_neg (by cases t <;> first | exact absurd rfl e1 | decide +kernel), hR]
            clear hR
            refine seq_ fun R hR => ?_
            walk_at "rd"
            have hN : t.ownOk (y :: r) = nameV y → ∃ xs, SqT K H a xs ∧ ∃ z, atI xs 1 = some z ∧ spIsName [z] H Q E0 := fun e => ⟨_, SqT.of ha, y, at1 _ _ _, y, rfl, ⟨m, hy⟩, hy2, fun H' e1 => by rw [← e]; exact q H' e1⟩
            cases t with
            | num => exact absurd rfl e1
            | name => rw [if_pos (by rfl)]; exact hN rfl
            | fn => rw [if_neg (by decide +kernel), if_pos (by rfl)]; exact hN rfl
            | lt => rw [if_neg (by decide +kernel), if_neg (by decide +kernel), if_pos (by rfl)]; exact hN rfl
            | _ => rw [if_neg (by decide +kernel), if_neg (by decide +kernel), if_neg (by decide +kernel), hR]; walk_at "rd"; exact q _ (Same.refl _)
        · rw [if_pos (by rw [hl1]; simp [hlen])]
          rw [decide_eq_false hlen, Bool.false_and] at q
          exact q _ (Same.refl _)
    · rw [decide_eq_false hi, if_pos (by decide)]
      have e : nodeC (z :: r) = false := by
        cases z with
        | str x => exact absurd (Option.some.inj hz).symm hi
        | _ => rfl
      rw [e] at q
      exact q _ (Same.refl _)
  · rw [decide_eq_false hi, if_pos (by decide)]
    rw [node_no (by rw [hn]; intro z; exact hi (Option.some.inj z))] at q
    exact q _ (Same.refl _)
theorem df_need (T : PTxt K w mg aL aS cT) (F : FunAt K mg "need_tree" s_need_tree) (D_parts : Df P w K mg base 1 "parts" ["tree"] spParts) (D__is_node : Df P w K mg base 2 "_is_node" ["node"] spIsNode) :
    DfN P w K mg base 3 "need_tree" ["tree"] (spNeed cT) := by
  refine F.dfN sc_need_tree bd_need_tree (fun vs H Q E h => ?_) (fun f cdv A outer s H vs Q E hr h => ?_)
  · obtain ⟨_, _, _, rfl, _⟩ := h; rfl
  obtain ⟨v, n, b, rfl, hw, q, e⟩ := h
  have nd := sc_need_tree.nd
  refine ⟨_, (pss_cons (ps_set (i := 1) nd rfl (Or.inl rfl) pe_int)
  (pss_cons (ps_set (i := 2) nd rfl (Or.inl rfl) (pe_lst (pa_cons (pv 0) pa_nil)))
  (pss_cons (ps_while (passes_of rfl) (pt_truth (pv 2) (by intro _; rfl))
    (pss_cons (ps_set (i := 3) nd rfl (Or.inl rfl) (pe_bm0 PySem.F.plainAttrs_list PySem.F.slot_list_pop PySem.F.type_list_pop mt_popL (pv 2)))
      (pss_cons (ps_aug (i := 1) nd rfl (Or.inl rfl) pe_int ip_add)
      (pss_cons (ps_if (pt_cmpR op_gt (pv 1) (pe_gint (by rfl) T.MOST_NODES) (nomark _))
        (pss_one (L2N.ps_raise rfl (L2N.takes_of rfl rfl rfl rfl) (L2N.pmk_own PySem.F.excBase_ValueError T.NoTree.inn T.NoTree.c_ T.NoTree.k T.NoTree.r rfl)))
        pss_nil)
      (pss_cons (ps_if (pt_not (pt_val (pe_callD D__is_node hr (by decide) rfl (pa_cons (pv 3) pa_nil))))
        (pss_one (L2N.ps_raise rfl (L2N.takes_of rfl rfl rfl rfl) (L2N.pmk_own PySem.F.excBase_ValueError T.NoTree.inn T.NoTree.c_ T.NoTree.k T.NoTree.r rfl)))
        pss_nil)
      (pss_one (ps_expr (pe_bm PySem.F.plainAttrs_list PySem.F.slot_list_extend PySem.F.type_list_extend mt_extend (pv 2) (pa_cons (pe_callD D_parts hr (by decide) rfl (pa_cons (pv 3) pa_nil)) pa_nil)))))))))
  (pss_one (ps_ret (pv 0)))))), ?_⟩
  rw [st_need_tree]
  refine seq_ fun R hR => ?_
  walk_at "rd"
  rw [hR]; clear hR
  refine seq_ fun R hR => ?_
  walk_at "rd"
  refine new_ fun l H1 hl e1 h1 => ?_
  rw [hR]; clear hR
  refine seq_ fun R hR => ?_
  refine whileL_ (K := K) (i := 2) (fun m σ H' => ∃ (c : Nat) (xs : List V) (m' : Nat) (o : Option V), σ = [some v, some (.int c), some (.ref l), o] ∧ Same H H' ∧ H' l = some (.lst xs) ∧ Wks H xs m b ∧ c + m = n ∧ xs.length ≤ 1 + 3 * c ∧ c ≤ 400) n
    ⟨0, [v], 0, none, rfl, e1, h1, hw, by omega, by simp, by omega⟩ ?_
  rintro m σ H' ⟨c, xs, _, o, rfl, e2, h2, hwx, hcm, hxl, hc⟩
  refine ⟨l, xs, rfl, h2, fun hx => ?_, fun ys u hx N hN => ?_⟩
  · subst hx
    show R _ _
    rw [hR]
    walk_at "rd"
    cases hwx
    exact q (by omega) rfl _ e2
  · clear hR
    subst hx
    obtain ⟨n1, b1, n2, b2, g1, g2, rfl, rfl⟩ := hwx.snoc
    have hn2 : 0 < n2 := by
      rcases g2.one with ⟨_, rfl, _⟩ | ⟨_, _, _, _, _, _, _, _, _, _, _, _, _, rfl⟩ <;> omega
    refine seq_ fun R hR => ?_
    walk_at "rd"
    refine ⟨.inl ⟨rfl, _, SqL.of h2⟩, _, _, h2, ?_⟩
    have e3 : Same H (upd H' l (.lst ys)) := same_mut e2 hl
    have h3 : upd H' l (.lst ys) l = some (.lst ys) := upd_same
    generalize upd H' l (.lst ys) = H3 at e3 h3
    rw [hR]; clear hR
    refine seq_ fun R hR => ?_
    walk_at "rd"
    rw [hR]; clear hR
    refine ifq_ fun R A B hR hA hB => ?_
    walk_at "rd"
    by_cases hc4 : 400 < (c : Int) + 1
    · rw [if_pos hc4, hA]
      exact e (.inl (by omega)) _ e3
    rw [if_neg hc4, hB]
    clear hA hB
    walk_at "rd"
    rw [hR]; clear hR
    refine ifq_ fun R A B hR hA hB => ?_
    walk_at "rd"
    rcases g2.one with ⟨hbad, rfl, rfl⟩ | ⟨a, t, own, ws, m, rfl, ha, ho, hno, hkn, hst, hwl, hws, rfl⟩
    · have hb3 := hbad.same e3
      refine ⟨u, rfl, hb3.kn, hb3.sts, fun H4 e4 => ?_⟩
      rw [hb3.no]
      refine ⟨false, rfl, ?_⟩
      rw [if_pos (by decide), hA]
      exact e (.inr (by simp)) _ (e3.trans e4)
    · have ha3 : Kd H3 (.ref a) := hkn.1.same e3
      have hat : H3 a = H a := same_at e3 hkn.1
      refine ⟨.ref a, rfl, ⟨ha3, fun a' xs ea h' => ?_⟩, fun a' xs x ea h' hx => ?_, fun H4 e4 => ?_⟩
      · cases ea
        rw [hat] at h'
        obtain ⟨k1, k2⟩ := hkn.2 a xs rfl h'
        exact ⟨k1, fun x hx => (k2 x hx).same e3⟩
      · cases ea
        rw [hat] at h'
        exact hst a xs x rfl h' hx
      have hno3 : nodeV H3 (.ref a) = true := by
        show (match H3 a with | some (.tup xs) => nodeC xs | _ => false) = true
        rw [hat]
        exact hno
      rw [hno3]
      refine ⟨true, rfl, ?_⟩
      rw [if_neg (by decide), hB]
      clear hA hB
      walk_at "rd"
      rw [hR]; clear hR
      walk_at "rd"
      have e4' := e3.trans e4
      have h4 := e4 _ _ h3
      refine ⟨.inl ⟨rfl, _, SqL.of h4⟩, t, a, own, ws, rfl, e4' _ _ ha, ho, hwl, fun p H5 hp e5 h5 => ?_⟩
      walk_at "rd"
      have hyl : (ys ++ ws).length ≤ 1 + 3 * (c + 1) := by
        rw [List.length_append] at hxl ⊢
        simp only [List.length_singleton] at hxl
        omega
      have hyl2 := hyl
      rw [List.length_append] at hyl2
      refine ⟨_, e5 _ _ h4, _, h5, szL (by omega), ?_⟩
      refine hN (n1 + m) _ _ (by omega) ⟨c + 1, ys ++ ws, 0, _, rfl, same_mut (e4'.trans e5) hl, upd_same, g1.append hws, by omega, hyl, by omega⟩
end

abbrev s_is_number_notes : Stmt := topS 28
abbrev N_is_number_notes : List Str := ["word", "figures", "figure"]
theorem sc_is_number_notes : FnScope N_is_number_notes ["word"] (defScope s_is_number_notes) := ⟨rfl, rfl, rfl, by decide +kernel, rfl, by decide +kernel, by decide +kernel⟩
theorem bd_is_number_notes : BindAll "_is_number" s_is_number_notes ["word"] := fun _ _ _ _ _ _ us hl => match us, hl with | [_], _ => rfl
theorem st_is_number_notes (v0 : V) : start N_is_number_notes [v0] = [some v0, none, none] := rfl
section
variable {P : Program} {w : World} {K : PySem.W.Frag} {mg : Str → Option Value} {base : Heap} {aL aS cT cX : Addr}
theorem df_isn (T : NTxt K w mg aL aS cT cX) (F : FunQ K mg "is_number_notes" "_is_number" s_is_number_notes) : Df P w K mg base 1 "is_number_notes" ["word"] spIsN := by
  refine F.df sc_is_number_notes bd_is_number_notes (fun vs H Q E h => ?_) (fun f cdv A outer s H vs Q E hr h => ?_)
  · obtain ⟨_, rfl, _⟩ := h; rfl
  obtain ⟨z, rfl, hz, q⟩ := h
  have nd := sc_is_number_notes.nd
  refine ⟨_, (pss_cons (ps_set (i := 1) nd rfl (Or.inl rfl) (pe_bm PySem.F.plainAttrs_str PySem.F.slot_str_removeprefix PySem.F.type_str_removeprefix mt_removeprefix (pv 0) (pa_cons pe_str pa_nil)))
  (pss_cons (ps_if (pt_cmpR op_eq (pv 0) pe_str (nomark _))
    (pss_one (ps_ret pe_bl))
    pss_nil)
  (pss_cons (ps_if (PW.pt (pw_or (pt_not (pt_chain op_le op_le pe_int (pe_callB call_len_str (by rfl) T.len PySem.boot_len (pa_cons (pv 1) pa_nil)) (pe_gint (by rfl) T.MOST_FIGURES))) (pw_or1 (pt_cmpR op_eq (pe_ix ix_str (pv 1) pe_int (fun _ _ => rfl)) pe_str (nomark _)))))
    (pss_one (ps_ret pe_bl))
    pss_nil)
  (pss_one (ps_ret (pe_callB (cr_all rfl) (by rfl) T.all (by decide +kernel) (pa_cons (pe_lc (own := [("figure", 2)]) (g := gName 2) rfl nd (pi_str (pv 1)) (blkOk_by (N := N_is_number_notes) (sc := defScope s_is_number_notes) (by decide +kernel)) (fun _ _ _ _ _ => (pg_name (i := 2) nd rfl (Or.inl rfl))) (fun _ _ _ _ _ => pts_nil) (fun _ _ _ _ _ => (pe_cmpR op_in_sign (pv 2) (pe_gstr (by rfl) T.FIGURES) rfl))) pa_nil))))))), ?_⟩
  rw [st_is_number_notes]
  refine seq_ fun R hR => ?_
  walk_at "rd"
  refine ⟨rfl, by rw [mkS_len]; exact szL (by omega), ?_⟩
  rw [remove_minus, hR]; clear hR
  refine ifq_ fun R A B hR hA hB => ?_
  walk_at "rd"
  rw [show (Str.ofString "0") = mkS [48] by decide +kernel]
  by_cases h0 : z = [48]
  · subst h0
    rw [if_pos rfl, hA]; clear hA hB hR
    walk_at "rd"
    exact q _ (Same.refl _)
  rw [if_neg (fun e => h0 (mkS_inj e)), hB]; clear hA hB
  walk_at "rd"
  rw [hR]; clear hR
  have hnum : (numOf z).isSome = ((unMinus z).all (fun c => 48 ≤ c && c ≤ 57) && decide (unMinus z ≠ []) && decide ((unMinus z).head? ≠ some 48) && decide ((unMinus z).length ≤ 60)) := by
    unfold numOf
    rw [if_neg h0]
    split
    · rename_i r
      show _ = (r.all _ && _ && _ && _)
      split <;> simp_all [unMinus]
    · rename_i r hr
      have hu : unMinus z = z := by
        unfold unMinus
        split
        · rename_i r2; exact absurd rfl (hr r2)
        · rfl
      rw [hu]
      split <;> simp_all
  rw [hnum] at q
  have hlu : (unMinus z).length ≤ 100000 := by
    unfold unMinus
    split
    · simp only [List.length_cons] at hz; omega
    · omega
  generalize unMinus z = f at q hlu
  refine ifq_ fun R A B hR hA hB => ?_
  walk_at "rd"
  rw [mkS_len, mkS_cps]
  refine ⟨szL (by omega), ?_⟩
  cases f with
  | nil =>
    rw [if_neg (by simp), if_pos (by decide), hA]
    exact q _ (Same.refl _)
  | cons c r =>
    rw [if_pos (by simp only [List.length_cons]; omega)]
    by_cases h1 : (c :: r).length ≤ 60
    · rw [if_neg (by rw [decide_eq_true (by omega)]; decide)]
      refine ⟨szL (by omega), c, atI_nat (j := 0) rfl, ?_⟩
      rw [show (Str.ofString "0") = mkS [48] by decide +kernel, one_sign]
      by_cases h2 : c = 48
      · subst h2
        rw [if_pos rfl, hA]
        rw [decide_eq_false (show ¬ (48 :: r).head? ≠ some 48 from fun h => h rfl), Bool.and_false, Bool.false_and] at q
        exact q _ (Same.refl _)
      · rw [if_neg (fun e => h2 (by have := mkS_inj e; simpa using this)), hB]; clear hA hB
        walk_at "rd"
        rw [hR]; clear hR
        walk_at "rd"
        rw [decide_eq_true (show c :: r ≠ [] by simp), decide_eq_true (show (c :: r).head? ≠ some 48 by simpa using h2), decide_eq_true h1, Bool.and_true, Bool.and_true, Bool.and_true] at q
        generalize hx : mkS (c :: r) = x
        have hxl : x.cps.toList = c :: r := by rw [← hx]; rfl
        have hxn : x.length ≤ 100000 := by rw [← hx, mkS_len]; exact hlu
        rw [← hxl] at q
        refine lcS (fun i acc _ => acc = ((x.cps.toList.take i).map fun c => decide (48 ≤ c) && decide (c ≤ 57)).map V.bl) (fun _ _ _ _ _ h => h) (by show x.length ≤ 100000; omega) (fun _ => rfl) rfl ?_ ?_
        · rintro i k acc H1 hc hi e1 rfl Qy hy Qn hn
          walk_at "rd"
          refine ⟨k, rfl, ?_⟩
          rw [in_fig]
          refine hy _ _ (Same.refl _) ?_
          have hc' : x.cps.toList[i]? = some k := by rw [Array.getElem?_toList]; exact hc
          show _ = ((x.cps.toList.take (i + 1)).map fun c => decide (48 ≤ c) && decide (c ≤ 57)).map V.bl
          rw [List.take_succ, hc', List.map_append, List.map_append]
          rfl
        · intro D ys H' hD e1 h1 h2
          rw [show x.cps.size = x.cps.toList.length from (Array.length_toList).symm, List.take_length] at h2
          subst h2
          refine ⟨D, rfl, _, SqL.of h1, ?_⟩
          rw [List.all_map]
          exact q _ e1
    · rw [if_pos (by rw [decide_eq_false (by omega)]; decide), hA]
      rw [decide_eq_false h1, Bool.and_false] at q
      exact q _ (Same.refl _)
end

end K07

namespace K07
open PySem L2 My
open PyProof.Rows (envOfC)
local macro_rules | `(tactic| walk_at "rd") => `(tactic| simp only [tCallS, CwR.tReplC, rEqT, rNewStrs, My.ife, My.tFor_eq, My.cx_K, My.cx_w, My.rRdK, My.rNeSelf, rIsi, tAsg, tDrop, tChain, tThenZ, kTyp, My.rInK, My.rMulS, iStr, sFld, sFldAug, tFld, tMe, tMkD, tCallE, tDZ, rDZ, tRevT, rAdd, sTail, tThen, kTup, tDisp, tPairs, tDIn, tDNotIn, V.ty.injEq, rAll, rU, tRet, tRetN, tIfS, tVar, tC, tOp, tUn, rI0, rI, rEq, rNe, CDiv, CMul, CPow, My.tTup_eq, My.tLst_eq, My.tDNewK_eq, My.tRevL_eq, My.tRevS, tM1, tM0, My.sz0, My.sz1, My.sz2, My.sz3, My.sz4, My.sz5, My.sz8, tCons, tNil, My.tCallD, tCB, gName, gTup, gCons, gNil, gSub, tTest, tB, tAnd, tOr, tNot, tIf, tAndV, tOrV, tNotV, rSetL, rSlS, rIxL, rIxT, rIxS, My.rSlT_eq, My.rSlL_eq, rIn, rCat, tLc_eq, iList, iTup, iRng1, iRng2, iRng3, wipe, List.map_cons, List.map_nil, tSl, tPart, tNoPart, tBM, tBM0, rAppend, My.rPopL, rExtend, My.rExtendT, tNext, tBreak, tCont, My.scal_ii, My.scal_ss, My.scal_bb, My.scal_is, My.scal_si, ipI, rListD, sDPut, tDGet, tDGet2, tAug, List.getElem?_cons_zero, List.getElem?_cons_succ, List.set_cons_zero, List.set_cons_succ, Option.some.injEq, exists_eq_left', exists_eq_left, V.int.injEq, V.ref.injEq, V.str.injEq, V.bl.injEq, exists_and_left, true_and, and_true, List.cons.injEq, exists_const, Bool.false_eq_true, ↓reduceIte, reduceCtorEq, false_and, and_assoc, decide_true, decide_false])
local macro_rules | `(tactic| walk_at "st") => `(tactic| (refine My.seq_ fun R hR => ?_))
local macro_rules | `(tactic| walk_at "sd") => `(tactic| repeat (first | refine ⟨by decide, ?_⟩ | refine ⟨.inl (by decide), ?_⟩))

abbrev s__part : Stmt := topS 27
abbrev N__part : List Str := ["item"]
theorem sc__part : FnScope N__part ["item"] (defScope s__part) := ⟨rfl, rfl, rfl, by decide +kernel, rfl, by decide +kernel, by decide +kernel⟩
theorem bd__part : BindAll "_part" s__part ["item"] := fun _ _ _ _ _ _ us hl => match us, hl with | [_], _ => rfl
theorem st__part (v0 : V) : start N__part [v0] = [some v0] := rfl
abbrev s__node : Stmt := topS 26
abbrev N__node : List Str := ["items", "start", "item"]
theorem sc__node : FnScope N__node ["items"] (defScope s__node) := ⟨rfl, rfl, rfl, by decide +kernel, rfl, by decide +kernel, by decide +kernel⟩
theorem bd__node : BindAll "_node" s__node ["items"] := fun _ _ _ _ _ _ us hl => match us, hl with | [_], _ => rfl
theorem st__node (v0 : V) : start N__node [v0] = [some v0, none, none] := rfl
section
variable {P : Program} {w : World} {K : PySem.W.Frag} {mg : Str → Option Value} {base : Heap} {aL aS cT cX : Addr}
theorem df_part (T : NTxt K w mg aL aS cT cX) (F : FunAt K mg "_part" s__part) (D_is_number_notes : Df P w K mg base 1 "is_number_notes" ["word"] spIsN) : Df P w K mg base 2 "_part" ["item"] spPart := by
  refine F.df sc__part bd__part (fun vs H Q E h => ?_) (fun f cdv A outer s H vs Q E hr h => ?_)
  · obtain ⟨_, _, rfl, _⟩ := h; rfl
  obtain ⟨i, v, rfl, hi, q⟩ := h
  have nd := sc__part.nd
  refine ⟨_, (pss_cons (ps_if (pt_cmpR op_isNotTy (pe_typeOf (by rfl) T.type (pv 0)) (pe_bltn (v := .ty "str") (by rfl) T.str (by decide +kernel) rfl) (nomark _))
    (pss_one (ps_ret (pv 0)))
    pss_nil)
  (pss_cons (ps_if (pt_val (pe_callD D_is_number_notes hr (by decide) rfl (pa_cons (pv 0) pa_nil)))
    (pss_one (ps_ret (pe_tup (pa_cons pe_str (pa_cons (pe_callTy call_int_str (by rfl) T.int (by decide +kernel) (pa_cons (pv 0) pa_nil)) pa_nil)))))
    pss_nil)
  (pss_one (ps_ret (pe_tup (pa_cons pe_str (pa_cons (pv 0) pa_nil))))))), ?_⟩
  rw [st__part]
  refine ifq_ fun R A B hR hA hB => ?_
  walk_at "rd"
  cases i with
  | t r =>
    obtain ⟨a, xs, n, rfl, ha, hw⟩ := (show ∃ (a : Addr) (xs : List V) (n : Nat), v = .ref a ∧ H a = some (.tup xs) ∧ _ from hi)
    refine typ_ (n := "tuple") (by unfold zTyV; simp only [ha]) ⟨"tuple", rfl, ?_⟩
    rw [if_pos (by decide), hA]
    walk_at "rd"
    exact q _ _ (Same.refl _) hi
  | w z =>
    obtain ⟨rfl, hz⟩ := (show v = .str (mkS z) ∧ z.length ≤ 10000 from hi)
    refine typ_ (n := "str") rfl ⟨"str", rfl, ?_⟩
    rw [if_neg (by decide), hB]; clear hA hB
    walk_at "rd"
    rw [hR]; clear hR
    refine ifq_ fun R A B hR hA hB => ?_
    walk_at "rd"
    refine ⟨z, rfl, hz, fun H1 e1 => ⟨_, rfl, ?_⟩⟩
    cases hn : numOf z with
    | some n =>
      rw [if_pos (show (some n).isSome = true from rfl), hA]; clear hA hB hR
      walk_at "rd"
      obtain ⟨n1, n2⟩ := num_text hn
      refine ⟨n, n1, n2, new_ fun p H2 hp e2 g2 => ?_⟩
      exact q _ _ (e1.trans e2) (itR_num hn g2)
    | none =>
      rw [if_neg (by decide), hB]; clear hA hB
      walk_at "rd"
      rw [hR]; clear hR
      walk_at "rd"
      exact new_ fun p H2 hp e2 g2 => q _ _ (e1.trans e2) (itR_name hn hz g2)
theorem df_node (T : NTxt K w mg aL aS cT cX) (F : FunAt K mg "_node" s__node) (D__part : Df P w K mg base 2 "_part" ["item"] spPart) : Df P w K mg base 3 "_node" ["items"] (spNode K) := by
  refine F.df sc__node bd__node (fun vs H Q E h => ?_) (fun f cdv A outer s H vs Q E hr h => ?_)
  · obtain ⟨_, _, _, rfl, _⟩ := h; rfl
  obtain ⟨l, its, us, rfl, hl, hp, hn, q⟩ := h
  have nd := sc__node.nd
  refine ⟨_, (pss_cons (ps_if (pt_cmpR op_eq (pe_callB call_len_seq (by rfl) T.len PySem.boot_len (pa_cons (pv 0) pa_nil)) pe_int (nomark _))
    (pss_one (ps_ret (pe_tup pa_nil)))
    pss_nil)
  (pss_cons (ps_set (i := 1) nd rfl (Or.inl rfl) (pe_ifExp (PW.pt (pw_or (pt_cmpR (op_eqT (Nat.lt_of_le_of_lt (Nat.le_add_right _ 64) hr.units)) (pe_ix ix_list (pv 0) pe_int (fun _ _ => rfl)) pe_str (nomark _)) (pw_or1 (pt_cmpR (op_eqT (Nat.lt_of_le_of_lt (Nat.le_add_right _ 64) hr.units)) (pe_ix ix_list (pv 0) pe_int (fun _ _ => rfl)) pe_str (nomark _))))) pe_int pe_int))
  (pss_one (ps_ret (pe_tupleOf (by rfl) T.tuple (pe_op op_cat (pe_slice sl_list (pv 0) po_none (po_some (pv 1))) (pe_lc (own := [("item", 2)]) (g := gName 2) rfl nd (pi_list (pe_slice sl_list (pv 0) (po_some (pv 1)) po_none)) (blkOk_by (N := N__node) (sc := defScope s__node) (by decide +kernel)) (fun _ _ _ _ _ => (pg_name (i := 2) nd rfl (Or.inl rfl))) (fun _ _ _ _ _ => pts_nil) (fun _ _ _ _ _ => (pe_callD D__part hr (by decide) rfl (pa_cons (pv 2) pa_nil)))))))))), ?_⟩
  rw [st__node]
  have hul : us.length = its.length := (Paired.length hp).symm
  refine ifq_ fun R A B hR hA hB => ?_
  walk_at "rd"
  refine ⟨us, .inl (SqL.of hl), ?_⟩
  match its, us, hp, q, hn, hul, hl with
  | [], _, .nil, q, _, _, hl =>
    rw [if_pos (by decide), hA]
    walk_at "rd"
    refine new_ fun p H1 hp1 e1 g1 => ?_
    exact q _ _ e1 (bad_tup g1 (by simp) (fun x hx => by cases hx) rfl)
  | i0 :: rest, v0 :: vs, .cons h0 hp, q, hn, hul, hl =>
    rw [if_neg (by simp only [List.length_cons]; omega), hB]; clear hA hB
    walk_at "rd"
    rw [hR]; clear hR
    refine seq_ fun R hR => ?_
    walk_at "rd"
    suffices go : R [some (V.ref l), some (V.int ((startO i0 : Nat) : Int)), none] H by
      refine ⟨_, SqL.of hl, v0, at0 _ _, ?_⟩
      cases i0 with
      | t r =>
        obtain ⟨b, xs, n, rfl, hb, _⟩ := (show ∃ (a : Addr) (xs : List V) (n : Nat), v0 = .ref a ∧ H a = some (.tup xs) ∧ _ from h0)
        exact .inr ⟨b, rfl, xs, SqT.of hb, _, SqL.of hl, _, at0 _ _, .inr ⟨b, rfl, xs, SqT.of hb, go⟩⟩
      | w h =>
        obtain ⟨rfl, hz⟩ := (show v0 = .str (mkS h) ∧ h.length ≤ 10000 from h0)
        have ef : Str.ofString "fun" = mkS wFun := by decide +kernel
        have el : Str.ofString "let" = mkS wLet := by decide +kernel
        refine .inl ⟨rfl, ?_⟩
        rw [ef, el]
        by_cases e1 : h = wFun
        · rw [if_pos (by rw [e1])]
          rw [show startO (.w h) = 2 from if_pos (.inl e1)] at go
          exact go
        · rw [if_neg (fun z => e1 (mkS_inj (V.str.inj z)))]
          refine ⟨_, SqL.of hl, _, at0 _ _, .inl ⟨rfl, ?_⟩⟩
          by_cases e2 : h = wLet
          · rw [if_pos (by rw [e2])]
            rw [show startO (.w h) = 2 from if_pos (.inr e2)] at go
            exact go
          · rw [if_neg (fun z => e2 (mkS_inj (V.str.inj z)))]
            rw [show startO (.w h) = 1 from if_neg (by simp [e1, e2])] at go
            exact go
    rw [hR]; clear hR
    walk_at "rd"
    refine ⟨_, SqL.of hl, ?_⟩
    rw [cut_hi]
    refine new_ fun l1 H1 hl1 e1 g1 => ?_
    refine ⟨_, SqL.of (e1 _ _ hl), ?_⟩
    rw [cut_lo]
    refine new_ fun l2 H2 hl2 e2 g2 => ?_
    refine ⟨⟨_, SqL.of g2⟩, ?_⟩
    have e12 := e1.trans e2
    have hpd : Paired (ItR H2) ((i0 :: rest).drop (startO i0)) ((v0 :: vs).drop (startO i0)) := pr_drop (.cons (h0.same e12) (pr_mono hp fun a b h => h.same e12)) _
    generalize hds : (v0 :: vs).drop (startO i0) = ds at hpd g2
    generalize hjs : (i0 :: rest).drop (startO i0) = js at hpd
    have hdl : ds.length ≤ 4000 := by
      rw [← Paired.length hpd, ← hjs, List.length_drop]
      omega
    refine lcLU (fun i acc H => Paired (ItR H) ((js.take i).map fun i => It2.t i.tree) acc) (fun i acc H H' e h => pr_mono h fun _ _ z => z.same e) (fun i acc H D us ws hD h => pr_mono h fun _ _ z => z.up hD) (SqL.of g2) (by omega) (fun _ => rfl) .nil ?_ ?_
    · rintro i x acc H3 hi hai e3 hacc Qy hy Qn hn
      obtain ⟨t, ht, hx⟩ := pr_get hpd hi
      walk_at "rd"
      show (if true = true then spPart [x] H3 Qy E0 else Qn H3)
      rw [if_pos rfl]
      refine ⟨t, x, rfl, hx.same e3, fun r H4 e4 hr4 => hy _ _ e4 ?_⟩
      show Paired (ItR H4) ((js.take (i + 1)).map fun i => It2.t i.tree) (acc ++ [r])
      rw [List.take_succ, ht, List.map_append]
      exact pr_append (pr_mono hacc fun _ _ z => z.same e4) (.cons hr4 .nil)
    · intro D ys H3 hD e3 h3 hys
      rw [List.take_of_length_le (by rw [Paired.length hpd]; exact Nat.le_refl _)] at hys
      have hyl : ys.length ≤ 4000 := by
        rw [← Paired.length hys, List.length_map, Paired.length hpd]
        exact hdl
      refine ⟨D, rfl, _, e3 _ _ (e2 _ _ g1), _, h3, szL (by have := List.length_take_le' (startO i0) (v0 :: vs); simp only [List.length_cons] at hul this hn; omega), fun p hp4 => .inl ⟨_, SqL.of upd_same, fun b hb5 => ?_⟩⟩
      have e4 : Same H3 (upd H3 p (.lst ((v0 :: vs).take (startO i0) ++ ys))) := same_new hp4
      have e5 := e4.trans (same_new (o := .tup ((v0 :: vs).take (startO i0) ++ ys)) hb5)
      have eall := (e12.trans e3).trans e5
      refine q _ _ eall (node_made (h0.same eall) (pr_mono hp fun _ _ z => z.same eall) (us := ys) ?_ upd_same (by simp only [List.length_cons] at hn; omega))
      rw [hjs]
      exact pr_mono hys fun _ _ z => z.same e5
end

end K07

namespace K07
open PySem L2 My
open PyProof.Rows (envOfC)
local macro_rules | `(tactic| walk_at "rd") => `(tactic| simp only [tCallS, CwR.tReplC, rEqT, rNewStrs, My.ife, My.tFor_eq, My.cx_K, My.cx_w, My.rRdK, My.rNeSelf, rIsi, tAsg, tDrop, tChain, tThenZ, kTyp, My.rInK, My.rMulS, iStr, sFld, sFldAug, tFld, tMe, tMkD, tCallE, tDZ, rDZ, tRevT, rAdd, sTail, tThen, kTup, tDisp, tPairs, tDIn, tDNotIn, V.ty.injEq, rAll, rU, tRet, tRetN, tIfS, tVar, tC, tOp, tUn, rI0, rI, rEq, rNe, CDiv, CMul, CPow, My.tTup_eq, My.tLst_eq, My.tDNewK_eq, My.tRevL_eq, My.tRevS, tM1, tM0, My.sz0, My.sz1, My.sz2, My.sz3, My.sz4, My.sz5, My.sz8, tCons, tNil, My.tCallD, tCB, gName, gTup, gCons, gNil, gSub, tTest, tB, tAnd, tOr, tNot, tIf, tAndV, tOrV, tNotV, rSetL, rSlS, rIxL, rIxT, rIxS, My.rSlT_eq, My.rSlL_eq, rIn, rCat, tLc_eq, iList, iTup, iRng1, iRng2, iRng3, wipe, List.map_cons, List.map_nil, tSl, tPart, tNoPart, tBM, tBM0, rAppend, My.rPopL, rExtend, My.rExtendT, tNext, tBreak, tCont, My.scal_ii, My.scal_ss, My.scal_bb, My.scal_is, My.scal_si, ipI, rListD, sDPut, tDGet, tDGet2, tAug, List.getElem?_cons_zero, List.getElem?_cons_succ, List.set_cons_zero, List.set_cons_succ, Option.some.injEq, exists_eq_left', exists_eq_left, V.int.injEq, V.ref.injEq, V.str.injEq, V.bl.injEq, exists_and_left, true_and, and_true, List.cons.injEq, exists_const, Bool.false_eq_true, ↓reduceIte, reduceCtorEq, false_and, and_assoc, decide_true, decide_false])
local macro_rules | `(tactic| walk_at "st") => `(tactic| (refine My.seq_ fun R hR => ?_))
local macro_rules | `(tactic| walk_at "sd") => `(tactic| repeat (first | refine ⟨by decide, ?_⟩ | refine ⟨.inl (by decide), ?_⟩))

abbrev s_read : Stmt := topS 25
abbrev N_read : List Str := ["line", "around", "items", "word", "node"]
theorem sc_read : FnScope N_read ["line"] (defScope s_read) := ⟨rfl, rfl, rfl, by decide +kernel, rfl, by decide +kernel, by decide +kernel⟩
theorem bd_read : BindAll "read" s_read ["line"] := fun _ _ _ _ _ _ us hl => match us, hl with | [_], _ => rfl
theorem st_read (v0 : V) : start N_read [v0] = [some v0, none, none, none, none] := rfl
section
variable {P : Program} {w : World} {K : PySem.W.Frag} {mg : Str → Option Value} {base : Heap} {aL aS cT cX : Addr}
theorem df_read (T : NTxt K w mg aL aS cT cX) (F : FunAt K mg "read" s_read) (hxm : PySem.W.exmOne K (.ref cT) (.ref cT) = some true) (D_need_tree : DfN P w K mg base 3 "need_tree" ["tree"] (spNeed cT)) (D__part : Df P w K mg base 2 "_part" ["item"] spPart) (D__node : Df P w K mg base 3 "_node" ["items"] (spNode K)) :
    DfT (L2.CX P w) P w K mg base 4 "read" ["line"] (spRead cX) := by
  refine F.dfT sc_read bd_read (fun vs H Q E h => ?_) (fun f cdv A outer s H vs Q E hr h => ?_)
  · obtain ⟨_, rfl, _⟩ := h; rfl
  obtain ⟨v, rfl, h⟩ := h
  have nd := sc_read.nd
  refine ⟨_, (psst_cons (PST.of (ps_if (pt_cmpR op_isNotTy (pe_typeOf (by rfl) T.type (pv 0)) (pe_bltn (v := .ty "str") (by rfl) T.str (by decide +kernel) rfl) (nomark _))
    (pss_one (ps_raise rfl (takes_of rfl rfl rfl rfl) (pmk_own PySem.F.excBase_ValueError T.NoText.inn T.NoText.c_ T.NoText.k T.NoText.r rfl)))
    pss_nil))
  (psst_cons (PST.of (ps_set (i := 1) nd rfl (Or.inl rfl) (pe_lst pa_nil)))
  (psst_cons (PST.of (ps_set (i := 2) nd rfl (Or.inl rfl) (pe_lst pa_nil)))
  (psst_cons (pst_for (passes_of rfl) rfl (pit_list (pet_split (CwR.pet_replT (CwR.pet_replC (pv 0))) pe_str)) (pg_name (i := 3) nd rfl (Or.inl rfl))
    (pss_one (ps_if (pt_cmpR op_eq (pv 3) pe_str (nomark _))
        (pss_cons (ps_expr (pe_bm PySem.F.plainAttrs_list PySem.F.slot_list_append PySem.F.type_list_append mt_append (pv 1) (pa_cons (pv 2) pa_nil)))
          (pss_one (ps_set (i := 2) nd rfl (Or.inl rfl) (pe_lst pa_nil))))
        (pss_one (ps_if (pt_cmpR op_eq (pv 3) pe_str (nomark _))
            (pss_cons (ps_if (pt_cmpR op_eq (pe_callB call_len_seq (by rfl) T.len PySem.boot_len (pa_cons (pv 1) pa_nil)) pe_int (nomark _))
                (pss_one (ps_raise rfl (takes_of rfl rfl rfl rfl) (pmk_own PySem.F.excBase_ValueError T.NoText.inn T.NoText.c_ T.NoText.k T.NoText.r rfl)))
                pss_nil)
              (pss_cons (ps_set (i := 4) nd rfl (Or.inl rfl) (pe_callD D__node hr (by decide) rfl (pa_cons (pv 2) pa_nil)))
              (pss_cons (ps_set (i := 2) nd rfl (Or.inl rfl) (pe_bm0 PySem.F.plainAttrs_list PySem.F.slot_list_pop PySem.F.type_list_pop mt_popL (pv 1)))
              (pss_one (ps_expr (pe_bm PySem.F.plainAttrs_list PySem.F.slot_list_append PySem.F.type_list_append mt_append (pv 2) (pa_cons (pv 4) pa_nil)))))))
            (pss_one (ps_if (pt_cmpR op_ne (pv 3) pe_str (nomark _))
                (pss_one (ps_expr (pe_bm PySem.F.plainAttrs_list PySem.F.slot_list_append PySem.F.type_list_append mt_append (pv 2) (pa_cons (pv 3) pa_nil))))
                pss_nil)))))))
  (psst_cons (PST.of (ps_if (PW.pt (pw_or (pt_cmpR op_gt (pe_callB call_len_seq (by rfl) T.len PySem.boot_len (pa_cons (pv 1) pa_nil)) pe_int (nomark _)) (pw_or1 (pt_cmpR op_ne (pe_callB call_len_seq (by rfl) T.len PySem.boot_len (pa_cons (pv 2) pa_nil)) pe_int (nomark _)))))
    (pss_one (ps_raise rfl (takes_of rfl rfl rfl rfl) (pmk_own PySem.F.excBase_ValueError T.NoText.inn T.NoText.c_ T.NoText.k T.NoText.r rfl)))
    pss_nil))
  (CwR.psst_one (PST.of (L2H.ps_try_onlyX (tb := fun W => tRet (tCallS (spNeed cT) (WE W) (tCons (tCallD spPart (tCons (tOp (rIxL K) (tVar 2) (tC (.int 0))) tNil)) tNil))) (ts := fun a cls d => _) (Wout := fun cls d _ H => E cls d H) rfl rfl ⟨rfl, by decide, Or.inl T.NoTree.c_⟩ (L2H.passesAt_of rfl) (takes_of rfl rfl rfl rfl)
    (fun W pn xe tk tk3 _ => (pss_one (ps_ret (pe_callNS (E := WE W) D_need_tree hr (by decide) rfl (fun σ => L2N.passAt tk σ) (pa_cons (pe_callD D__part hr (by decide) rfl (pa_cons (pe_ix ix_list (pv 2) pe_int (fun _ _ => rfl)) pa_nil)) pa_nil)))))
    (fun a oe cls d pn hz hf tk2 hh => (pss_one (L2H.ps_raiseHN hh tk2 (pmk5_own PySem.F.excBase_ValueError T.NoText.inn T.NoText.c_ T.NoText.k T.NoText.r rfl)))))))))))), ?_⟩
  rw [st_read]
  refine ifq_ fun R A B hR hA hB => ?_
  walk_at "rd"
  rcases h with ⟨l, rfl, hll, hsc, hzs, q⟩ | ⟨⟨n, hn⟩, hs, e⟩
  rotate_left
  · have hne : n ≠ "str" := fun z => by subst z; obtain ⟨z, rfl⟩ := zTy_str hn; exact hs z rfl
    refine typ_ hn ⟨n, rfl, ?_⟩
    rw [if_pos (by rw [decide_eq_false hne]; rfl), hA]
    exact e
  refine typ_ (n := "str") rfl ⟨"str", rfl, ?_⟩
  rw [if_neg (by decide), hB]; clear hA hB
  walk_at "rd"
  rw [hR]; clear hR
  refine seq_ fun R hR => ?_
  walk_at "rd"
  refine new_ fun ar H1 har e1 g1 => ?_
  rw [hR]; clear hR
  refine seq_ fun R hR => ?_
  walk_at "rd"
  refine new_ fun cur H2 hcur e2 g2 => ?_
  rw [hR]; clear hR
  refine seq_ fun R hR => ?_
  walk_at "rd"
  rw [rep_one, rep_two, split_words]
  have p3 := padL_len l
  have p9 := padded_len l
  have hcl := cut_len 32 (padded l) []
  refine ⟨?_, ?_, ⟨_, rfl⟩, by decide, by rw [mkS_len]; exact Nat.le_trans (by omega : (padded l).length + 2 ≤ 9000002) (by decide), fun wl hwl => ⟨⟨_, SqL.of upd_same⟩, ?_⟩⟩
  · rw [mkS_len, show (Str.ofString " ( ").length = 3 by decide +kernel]; omega
  · rw [mkS_len, show (Str.ofString " ) ").length = 3 by decide +kernel]; omega
  generalize hWs : (((cutAt 32 [] (padded l)).map mkS).map V.str) = Ws
  have e3 : Same H2 (upd H2 wl (.lst Ws)) := same_new hwl
  have g3 : upd H2 wl (.lst Ws) wl = some (.lst Ws) := upd_same
  generalize upd H2 wl (.lst Ws) = H3 at e3 g3
  have har3 := e3 _ _ (e2 _ _ g1)
  have hcur3 := e3 _ _ g2
  have R0 : RdI H wl ar cur Ws [] [] H3 := RdI.start ((e1.trans e2).trans e3) g3 har3 hcur3 (fun z => by rw [z, e2 _ _ g1] at hwl; cases hwl) (fun z => by rw [z, g2] at hwl; cases hwl) (fun z => by rw [← z, g1] at hcur; cases hcur) har (Same.free e1 hcur)
  clear har3 hcur3 g3 hwl g1 g2 hcur har e1 e2 e3
  refine forL (xs := Ws) (fun i σ H' => ∃ (cur : Addr) (stk : List (Addr × List It2)) (its : List It2) (o3 o4 : Option V), σ = [some (V.str (mkS l)), some (V.ref ar), some (V.ref cur), o3, o4] ∧ RdI H wl ar cur Ws stk its H' ∧
      its.length + (stk.map fun q => q.2.length).sum + stk.length + (restW l i).length ≤ 3999 ∧ runO (stk.map (·.2)) its (restW l i) = runO [] [] (scan [] l)) ⟨cur, [], [], none, none, rfl, R0, ?_, ?_⟩ ?_ ?_ ?_
  · rw [rest0]
    simp only [List.length_nil, List.map_nil, List.sum_nil]
    omega
  · rw [rest0]; rfl
  · rintro i σ H' hi ⟨cur, stk, its, o3, o4, rfl, RI, _⟩
    exact SqL.of RI.hw
  · rintro i x σ H' hi ⟨cur, stk, its, o3, o4, rfl, RI, hml, hrun⟩ N hN
    obtain ⟨z, hz, rfl⟩ : ∃ z, (cutAt 32 [] (padded l))[i]? = some z ∧ x = V.str (mkS z) := by
      rw [← hWs, List.getElem?_map, List.getElem?_map] at hi
      cases h : (cutAt 32 [] (padded l))[i]? with
      | none => rw [h] at hi; cases hi
      | some z => rw [h] at hi; exact ⟨z, rfl, (Option.some.inj hi).symm⟩
    have hst := rest_step hz
    refine ifs_ fun A B hA hB => ?_
    walk_at "rd"
    rw [show Str.ofString "(" = mkS [40] by decide +kernel]
    by_cases h40 : z = [40]
    · subst h40
      rw [if_pos rfl, hA]; clear hA hB
      rw [if_neg (by decide)] at hst
      refine seq_ fun R1 hR1 => ?_
      walk_at "rd"
      refine ⟨.inl ⟨rfl, _, SqL.of RI.ha⟩, _, RI.ha, szLt (by rw [List.length_reverse, List.length_map]; omega), ?_⟩
      rw [hR1]; clear hR1
      walk_at "rd"
      intro p hp
      refine hN _ _ ⟨p, (cur, its) :: stk, [], some (V.str (mkS [40])), o4, rfl, RI.push hp, ?_, ?_⟩
      · rw [hst] at hml
        simp only [List.map_cons, List.sum_cons, List.length_nil, List.length_cons] at hml ⊢
        omega
      · rw [hst, runO_open] at hrun
        exact hrun
    rw [if_neg (fun e => h40 (mkS_inj e)), hB]; clear hA hB
    refine ifs_ fun A B hA hB => ?_
    walk_at "rd"
    rw [show Str.ofString ")" = mkS [41] by decide +kernel]
    by_cases h41 : z = [41]
    · subst h41
      rw [if_pos rfl, hA]; clear hA hB
      rw [if_neg (by decide)] at hst
      refine ifq_ fun R1 A B hR1 hA hB => ?_
      walk_at "rd"
      refine ⟨_, .inl (SqL.of RI.ha), ?_⟩
      rw [List.length_reverse, List.length_map]
      cases stk with
      | nil =>
        rw [if_pos (by decide), hA]
        refine (q _ RI.same).2 ?_
        unfold readO
        rw [← hrun, hst]
        rfl
      | cons up stk =>
        obtain ⟨p, up⟩ := up
        rw [if_neg (by simp only [List.length_cons]; omega), hB]; clear hA hB
        show R1 _ _
        rw [hR1]; clear hR1
        refine seq_ fun R1 hR1 => ?_
        walk_at "rd"
        obtain ⟨us, h1, h2⟩ := RI.hc
        refine ⟨cur, its, us, rfl, h1, h2, by omega, fun r H4 e4 hr4 => ?_⟩
        have RI4 := RI.ext e4
        rw [hR1]; clear hR1
        refine seq_ fun R1 hR1 => ?_
        walk_at "rd"
        have ha4 := RI4.ha
        rw [List.map_cons, List.reverse_cons] at ha4
        refine ⟨.inl ⟨rfl, _, SqL.of ha4⟩, _, _, ha4, ?_⟩
        have RI5 := RI4.pop
        rw [hR1]; clear hR1
        walk_at "rd"
        obtain ⟨us', k1, k2⟩ := RI5.hc
        have hlu : us'.length = up.length := (Paired.length k2).symm
        simp only [List.map_cons, List.sum_cons, List.length_cons] at hml
        refine ⟨.inl ⟨rfl, _, SqL.of k1⟩, _, k1, szLt (by omega), ?_⟩
        refine hN _ _ ⟨p, stk, up ++ [.t (nodeO its)], some (V.str (mkS [41])), some r, rfl, RI5.word k1 (hr4.up ha4), ?_, ?_⟩
        · rw [hst] at hml
          simp only [List.length_append, List.length_cons, List.length_nil] at hml ⊢
          omega
        · rw [hst, List.map_cons, runO_close] at hrun
          exact hrun
    rw [if_neg (fun e => h41 (mkS_inj e)), hB]; clear hA hB
    walk_at "rd"
    rw [show Str.ofString "" = mkS [] by decide +kernel]
    by_cases h0 : z = []
    · subst h0
      rw [if_neg (by decide)]
      rw [if_pos rfl] at hst
      exact hN _ _ ⟨cur, stk, its, _, o4, rfl, RI, by rw [← hst]; exact hml, by rw [← hst]; exact hrun⟩
    · rw [if_neg h0] at hst
      rw [if_pos (by rw [decide_eq_false (fun e => h0 (mkS_inj e))]; rfl)]
      obtain ⟨us, h1, h2⟩ := RI.hc
      have hlu : us.length = its.length := (Paired.length h2).symm
      have hzl := hzs z (rest_mem (l := l) (i := i) (z := z) (by rw [hst]; exact List.mem_cons_self))
      refine ⟨.inl ⟨rfl, _, SqL.of h1⟩, _, h1, szLt (by omega), ?_⟩
      refine hN _ _ ⟨cur, stk, its ++ [.w z], _, o4, rfl, RI.word h1 (i := .w z) ⟨rfl, hzl⟩, ?_, ?_⟩
      · rw [hst] at hml
        simp only [List.length_append, List.length_cons, List.length_nil] at hml ⊢
        omega
      · rw [hst] at hrun
        rw [← hrun]
        conv => rhs; unfold runO
        rw [if_neg h40, if_neg h41]
  · rintro σ H' ⟨cur, stk, its, o3, o4, rfl, RI, hml, hrun⟩
    have hend : restW l Ws.length = [] := by
      rw [← hWs, List.length_map, List.length_map]
      exact rest_end l
    rw [hend] at hrun
    have hq := q
    unfold readO at hq
    rw [← hrun] at hq
    have hq : ∀ H', Same H H' → (∀ t r, endO (some (stk.map (·.2), its)) = some t → Good t → At H' t r → Q r H') ∧ (endO (some (stk.map (·.2), its)) = none → E (.ref cX) none H') := hq
    obtain ⟨us, h1, h2⟩ := RI.hc
    have hlu : us.length = its.length := (Paired.length h2).symm
    show R _ _
    rw [hR]; clear hR
    refine ifq_ fun R A B hR hA hB => ?_
    walk_at "rd"
    refine ⟨_, .inl (SqL.of RI.ha), ?_⟩
    rw [List.length_reverse, List.length_map]
    cases stk with
    | cons up stk =>
      rw [if_pos (by simp only [List.length_cons]; omega), hA]
      exact (hq _ RI.same).2 (by cases its <;> rfl)
    | nil =>
      rw [if_neg (by decide)]
      refine ⟨_, .inl (SqL.of h1), ?_⟩
      match its, us, h2, hlu, hq, h1 with
      | [], _, .nil, _, hq, h1 =>
        rw [if_pos (by decide), hA]
        exact (hq _ RI.same).2 rfl
      | i :: j :: its, u :: v :: us, .cons g1 (.cons g2 g3), _, hq, h1 =>
        rw [if_pos (by rw [decide_eq_false (by simp only [List.length_cons]; omega)]; rfl), hA]
        exact (hq _ RI.same).2 rfl
      | [i], [u], .cons hi .nil, _, hq, h1 =>
        rw [if_neg (by show ¬ (!decide (((1 : Nat) : Int) = 1)) = true; decide), hB]; clear hA hB
        show R _ _
        rw [hR]; clear hR
        walk_at "rd"
        refine ⟨_, SqL.of h1, _, at0 _ _, i, u, rfl, hi, fun r H4 e4 hr4 => ?_⟩
        obtain ⟨a, xs, n, rfl, ha, hwk, ht⟩ := (show ∃ (a : Addr) (xs : List V) (n : Nat), r = .ref a ∧ H4 a = some (.tup xs) ∧ Wks H4 [r] n i.tree.isNone ∧ ∀ t, i.tree = some t → Good t ∧ At H4 t r ∧ n = t.size from hr4)
        have out : endO (some ([], [i])) = none → ∀ H5, Same H4 H5 → wOnly K (Value.ref cT) (fun a cls d x σ H => E (Value.ref cX) none H) (fun cls d x H => E cls d H) { nx := fun x H' => Q V.non H', rt := Q } (.ref cT) none [some (V.str (mkS l)), some (V.ref ar), some (V.ref cur), o3, o4] H5 :=
          fun he H5 e5 => ⟨true, hxm, fun _ _ _ => (hq H5 ((RI.same.trans e4).trans e5)).2 he, fun z => by cases z⟩
        refine ⟨_, n, _, rfl, hwk, fun hn hb H5 e5 => ?_, fun hb H5 e5 => out ?_ H5 e5⟩
        · cases hit : i.tree with
          | none => rw [hit] at hb; cases hb
          | some t =>
            obtain ⟨g1, g2, g3⟩ := ht t hit
            refine (hq H5 ((RI.same.trans e4).trans e5)).1 t _ ?_ g1 (g2.mono (same_kt e5))
            show (match i.tree with | some t => if t.size ≤ 400 then some t else none | none => none) = _
            rw [hit]
            exact if_pos (by omega)
        · show (match i.tree with | some t => if t.size ≤ 400 then some t else none | none => none) = none
          cases hit : i.tree with
          | none => rfl
          | some t =>
            obtain ⟨g1, g2, g3⟩ := ht t hit
            rw [hit] at hb
            rcases hb with hb | hb
            · exact if_neg (by omega)
            · cases hb
end

end K07

namespace K07
open PySem L2 My
open PyProof.Rows (envOfC)
local macro_rules | `(tactic| walk_at "rd") => `(tactic| simp only [tCallS, CwR.tReplC, rEqT, rNewStrs, My.ife, My.tFor_eq, My.cx_K, My.cx_w, My.rRdK, My.rNeSelf, rIsi, tAsg, tDrop, tChain, tThenZ, kTyp, My.rInK, My.rMulS, iStr, sFld, sFldAug, tFld, tMe, tMkD, tCallE, tDZ, rDZ, tRevT, rAdd, sTail, tThen, kTup, tDisp, tPairs, tDIn, tDNotIn, V.ty.injEq, rAll, rU, tRet, tRetN, tIfS, tVar, tC, tOp, tUn, rI0, rI, rEq, rNe, CDiv, CMul, CPow, My.tTup_eq, My.tLst_eq, My.tDNewK_eq, My.tRevL_eq, My.tRevS, tM1, tM0, My.sz0, My.sz1, My.sz2, My.sz3, My.sz4, My.sz5, My.sz8, tCons, tNil, My.tCallD, tCB, gName, gTup, gCons, gNil, gSub, tTest, tB, tAnd, tOr, tNot, tIf, tAndV, tOrV, tNotV, rSetL, rSlS, rIxL, rIxT, rIxS, My.rSlT_eq, My.rSlL_eq, rIn, rCat, tLc_eq, iList, iTup, iRng1, iRng2, iRng3, wipe, List.map_cons, List.map_nil, tSl, tPart, tNoPart, tBM, tBM0, rAppend, My.rPopL, rExtend, My.rExtendT, tNext, tBreak, tCont, My.scal_ii, My.scal_ss, My.scal_bb, My.scal_is, My.scal_si, ipI, rListD, sDPut, tDGet, tDGet2, tAug, List.getElem?_cons_zero, List.getElem?_cons_succ, List.set_cons_zero, List.set_cons_succ, Option.some.injEq, exists_eq_left', exists_eq_left, V.int.injEq, V.ref.injEq, V.str.injEq, V.bl.injEq, exists_and_left, true_and, and_true, List.cons.injEq, exists_const, Bool.false_eq_true, ↓reduceIte, reduceCtorEq, false_and, and_assoc, decide_true, decide_false])
local macro_rules | `(tactic| walk_at "st") => `(tactic| (refine My.seq_ fun R hR => ?_))
local macro_rules | `(tactic| walk_at "sd") => `(tactic| repeat (first | refine ⟨by decide, ?_⟩ | refine ⟨.inl (by decide), ?_⟩))

abbrev s__law_cell_at : Stmt := topS 31
abbrev N__law_cell_at : List Str := ["_law_script", "_law_k"]
theorem sc__law_cell_at : FnScope N__law_cell_at ["_law_script", "_law_k"] (defScope s__law_cell_at) := ⟨rfl, rfl, rfl, by decide +kernel, rfl, by decide +kernel, by decide +kernel⟩
theorem bd__law_cell_at : BindAll "_law_cell_at" s__law_cell_at ["_law_script", "_law_k"] := fun _ _ _ _ _ _ us hl => match us, hl with | [_, _], _ => rfl
theorem st__law_cell_at (v0 v1 : V) : start N__law_cell_at [v0, v1] = [some v0, some v1] := rfl
section
variable {P : Program} {w : World} {K : PySem.W.Frag} {mg : Str → Option Value} {base : Heap}
theorem df_cell (T : Bt mg) (F : FunAt K mg "_law_cell_at" s__law_cell_at) : Df P w K mg base 1 "_law_cell_at" ["_law_script", "_law_k"] (spCellA K) := by
  refine F.df sc__law_cell_at bd__law_cell_at (fun vs H Q E h => ?_) (fun f cdv A outer s H vs Q E hr h => ?_)
  · obtain ⟨_, _, _, rfl, _⟩ := h; rfl
  obtain ⟨a, ns, k, rfl, hS, q⟩ := h
  have nd := sc__law_cell_at.nd
  refine ⟨_, (pss_cons (ps_if (pt_cmpR op_lt (pv 1) (pe_callB call_len_seq (by rfl) T.len PySem.boot_len (pa_cons (pv 0) pa_nil)) (nomark _))
    (pss_one (ps_ret (pe_ix ix_list (pv 0) (pv 1) (fun _ _ => rfl))))
    pss_nil)
  (pss_one (ps_ret pe_int))), ?_⟩
  rw [st__law_cell_at]
  refine seq_ fun R hR => ?_
  walk_at "rd"
  refine ⟨_, .inl hS, ?_⟩
  split
  · exact ⟨_, hS, _, cell_at (by assumption), q⟩
  · rw [hR]
    walk_at "rd"
    rw [← cell_out (ns := ns) (k := k) (by assumption)]
    exact q
end

abbrev s__law_refused : Stmt := topS 32
abbrev N__law_refused : List Str := ["_law_line", "e"]
theorem sc__law_refused : FnScope N__law_refused ["_law_line"] (defScope s__law_refused) := ⟨rfl, rfl, rfl, by decide +kernel, rfl, by decide +kernel, by decide +kernel⟩
theorem bd__law_refused : BindAll "_law_refused" s__law_refused ["_law_line"] := fun _ _ _ _ _ _ us hl => match us, hl with | [_], _ => rfl
theorem st__law_refused (v0 : V) : start N__law_refused [v0] = [some v0, none] := rfl
abbrev s__law_odd : Stmt := topS 33
abbrev N__law_odd : List Str := ["_law_cell", "_law_some"]
theorem sc__law_odd : FnScope N__law_odd ["_law_cell"] (defScope s__law_odd) := ⟨rfl, rfl, rfl, by decide +kernel, rfl, by decide +kernel, by decide +kernel⟩
theorem bd__law_odd : BindAll "_law_odd" s__law_odd ["_law_cell"] := fun _ _ _ _ _ _ us hl => match us, hl with | [_], _ => rfl
theorem st__law_odd (v0 : V) : start N__law_odd [v0] = [some v0, none] := rfl
abbrev s__law_odd_signs : Stmt := topS 34
abbrev N__law_odd_signs : List Str := []
theorem sc__law_odd_signs : FnScope N__law_odd_signs [] (defScope s__law_odd_signs) := ⟨rfl, rfl, rfl, by decide +kernel, rfl, by decide +kernel, by decide +kernel⟩
theorem bd__law_odd_signs : BindAll "_law_odd_signs" s__law_odd_signs [] := fun _ _ _ _ _ _ us hl => match us, hl with | [], _ => rfl
theorem st__law_odd_signs  : start N__law_odd_signs [] = [] := rfl
abbrev s__law_no_blank : Stmt := topS 35
abbrev N__law_no_blank : List Str := ["_law_at", "_law_some", "_law_words", "_law_sign"]
theorem sc__law_no_blank : FnScope N__law_no_blank ["_law_at"] (defScope s__law_no_blank) := ⟨rfl, rfl, rfl, by decide +kernel, rfl, by decide +kernel, by decide +kernel⟩
theorem bd__law_no_blank : BindAll "_law_no_blank" s__law_no_blank ["_law_at"] := fun _ _ _ _ _ _ us hl => match us, hl with | [_], _ => rfl
theorem st__law_no_blank (v0 : V) : start N__law_no_blank [v0] = [some v0, none, none, none] := rfl
section
variable {P : Program} {w : World} {K : PySem.W.Frag} {mg : Str → Option Value} {base : Heap} {cX cM cT cC cB cN cF cD : Addr}
theorem df_refused (T : LT7 K mg cX cM cT cC cB cN cF cD) (F : FunAt K mg "_law_refused" s__law_refused) (D_read : DfT (L2.CX P w) P w K mg base 4 "read" ["line"] (spRead cX)) : DfT CX0 P w K mg base 5 "_law_refused" ["_law_line"] spRef := by
  refine F.dfT sc__law_refused bd__law_refused (fun vs H Q E h => ?_) (fun f cdv A outer s H vs Q E hr h => ?_)
  · obtain ⟨_, rfl, _⟩ := h; rfl
  obtain ⟨v, rfl, h, q⟩ := h
  have nd := sc__law_refused.nd
  refine ⟨_, (psst_cons (pst_try_as (i := 1) (tb := fun W => tDrop (tCallS (spRead cX) (WE W) (tCons (tVar 0) tNil))) (ts := fun a cls d => _) (Wout := fun _ _ _ _ => False) rfl rfl nd rfl rfl ⟨rfl, by decide, Or.inl T.cNoText⟩ takes0
    (fun W pn xe tk _ => (CwR.psst_one (pst_expr (pet_callT (E := WE W) D_read hr (by decide) rfl (fun σ => passAt tk σ) (pat_cons (CwR.PET.of (pv 0)) pat_nil)))))
    (fun a oe cls d pn hz hf => (pss_cons (ps_if (PW.pt (pw_or (pt_val (pe_callB (call_isEaT hz hf) (by rfl) T.isinstance (by decide +kernel) (pa_cons (pv 1) (pa_cons (pe_tup (pa_cons (pe_gref (by rfl) T.cNoTree) (pa_cons (pe_gref (by rfl) T.cNotClosed) (pa_cons (pe_gref (by rfl) T.cBadMost) pa_nil)))) pa_nil)))) (pw_or1 (pt_val (pe_callB (call_isEaT hz hf) (by rfl) T.isinstance (by decide +kernel) (pa_cons (pv 1) (pa_cons (pe_tup (pa_cons (pe_gref (by rfl) T.cNoNumber) (pa_cons (pe_gref (by rfl) T.cNoFunction) (pa_cons (pe_gref (by rfl) T.cDry) pa_nil)))) pa_nil)))))))
        (pss_one (ps_ret pe_bl))
        pss_nil)
      (pss_one (ps_ret (pe_and (pe_callB (call_isEa hz hf) (by rfl) T.isinstance (by decide +kernel) (pa_cons (pv 1) (pa_cons (pe_gref (by rfl) T.cMillError) pa_nil))) (pe_one (pe_callB (call_isEa hz hf) (by rfl) T.isinstance (by decide +kernel) (pa_cons (pv 1) (pa_cons (pe_bltn (v := .ty "ValueError") (by rfl) T.ValueError (by decide +kernel) rfl) pa_nil))))))))))
  (CwR.psst_one (PST.of (ps_ret pe_bl)))), ?_⟩
  rw [st__law_refused]
  refine seq_ fun R1 hR1 => ?_
  walk_at "rd"
  have out : ∀ H1, Same H H1 → wAs K (Value.ref cX) 1 (fun a cls d => tSeq (tIfS (tOr (tB (tCB (rIsEaT K a cls d) (tCons (tVar 1) (tCons (tTup (tCons (tC (V.ref cT)) (tCons (tC (V.ref cC)) (tCons (tC (V.ref cB)) tNil)))) tNil)))) (tB (tCB (rIsEaT K a cls d) (tCons (tVar 1) (tCons (tTup (tCons (tC (V.ref cN)) (tCons (tC (V.ref cF)) (tCons (tC (V.ref cD)) tNil)))) tNil)))))
      (tRet (tC (V.bl false))) tNext) (tRet (tAndV (tCB (rIsEa K a cls d) (tCons (tVar 1) (tCons (tC (V.ref cM)) tNil))) (tCB (rIsEa K a cls d) (tCons (tVar 1) (tCons (tC (V.ty "ValueError")) tNil)))))) (fun x x_1 x_2 x_3 => False) { nx := R1, rt := Q } (.ref cX) none [some v, none] H1 := by
    intro H1 e1
    refine ⟨true, T.mC, fun _ a ha => ?_, fun z => by cases z⟩
    refine ifq_ fun R A B hR hA hB => ?_
    walk_at "rd"
    refine new_ fun p H2 hp e2 g2 => ⟨cX, rfl, rfl, T.ex, p, [cT, cC, cB], false, rfl, g2, T.any1, _, rfl, ?_⟩
    rw [if_neg (by decide)]
    refine new_ fun p3 H3 hp3 e3 g3 => ⟨cX, rfl, rfl, T.ex, p3, [cN, cF, cD], false, rfl, g3, T.any2, _, rfl, ?_⟩
    rw [if_neg (by decide), hB]; clear hA hB
    walk_at "rd"
    rw [hR]; clear hR
    walk_at "rd"
    refine ⟨_, rfl, rfl, T.ex, .ref cM, .ref cM, true, rfl, (fun u h => h), T.mm, true, rfl, ?_⟩
    rw [if_pos rfl]
    exact ⟨_, rfl, rfl, T.ex, .ty "ValueError", .type "ValueError", true, rfl, (fun u h => h), T.vv, q _ (e1.trans (e2.trans e3))⟩
  refine ⟨v, rfl, ?_⟩
  rcases h with ⟨l, rfl, hrd, hno⟩ | ⟨hk, hs⟩
  · exact .inl ⟨l, rfl, hrd.1, hrd.2.1, hrd.2.2, fun H1 e1 => ⟨fun t r hr' => (by rw [hno] at hr'; cases hr'), fun _ => out H1 e1⟩⟩
  · exact .inr ⟨hk, hs, out H (Same.refl _)⟩
theorem df_odd (T : Bt mg) (F : FunAt K mg "_law_odd" s__law_odd) : Df P w K mg base 1 "_law_odd" ["_law_cell"] spOdd := by
  refine F.df sc__law_odd bd__law_odd (fun vs H Q E h => ?_) (fun f cdv A outer s H vs Q E hr h => ?_)
  · obtain ⟨_, rfl, _⟩ := h; rfl
  obtain ⟨c, rfl, q⟩ := h
  have nd := sc__law_odd.nd
  refine ⟨_, (pss_cons (ps_set (i := 1) nd rfl (Or.inl rfl) (pe_lst (pa_cons pe_str (pa_cons pe_str (pa_cons pe_str (pa_cons pe_str (pa_cons pe_str (pa_cons pe_str (pa_cons pe_str (pa_cons pe_str (pa_cons pe_str (pa_cons pe_str (pa_cons pe_str pa_nil)))))))))))))
  (pss_cons (ps_set (i := 1) nd rfl (Or.inl rfl) (pe_op op_cat (pv 1) (pe_lst (pa_cons pe_str (pa_cons pe_str (pa_cons pe_str (pa_cons pe_str (pa_cons pe_str (pa_cons pe_str (pa_cons pe_str (pa_cons pe_str pa_nil)))))))))))
  (pss_cons (ps_set (i := 1) nd rfl (Or.inl rfl) (pe_op op_cat (pv 1) (pe_lst (pa_cons pe_str (pa_cons pe_str (pa_cons pe_str (pa_cons pe_str (pa_cons pe_str (pa_cons pe_str (pa_cons pe_str (pa_cons pe_str (pa_cons pe_str (pa_cons pe_str (pa_cons pe_str (pa_cons pe_str (pa_cons pe_str pa_nil))))))))))))))))
  (pss_cons (ps_set (i := 1) nd rfl (Or.inl rfl) (pe_op op_cat (pv 1) (pe_lst (pa_cons pe_str (pa_cons pe_str (pa_cons pe_str (pa_cons pe_str (pa_cons pe_str (pa_cons pe_str (pa_cons pe_str (pa_cons pe_str pa_nil)))))))))))
  (pss_cons (ps_set (i := 1) nd rfl (Or.inl rfl) (pe_op op_cat (pv 1) (pe_lst (pa_cons pe_str (pa_cons pe_str (pa_cons pe_str (pa_cons pe_str (pa_cons pe_str (pa_cons pe_str pa_nil)))))))))
  (pss_cons (ps_set (i := 1) nd rfl (Or.inl rfl) (pe_op op_cat (pv 1) (pe_lst (pa_cons pe_str (pa_cons pe_str (pa_cons pe_str (pa_cons pe_str pa_nil)))))))
  (pss_one (ps_ret (pe_ix ix_list (pv 1) (pe_op op_mod (pv 0) pe_int) (fun _ _ => rfl)))))))))), ?_⟩
  rw [st__law_odd]
  have h50 := Int.emod_nonneg c (show (50 : Int) ≠ 0 by decide)
  have h51 := Int.emod_lt_of_pos c (show (0 : Int) < 50 by decide)
  refine seq_ fun R1 hR1 => ?_
  walk_at "rd"
  refine ⟨szL (by simp only [List.length_cons, List.length_nil]; decide), new_ fun p1 H1 hp1 e1 g1 => ?_⟩
  rw [hR1]; clear hR1
  refine seq_ fun R1 hR1 => ?_
  walk_at "rd"
  refine new_ fun pa H2 hpa ea ga => ⟨_, ea _ _ g1, _, ga, szL (by simp only [List.length_append, List.length_cons, List.length_nil]; decide), ?_⟩
  show New H2 (.lst _) fun p H' => R1 [some (V.int c), some (V.ref p)] H'
  refine new_ fun pb H3 hpb eb g3 => ?_
  have e3 := (e1.trans ea).trans eb
  rw [hR1]; clear hR1 hpb ga ea hpa g1 eb e1
  refine seq_ fun R1 hR1 => ?_
  walk_at "rd"
  refine ⟨szL (by simp only [List.length_cons, List.length_nil]; decide), new_ fun pa H4 hpa ea ga => ⟨_, ea _ _ g3, _, ga, szL (by simp only [List.length_append, List.length_cons, List.length_nil]; decide), ?_⟩⟩
  show New H4 (.lst _) fun p H' => R1 [some (V.int c), some (V.ref p)] H'
  refine new_ fun pb H5 hpb eb g5 => ?_
  have e5 := (e3.trans ea).trans eb
  rw [hR1]; clear hR1 hpb ga ea hpa g3 eb e3
  refine seq_ fun R1 hR1 => ?_
  walk_at "rd"
  refine new_ fun pa H6 hpa ea ga => ⟨_, ea _ _ g5, _, ga, szL (by simp only [List.length_append, List.length_cons, List.length_nil]; decide), ?_⟩
  show New H6 (.lst _) fun p H' => R1 [some (V.int c), some (V.ref p)] H'
  refine new_ fun pb H7 hpb eb g7 => ?_
  have e7 := (e5.trans ea).trans eb
  rw [hR1]; clear hR1 hpb ga ea hpa g5 eb e5
  refine seq_ fun R1 hR1 => ?_
  walk_at "rd"
  refine ⟨szL (by simp only [List.length_cons, List.length_nil]; decide), new_ fun pa H8 hpa ea ga => ⟨_, ea _ _ g7, _, ga, szL (by simp only [List.length_append, List.length_cons, List.length_nil]; decide), ?_⟩⟩
  show New H8 (.lst _) fun p H' => R1 [some (V.int c), some (V.ref p)] H'
  refine new_ fun pb H9 hpb eb g9 => ?_
  have e9 := (e7.trans ea).trans eb
  rw [hR1]; clear hR1 hpb ga ea hpa g7 eb e7
  refine seq_ fun R1 hR1 => ?_
  walk_at "rd"
  refine new_ fun pa H10 hpa ea ga => ⟨_, ea _ _ g9, _, ga, szL (by simp only [List.length_append, List.length_cons, List.length_nil]; decide), ?_⟩
  show New H10 (.lst _) fun p H' => R1 [some (V.int c), some (V.ref p)] H'
  refine new_ fun pb H11 hpb eb g11 => ?_
  have e11 := (e9.trans ea).trans eb
  rw [hR1]; clear hR1 hpb ga ea hpa g9 eb e9
  walk_at "rd"
  refine ⟨by decide, _, SqL.of g11, ?_⟩
  have key : ∀ L : List V, L = oddT.map (fun z => V.str (mkS z)) → ∃ x, atI L (c % 50) = some x ∧ Q x H11 := by
    intro L hL
    subst hL
    obtain ⟨z, hz, ha⟩ := at_mod (xs := oddT) (fun z => V.str (mkS z)) (by decide) c
    have e50 : ((oddT.length : Nat) : Int) = 50 := by decide
    rw [e50] at ha
    obtain ⟨h1, h2⟩ := oddT_no z hz
    exact ⟨_, ha, q z _ e11 (rd_short (by omega)) h2⟩
  exact key _ (by decide +kernel)
theorem df_signs (F : FunAt K mg "_law_odd_signs" s__law_odd_signs) : Df P w K mg base 1 "_law_odd_signs" [] spSigns := by
  refine F.df sc__law_odd_signs bd__law_odd_signs (fun vs H Q E h => ?_) (fun f cdv A outer s H vs Q E hr h => ?_)
  · obtain ⟨rfl, _⟩ := h; rfl
  obtain ⟨rfl, q⟩ := h
  refine ⟨_, (pss_one (ps_ret pe_str)), ?_⟩
  rw [show start N__law_odd_signs [] = [] from rfl]
  walk_at "rd"
  rw [show Str.ofString "_+.,~:\t\n!?;'\"`|*/\\=<>[]{}#$&@^ZYXWVUTSRQPONMLKJIHGFEDCBA" = mkS oddS by decide +kernel]
  exact q _ (Same.refl _)
theorem df_noblank (T : Bt mg) (F : FunAt K mg "_law_no_blank" s__law_no_blank) (D__law_odd_signs : Df P w K mg base 1 "_law_odd_signs" [] spSigns) (D__law_refused : DfT CX0 P w K mg base 5 "_law_refused" ["_law_line"] spRef) : Df P w K mg base 6 "_law_no_blank" ["_law_at"] spNoBl := by
  refine F.df sc__law_no_blank bd__law_no_blank (fun vs H Q E h => ?_) (fun f cdv A outer s H vs Q E hr h => ?_)
  · obtain ⟨⟨_, rfl, _⟩, _⟩ := h; rfl
  obtain ⟨⟨n, rfl, hn⟩, q⟩ := h
  have nd := sc__law_no_blank.nd
  refine ⟨_, (pss_cons (ps_set (i := 1) nd rfl (Or.inl rfl) (pe_op op_add_str pe_str (pe_callD0 D__law_odd_signs hr (by decide) rfl)))
  (pss_cons (ps_set (i := 2) nd rfl (Or.inl rfl) (pe_lst (pa_cons pe_str (pa_cons pe_str (pa_cons pe_str (pa_cons pe_str pa_nil))))))
  (pss_cons (ps_for PassesOwn.never rfl (pi_str (pv 1)) (pg_name (i := 3) nd rfl (Or.inl rfl))
    (pss_one (ps_if (pt_not (pt_val (pe_callT1 (E := fun _ => E0) D__law_refused hr (by decide) rfl (fun _ => at0T) (pa1_here (pe1_opL op_add_str (pe1_opL op_add_str (pe1_join pe1_str (pe_slice sl_list (pv 2) po_none (po_some (pv 0)))) (pv 3)) (pe_join pe_str (pe_slice sl_list (pv 2) (po_some (pv 0)) po_none))) pa_nil))))
        (pss_one (ps_ret pe_bl))
        pss_nil)))
  (pss_one (ps_ret pe_bl))))), ?_⟩
  rw [st__law_no_blank]
  refine seq_ fun R1 hR1 => ?_
  walk_at "rd"
  refine ⟨rfl, fun H1 e1 => ⟨_, rfl, szL (by rw [mkS_len]; decide +kernel), ?_⟩⟩
  rw [show Str.ofString "0123456789zyxwvutsrqponmlkjihgfedcba-()" ++ mkS oddS = mkS signsL by decide +kernel]
  rw [hR1]; clear hR1
  refine seq_ fun R1 hR1 => ?_
  walk_at "rd"
  refine new_ fun wl H2 hwl e2 g2 => ?_
  rw [hR1]; clear hR1
  refine seq_ fun R1 hR1 => ?_
  walk_at "rd"
  refine forS (fun i σ H' => ∃ o, σ = [some (V.int n), some (V.str (mkS signsL)), some (V.ref wl), o] ∧ Same H H' ∧ H' wl = some (.lst [V.str "(if", V.str "xy", V.str "(plus", V.str "10 z) 20)"])) ⟨none, rfl, e1.trans e2, g2⟩ ?_ ?_
  · rintro i c σ H3 hi ⟨o, rfl, e3, g3⟩ N hN
    have hc : c ∈ signsL := List.mem_of_getElem? hi
    walk_at "rd"
    obtain ⟨ys1, ys2, pp, qq, c1, c2, j1, j2, m1, m2, lp, lq, hno⟩ := blank_cut hn
    have c1 : cutV [V.str "(if", V.str "xy", V.str "(plus", V.str "10 z) 20)"] none (some n) = ys1.map V.str := c1
    have c2 : cutV [V.str "(if", V.str "xy", V.str "(plus", V.str "10 z) 20)"] (some n) none = ys2.map V.str := c2
    refine ⟨⟨_, rfl⟩, _, SqL.of g3, ?_⟩
    rw [c1]
    refine new_ fun p1 H4 hp1 e4 g4 => ⟨ys1, .inl (SqL.of g4), by omega, ?_⟩
    rw [j1]
    refine ⟨by rw [mkS_len, mkS_len]; simp only [List.length_cons, List.length_nil]; exact szL (by omega), ⟨_, rfl⟩, _, SqL.of (e4 _ _ g3), ?_⟩
    rw [c2]
    refine new_ fun p2 H5 hp2 e5 g5 => ⟨ys2, .inl (SqL.of g5), by omega, ?_⟩
    rw [j2, mkS_app, mkS_app]
    have e35 := e4.trans e5
    refine ⟨by rw [mkS_len, mkS_len, List.length_append, List.length_singleton]; exact szL (by omega), _, rfl, .inl ⟨_, rfl, rd_short (by simp only [List.length_append, List.length_cons, List.length_nil]; omega), hno c hc⟩, fun H6 e6 => ⟨true, rfl, ?_⟩⟩
    rw [if_neg (by decide)]
    exact hN _ _ ⟨_, rfl, e3.trans (e35.trans e6), (e35.trans e6) _ _ g3⟩
  · rintro σ H3 ⟨o, rfl, e3, g3⟩
    show R1 _ _
    rw [hR1]
    walk_at "rd"
    exact q _ e3
end
end K07

namespace K07
open PySem L2 My
open PyProof.Rows (envOfC)
local macro_rules | `(tactic| walk_at "rd") => `(tactic| simp only [tCallS, CwR.tReplC, rEqT, rNewStrs, My.ife, My.tFor_eq, My.cx_K, My.cx_w, My.rRdK, My.rNeSelf, rIsi, tAsg, tDrop, tChain, tThenZ, kTyp, My.rInK, My.rMulS, iStr, sFld, sFldAug, tFld, tMe, tMkD, tCallE, tDZ, rDZ, tRevT, rAdd, sTail, tThen, kTup, tDisp, tPairs, tDIn, tDNotIn, V.ty.injEq, rAll, rU, tRet, tRetN, tIfS, tVar, tC, tOp, tUn, rI0, rI, rEq, rNe, CDiv, CMul, CPow, My.tTup_eq, My.tLst_eq, My.tDNewK_eq, My.tRevL_eq, My.tRevS, tM1, tM0, My.sz0, My.sz1, My.sz2, My.sz3, My.sz4, My.sz5, My.sz8, tCons, tNil, My.tCallD, tCB, gName, gTup, gCons, gNil, gSub, tTest, tB, tAnd, tOr, tNot, tIf, tAndV, tOrV, tNotV, rSetL, rSlS, rIxL, rIxT, rIxS, My.rSlT_eq, My.rSlL_eq, rIn, rCat, tLc_eq, iList, iTup, iRng1, iRng2, iRng3, wipe, List.map_cons, List.map_nil, tSl, tPart, tNoPart, tBM, tBM0, rAppend, My.rPopL, rExtend, My.rExtendT, tNext, tBreak, tCont, My.scal_ii, My.scal_ss, My.scal_bb, My.scal_is, My.scal_si, ipI, rListD, sDPut, tDGet, tDGet2, tAug, List.getElem?_cons_zero, List.getElem?_cons_succ, List.set_cons_zero, List.set_cons_succ, Option.some.injEq, exists_eq_left', exists_eq_left, V.int.injEq, V.ref.injEq, V.str.injEq, V.bl.injEq, exists_and_left, true_and, and_true, List.cons.injEq, exists_const, Bool.false_eq_true, ↓reduceIte, reduceCtorEq, false_and, and_assoc, decide_true, decide_false])
local macro_rules | `(tactic| walk_at "st") => `(tactic| (refine My.seq_ fun R hR => ?_))
local macro_rules | `(tactic| walk_at "sd") => `(tactic| repeat (first | refine ⟨by decide, ?_⟩ | refine ⟨.inl (by decide), ?_⟩))

abbrev s__law_good : Stmt := topS 36
abbrev N__law_good : List Str := ["_law_cells", "_law_line", "_law_cell", "_law_kind", "_law_small"]
theorem sc__law_good : FnScope N__law_good ["_law_cells"] (defScope s__law_good) := ⟨rfl, rfl, rfl, by decide +kernel, rfl, by decide +kernel, by decide +kernel⟩
theorem bd__law_good : BindAll "_law_good" s__law_good ["_law_cells"] := fun _ _ _ _ _ _ us hl => match us, hl with | [_], _ => rfl
theorem st__law_good (v0 : V) : start N__law_good [v0] = [some v0, none, none, none, none] := rfl
abbrev s__law_long : Stmt := topS 38
abbrev N__law_long : List Str := ["_law_size", "_law_shape", "_law_line", "_law_count", "_law_more", "_law_pair"]
theorem sc__law_long : FnScope N__law_long ["_law_size", "_law_shape"] (defScope s__law_long) := ⟨rfl, rfl, rfl, by decide +kernel, rfl, by decide +kernel, by decide +kernel⟩
theorem bd__law_long : BindAll "_law_long" s__law_long ["_law_size", "_law_shape"] := fun _ _ _ _ _ _ us hl => match us, hl with | [_, _], _ => rfl
theorem st__law_long (v0 v1 : V) : start N__law_long [v0, v1] = [some v0, some v1, none, none, none, none] := rfl
section
variable {P : Program} {w : World} {K : PySem.W.Frag} {mg : Str → Option Value} {base : Heap}
theorem df_good (T : Bt mg) (F : FunAt K mg "_law_good" s__law_good) : Df P w K mg base 1 "_law_good" ["_law_cells"] (spGoodT K) := by
  refine F.df sc__law_good bd__law_good (fun vs H Q E h => ?_) (fun f cdv A outer s H vs Q E hr h => ?_)
  · obtain ⟨_, _, rfl, _⟩ := h; rfl
  obtain ⟨a, ns, rfl, hS, hn, q⟩ := h
  have nd := sc__law_good.nd
  refine ⟨_, (pss_cons (ps_set (i := 1) nd rfl (Or.inl rfl) pe_str)
  (pss_cons (ps_for PassesOwn.never rfl (pi_list (pv 0)) (pg_name (i := 2) nd rfl (Or.inl rfl))
    (pss_cons (ps_set (i := 3) nd rfl (Or.inl rfl) (pe_op op_mod (pv 2) pe_int))
      (pss_cons (ps_set (i := 4) nd rfl (Or.inl rfl) (pe_callTy call_str_int (by rfl) T.str (by decide +kernel) (pa_cons (pe_op op_add pe_int (pe_op op_mod (pe_op op_fdiv (pv 2) pe_int) pe_int)) pa_nil)))
      (pss_one (ps_if (pt_cmpR op_eq (pv 3) pe_int (nomark _))
        (pss_one (ps_set (i := 1) nd rfl (Or.inl rfl) (pe_op op_add_str (pe_op op_add_str pe_str (pv 1)) pe_str)))
        (pss_one (ps_if (pt_cmpR op_eq (pv 3) pe_int (nomark _))
            (pss_one (ps_set (i := 1) nd rfl (Or.inl rfl) (pe_op op_add_str (pe_op op_add_str (pe_op op_add_str (pe_op op_add_str pe_str (pv 1)) pe_str) (pv 4)) pe_str)))
            (pss_one (ps_if (pt_cmpR op_eq (pv 3) pe_int (nomark _))
                (pss_one (ps_set (i := 1) nd rfl (Or.inl rfl) (pe_op op_add_str (pe_op op_add_str (pe_op op_add_str (pe_op op_add_str pe_str (pv 4)) pe_str) (pv 1)) pe_str)))
                (pss_one (ps_set (i := 1) nd rfl (Or.inl rfl) (pe_op op_add_str (pe_op op_add_str (pe_op op_add_str (pe_op op_add_str (pe_op op_add_str (pe_op op_add_str pe_str (pe_ix ix_list (pe_lst (pa_cons pe_str (pa_cons pe_str (pa_cons pe_str pa_nil)))) (pe_op op_sub (pv 3) pe_int) (fun _ _ => rfl))) pe_str) (pv 4)) pe_str) (pv 1)) pe_str))))))))))))
  (pss_one (ps_ret (pv 1))))), ?_⟩
  rw [st__law_good]
  refine seq_ fun R hR => ?_
  walk_at "rd"
  rw [hR]; clear hR
  refine seq_ fun R hR => ?_
  walk_at "rd"
  refine ⟨⟨_, hS⟩, forL (xs := ns.map V.int) (fun i σ H' => ∃ (t : Tr) (o2 o3 o4 : Option V), σ = [some (V.ref a), some (V.str (mkS (wr t))), o2, o3, o4] ∧ Same H H' ∧ Good t ∧ (0 < i → t.leaf = false) ∧ t.size ≤ 1 + 3 * i)
    ⟨.name "x", none, none, none, by rw [lk_x]; rfl, Same.refl _, (by decide +kernel : isName "x" = true), fun h => absurd h (by decide), by decide⟩ ?_ ?_ ?_⟩
  · rintro i σ H' _ ⟨t, o2, o3, o4, rfl, e1, _⟩
    exact e1.seq hS
  · rintro i x σ H2 hi ⟨t, o2, o3, o4, rfl, e1, hg, hlf, hsz⟩ N hN
    obtain ⟨c, rfl⟩ : ∃ c, x = V.int c := by
      obtain ⟨c, _, e⟩ := List.mem_map.mp (List.mem_of_getElem? hi)
      exact ⟨c, e.symm⟩
    have hin : i < 8 := by have := (List.getElem?_eq_some_iff.mp hi).1; rw [List.length_map] at this; omega
    have lt := wr_len (fine_of hg)
    refine seq_ fun R1 hR1 => ?_
    walk_at "rd"
    refine ⟨by decide, ?_⟩
    rw [hR1]; clear hR1
    refine seq_ fun R1 hR1 => ?_
    walk_at "rd"
    have hm0 := Int.emod_nonneg (c / 6) (show (90 : Int) ≠ 0 by decide)
    have hm1 := Int.emod_lt_of_pos (c / 6) (show (0 : Int) < 90 by decide)
    have gm : Good (.num (10 + c / 6 % 90)) := ⟨by omega, by omega⟩
    refine ⟨by decide, by decide, by decide, log60 gm, ?_⟩
    rw [to_numC]
    have lm : (numC (10 + c / 6 % 90)).length ≤ 81 := num_len (fine_of gm)
    generalize 10 + c / 6 % 90 = m at gm lm
    have step : ∀ (t' : Tr) (o4 : Option V), Good t' → t'.leaf = false → t'.size ≤ t.size + 3 → N [some (V.ref a), some (V.str (mkS (wr t'))), some (V.int c), some (V.int (c % 6)), o4] H2 := fun t' o4 g l z => hN _ _ ⟨t', _, _, _, rfl, e1, g, fun _ => l, by omega⟩
    have h60 := Int.emod_nonneg c (show (6 : Int) ≠ 0 by decide)
    have h61 := Int.emod_lt_of_pos c (show (0 : Int) < 6 by decide)
    rw [hR1]; clear hR1
    refine ifs_ fun A B hA hB => ?_
    walk_at "rd"
    by_cases k0 : c % 6 = 0
    · rw [if_pos k0, hA]; clear hA hB
      walk_at "rd"
      rw [lk_fun, ls_rp]
      simp only [mkS_app, mkS_len, List.length_append, List.length_cons, List.length_nil]
      refine ⟨szM (by omega), szM (by omega), ?_⟩
      have e := step (.fn "ab" t) (some (V.str (mkS (numC m)))) ⟨by decide +kernel, hg⟩ rfl (by simp only [Tr.size]; omega)
      simpa [wr, wFun, lk_ab] using e
    rw [if_neg k0, hB]; clear hA hB
    refine ifs_ fun A B hA hB => ?_
    walk_at "rd"
    by_cases k1 : c % 6 = 1
    · rw [if_pos k1, hA]; clear hA hB
      walk_at "rd"
      rw [lk_let, ls_sp, ls_rp]
      simp only [mkS_app, mkS_len, List.length_append, List.length_cons, List.length_nil]
      refine ⟨szM (by omega), szM (by omega), szM (by omega), szM (by omega), ?_⟩
      have e := step (.lt "cd" t (.num m)) (some (V.str (mkS (numC m)))) ⟨by decide +kernel, hg, gm⟩ rfl (by simp only [Tr.size]; omega)
      simpa [wr, wLet, lk_cd] using e
    rw [if_neg k1, hB]; clear hA hB
    refine ifs_ fun A B hA hB => ?_
    walk_at "rd"
    by_cases k2 : c % 6 = 2
    · rw [if_pos k2, hA]; clear hA hB
      walk_at "rd"
      rw [ls_if, ls_sp, lk_ef]
      simp only [mkS_app, mkS_len, List.length_append, List.length_cons, List.length_nil]
      refine ⟨szM (by omega), szM (by omega), szM (by omega), szM (by omega), ?_⟩
      have e := step (.ite (.num m) t (.name "ef")) (some (V.str (mkS (numC m)))) ⟨gm, hg, (by decide +kernel : isName "ef" = true)⟩ rfl (by simp only [Tr.size]; omega)
      simpa [wr, wIf, lk_efn] using e
    rw [if_neg k2, hB]; clear hA hB
    walk_at "rd"
    refine new_ fun p H3 hp e3 g3 => ?_
    have step3 : ∀ (t' : Tr) (o4 : Option V), Good t' → t'.leaf = false → t'.size ≤ t.size + 3 → N [some (V.ref a), some (V.str (mkS (wr t'))), some (V.int c), some (V.int (c % 6)), o4] H3 := fun t' o4 g l z => hN _ _ ⟨t', _, _, _, rfl, e1.trans e3, g, fun _ => l, by omega⟩
    obtain ⟨z, t', hz, hzl, hw, hg', hl', hsz'⟩ : ∃ (z : List Nat) (t' : Tr), atI [V.str "call", V.str "plus", V.str "less"] (c % 6 - 3) = some (V.str (mkS z)) ∧ z.length ≤ 5 ∧ wr t' = 40 :: (z ++ 32 :: (numC m ++ 32 :: (wr t ++ [41]))) ∧ Good t' ∧ t'.leaf = false ∧ t'.size ≤ t.size + 3 := by
      have h3 : c % 6 - 3 = 0 ∨ c % 6 - 3 = 1 ∨ c % 6 - 3 = 2 := by omega
      rcases h3 with h | h | h
      · exact ⟨[99, 97, 108, 108], .call (.num m) t, by rw [h, ls_call]; exact at0 _ _, by decide, rfl, ⟨gm, hg⟩, rfl, by simp only [Tr.size]; omega⟩
      · exact ⟨[112, 108, 117, 115], .plus (.num m) t, by rw [h, ls_plus]; exact at1 _ _ _, by decide, rfl, ⟨gm, hg⟩, rfl, by simp only [Tr.size]; omega⟩
      · exact ⟨[108, 101, 115, 115], .less (.num m) t, by rw [h, ls_less]; exact at2 _ _ _ _, by decide, rfl, ⟨gm, hg⟩, rfl, by simp only [Tr.size]; omega⟩
    refine ⟨_, SqL.of g3, _, hz, _, rfl, ?_⟩
    rw [ls_lp, ls_sp, ls_rp]
    simp only [mkS_app, mkS_len, List.length_append, List.length_cons, List.length_nil]
    refine ⟨szM (by omega), szM (by omega), szM (by omega), szM (by omega), szM (by omega), szM (by omega), ?_⟩
    have e := step3 t' (some (V.str (mkS (numC m)))) hg' hl' hsz'
    rw [hw] at e
    simpa using e
  · rintro σ H2 ⟨t, o2, o3, o4, rfl, e1, hg, hlf, hsz⟩
    rw [List.length_map] at hlf hsz
    show R _ _
    rw [hR]
    walk_at "rd"
    refine q t _ e1 hg (fun h => hlf ?_) hsz
    cases ns with
    | nil => exact absurd rfl h
    | cons _ _ => simp
theorem df_long (T : Bt mg) (F : FunAt K mg "_law_long" s__law_long) : Df P w K mg base 1 "_law_long" ["_law_size", "_law_shape"] spLong := by
  refine F.df sc__law_long bd__law_long (fun vs H Q E h => ?_) (fun f cdv A outer s H vs Q E hr h => ?_)
  · obtain ⟨_, _, rfl, _⟩ := h; rfl
  obtain ⟨size, shape, rfl, hs1, hs2, hp0, hp3, q⟩ := h
  have nd := sc__law_long.nd
  refine ⟨_, (pss_cons (ps_set (i := 2) nd rfl (Or.inl rfl) (pe_op op_mul_str pe_str pe_int))
  (pss_cons (ps_set (i := 3) nd rfl (Or.inl rfl) pe_int)
  (pss_cons (ps_while PassesOwn.never (pt_cmpR op_lt (pv 3) (pv 0) (nomark _))
    (pss_cons (ps_set (i := 4) nd rfl (Or.inl rfl) (pe_callB (call_min2 rfl) (by rfl) T.min (by decide +kernel) (pa_cons (pe_ix ix_list (pe_lst (pa_cons pe_int (pa_cons pe_int (pa_cons pe_int (pa_cons (pe_op op_add pe_int (pe_op op_mod (pv 3) pe_int)) pa_nil))))) (pv 1) (fun _ _ => rfl)) (pa_cons (pe_op op_sub (pv 0) (pv 3)) pa_nil))))
      (pss_cons (ps_set (i := 5) nd rfl (Or.inl rfl) (pe_ix ix_list (pe_lst (pa_cons pe_str (pa_cons pe_str (pa_cons pe_str (pa_cons pe_str pa_nil))))) (pe_op op_mod (pe_op op_fdiv (pv 3) pe_int) pe_int) (fun _ _ => rfl)))
      (pss_cons (ps_set (i := 2) nd rfl (Or.inl rfl) (pe_ix ix_list (pe_lst (pa_cons (pe_op op_add_str (pe_op op_add_str pe_str (pv 2)) pe_str) (pa_cons (pe_op op_add_str (pe_op op_add_str (pv 5) (pv 2)) pe_str) (pa_cons (pe_op op_add_str (pe_op op_add_str pe_str (pv 2)) pe_str) pa_nil)))) (pe_op op_sub (pv 4) pe_int) (fun _ _ => rfl)))
      (pss_one (ps_set (i := 3) nd rfl (Or.inl rfl) (pe_op op_add (pv 3) (pv 4))))))))
  (pss_one (ps_ret (pv 2)))))), ?_⟩
  rw [st__law_long]
  refine seq_ fun R hR => ?_
  walk_at "rd"
  refine ⟨[55], by decide +kernel, 60, rfl, by decide, by decide, by decide, ?_⟩
  rw [show (List.replicate 60 [55]).flatten = wr (deepT 0) by rw [show wr (deepT 0) = numC n7 from rfl, n7_num]; decide]
  rw [hR]; clear hR
  refine seq_ fun R hR => ?_
  walk_at "rd"
  rw [hR]; clear hR
  refine seq_ fun R hR => ?_
  refine whileB_ (fun m σ H' => ∃ (t : Tr) (o4 o5 : Option V), σ = [some (V.int size), some (V.int shape), some (V.str (mkS (wr t))), some (V.int (t.size : Int)), o4, o5] ∧ Same H H' ∧ Good t ∧ (t.size : Int) ≤ size ∧ m = (size - t.size).toNat ∧ (shape = 0 → ∃ n, t = deepT n)) (size - 1).toNat
    ⟨deepT 0, none, none, rfl, Same.refl _, deep_good 0, hs1, rfl, fun _ => ⟨0, rfl⟩⟩ ?_
  rintro m σ H1 ⟨t, o4, o5, rfl, e1, hg, hle, rfl, hsh⟩ A B hA hB
  have lt := wr_len (fine_of hg)
  walk_at "rd"
  by_cases hlt : (t.size : Int) < size
  · rw [if_pos hlt]
    refine hA _ fun N hN => ?_
    refine seq_ fun R1 hR1 => ?_
    walk_at "rd"
    obtain ⟨k, hk, hk1, hk3, hk0⟩ : ∃ k : Int, atI [V.int 1, V.int 2, V.int 3, V.int (1 + (t.size : Int) % 3)] shape = some (V.int k) ∧ 1 ≤ k ∧ k ≤ 3 ∧ (shape = 0 → k = 1) := by
      have h : shape = 0 ∨ shape = 1 ∨ shape = 2 ∨ shape = 3 := by omega
      rcases h with h | h | h | h
      · exact ⟨1, by rw [h]; exact at0 _ _, by decide, by decide, fun _ => rfl⟩
      · exact ⟨2, by rw [h]; exact at1 _ _ _, by decide, by decide, fun z => by omega⟩
      · exact ⟨3, by rw [h]; exact at2 _ _ _ _, by decide, by decide, fun z => by omega⟩
      · exact ⟨1 + (t.size : Int) % 3, by rw [h]; exact at3 _ _ _ _ _, by omega, by omega, fun z => by omega⟩
    refine ⟨by decide, new_ fun p1 H2 hp1 e2 g2 => ⟨_, SqL.of g2, _, hk, k, rfl, ?_⟩⟩
    obtain ⟨mo, hmo, hm1, hm3, hm0, hml⟩ : ∃ mo : Int, (if size - (t.size : Int) < k then size - (t.size : Int) else k) = mo ∧ 1 ≤ mo ∧ mo ≤ 3 ∧ (shape = 0 → mo = 1) ∧ (t.size : Int) + mo ≤ size := by
      refine ⟨_, rfl, ?_⟩
      split
      · exact ⟨by omega, by omega, fun z => by have := hk0 z; omega, by omega⟩
      · exact ⟨hk1, hk3, hk0, by omega⟩
    rw [hmo, hR1]; clear hR1
    refine seq_ fun R1 hR1 => ?_
    walk_at "rd"
    refine new_ fun p2 H3 hp2 e3 g3 => ⟨by decide, by decide, by decide, ?_⟩
    obtain ⟨z, t2, hz, hzl, hw2, hg2, hs2', hnd⟩ : ∃ (z : List Nat) (t2 : Tr), atI [V.str "(plus 1 ", V.str "(let ab 1 ", V.str "(call 1 ", V.str "(less x "] ((t.size : Int) / 2 % 4) = some (V.str (mkS z)) ∧ z.length ≤ 10 ∧ wr t2 = z ++ (wr t ++ [41]) ∧ Good t2 ∧ t2.size = t.size + 2 ∧ True := by
      have h : (t.size : Int) / 2 % 4 = 0 ∨ (t.size : Int) / 2 % 4 = 1 ∨ (t.size : Int) / 2 % 4 = 2 ∨ (t.size : Int) / 2 % 4 = 3 := by omega
      have g1 : Good (.num 1) := ⟨by decide, by decide⟩
      have gx : Good (.name "x") := (by decide +kernel : isName "x" = true)
      rcases h with h | h | h | h
      · exact ⟨_, .plus (.num 1) t, by rw [h, lk_plus1]; exact at0 _ _, by decide, by simp [wr, wPlus, numC1], ⟨g1, hg⟩, by simp only [Tr.size]; omega, trivial⟩
      · exact ⟨_, .lt "ab" (.num 1) t, by rw [h, lk_let1]; exact at1 _ _ _, by decide, by simp [wr, wLet, numC1, lk_ab], ⟨by decide +kernel, g1, hg⟩, by simp only [Tr.size]; omega, trivial⟩
      · exact ⟨_, .call (.num 1) t, by rw [h, lk_call1]; exact at2 _ _ _ _, by decide, by simp [wr, wCall, numC1], ⟨g1, hg⟩, by simp only [Tr.size]; omega, trivial⟩
      · exact ⟨_, .less (.name "x") t, by rw [h, lk_less]; exact at3 _ _ _ _ _, by decide, by simp [wr, wLess, lk_xn], ⟨gx, hg⟩, by simp only [Tr.size]; omega, trivial⟩
    refine ⟨_, SqL.of g3, _, hz, ?_⟩
    rw [hR1]; clear hR1
    refine seq_ fun R1 hR1 => ?_
    walk_at "rd"
    rw [lk_fun, ls_rp, ls_if, lk_x2]
    simp only [mkS_app, mkS_len, List.length_append, List.length_cons, List.length_nil]
    refine ⟨szM (by omega), szM (by omega), szM (by omega), szM (by omega), szM (by omega), szM (by omega), new_ fun p3 H4 hp3 e4 g4 => ?_⟩
    obtain ⟨t3, ht3, hg3, hs3, hd3⟩ : ∃ t3 : Tr, atI [V.str (mkS ([40, 102, 117, 110, 32, 97, 98, 32] ++ wr t ++ [41])), V.str (mkS (z ++ wr t ++ [41])), V.str (mkS ([40, 105, 102, 32] ++ wr t ++ [32, 120, 32, 50, 41]))] (mo - 1) = some (V.str (mkS (wr t3))) ∧ Good t3 ∧ (t3.size : Int) = t.size + mo ∧ (shape = 0 → ∃ n, t3 = deepT n) := by
      have h : mo = 1 ∨ mo = 2 ∨ mo = 3 := by omega
      rcases h with rfl | rfl | rfl
      · refine ⟨.fn "ab" t, ?_, ⟨by decide +kernel, hg⟩, by simp only [Tr.size]; omega, fun h => ?_⟩
        · rw [show (1 : Int) - 1 = 0 by decide, at0]
          simp [wr, wFun, lk_ab]
        · obtain ⟨n, rfl⟩ := hsh h
          exact ⟨n + 1, rfl⟩
      · refine ⟨t2, ?_, hg2, by omega, fun h => by have := hm0 h; omega⟩
        rw [show (2 : Int) - 1 = 1 by decide, at1, hw2]
        simp
      · refine ⟨.ite t (.name "x") (.num 2), ?_, ⟨hg, (by decide +kernel : isName "x" = true), ⟨by decide, by decide⟩⟩, by simp only [Tr.size]; omega, fun h => by have := hm0 h; omega⟩
        rw [show (3 : Int) - 1 = 2 by decide, at2]
        simp [wr, wIf, lk_xn, numC2]
    refine ⟨_, SqL.of g4, _, ht3, ?_⟩
    rw [hR1]; clear hR1
    walk_at "rd"
    refine hN (size - (t3.size : Int)).toNat _ _ (by omega) ⟨t3, some (V.int mo), some (V.str (mkS z)), by rw [hs3], e1.trans (e2.trans (e3.trans e4)), hg3, by omega, rfl, hd3⟩
  · rw [if_neg hlt]
    refine hB _ ?_
    show R _ _
    rw [hR]
    walk_at "rd"
    exact q t _ e1 hg (by omega) hsh
end
end K07

namespace K07
open PySem L2 My
open PyProof.Rows (envOfC)
local macro_rules | `(tactic| walk_at "rd") => `(tactic| simp only [tCallS, CwR.tReplC, rEqT, rNewStrs, My.ife, My.tFor_eq, My.cx_K, My.cx_w, My.rRdK, My.rNeSelf, rIsi, tAsg, tDrop, tChain, tThenZ, kTyp, My.rInK, My.rMulS, iStr, sFld, sFldAug, tFld, tMe, tMkD, tCallE, tDZ, rDZ, tRevT, rAdd, sTail, tThen, kTup, tDisp, tPairs, tDIn, tDNotIn, V.ty.injEq, rAll, rU, tRet, tRetN, tIfS, tVar, tC, tOp, tUn, rI0, rI, rEq, rNe, CDiv, CMul, CPow, My.tTup_eq, My.tLst_eq, My.tDNewK_eq, My.tRevL_eq, My.tRevS, tM1, tM0, My.sz0, My.sz1, My.sz2, My.sz3, My.sz4, My.sz5, My.sz8, tCons, tNil, My.tCallD, tCB, gName, gTup, gCons, gNil, gSub, tTest, tB, tAnd, tOr, tNot, tIf, tAndV, tOrV, tNotV, rSetL, rSlS, rIxL, rIxT, rIxS, My.rSlT_eq, My.rSlL_eq, rIn, rCat, tLc_eq, iList, iTup, iRng1, iRng2, iRng3, wipe, List.map_cons, List.map_nil, tSl, tPart, tNoPart, tBM, tBM0, rAppend, My.rPopL, rExtend, My.rExtendT, tNext, tBreak, tCont, My.scal_ii, My.scal_ss, My.scal_bb, My.scal_is, My.scal_si, ipI, rListD, sDPut, tDGet, tDGet2, tAug, List.getElem?_cons_zero, List.getElem?_cons_succ, List.set_cons_zero, List.set_cons_succ, Option.some.injEq, exists_eq_left', exists_eq_left, V.int.injEq, V.ref.injEq, V.str.injEq, V.bl.injEq, exists_and_left, true_and, and_true, List.cons.injEq, exists_const, Bool.false_eq_true, ↓reduceIte, reduceCtorEq, false_and, and_assoc, decide_true, decide_false])
local macro_rules | `(tactic| walk_at "st") => `(tactic| (refine My.seq_ fun R hR => ?_))
local macro_rules | `(tactic| walk_at "sd") => `(tactic| repeat (first | refine ⟨by decide, ?_⟩ | refine ⟨.inl (by decide), ?_⟩))

abbrev s__law_spoilt : Stmt := topS 37
abbrev N__law_spoilt : List Str := ["_law_line", "_law_cell", "_law_at", "_law_odd_here"]
theorem sc__law_spoilt : FnScope N__law_spoilt ["_law_line", "_law_cell"] (defScope s__law_spoilt) := ⟨rfl, rfl, rfl, by decide +kernel, rfl, by decide +kernel, by decide +kernel⟩
theorem bd__law_spoilt : BindAll "_law_spoilt" s__law_spoilt ["_law_line", "_law_cell"] := fun _ _ _ _ _ _ us hl => match us, hl with | [_, _], _ => rfl
theorem st__law_spoilt (v0 v1 : V) : start N__law_spoilt [v0, v1] = [some v0, some v1, none, none] := rfl
section
variable {P : Program} {w : World} {K : PySem.W.Frag} {mg : Str → Option Value} {base : Heap}
theorem df_spoilt (T : Bt mg) (F : FunAt K mg "_law_spoilt" s__law_spoilt) (D__law_odd_signs : Df P w K mg base 1 "_law_odd_signs" [] spSigns) : Df P w K mg base 2 "_law_spoilt" ["_law_line", "_law_cell"] spSpoilt := by
  refine F.df sc__law_spoilt bd__law_spoilt (fun vs H Q E h => ?_) (fun f cdv A outer s H vs Q E hr h => ?_)
  · obtain ⟨_, _, rfl, _⟩ := h; rfl
  obtain ⟨t, c, rfl, hg, hlf, hsz, q⟩ := h
  have nd := sc__law_spoilt.nd
  refine ⟨_, (pss_cons (ps_set (i := 2) nd rfl (Or.inl rfl) (pe_op op_mod (pe_op op_fdiv (pv 1) pe_int) (pe_callB call_len_str (by rfl) T.len PySem.boot_len (pa_cons (pv 0) pa_nil))))
  (pss_cons (ps_if (pt_cmpR op_eq (pe_op op_mod (pv 1) pe_int) pe_int (nomark _))
    (pss_one (ps_ret (pe_op op_add_str (pe_op op_add_str (pe_op op_add_str (pe_op op_add_str (pe_op op_add_str pe_str (pe_ix ix_list (pe_lst (pa_cons pe_str (pa_cons pe_str (pa_cons pe_str pa_nil)))) (pe_op op_mod (pe_op op_fdiv (pv 1) pe_int) pe_int) (fun _ _ => rfl))) (pe_callTy call_str_int (by rfl) T.str (by decide +kernel) (pa_cons (pe_op op_mod (pe_op op_fdiv (pv 1) pe_int) pe_int) pa_nil))) pe_str) (pv 0)) pe_str)))
    pss_nil)
  (pss_cons (ps_if (pt_cmpR op_lt (pe_op op_mod (pv 1) pe_int) pe_int (nomark _))
    (pss_cons (ps_while PassesOwn.never (pt_cmpR op_notIn_sign (pe_ix ix_str (pv 0) (pv 2) (fun _ _ => rfl)) pe_str rfl)
        (pss_one (ps_set (i := 2) nd rfl (Or.inl rfl) (pe_op op_mod (pe_op op_add (pv 2) pe_int) (pe_callB call_len_str (by rfl) T.len PySem.boot_len (pa_cons (pv 0) pa_nil))))))
      (pss_one (ps_ret (pe_op op_add_str (pe_slice sl_str (pv 0) po_none (po_some (pv 2))) (pe_slice sl_str (pv 0) (po_some (pe_op op_add (pv 2) pe_int)) po_none)))))
    pss_nil)
  (pss_cons (ps_if (pt_cmpR op_eq (pe_op op_mod (pv 1) pe_int) pe_int (nomark _))
    (pss_one (ps_ret (pe_op op_add_str (pe_op op_add_str (pe_slice sl_str (pv 0) po_none (po_some (pv 2))) (pe_ix ix_str pe_str (pe_op op_mod (pe_op op_fdiv (pv 1) pe_int) pe_int) (fun _ _ => rfl))) (pe_slice sl_str (pv 0) (po_some (pv 2)) po_none))))
    pss_nil)
  (pss_cons (ps_set (i := 3) nd rfl (Or.inl rfl) (pe_callD0 D__law_odd_signs hr (by decide) rfl))
  (pss_one (ps_ret (pe_op op_add_str (pe_op op_add_str (pe_slice sl_str (pv 0) po_none (po_some (pv 2))) (pe_ix ix_str (pv 3) (pe_op op_mod (pe_op op_mod (pe_op op_mul (pv 1) pe_int) pe_int) (pe_callB call_len_str (by rfl) T.len PySem.boot_len (pa_cons (pv 3) pa_nil))) (fun _ _ => rfl))) (pe_slice sl_str (pv 0) (po_some (pv 2)) po_none))))))))), ?_⟩
  rw [st__law_spoilt]
  have hwl := wr_len (fine_of hg)
  have hwh := wr_head hlf
  obtain ⟨L, hL⟩ : ∃ L, L = wr t := ⟨_, rfl⟩
  have hcnt : L.count 40 = L.count 41 := by rw [hL]; exact read_count (by rw [readO_line hg (by omega) (scan_line hg)]; exact fun z => by cases z)
  rw [← hL] at hwl hwh ⊢
  have hpos : 0 < L.length := by rw [hwh]; simp
  refine seq_ fun R hR => ?_
  walk_at "rd"
  have hj0 := Int.emod_nonneg (c / 5) (show ((L.length : Nat) : Int) ≠ 0 by omega)
  have hj1 := Int.emod_lt_of_pos (c / 5) (show (0 : Int) < ((L.length : Nat) : Int) by omega)
  rw [mkS_len]
  refine ⟨by decide, by decide, szM (by omega), by omega, ?_⟩
  obtain ⟨j, hj⟩ : ∃ j : Nat, c / 5 % ((L.length : Nat) : Int) = (j : Int) := ⟨(c / 5 % ((L.length : Nat) : Int)).toNat, by omega⟩
  rw [hj] at hj0 hj1 ⊢
  have hjl : j < L.length := by omega
  clear hj hj0 hj1
  rw [hR]; clear hR
  refine ifq_ fun R A B hR hA hB => ?_
  walk_at "rd"
  refine ⟨by decide, ?_⟩
  by_cases h4 : c % 5 = 4
  · rw [if_pos h4, hA]; clear hA hB hR
    walk_at "rd"
    have hm0 := Int.emod_nonneg (c / 15) (show (100 : Int) ≠ 0 by decide)
    have hm1 := Int.emod_lt_of_pos (c / 15) (show (0 : Int) < 100 by decide)
    have gm : Good (.num (c / 15 % 100)) := ⟨by omega, by omega⟩
    obtain ⟨m, hm⟩ : ∃ m : Nat, c / 15 % 100 = (m : Int) := ⟨(c / 15 % 100).toNat, by omega⟩
    rw [hm] at gm ⊢
    refine new_ fun p H1 hp e1 g1 => ⟨by decide, by decide, by decide, ?_⟩
    obtain ⟨z, hz, hzl, hbad, hpw⟩ : ∃ z : List Nat, atI [V.str "0", V.str "-0", V.str "00"] (c / 5 % 3) = some (V.str (mkS z)) ∧ z.length ≤ 2 ∧ ¬ okW (z ++ digs m) ∧ PW (z ++ digs m) := by
      have hdp := (dig_pw m).1
      have hdn := digs_ne m
      have pw : ∀ z : List Nat, (∀ c ∈ z, c = 45 ∨ c = 48) → PW (z ++ digs m) := fun z hz => ⟨fun e => hdn (List.append_eq_nil_iff.mp e).2, fun x hx => by
        rcases List.mem_append.mp hx with hx | hx
        · have := hz x hx; omega
        · exact hdp.2 x hx⟩
      have h3 : c / 5 % 3 = 0 ∨ c / 5 % 3 = 1 ∨ c / 5 % 3 = 2 := by omega
      rcases h3 with h | h | h
      · exact ⟨[48], by rw [h, show Str.ofString "0" = mkS [48] by decide +kernel]; exact at0 _ _, by decide, (lead_bad hdn).1, pw _ (by simp)⟩
      · exact ⟨[45, 48], by rw [h, show Str.ofString "-0" = mkS [45, 48] by decide +kernel]; exact at1 _ _ _, by decide, (lead_bad hdn).2, pw _ (by simp)⟩
      · exact ⟨[48, 48], by rw [h, show Str.ofString "00" = mkS [48, 48] by decide +kernel]; exact at2 _ _ _ _, by decide, (lead_bad (z := 48 :: digs m) (by simp)).1, pw _ (by simp)⟩
    have ldm : (digs m).length ≤ 80 := digs_len (by have : (100 : Nat) ≤ 10 ^ 80 := by decide
                                                    omega)
    rw [to_digs, lk_plus, ls_sp, ls_rp]
    refine ⟨_, SqL.of g1, _, hz, _, rfl, ?_⟩
    simp only [mkS_app, mkS_len, List.length_append, List.length_cons, List.length_nil]
    refine ⟨szM (by omega), by decide, by decide, by decide, log60 gm, szM (by omega), szM (by omega), szM (by omega), szM (by omega), ?_⟩
    refine q _ _ e1 (rd_short (by simp only [List.length_append, List.length_cons, List.length_nil]; omega)) ?_
    have hsc := scan_second (L := L) hpw
    rw [← List.append_assoc] at hsc
    refine read_bad hsc (fun e => ?_) (fun e => ?_) hbad
    · exact absurd rfl (hpw.2 40 (by rw [e]; exact List.mem_singleton.mpr rfl)).2.1
    · exact absurd rfl (hpw.2 41 (by rw [e]; exact List.mem_singleton.mpr rfl)).2.2
  rw [if_neg h4, hB]; clear hA hB
  walk_at "rd"
  rw [hR]; clear hR
  refine ifq_ fun R A B hR hA hB => ?_
  walk_at "rd"
  refine ⟨by decide, ?_⟩
  by_cases h2 : c % 5 < 2
  · rw [if_pos h2, hA]; clear hA hB hR
    refine seq_ fun R hR => ?_
    refine whileB_ (fun m σ H' => ∃ j : Nat, σ = [some (V.str (mkS L)), some (V.int c), some (V.int (j : Int)), none] ∧ Same H H' ∧ j < L.length ∧ m = if j = 0 then 0 else L.length - j) (if j = 0 then 0 else L.length - j) ⟨j, rfl, Same.refl _, hjl, rfl⟩ ?_
    rintro m σ H1 ⟨j, rfl, e1, hjl, rfl⟩ A B hA hB
    walk_at "rd"
    have hgj : L[j]? = some L[j] := List.getElem?_eq_getElem hjl
    rw [mkS_len]
    refine ⟨szM (by omega), L[j], atI_nat hgj, L[j], rfl, ?_⟩
    rw [show (Str.ofString "()").cps.toList = [40, 41] by decide +kernel]
    by_cases hin : L[j] ∈ [40, 41]
    · rw [if_neg (by rw [decide_eq_true hin]; decide)]
      refine hB _ ?_
      show R _ _
      rw [hR]
      walk_at "rd"
      rw [mkS_len, mkS_hi _ _ (by omega), show (j : Int) + 1 = ((j + 1 : Nat) : Int) by omega, mkS_lo _ _ (by omega), mkS_app]
      have l3 : (L.take j).length + (L.drop (j + 1)).length ≤ L.length := by rw [List.length_take, List.length_drop]; omega
      simp only [mkS_len, List.length_append]
      refine ⟨szM (by omega), szM (by omega), szM (by omega), q _ _ e1 (rd_short (by simp only [List.length_append]; omega)) (unbalanced ?_)⟩
      have c40 := count_take (x := 40) hgj
      have c41 := count_take (x := 41) hgj
      have hin : L[j] = 40 ∨ L[j] = 41 := by simpa using hin
      rcases hin with h | h
      · rw [h, if_pos rfl] at c40
        rw [h, if_neg (by decide)] at c41
        omega
      · rw [h, if_neg (by decide)] at c40
        rw [h, if_pos rfl] at c41
        omega
    · rw [if_pos (by rw [decide_eq_false hin]; rfl)]
      refine hA _ fun N hN => ?_
      walk_at "rd"
      rw [mkS_len]
      have hj0 : j ≠ 0 := by
        intro e
        subst e
        have h0 : L[0] = 40 := by
          have : L[0]? = some 40 := by rw [hwh]; rfl
          rw [hgj] at this
          exact Option.some.inj this
        exact hin (by rw [h0]; decide)
      refine ⟨szM (by omega), by omega, ?_⟩
      have hmod : ((j : Int) + 1) % ((L.length : Nat) : Int) = (((j + 1) % L.length : Nat) : Int) := by
        rw [show (j : Int) + 1 = ((j + 1 : Nat) : Int) by omega]
        exact (Int.natCast_emod _ _).symm
      rw [hmod]
      have hlt := Nat.mod_lt (j + 1) hpos
      refine hN (if (j + 1) % L.length = 0 then 0 else L.length - (j + 1) % L.length) _ _ ?_ ⟨(j + 1) % L.length, rfl, e1, hlt, rfl⟩
      rw [if_neg hj0]
      by_cases hl : j + 1 < L.length
      · rw [Nat.mod_eq_of_lt hl, if_neg (by omega)]; omega
      · rw [show j + 1 = L.length by omega, Nat.mod_self, if_pos rfl]; omega
  rw [if_neg h2, hB]; clear hA hB
  walk_at "rd"
  rw [hR]; clear hR
  refine ifq_ fun R A B hR hA hB => ?_
  walk_at "rd"
  refine ⟨by decide, ?_⟩
  by_cases h3 : c % 5 = 2
  · rw [if_pos h3, hA]; clear hA hB hR
    walk_at "rd"
    have hb : c / 400 % 2 = 0 ∨ c / 400 % 2 = 1 := by omega
    obtain ⟨y, hy, hyb⟩ : ∃ y, atI (Str.ofString "()").cps.toList (c / 400 % 2) = some y ∧ (y = 40 ∨ y = 41) := by
      rw [show (Str.ofString "()").cps.toList = [40, 41] by decide +kernel]
      rcases hb with h | h
      · exact ⟨40, by rw [h]; exact atI_nat (j := 0) rfl, .inl rfl⟩
      · exact ⟨41, by rw [h]; exact atI_nat (j := 1) rfl, .inr rfl⟩
    rw [mkS_len]
    refine ⟨szM (by omega), by decide, by decide, by decide, by decide +kernel, y, hy, ?_⟩
    rw [one_sign, mkS_hi _ _ (by omega), mkS_lo _ _ (by omega), mkS_app, mkS_app]
    have l3 : (L.take j).length + (L.drop j).length = L.length := by rw [List.length_take, List.length_drop]; omega
    simp only [mkS_len, List.length_append, List.length_singleton]
    refine ⟨szM (by omega), szM (by omega), szM (by omega), q _ _ (Same.refl _) (rd_short (by simp only [List.length_append, List.length_singleton]; omega)) (unbalanced ?_)⟩
    rw [count_ins, count_ins]
    rcases hyb with rfl | rfl
    · rw [if_pos rfl, if_neg (by decide)]; omega
    · rw [if_neg (by decide), if_pos rfl]; omega
  rw [if_neg h3, hB]; clear hA hB
  walk_at "rd"
  rw [hR]; clear hR
  refine seq_ fun R hR => ?_
  walk_at "rd"
  refine ⟨rfl, fun H1 e1 => ?_⟩
  rw [hR]; clear hR
  walk_at "rd"
  have hol : oddS.length = 56 := by decide
  have hgc : ∃ x, atI (mkS oddS).cps.toList (c * 48271 % 1000003 % (((mkS oddS).length : Nat) : Int)) = some x ∧ x ∈ oddS := by
    rw [mkS_cps, mkS_len]
    have i0 := Int.emod_nonneg (c * 48271 % 1000003) (show ((oddS.length : Nat) : Int) ≠ 0 by rw [hol]; decide)
    have i1 := Int.emod_lt_of_pos (c * 48271 % 1000003) (show (0 : Int) < ((oddS.length : Nat) : Int) by rw [hol]; decide)
    generalize c * 48271 % 1000003 % ((oddS.length : Nat) : Int) = k at i0 i1
    obtain ⟨k, rfl⟩ : ∃ n : Nat, k = (n : Int) := ⟨k.toNat, by omega⟩
    have hk : k < oddS.length := by omega
    exact ⟨oddS[k], atI_nat (List.getElem?_eq_getElem hk), List.getElem_mem hk⟩
  obtain ⟨y, hy, hym⟩ := hgc
  have l3 : (L.take j).length + (L.drop j).length = L.length := by rw [List.length_take, List.length_drop]; omega
  refine ⟨by rw [mkS_len]; exact szM (by omega), .inr (by decide), by decide, by rw [mkS_len, hol]; exact szM (by decide), by rw [mkS_len, hol]; decide, by rw [mkS_len, hol]; exact szM (by decide), y, hy, ?_⟩
  rw [one_sign, mkS_hi _ _ (by omega), mkS_lo _ _ (by omega), mkS_app, mkS_app]
  simp only [mkS_len, List.length_append, List.length_singleton]
  exact ⟨szM (by omega), szM (by omega), szM (by omega), q _ _ e1 (rd_short (by simp only [List.length_append, List.length_singleton]; omega)) (read_sign (c := y) (by simp) (odd_no y hym))⟩
end
end K07

namespace K07
open PySem L2 My
open PyProof.Rows (envOfC)
local macro_rules | `(tactic| walk_at "rd") => `(tactic| simp only [tCallS, CwR.tReplC, rEqT, rNewStrs, My.ife, My.tFor_eq, My.cx_K, My.cx_w, My.rRdK, My.rNeSelf, rIsi, tAsg, tDrop, tChain, tThenZ, kTyp, My.rInK, My.rMulS, iStr, sFld, sFldAug, tFld, tMe, tMkD, tCallE, tDZ, rDZ, tRevT, rAdd, sTail, tThen, kTup, tDisp, tPairs, tDIn, tDNotIn, V.ty.injEq, rAll, rU, tRet, tRetN, tIfS, tVar, tC, tOp, tUn, rI0, rI, rEq, rNe, CDiv, CMul, CPow, My.tTup_eq, My.tLst_eq, My.tDNewK_eq, My.tRevL_eq, My.tRevS, tM1, tM0, My.sz0, My.sz1, My.sz2, My.sz3, My.sz4, My.sz5, My.sz8, tCons, tNil, My.tCallD, tCB, gName, gTup, gCons, gNil, gSub, tTest, tB, tAnd, tOr, tNot, tIf, tAndV, tOrV, tNotV, rSetL, rSlS, rIxL, rIxT, rIxS, My.rSlT_eq, My.rSlL_eq, rIn, rCat, tLc_eq, iList, iTup, iRng1, iRng2, iRng3, wipe, List.map_cons, List.map_nil, tSl, tPart, tNoPart, tBM, tBM0, rAppend, My.rPopL, rExtend, My.rExtendT, tNext, tBreak, tCont, My.scal_ii, My.scal_ss, My.scal_bb, My.scal_is, My.scal_si, ipI, rListD, sDPut, tDGet, tDGet2, tAug, List.getElem?_cons_zero, List.getElem?_cons_succ, List.set_cons_zero, List.set_cons_succ, Option.some.injEq, exists_eq_left', exists_eq_left, V.int.injEq, V.ref.injEq, V.str.injEq, V.bl.injEq, exists_and_left, true_and, and_true, List.cons.injEq, exists_const, Bool.false_eq_true, ↓reduceIte, reduceCtorEq, false_and, and_assoc, decide_true, decide_false])
local macro_rules | `(tactic| walk_at "st") => `(tactic| (refine My.seq_ fun R hR => ?_))
local macro_rules | `(tactic| walk_at "sd") => `(tactic| repeat (first | refine ⟨by decide, ?_⟩ | refine ⟨.inl (by decide), ?_⟩))

abbrev s_law : Stmt := topS 39
abbrev N_law : List Str := ["_law_script", "_law_way", "_law_cell", "_law_great", "_law_size", "_law_line", "_law_many", "_law_found", "_law_k"]
theorem sc_law : FnScope N_law ["_law_script"] (defScope s_law) := ⟨rfl, rfl, rfl, by decide +kernel, rfl, by decide +kernel, by decide +kernel⟩
theorem bd_law : BindAll "law" s_law ["_law_script"] := fun _ _ _ _ _ _ us hl => match us, hl with | [_], _ => rfl
theorem st_law (v0 : V) : start N_law [v0] = [some v0, none, none, none, none, none, none, none, none] := rfl
section
variable {P : Program} {w : World} {K : PySem.W.Frag} {mg : Str → Option Value} {base : Heap} {cX : Addr}
set_option maxHeartbeats 0 in
theorem df_law {fa : Addr} {fd : FuncData} (T : Bt mg) (F : Fun K "law" "law" s_law fa fd) (D__law_cell_at : Df P w K mg base 1 "_law_cell_at" ["_law_script", "_law_k"] (spCellA K)) (D__law_refused : DfT CX0 P w K mg base 5 "_law_refused" ["_law_line"] spRef) (D__law_odd : Df P w K mg base 1 "_law_odd" ["_law_cell"] spOdd)
    (D__law_no_blank : Df P w K mg base 6 "_law_no_blank" ["_law_at"] spNoBl) (D__law_good : Df P w K mg base 1 "_law_good" ["_law_cells"] (spGoodT K)) (D__law_long : Df P w K mg base 1 "_law_long" ["_law_size", "_law_shape"] spLong)
    (D__law_spoilt : Df P w K mg base 2 "_law_spoilt" ["_law_line", "_law_cell"] spSpoilt) (D_read : DfT (L2.CX P w) P w K mg base 4 "read" ["line"] (spRead cX)) :
    FnOk P w K mg base CX0 7 fa fd ["_law_script"] (spLaw K) := by
  refine F.ok sc_law (fun vs H Q E h => ?_) (fun cdv A outer s H vs Q E hr h => ?_)
  · obtain ⟨_, _, rfl, _⟩ := h; rfl
  obtain ⟨a, ns, rfl, hS, hl, q⟩ := h
  have nd := sc_law.nd
  refine ⟨_, (pss_set1 (i := 1) nd rfl (Or.inl rfl) (pe1_opL op_mod (pe1_callD D__law_cell_at hr (by decide) rfl (pa1_next (pv 0) (pa1_here pe1_int pa_nil))) pe_int)
  (psst_cons (PST.of (ps_set (i := 2) nd rfl (Or.inl rfl) (pe_callD D__law_cell_at hr (by decide) rfl (pa_cons (pv 0) (pa_cons pe_int pa_nil)))))
  (psst_cons (CwR.pst_if (pt_cmpR op_lt (pv 1) pe_int (nomark _))
    (CwR.psst_one (CwR.pst_ret (pet_callT (E := fun _ => E0) D__law_refused hr (by decide) rfl (fun _ => at0T) (pat_cons (CwR.PET.of (pe_callD D__law_odd hr (by decide) rfl (pa_cons (pv 2) pa_nil))) pat_nil))))
    CwR.psst_nil)
  (psst_cons (CwR.pst_if (pt_cmpR op_lt (pv 1) pe_int (nomark _))
    (psst_cons (CwR.pst_if (pt_cmpR op_eq (pe_op op_mod (pv 2) pe_int) pe_int (nomark _))
        (psst_great (i := 3) (a := 61) (b := 60) (by decide) (by decide) (by decide) (by decide) nd rfl rfl (pe_ix ix_list (pe_lst (pa_cons pe_str (pa_cons pe_str pa_nil))) (pe_op op_mod (pe_op op_fdiv (pv 2) pe_int) pe_int) (fun _ _ => rfl)) D__law_long D__law_refused hr (by decide) (by decide) rfl rfl (pah_cons (peh_add peh_int (peh_mod (peh_fdiv (peh_var (i := 2) rfl (.inl rfl)) peh_int) peh_int)) (pah_cons peh_int pah_nil)))
        CwR.psst_nil)
      (psst_cons (PST.of (ps_set (i := 4) nd rfl (Or.inl rfl) (pe_op op_add pe_int (pe_op op_mod (pe_op op_fdiv (pv 2) pe_int) pe_int))))
      (psst_cons (PST.of (ps_set (i := 5) nd rfl (Or.inl rfl) (pe_callD D__law_long hr (by decide) rfl (pa_cons (pv 4) (pa_cons (pe_op op_mod (pe_op op_fdiv (pv 2) pe_int) pe_int) pa_nil)))))
      (psst_cons (CwR.pst_if (pt_cmpR op_gt (pv 4) pe_int (nomark _))
        (CwR.psst_one (CwR.pst_ret (pet_callT (E := fun _ => E0) D__law_refused hr (by decide) rfl (fun _ => at0T) (pat_cons (CwR.PET.of (pv 5)) pat_nil))))
        CwR.psst_nil)
      (CwR.psst_one (CwR.pst_ret (pet_callB call_isi (by rfl) T.isinstance (by decide +kernel) (pat_cons (pet_callT (E := fun _ => E0) D_read hr (by decide) rfl (fun _ => atLT) (pat_cons (CwR.PET.of (pv 5)) pat_nil)) (pat_cons (CwR.PET.of (pe_bltn (v := .ty "tuple") (by rfl) T.tuple (by decide +kernel) rfl)) pat_nil)))))))))
    CwR.psst_nil)
  (psst_cons (CwR.pst_if (pt_cmpR op_eq (pv 1) pe_int (nomark _))
    (CwR.psst_one (CwR.pst_ret (pet_and (pet_callT (E := fun _ => E0) D__law_refused hr (by decide) rfl (fun _ => at0T) (pat_cons (CwR.PET.of (pe_ix ix_list (pe_lst (pa_cons pe_non (pa_cons pe_int (pa_cons (pe_lst (pa_cons pe_str pa_nil)) (pa_cons (pe_tup (pa_cons pe_str (pa_cons pe_str pa_nil))) (pa_cons pe_bl pa_nil)))))) (pe_op op_mod (pv 2) pe_int) (fun _ _ => rfl))) pat_nil)) (pet_one (CwR.PET.of (pe_callD D__law_no_blank hr (by decide) rfl (pa_cons (pe_op op_add pe_int (pe_op op_mul (pe_op op_mod (pe_op op_fdiv (pv 2) pe_int) pe_int) pe_int)) pa_nil)))))))
    CwR.psst_nil)
  (psst_cons (PST.of (ps_set (i := 6) nd rfl (Or.inl rfl) (pe_op op_add pe_int (pe_op op_mod (pe_callD D__law_cell_at hr (by decide) rfl (pa_cons (pv 0) (pa_cons pe_int pa_nil))) pe_int))))
  (psst_cons (PST.of (ps_set (i := 5) nd rfl (Or.inl rfl) (pe_callD D__law_good hr (by decide) rfl (pa_cons (pe_lc (own := [("_law_k", 8)]) (g := gName 8) rfl nd (pi_range1 rfl T.range (pa_cons (pv 6) pa_nil)) (blkOk_by (N := N_law) (sc := defScope s_law) (by decide +kernel)) (fun _ _ _ _ _ => (pg_name (i := 8) nd rfl (Or.inl rfl))) (fun _ _ _ _ _ => pts_nil) (fun _ _ _ _ _ => (pe_callD D__law_cell_at hr (by decide) rfl (pa_cons (pv 0) (pa_cons (pe_op op_add pe_int (pv 8)) pa_nil))))) pa_nil))))
  (psst_cons (pst_set (i := 7) nd rfl (Or.inl rfl) (pet_callT (E := fun _ => E0) D_read hr (by decide) rfl (fun _ => atLT) (pat_cons (CwR.PET.of (pv 5)) pat_nil)))
  (CwR.psst_one (CwR.pst_ret (pet_and (CwR.PET.of (pe_callB call_isi (by rfl) T.isinstance (by decide +kernel) (pa_cons (pv 7) (pa_cons (pe_bltn (v := .ty "tuple") (by rfl) T.tuple (by decide +kernel) rfl) pa_nil)))) (pet_one (pet_callT (E := fun _ => E0) D__law_refused hr (by decide) rfl (fun _ => at0T) (pat_cons (CwR.PET.of (pe_callD D__law_spoilt hr (by decide) rfl (pa_cons (pv 5) (pa_cons (pv 2) pa_nil)))) pat_nil)))))))))))))), ?_⟩
  rw [st_law]
  refine seq_ fun R hR => ?_
  walk_at "rd"
  refine ⟨a, ns, 0, rfl, hS, _, rfl, by decide, ?_⟩
  rw [hR]; clear hR
  refine seq_ fun R hR => ?_
  walk_at "rd"
  refine ⟨a, ns, 1, rfl, hS, ?_⟩
  generalize My.cell ns 1 = c
  have hw0 := Int.emod_nonneg (My.cell ns 0) (show (8 : Int) ≠ 0 by decide)
  generalize My.cell ns 0 % 8 = way at hw0
  rw [hR]; clear hR
  refine ifq_ fun R A B hR hA hB => ?_
  walk_at "rd"
  by_cases w2 : way < 2
  · rw [if_pos w2, hA]
    walk_at "rd"
    refine ⟨c, rfl, fun l H1 e1 hrd hno => ⟨_, rfl, .inl ⟨l, rfl, hrd, hno⟩, fun H2 e2 => q _⟩⟩
  rw [if_neg w2, hB]; clear hA hB
  walk_at "rd"
  rw [hR]; clear hR
  refine ifq_ fun R A B hR hA hB => ?_
  walk_at "rd"
  by_cases w4 : way < 4
  · rw [if_pos w4, hA]; clear hA hB hR
    refine ifq_ fun R A B hR hA hB => ?_
    walk_at "rd"
    refine ⟨by decide, ?_⟩
    by_cases h5 : c % 5 = 0
    · rw [if_pos h5, hA]; clear hA hB hR
      unfold tGreat
      walk_at "rd"
      obtain ⟨z, hz, hzz⟩ : ∃ z : List Nat, atI [V.str "", V.str "-"] (c / 200 % 2) = some (V.str (mkS z)) ∧ (z = [] ∨ z = [45]) := by
        have h : c / 200 % 2 = 0 ∨ c / 200 % 2 = 1 := by omega
        rcases h with h | h
        · exact ⟨[], by rw [h, show Str.ofString "" = mkS [] by decide +kernel]; exact at0 _ _, .inl rfl⟩
        · exact ⟨[45], by rw [h, show Str.ofString "-" = mkS [45] by decide +kernel]; exact at1 _ _ _, .inr rfl⟩
      have hzl : z.length ≤ 1 := by rcases hzz with rfl | rfl <;> decide
      have m0 := Int.emod_nonneg (c / 5) (show (40 : Int) ≠ 0 by decide)
      have m1 := Int.emod_lt_of_pos (c / 5) (show (0 : Int) < 40 by decide)
      refine new_ fun p H1 hp e1 g1 => ⟨by decide, by decide, by decide, _, SqL.of g1, _, hz, mkS z, rfl, by rw [mkS_len]; omega, c, 5, rfl, rfl, ⟨by decide, by decide⟩, c / 5, 40, rfl, rfl, (show (0 : Int) < 40 by decide), 1, c / 5 % 40, rfl, rfl, trivial, ?_⟩
      refine ⟨1 + c / 5 % 40, 0, rfl, by omega, by omega, by decide, by decide, fun t H2 e2 hg hs hd => ?_⟩
      obtain ⟨n, rfl⟩ := hd rfl
      rw [deep_size] at hs
      have hn : n ≤ 40 := by omega
      obtain ⟨g1', g2'⟩ := great_none hzz (n := n) (by omega)
      have hlw := wr_len (fine_of (deep_good n))
      rw [deep_size] at hlw
      refine ⟨_, rfl, ?_, great_ne z, _, rfl, .inl ⟨_, by rw [great_text], g1', g2'⟩, fun H3 e3 => q _⟩
      unfold s7
      rw [mkS_app, mkS_len, mkS_len, List.length_append, List.length_replicate]
      have h1 : (wr (deepT n)).length ≤ 4100 := by omega
      have h2 : ((wr (deepT n)).length + 1) * (z.length + 61) ≤ 4101 * 62 := Nat.mul_le_mul (by omega) (by omega)
      omega
    rw [if_neg h5, hB]; clear hA hB
    walk_at "rd"
    rw [hR]; clear hR
    refine seq_ fun R hR => ?_
    walk_at "rd"
    have m0 := Int.emod_nonneg (c / 5) (show (10 : Int) ≠ 0 by decide)
    have m1 := Int.emod_lt_of_pos (c / 5) (show (0 : Int) < 10 by decide)
    refine ⟨by decide, by decide, by decide, ?_⟩
    rw [hR]; clear hR
    refine seq_ fun R hR => ?_
    walk_at "rd"
    generalize hsz : 395 + c / 5 % 10 = size
    refine ⟨by decide, by decide, by decide, size, c / 50 % 4, rfl, by omega, by omega, Int.emod_nonneg _ (by decide), by omega, fun t H1 e1 hg hs _ => ?_⟩
    have hrd := rd_tree hg (by omega)
    rw [hR]; clear hR
    refine ifq_ fun R A B hR hA hB => ?_
    walk_at "rd"
    by_cases hbig : 400 < size
    · rw [if_pos hbig, hA]
      walk_at "rd"
      exact ⟨_, rfl, .inl ⟨wr t, rfl, hrd, readO_big hg (by omega) (scan_line hg)⟩, fun H2 e2 => q _⟩
    · rw [if_neg hbig, hB]; clear hA hB
      walk_at "rd"
      rw [hR]; clear hR
      walk_at "rd"
      refine ⟨_, rfl, .inl ⟨wr t, rfl, hrd.1, hrd.2.1, hrd.2.2, fun H2 e2 => ⟨fun t' r hr' hg' ha' => ?_, fun hn => by rw [readO_line hg (by omega) (scan_line hg)] at hn; cases hn⟩⟩⟩
      obtain ⟨p, ws, rfl, hp, _⟩ := ha'.view
      exact isi_ (isi_tt hp) (q _)
  rw [if_neg w4, hB]; clear hA hB
  walk_at "rd"
  rw [hR]; clear hR
  refine ifq_ fun R A B hR hA hB => ?_
  walk_at "rd"
  by_cases w5 : way = 4
  · rw [if_pos w5, hA]; clear hA hB hR
    walk_at "rd"
    refine new_ fun p1 H1 hp1 e1 g1 => new_ fun p2 H2 hp2 e2 g2 => new_ fun p3 H3 hp3 e3 g3 => ⟨by decide, _, SqL.of g3, ?_⟩
    have hno : c / 5 % 2 = 0 ∨ c / 5 % 2 = 1 := by omega
    obtain ⟨v, hk, hs, ha⟩ : ∃ v : V, Kd H3 v ∧ (∀ z, v ≠ .str z) ∧ atI [V.non, V.int 5, V.ref p1, V.ref p2, V.bl true] (c % 5) = some v := by
      have h5 : c % 5 = 0 ∨ c % 5 = 1 ∨ c % 5 = 2 ∨ c % 5 = 3 ∨ c % 5 = 4 := by omega
      rcases h5 with h | h | h | h | h
      · exact ⟨.non, ⟨_, rfl⟩, (fun z e => by cases e), by rw [h]; exact at0 _ _⟩
      · exact ⟨.int 5, ⟨_, rfl⟩, (fun z e => by cases e), by rw [h]; exact at1 _ _ _⟩
      · exact ⟨.ref p1, ⟨"list", by unfold zTyV; simp only [e3 _ _ (e2 _ _ g1)]⟩, (fun z e => by cases e), by rw [h]; exact at2 _ _ _ _⟩
      · exact ⟨.ref p2, kd_tup (e3 _ _ g2), (fun z e => by cases e), by rw [h]; exact at3 _ _ _ _ _⟩
      · exact ⟨.bl true, ⟨_, rfl⟩, (fun z e => by cases e), by rw [h]; exact atI_nat (j := 4) rfl⟩
    refine ⟨v, ha, v, rfl, .inr ⟨hk, hs⟩, fun H4 e4 => ⟨true, rfl, ?_⟩⟩
    rw [if_pos rfl]
    exact ⟨by decide, by decide, by decide, .inr (by decide), ⟨_, rfl, by omega⟩, fun H5 e5 => q _⟩
  rw [if_neg w5, hB]; clear hA hB
  walk_at "rd"
  rw [hR]; clear hR
  refine seq_ fun R hR => ?_
  walk_at "rd"
  refine ⟨a, ns, 2, rfl, hS, _, rfl, by decide, ?_⟩
  have m0 := Int.emod_nonneg (My.cell ns 2) (show (8 : Int) ≠ 0 by decide)
  have m1 := Int.emod_lt_of_pos (My.cell ns 2) (show (0 : Int) < 8 by decide)
  generalize hmany : 1 + My.cell ns 2 % 8 = many
  rw [hR]; clear hR
  refine seq_ fun R hR => ?_
  walk_at "rd"
  refine ⟨by omega, by omega, lcR (fun i acc H' => ∃ ms : List Int, acc = ms.map V.int ∧ ms.length = i) (fun _ _ _ _ _ h => h) (by omega) (fun _ => rfl) ⟨[], rfl, rfl⟩ ?_ ?_⟩
  · rintro i acc H2 hi _ e2 ⟨ms, rfl, hms⟩ Qy hy Qn hn
    walk_at "rd"
    show (if true = true then spCellA K [V.ref a, V.int (3 + (0 + (i : Int)))] H2 Qy E0 else Qn H2)
    rw [if_pos rfl]
    refine ⟨a, ns, 3 + i, by rw [show (3 : Int) + (0 + (i : Int)) = ((3 + i : Nat) : Int) by omega], e2.seq hS, hy _ _ (Same.refl _) ⟨ms ++ [My.cell ns (3 + i)], by rw [List.map_append]; rfl, by rw [List.length_append, hms]; rfl⟩⟩
  · rintro D ys H2 hD e2 h2 ⟨ms, rfl, hms⟩
    refine ⟨D, ms, rfl, SqL.of h2, by omega, fun t H3 e3 hg hlf hsz => ?_⟩
    have hlf := hlf (by intro e; subst e; simp at hms; omega)
    have hrd := rd_tree hg (by omega)
    rw [hR]; clear hR
    refine seq_ fun R hR => ?_
    walk_at "rd"
    refine ⟨_, rfl, .inl ⟨wr t, rfl, hrd.1, hrd.2.1, hrd.2.2, fun H4 e4 => ⟨fun t' r hr' hg' ha' => ?_, fun hn => by rw [readO_line hg (by omega) (scan_line hg)] at hn; cases hn⟩⟩⟩
    obtain ⟨p, ws, rfl, hp, _⟩ := ha'.view
    rw [hR]; clear hR
    walk_at "rd"
    refine isi_ (isi_tt hp) ?_
    rw [if_pos rfl]
    exact ⟨t, c, rfl, hg, hlf, by omega, fun l H5 e5 hrd' hno => ⟨_, rfl, .inl ⟨l, rfl, hrd', hno⟩, fun H6 e6 => q _⟩⟩
end
end K07

namespace K07
open PySem L2 My
set_option maxHeartbeats 0 in
theorem all_mk {l : PySem.W.OpenLaw} {w : World} {K : PySem.W.Frag} {h : Heap} {mg : Str → Option Value} {fa : Addr} (X : K.In h) (G : h.Ns mainGlobals mg) (hfa : mg "law" = some (.ref fa))
    {aST : Addr}
    {esST : Array DictEntry}
    {enST : Nat}
    {us0 : Tok}
    {us1 : Tok}
    {us2 : Tok}
    {us3 : Tok}
    {us4 : Tok}
    {us5 : Tok}
    {us6 : Tok}
    {us7 : Tok}
    {aLE : Addr}
    {esLE : Array DictEntry}
    {enLE : Nat}
    {ul0 : Tok}
    {ul1 : Tok}
    {ul2 : Tok}
    {ul3 : Tok}
    {ul4 : Tok}
    {ul5 : Tok}
    {ul6 : Tok}
    {ul7 : Tok}
    {t_MOST_NODES : Tok}
    {t_MOST_SIGNS : Tok}
    {t_TOO_GREAT : Tok}
    {t_MOST_FIGURES : Tok}
    {t_SIGNS : Tok}
    {t_FIGURES : Tok}
    {cNoTree : Addr}
    {cNotClosed : Addr}
    {cBadMost : Addr}
    {cNoNumber : Addr}
    {cNoFunction : Addr}
    {cDry : Addr}
    {cNoText : Addr}
    {cMillError : Addr}
    {od0 an0 : Option Addr} {sl0 : Array (Option Value)} {oc0 kV0 dc0 pm0 cd0 ct0 : Value} {f0 : Addr}
    {od1 an1 : Option Addr} {sl1 : Array (Option Value)} {oc1 kV1 dc1 pm1 cd1 ct1 : Value} {f1 : Addr}
    {od2 an2 : Option Addr} {sl2 : Array (Option Value)} {oc2 kV2 dc2 pm2 cd2 ct2 : Value} {f2 : Addr}
    {od3 an3 : Option Addr} {sl3 : Array (Option Value)} {oc3 kV3 dc3 pm3 cd3 ct3 : Value} {f3 : Addr}
    {od4 an4 : Option Addr} {sl4 : Array (Option Value)} {oc4 kV4 dc4 pm4 cd4 ct4 : Value} {f4 : Addr}
    {od5 an5 : Option Addr} {sl5 : Array (Option Value)} {oc5 kV5 dc5 pm5 cd5 ct5 : Value} {f5 : Addr}
    {od6 an6 : Option Addr} {sl6 : Array (Option Value)} {oc6 kV6 dc6 pm6 cd6 ct6 : Value} {f6 : Addr}
    {od7 an7 : Option Addr} {sl7 : Array (Option Value)} {oc7 kV7 dc7 pm7 cd7 ct7 : Value} {f7 : Addr}
    {od8 an8 : Option Addr} {sl8 : Array (Option Value)} {oc8 kV8 dc8 pm8 cd8 ct8 : Value} {f8 : Addr}
    {od9 an9 : Option Addr} {sl9 : Array (Option Value)} {oc9 kV9 dc9 pm9 cd9 ct9 : Value} {f9 : Addr}
    {od10 an10 : Option Addr} {sl10 : Array (Option Value)} {oc10 kV10 dc10 pm10 cd10 ct10 : Value} {f10 : Addr}
    {od11 an11 : Option Addr} {sl11 : Array (Option Value)} {oc11 kV11 dc11 pm11 cd11 ct11 : Value} {f11 : Addr}
    {od12 an12 : Option Addr} {sl12 : Array (Option Value)} {oc12 kV12 dc12 pm12 cd12 ct12 : Value} {f12 : Addr}
    {od13 an13 : Option Addr} {sl13 : Array (Option Value)} {oc13 kV13 dc13 pm13 cd13 ct13 : Value} {f13 : Addr}
    {od14 an14 : Option Addr} {sl14 : Array (Option Value)} {oc14 kV14 dc14 pm14 cd14 ct14 : Value} {f14 : Addr}
    {od15 an15 : Option Addr} {sl15 : Array (Option Value)} {oc15 kV15 dc15 pm15 cd15 ct15 : Value} {f15 : Addr}
    {od16 an16 : Option Addr} {sl16 : Array (Option Value)} {oc16 kV16 dc16 pm16 cd16 ct16 : Value} {f16 : Addr}
    {od17 an17 : Option Addr} {sl17 : Array (Option Value)} {oc17 kV17 dc17 pm17 cd17 ct17 : Value} {f17 : Addr}
    (z0 : PySem.W.nsIn K mainGlobals "len" = some none)
    (z1 : PySem.W.nsIn K mainGlobals "list" = some none)
    (z2 : PySem.W.nsIn K mainGlobals "range" = some none)
    (z3 : PySem.W.nsIn K mainGlobals "isinstance" = some none)
    (z4 : PySem.W.nsIn K mainGlobals "type" = some none)
    (z5 : PySem.W.nsIn K mainGlobals "all" = some none)
    (z6 : PySem.W.nsIn K mainGlobals "any" = some none)
    (z7 : PySem.W.nsIn K mainGlobals "str" = some none)
    (z8 : PySem.W.nsIn K mainGlobals "int" = some none)
    (z9 : PySem.W.nsIn K mainGlobals "bool" = some none)
    (z10 : PySem.W.nsIn K mainGlobals "tuple" = some none)
    (z11 : PySem.W.nsIn K mainGlobals "sorted" = some none)
    (z12 : PySem.W.nsIn K mainGlobals "reversed" = some none)
    (z13 : PySem.W.nsIn K mainGlobals "zip" = some none)
    (z14 : PySem.W.nsIn K mainGlobals "dict" = some none)
    (z15 : PySem.W.nsIn K mainGlobals "min" = some none)
    (z16 : PySem.W.nsIn K mainGlobals "max" = some none)
    (z17 : PySem.W.nsIn K mainGlobals "sum" = some none)
    (z18 : PySem.W.nsIn K mainGlobals "set" = some none)
    (z19 : PySem.W.nsIn K mainGlobals "repr" = some none)
    (z20 : PySem.W.nsIn K mainGlobals "abs" = some none)
    (z21 : PySem.W.nsIn K mainGlobals "enumerate" = some none)
    (z22 : PySem.W.nsIn K mainGlobals "ValueError" = some none)
    (gST : PySem.W.nsIn K mainGlobals "STARTS" = some (some (.ref aST)))
    (lST : K.lookup aST = some ⟨.type "dict", none, .dict esST enST, #[]⟩)
    (kST : PySem.W.KeysLit w.params esST.toList)
    (sST0 : PySem.W.nsIn K aST "num" = some (some (.int 2 us0)))
    (sST1 : PySem.W.nsIn K aST "name" = some (some (.int 2 us1)))
    (sST2 : PySem.W.nsIn K aST "fun" = some (some (.int 2 us2)))
    (sST3 : PySem.W.nsIn K aST "call" = some (some (.int 1 us3)))
    (sST4 : PySem.W.nsIn K aST "plus" = some (some (.int 1 us4)))
    (sST5 : PySem.W.nsIn K aST "less" = some (some (.int 1 us5)))
    (sST6 : PySem.W.nsIn K aST "if" = some (some (.int 1 us6)))
    (sST7 : PySem.W.nsIn K aST "let" = some (some (.int 2 us7)))
    (gLE : PySem.W.nsIn K mainGlobals "LENGTHS" = some (some (.ref aLE)))
    (lLE : K.lookup aLE = some ⟨.type "dict", none, .dict esLE enLE, #[]⟩)
    (kLE : PySem.W.KeysLit w.params esLE.toList)
    (sLE0 : PySem.W.nsIn K aLE "num" = some (some (.int 2 ul0)))
    (sLE1 : PySem.W.nsIn K aLE "name" = some (some (.int 2 ul1)))
    (sLE2 : PySem.W.nsIn K aLE "fun" = some (some (.int 3 ul2)))
    (sLE3 : PySem.W.nsIn K aLE "call" = some (some (.int 3 ul3)))
    (sLE4 : PySem.W.nsIn K aLE "plus" = some (some (.int 3 ul4)))
    (sLE5 : PySem.W.nsIn K aLE "less" = some (some (.int 3 ul5)))
    (sLE6 : PySem.W.nsIn K aLE "if" = some (some (.int 4 ul6)))
    (sLE7 : PySem.W.nsIn K aLE "let" = some (some (.int 4 ul7)))
    (low : (aLE == sysModules) = false)
    (hkLE : esLE.toList.all (fun e => match e.key with | .str z _ => wordsL.contains z | _ => false) = true)
    (i_MOST_NODES : PySem.W.nsIn K mainGlobals "MOST_NODES" = some (some (.int 400 t_MOST_NODES)))
    (i_MOST_SIGNS : PySem.W.nsIn K mainGlobals "MOST_SIGNS" = some (some (.int 8 t_MOST_SIGNS)))
    (i_TOO_GREAT : PySem.W.nsIn K mainGlobals "TOO_GREAT" = some (some (.int 1000000000000000000000000000000000000000000000000000000000000 t_TOO_GREAT)))
    (i_MOST_FIGURES : PySem.W.nsIn K mainGlobals "MOST_FIGURES" = some (some (.int 60 t_MOST_FIGURES)))
    (i_SIGNS : PySem.W.nsIn K mainGlobals "SIGNS" = some (some (.str "abcdefghijklmnopqrstuvwxyz" t_SIGNS)))
    (i_FIGURES : PySem.W.nsIn K mainGlobals "FIGURES" = some (some (.str "0123456789" t_FIGURES)))
    (nNoTree : PySem.W.nsIn K mainGlobals "NoTree" = some (some (.ref cNoTree)))
    (kpNoTree : PySem.W.keepIn K (.ref cNoTree) = true)
    (xNoTree : PySem.W.excIn K cNoTree [.type "ValueError", .type "Exception", .type "BaseException", .type "object"] "ValueError.__new__" = true)
    (eNoTree : PySem.W.subIn K (.ref cNoTree) (.type "BaseException") = some true)
    (tNoTree : PySem.W.typeIn K (.ref cNoTree) = some (.type "type"))
    (nNotClosed : PySem.W.nsIn K mainGlobals "NotClosed" = some (some (.ref cNotClosed)))
    (kpNotClosed : PySem.W.keepIn K (.ref cNotClosed) = true)
    (xNotClosed : PySem.W.excIn K cNotClosed [.type "ValueError", .type "Exception", .type "BaseException", .type "object"] "ValueError.__new__" = true)
    (eNotClosed : PySem.W.subIn K (.ref cNotClosed) (.type "BaseException") = some true)
    (tNotClosed : PySem.W.typeIn K (.ref cNotClosed) = some (.type "type"))
    (nBadMost : PySem.W.nsIn K mainGlobals "BadMost" = some (some (.ref cBadMost)))
    (kpBadMost : PySem.W.keepIn K (.ref cBadMost) = true)
    (xBadMost : PySem.W.excIn K cBadMost [.type "ValueError", .type "Exception", .type "BaseException", .type "object"] "ValueError.__new__" = true)
    (eBadMost : PySem.W.subIn K (.ref cBadMost) (.type "BaseException") = some true)
    (tBadMost : PySem.W.typeIn K (.ref cBadMost) = some (.type "type"))
    (nNoNumber : PySem.W.nsIn K mainGlobals "NoNumber" = some (some (.ref cNoNumber)))
    (kpNoNumber : PySem.W.keepIn K (.ref cNoNumber) = true)
    (xNoNumber : PySem.W.excIn K cNoNumber [.type "ValueError", .type "Exception", .type "BaseException", .type "object"] "ValueError.__new__" = true)
    (eNoNumber : PySem.W.subIn K (.ref cNoNumber) (.type "BaseException") = some true)
    (tNoNumber : PySem.W.typeIn K (.ref cNoNumber) = some (.type "type"))
    (nNoFunction : PySem.W.nsIn K mainGlobals "NoFunction" = some (some (.ref cNoFunction)))
    (kpNoFunction : PySem.W.keepIn K (.ref cNoFunction) = true)
    (xNoFunction : PySem.W.excIn K cNoFunction [.type "ValueError", .type "Exception", .type "BaseException", .type "object"] "ValueError.__new__" = true)
    (eNoFunction : PySem.W.subIn K (.ref cNoFunction) (.type "BaseException") = some true)
    (tNoFunction : PySem.W.typeIn K (.ref cNoFunction) = some (.type "type"))
    (nDry : PySem.W.nsIn K mainGlobals "Dry" = some (some (.ref cDry)))
    (kpDry : PySem.W.keepIn K (.ref cDry) = true)
    (xDry : PySem.W.excIn K cDry [.type "ValueError", .type "Exception", .type "BaseException", .type "object"] "ValueError.__new__" = true)
    (eDry : PySem.W.subIn K (.ref cDry) (.type "BaseException") = some true)
    (tDry : PySem.W.typeIn K (.ref cDry) = some (.type "type"))
    (nNoText : PySem.W.nsIn K mainGlobals "NoText" = some (some (.ref cNoText)))
    (kpNoText : PySem.W.keepIn K (.ref cNoText) = true)
    (xNoText : PySem.W.excIn K cNoText [.type "ValueError", .type "Exception", .type "BaseException", .type "object"] "ValueError.__new__" = true)
    (eNoText : PySem.W.subIn K (.ref cNoText) (.type "BaseException") = some true)
    (tNoText : PySem.W.typeIn K (.ref cNoText) = some (.type "type"))
    (nMillError : PySem.W.nsIn K mainGlobals "MillError" = some (some (.ref cMillError)))
    (kpMillError : PySem.W.keepIn K (.ref cMillError) = true)
    (xMillError : PySem.W.excIn K cMillError [.type "ValueError", .type "Exception", .type "BaseException", .type "object"] "ValueError.__new__" = true)
    (eMillError : PySem.W.subIn K (.ref cMillError) (.type "BaseException") = some true)
    (tMillError : PySem.W.typeIn K (.ref cMillError) = some (.type "type"))
    (hdNoTree : PySem.W.hasDictIn K cNoTree = true)
    (suNoTreeNoTree : PySem.W.subIn K (.ref cNoTree) (.ref cNoTree) = some true)
    (hdNoText : PySem.W.hasDictIn K cNoText = true)
    (suNoTextNoText : PySem.W.subIn K (.ref cNoText) (.ref cNoText) = some true)
    (hnX : PySem.W.specialIn K (.builtin "object.__class__") "__get__" = some (some (.builtin "getset_descriptor.__get__")))
    (tkX : PySem.W.takesIn K (.builtin "object.__class__") = some true)
    (ygNoText : PySem.W.findIn K (.ref cNoText) "__getattribute__" = some (some (.builtin "BaseException.__getattribute__")))
    (ykNoText : PySem.W.findIn K (.ref cNoText) "__getattr__" = some none)
    (ydNoText : PySem.W.hasDictIn K cNoText = true)
    (yaNoText : PySem.W.findIn K (.ref cNoText) "__class__" = some (some (.builtin "object.__class__")))
    (ymNoText : PySem.W.mroIn K cNoText (.type "object") = some true)
    (yvNoText : PySem.W.subIn K (.ref cNoText) (.type "ValueError") = some true)
    (ynNoTextNoTree : (Value.ref cNoText == Value.ref cNoTree) = false)
    (ysNoTextNoTree : PySem.W.subIn K (.ref cNoText) (.ref cNoTree) = some false)
    (ynNoTextNotClosed : (Value.ref cNoText == Value.ref cNotClosed) = false)
    (ysNoTextNotClosed : PySem.W.subIn K (.ref cNoText) (.ref cNotClosed) = some false)
    (ynNoTextBadMost : (Value.ref cNoText == Value.ref cBadMost) = false)
    (ysNoTextBadMost : PySem.W.subIn K (.ref cNoText) (.ref cBadMost) = some false)
    (ynNoTextDry : (Value.ref cNoText == Value.ref cDry) = false)
    (ysNoTextDry : PySem.W.subIn K (.ref cNoText) (.ref cDry) = some false)
    (ynNoTextNoNumber : (Value.ref cNoText == Value.ref cNoNumber) = false)
    (ysNoTextNoNumber : PySem.W.subIn K (.ref cNoText) (.ref cNoNumber) = some false)
    (ynNoTextNoFunction : (Value.ref cNoText == Value.ref cNoFunction) = false)
    (ysNoTextNoFunction : PySem.W.subIn K (.ref cNoText) (.ref cNoFunction) = some false)
    (ynNoTextMillError : (Value.ref cNoText == Value.ref cMillError) = false)
    (ysNoTextMillError : PySem.W.subIn K (.ref cNoText) (.ref cMillError) = some true)
    (yiNoTree : PySem.W.isClsIn K cNoTree = true)
    (yiNotClosed : PySem.W.isClsIn K cNotClosed = true)
    (yiBadMost : PySem.W.isClsIn K cBadMost = true)
    (yiDry : PySem.W.isClsIn K cDry = true)
    (yiNoNumber : PySem.W.isClsIn K cNoNumber = true)
    (yiNoFunction : PySem.W.isClsIn K cNoFunction = true)
    (yiMillError : PySem.W.isClsIn K cMillError = true)
    (zdm : PySem.W.nsIn K mainGlobals "divmod" = some none)
    (a0 : PySem.W.nsIn K mainGlobals "need_tree" = some (some (.ref f0)))
    (l0 : K.lookup f0 = some ⟨oc0, od0, .func (PySem.W.fnOf "need_tree" "need_tree" (defArgs s_need_tree) (defBody s_need_tree) (defScope s_need_tree) .none kV0 dc0 pm0 an0 cd0 ct0), sl0⟩)
    (c0 : PySem.W.codeIn K cd0 "need_tree" = true)
    (k0 : PySem.W.keepIn K (.ref f0) = true)
    (a1 : PySem.W.nsIn K mainGlobals "parts" = some (some (.ref f1)))
    (l1 : K.lookup f1 = some ⟨oc1, od1, .func (PySem.W.fnOf "parts" "parts" (defArgs s_parts) (defBody s_parts) (defScope s_parts) .none kV1 dc1 pm1 an1 cd1 ct1), sl1⟩)
    (c1 : PySem.W.codeIn K cd1 "parts" = true)
    (k1 : PySem.W.keepIn K (.ref f1) = true)
    (a2 : PySem.W.nsIn K mainGlobals "_is_node" = some (some (.ref f2)))
    (l2 : K.lookup f2 = some ⟨oc2, od2, .func (PySem.W.fnOf "_is_node" "_is_node" (defArgs s__is_node) (defBody s__is_node) (defScope s__is_node) .none kV2 dc2 pm2 an2 cd2 ct2), sl2⟩)
    (c2 : PySem.W.codeIn K cd2 "_is_node" = true)
    (k2 : PySem.W.keepIn K (.ref f2) = true)
    (a3 : PySem.W.nsIn K mainGlobals "is_number_trees" = some (some (.ref f3)))
    (l3 : K.lookup f3 = some ⟨oc3, od3, .func (PySem.W.fnOf "_is_number" "_is_number" (defArgs s_is_number_trees) (defBody s_is_number_trees) (defScope s_is_number_trees) .none kV3 dc3 pm3 an3 cd3 ct3), sl3⟩)
    (c3 : PySem.W.codeIn K cd3 "_is_number" = true)
    (k3 : PySem.W.keepIn K (.ref f3) = true)
    (a4 : PySem.W.nsIn K mainGlobals "_is_name" = some (some (.ref f4)))
    (l4 : K.lookup f4 = some ⟨oc4, od4, .func (PySem.W.fnOf "_is_name" "_is_name" (defArgs s__is_name) (defBody s__is_name) (defScope s__is_name) .none kV4 dc4 pm4 an4 cd4 ct4), sl4⟩)
    (c4 : PySem.W.codeIn K cd4 "_is_name" = true)
    (k4 : PySem.W.keepIn K (.ref f4) = true)
    (a5 : PySem.W.nsIn K mainGlobals "read" = some (some (.ref f5)))
    (l5 : K.lookup f5 = some ⟨oc5, od5, .func (PySem.W.fnOf "read" "read" (defArgs s_read) (defBody s_read) (defScope s_read) .none kV5 dc5 pm5 an5 cd5 ct5), sl5⟩)
    (c5 : PySem.W.codeIn K cd5 "read" = true)
    (k5 : PySem.W.keepIn K (.ref f5) = true)
    (a6 : PySem.W.nsIn K mainGlobals "_node" = some (some (.ref f6)))
    (l6 : K.lookup f6 = some ⟨oc6, od6, .func (PySem.W.fnOf "_node" "_node" (defArgs s__node) (defBody s__node) (defScope s__node) .none kV6 dc6 pm6 an6 cd6 ct6), sl6⟩)
    (c6 : PySem.W.codeIn K cd6 "_node" = true)
    (k6 : PySem.W.keepIn K (.ref f6) = true)
    (a7 : PySem.W.nsIn K mainGlobals "_part" = some (some (.ref f7)))
    (l7 : K.lookup f7 = some ⟨oc7, od7, .func (PySem.W.fnOf "_part" "_part" (defArgs s__part) (defBody s__part) (defScope s__part) .none kV7 dc7 pm7 an7 cd7 ct7), sl7⟩)
    (c7 : PySem.W.codeIn K cd7 "_part" = true)
    (k7 : PySem.W.keepIn K (.ref f7) = true)
    (a8 : PySem.W.nsIn K mainGlobals "is_number_notes" = some (some (.ref f8)))
    (l8 : K.lookup f8 = some ⟨oc8, od8, .func (PySem.W.fnOf "_is_number" "_is_number" (defArgs s_is_number_notes) (defBody s_is_number_notes) (defScope s_is_number_notes) .none kV8 dc8 pm8 an8 cd8 ct8), sl8⟩)
    (c8 : PySem.W.codeIn K cd8 "_is_number" = true)
    (k8 : PySem.W.keepIn K (.ref f8) = true)
    (a9 : PySem.W.nsIn K mainGlobals "_law_cell_at" = some (some (.ref f9)))
    (l9 : K.lookup f9 = some ⟨oc9, od9, .func (PySem.W.fnOf "_law_cell_at" "_law_cell_at" (defArgs s__law_cell_at) (defBody s__law_cell_at) (defScope s__law_cell_at) .none kV9 dc9 pm9 an9 cd9 ct9), sl9⟩)
    (c9 : PySem.W.codeIn K cd9 "_law_cell_at" = true)
    (k9 : PySem.W.keepIn K (.ref f9) = true)
    (a10 : PySem.W.nsIn K mainGlobals "_law_refused" = some (some (.ref f10)))
    (l10 : K.lookup f10 = some ⟨oc10, od10, .func (PySem.W.fnOf "_law_refused" "_law_refused" (defArgs s__law_refused) (defBody s__law_refused) (defScope s__law_refused) .none kV10 dc10 pm10 an10 cd10 ct10), sl10⟩)
    (c10 : PySem.W.codeIn K cd10 "_law_refused" = true)
    (k10 : PySem.W.keepIn K (.ref f10) = true)
    (a11 : PySem.W.nsIn K mainGlobals "_law_odd" = some (some (.ref f11)))
    (l11 : K.lookup f11 = some ⟨oc11, od11, .func (PySem.W.fnOf "_law_odd" "_law_odd" (defArgs s__law_odd) (defBody s__law_odd) (defScope s__law_odd) .none kV11 dc11 pm11 an11 cd11 ct11), sl11⟩)
    (c11 : PySem.W.codeIn K cd11 "_law_odd" = true)
    (k11 : PySem.W.keepIn K (.ref f11) = true)
    (a12 : PySem.W.nsIn K mainGlobals "_law_odd_signs" = some (some (.ref f12)))
    (l12 : K.lookup f12 = some ⟨oc12, od12, .func (PySem.W.fnOf "_law_odd_signs" "_law_odd_signs" (defArgs s__law_odd_signs) (defBody s__law_odd_signs) (defScope s__law_odd_signs) .none kV12 dc12 pm12 an12 cd12 ct12), sl12⟩)
    (c12 : PySem.W.codeIn K cd12 "_law_odd_signs" = true)
    (k12 : PySem.W.keepIn K (.ref f12) = true)
    (a13 : PySem.W.nsIn K mainGlobals "_law_no_blank" = some (some (.ref f13)))
    (l13 : K.lookup f13 = some ⟨oc13, od13, .func (PySem.W.fnOf "_law_no_blank" "_law_no_blank" (defArgs s__law_no_blank) (defBody s__law_no_blank) (defScope s__law_no_blank) .none kV13 dc13 pm13 an13 cd13 ct13), sl13⟩)
    (c13 : PySem.W.codeIn K cd13 "_law_no_blank" = true)
    (k13 : PySem.W.keepIn K (.ref f13) = true)
    (a14 : PySem.W.nsIn K mainGlobals "_law_good" = some (some (.ref f14)))
    (l14 : K.lookup f14 = some ⟨oc14, od14, .func (PySem.W.fnOf "_law_good" "_law_good" (defArgs s__law_good) (defBody s__law_good) (defScope s__law_good) .none kV14 dc14 pm14 an14 cd14 ct14), sl14⟩)
    (c14 : PySem.W.codeIn K cd14 "_law_good" = true)
    (k14 : PySem.W.keepIn K (.ref f14) = true)
    (a15 : PySem.W.nsIn K mainGlobals "_law_spoilt" = some (some (.ref f15)))
    (l15 : K.lookup f15 = some ⟨oc15, od15, .func (PySem.W.fnOf "_law_spoilt" "_law_spoilt" (defArgs s__law_spoilt) (defBody s__law_spoilt) (defScope s__law_spoilt) .none kV15 dc15 pm15 an15 cd15 ct15), sl15⟩)
    (c15 : PySem.W.codeIn K cd15 "_law_spoilt" = true)
    (k15 : PySem.W.keepIn K (.ref f15) = true)
    (a16 : PySem.W.nsIn K mainGlobals "_law_long" = some (some (.ref f16)))
    (l16 : K.lookup f16 = some ⟨oc16, od16, .func (PySem.W.fnOf "_law_long" "_law_long" (defArgs s__law_long) (defBody s__law_long) (defScope s__law_long) .none kV16 dc16 pm16 an16 cd16 ct16), sl16⟩)
    (c16 : PySem.W.codeIn K cd16 "_law_long" = true)
    (k16 : PySem.W.keepIn K (.ref f16) = true)
    (a17 : PySem.W.nsIn K mainGlobals "law" = some (some (.ref f17)))
    (l17 : K.lookup f17 = some ⟨oc17, od17, .func (PySem.W.fnOf "law" "law" (defArgs s_law) (defBody s_law) (defScope s_law) .none kV17 dc17 pm17 an17 cd17 ct17), sl17⟩)
    (c17 : PySem.W.codeIn K cd17 "law" = true)
    (k17 : PySem.W.keepIn K (.ref f17) = true) :
    ∃ fd : FuncData, (∀ (s : Shared) (v : Value), BindsTo s fd ⟨[v], []⟩ [("_law_script", v)]) ∧ ∀ base : Heap, K.In base → base.Ns mainGlobals mg → FnOk l.prog w K mg base CX0 7 fa fd ["_law_script"] (spLaw K) := by
  have B : Bt mg := { len := PySem.W.mg_none_of X G z0, list := PySem.W.mg_none_of X G z1, range := PySem.W.mg_none_of X G z2, isinstance := PySem.W.mg_none_of X G z3, type := PySem.W.mg_none_of X G z4, all := PySem.W.mg_none_of X G z5, any := PySem.W.mg_none_of X G z6, str := PySem.W.mg_none_of X G z7, int := PySem.W.mg_none_of X G z8, bool := PySem.W.mg_none_of X G z9, tuple := PySem.W.mg_none_of X G z10, sorted := PySem.W.mg_none_of X G z11, reversed := PySem.W.mg_none_of X G z12, zip := PySem.W.mg_none_of X G z13, dict := PySem.W.mg_none_of X G z14, min := PySem.W.mg_none_of X G z15, max := PySem.W.mg_none_of X G z16, sum := PySem.W.mg_none_of X G z17, set := PySem.W.mg_none_of X G z18, repr := PySem.W.mg_none_of X G z19, abs := PySem.W.mg_none_of X G z20, enumerate := PySem.W.mg_none_of X G z21, ValueError := PySem.W.mg_none_of X G z22 }
  have hstarts : ∀ t : Wd, RdK K w aST t.str (.int t.start) := fun t => by
    cases t
    · exact ⟨esST, enST, _, lST, kST, sST0, ⟨_, rfl⟩⟩
    · exact ⟨esST, enST, _, lST, kST, sST1, ⟨_, rfl⟩⟩
    · exact ⟨esST, enST, _, lST, kST, sST2, ⟨_, rfl⟩⟩
    · exact ⟨esST, enST, _, lST, kST, sST3, ⟨_, rfl⟩⟩
    · exact ⟨esST, enST, _, lST, kST, sST4, ⟨_, rfl⟩⟩
    · exact ⟨esST, enST, _, lST, kST, sST5, ⟨_, rfl⟩⟩
    · exact ⟨esST, enST, _, lST, kST, sST6, ⟨_, rfl⟩⟩
    · exact ⟨esST, enST, _, lST, kST, sST7, ⟨_, rfl⟩⟩
  have hlengths : ∀ t : Wd, RdK K w aLE t.str (.int t.len) := fun t => by
    cases t
    · exact ⟨esLE, enLE, _, lLE, kLE, sLE0, ⟨_, rfl⟩⟩
    · exact ⟨esLE, enLE, _, lLE, kLE, sLE1, ⟨_, rfl⟩⟩
    · exact ⟨esLE, enLE, _, lLE, kLE, sLE2, ⟨_, rfl⟩⟩
    · exact ⟨esLE, enLE, _, lLE, kLE, sLE3, ⟨_, rfl⟩⟩
    · exact ⟨esLE, enLE, _, lLE, kLE, sLE4, ⟨_, rfl⟩⟩
    · exact ⟨esLE, enLE, _, lLE, kLE, sLE5, ⟨_, rfl⟩⟩
    · exact ⟨esLE, enLE, _, lLE, kLE, sLE6, ⟨_, rfl⟩⟩
    · exact ⟨esLE, enLE, _, lLE, kLE, sLE7, ⟨_, rfl⟩⟩
  have I_MOST_NODES : GInt mg "MOST_NODES" 400 := ⟨_, PySem.W.mg_of X G i_MOST_NODES⟩
  have I_MOST_SIGNS : GInt mg "MOST_SIGNS" 8 := ⟨_, PySem.W.mg_of X G i_MOST_SIGNS⟩
  have I_TOO_GREAT : GInt mg "TOO_GREAT" (10 ^ 60) := ⟨t_TOO_GREAT, by rw [show (10 ^ 60 : Int) = 1000000000000000000000000000000000000000000000000000000000000 by decide +kernel]; exact PySem.W.mg_of X G i_TOO_GREAT⟩
  have I_MOST_FIGURES : GInt mg "MOST_FIGURES" 60 := ⟨_, PySem.W.mg_of X G i_MOST_FIGURES⟩
  have I_SIGNS : GStr mg "SIGNS" "abcdefghijklmnopqrstuvwxyz" := ⟨_, PySem.W.mg_of X G i_SIGNS⟩
  have I_FIGURES : GStr mg "FIGURES" "0123456789" := ⟨_, PySem.W.mg_of X G i_FIGURES⟩
  have E_NoTree : ErrC K mg "NoTree" cNoTree := ⟨PySem.W.mg_of X G nNoTree, kpNoTree, xNoTree, eNoTree, tNoTree⟩
  have E_NotClosed : ErrC K mg "NotClosed" cNotClosed := ⟨PySem.W.mg_of X G nNotClosed, kpNotClosed, xNotClosed, eNotClosed, tNotClosed⟩
  have E_BadMost : ErrC K mg "BadMost" cBadMost := ⟨PySem.W.mg_of X G nBadMost, kpBadMost, xBadMost, eBadMost, tBadMost⟩
  have E_NoNumber : ErrC K mg "NoNumber" cNoNumber := ⟨PySem.W.mg_of X G nNoNumber, kpNoNumber, xNoNumber, eNoNumber, tNoNumber⟩
  have E_NoFunction : ErrC K mg "NoFunction" cNoFunction := ⟨PySem.W.mg_of X G nNoFunction, kpNoFunction, xNoFunction, eNoFunction, tNoFunction⟩
  have E_Dry : ErrC K mg "Dry" cDry := ⟨PySem.W.mg_of X G nDry, kpDry, xDry, eDry, tDry⟩
  have E_NoText : ErrC K mg "NoText" cNoText := ⟨PySem.W.mg_of X G nNoText, kpNoText, xNoText, eNoText, tNoText⟩
  have E_MillError : ErrC K mg "MillError" cMillError := ⟨PySem.W.mg_of X G nMillError, kpMillError, xMillError, eMillError, tMillError⟩
  have XC_NoText : ExcC K cNoText := ⟨ygNoText, ykNoText, eNoText, ydNoText, yaNoText, hnX, tkX, ymNoText⟩
  have F_need_tree : FunAt K mg "need_tree" s_need_tree := FunAt.mk X G a0 l0 c0 k0
  have F_parts : FunAt K mg "parts" s_parts := FunAt.mk X G a1 l1 c1 k1
  have F__is_node : FunAt K mg "_is_node" s__is_node := FunAt.mk X G a2 l2 c2 k2
  have F_is_number_trees : FunQ K mg "is_number_trees" "_is_number" s_is_number_trees := ⟨_, _, fun_mk (st := s_is_number_trees) l3 c3 k3, PySem.W.mg_of X G a3⟩
  have F__is_name : FunAt K mg "_is_name" s__is_name := FunAt.mk X G a4 l4 c4 k4
  have F_read : FunAt K mg "read" s_read := FunAt.mk X G a5 l5 c5 k5
  have F__node : FunAt K mg "_node" s__node := FunAt.mk X G a6 l6 c6 k6
  have F__part : FunAt K mg "_part" s__part := FunAt.mk X G a7 l7 c7 k7
  have F_is_number_notes : FunQ K mg "is_number_notes" "_is_number" s_is_number_notes := ⟨_, _, fun_mk (st := s_is_number_notes) l8 c8 k8, PySem.W.mg_of X G a8⟩
  have F__law_cell_at : FunAt K mg "_law_cell_at" s__law_cell_at := FunAt.mk X G a9 l9 c9 k9
  have F__law_refused : FunAt K mg "_law_refused" s__law_refused := FunAt.mk X G a10 l10 c10 k10
  have F__law_odd : FunAt K mg "_law_odd" s__law_odd := FunAt.mk X G a11 l11 c11 k11
  have F__law_odd_signs : FunAt K mg "_law_odd_signs" s__law_odd_signs := FunAt.mk X G a12 l12 c12 k12
  have F__law_no_blank : FunAt K mg "_law_no_blank" s__law_no_blank := FunAt.mk X G a13 l13 c13 k13
  have F__law_good : FunAt K mg "_law_good" s__law_good := FunAt.mk X G a14 l14 c14 k14
  have F__law_spoilt : FunAt K mg "_law_spoilt" s__law_spoilt := FunAt.mk X G a15 l15 c15 k15
  have F__law_long : FunAt K mg "_law_long" s__law_long := FunAt.mk X G a16 l16 c16 k16
  have F_law : FunAt K mg "law" s_law := FunAt.mk X G a17 l17 c17 k17
  have U : PTxt K w mg aLE aST cNoTree := { toBt := B, MOST_NODES := I_MOST_NODES, MOST_SIGNS := I_MOST_SIGNS, TOO_GREAT := I_TOO_GREAT, SIGNS := I_SIGNS, STARTS := PySem.W.mg_of X G gST, starts := hstarts, LENGTHS := PySem.W.mg_of X G gLE, lengths := hlengths, nolen := fun x hx => nsIn_none lLE hkLE (Wd.find_none hx), KLENGTHS := ⟨esLE, enLE, lLE, kLE, low⟩, NoTree := E_NoTree }
  have N : NTxt K w mg aLE aST cNoTree cNoText := { toPTxt := U, FIGURES := I_FIGURES, MOST_FIGURES := I_MOST_FIGURES, NoText := E_NoText, divmod := PySem.W.mg_none_of X G zdm }
  have EX := PySem.W.exm_ref eNoTree hdNoTree tNoTree suNoTreeNoTree
  have L : LT7 K mg cNoText cMillError cNoTree cNotClosed cBadMost cNoNumber cNoFunction cDry := { toBt := B, cNoText := E_NoText.c_, cMillError := E_MillError.c_, cNoTree := E_NoTree.c_, cNotClosed := E_NotClosed.c_, cBadMost := E_BadMost.c_, cNoNumber := E_NoNumber.c_, cNoFunction := E_NoFunction.c_, cDry := E_Dry.c_, ex := XC_NoText, any1 := kitAny_cons (kit_own_b ynNoTextNoTree yiNoTree tNoTree ysNoTextNoTree) (fun _ => kitAny_cons (kit_own_b ynNoTextNotClosed yiNotClosed tNotClosed ysNoTextNotClosed) (fun _ => kitAny_cons (kit_own_b ynNoTextBadMost yiBadMost tBadMost ysNoTextBadMost) (fun _ => rfl) (fun z => by cases z)) (fun z => by cases z)) (fun z => by cases z), any2 := kitAny_cons (kit_own_b ynNoTextNoNumber yiNoNumber tNoNumber ysNoTextNoNumber) (fun _ => kitAny_cons (kit_own_b ynNoTextNoFunction yiNoFunction tNoFunction ysNoTextNoFunction) (fun _ => kitAny_cons (kit_own_b ynNoTextDry yiDry tDry ysNoTextDry) (fun _ => rfl) (fun z => by cases z)) (fun z => by cases z)) (fun z => by cases z), mm := (kit_own_b ynNoTextMillError yiMillError tMillError ysNoTextMillError), vv := kit_blt_b (by rfl) (by decide +kernel) yvNoText, mC := PySem.W.exm_ref eNoText hdNoText tNoText suNoTextNoText }
  suffices z : ∀ fd : FuncData, Fun K "law" "law" s_law fa fd → ∀ base : Heap, K.In base ∧ base.Ns mainGlobals mg → FnOk l.prog w K mg base CX0 7 fa fd ["_law_script"] (spLaw K) from by
    obtain ⟨fd, hb, hok⟩ := law_of (y := "_law_script") F_law hfa (fun kV doc pm an cdv ct v => rfl) z
    exact ⟨fd, hb, fun base a b => hok base ⟨a, b⟩⟩
  intro fd F base _
  have D1 := df_num (P := l.prog) (w := w) (base := base) U F_is_number_trees
  have D2 := df_isname (P := l.prog) (w := w) (base := base) U F__is_name
  have D3 := df_parts (P := l.prog) (w := w) (base := base) U F_parts
  have D4 := df_isnode (P := l.prog) (w := w) (base := base) U F__is_node D1 D2
  have D5 := df_need (P := l.prog) (w := w) (base := base) U F_need_tree D3 D4
  have D6 := df_isn (P := l.prog) (w := w) (base := base) N F_is_number_notes
  have D7 := df_part (P := l.prog) (w := w) (base := base) N F__part D6
  have D8 := df_node (P := l.prog) (w := w) (base := base) N F__node D7
  have D9 := df_read (P := l.prog) (w := w) (base := base) N F_read EX D5 D7 D8
  have D10 := df_refused (P := l.prog) (w := w) (base := base) L F__law_refused D9
  have D11 := df_odd (P := l.prog) (w := w) (base := base) B F__law_odd
  have D12 := df_signs (P := l.prog) (w := w) (base := base) (mg := mg) (K := K) F__law_odd_signs
  have D13 := df_noblank (P := l.prog) (w := w) (base := base) B F__law_no_blank D12 D10
  have D14 := df_cell (P := l.prog) (w := w) (base := base) B F__law_cell_at
  have D15 := df_good (P := l.prog) (w := w) (base := base) B F__law_good
  have D16 := df_long (P := l.prog) (w := w) (base := base) B F__law_long
  have D17 := df_spoilt (P := l.prog) (w := w) (base := base) B F__law_spoilt D12
  exact df_law (P := l.prog) (w := w) (base := base) B F D14 D10 D11 D13 D15 D16 D17 D9
theorem walk {l : PySem.W.OpenLaw} {q : Program} {loose : List Str} {XP : (Str → Option Value) → Heap → Prop} {YP : World → Heap → Prop} {d : DefRec} {K : Params → PySem.W.Frag} (hn : l.most = some 63) (hdf : d.params.defaults = [])
    (hY : ∀ (w : World) (h : Heap), YP w h → (K w.params).In h)
    (F : ∀ (w : World) (mg : Str → Option Value) (fa : Addr) (h : Heap), (K w.params).In h → h.Ns mainGlobals mg → mg d.name = some (.ref fa) →
      ∃ fd : FuncData, (∀ (s : Shared) (u : Value), BindsTo s fd ⟨[u], []⟩ [("_law_script", u)]) ∧ ∀ base : Heap, (K w.params).In base → base.Ns mainGlobals mg → FnOk l.prog w (K w.params) mg base CX0 7 fa fd ["_law_script"] (spLaw (K w.params))) :
    PySem.W.WalkO q loose XP YP l.row.toRowW d [] (fun f vs => PySem.call f vs) :=
  L2.walk_of (n := 63) (k := 7) (x := "_law_script") (CX := fun _ => CX0) (sp := fun w => spLaw (K w.params)) hn (by decide) hdf ⟨rfl, by decide, by decide⟩ hY F (fun _ _ a ns hl _ hS => ⟨a, ns, rfl, hS, hl, fun _ => rfl⟩) fun _ _ _ _ _ z => z
end K07
open PySem PySem.W PyProof.Rows
set_option maxRecDepth 100000 in
set_option maxHeartbeats 0 in
theorem PySem.Challenge.cw_closuremill_k07_texts_refused_holds : PySem.Challenge.rw_closuremill_k07_texts_refused.Holds := by
  w_on; o_law; k_head; (case hw => w_witness2)
  k_fill
  refine K07.walk (l := PySem.Challenge.rw_closuremill_k07_texts_refused) rfl rfl (fun w h Y => PySem.W.kIn_of Y) ?F
  case F =>
    intro w mg fa h KX G hmg
    refine' K07.all_mk KX G hmg ?h_z0 ?h_z1 ?h_z2 ?h_z3 ?h_z4 ?h_z5 ?h_z6 ?h_z7 ?h_z8 ?h_z9 ?h_z10 ?h_z11 ?h_z12 ?h_z13 ?h_z14 ?h_z15 ?h_z16 ?h_z17 ?h_z18 ?h_z19 ?h_z20 ?h_z21 ?h_z22 ?h_gST ?h_lST ?h_kST ?h_sST0 ?h_sST1 ?h_sST2 ?h_sST3 ?h_sST4 ?h_sST5 ?h_sST6 ?h_sST7 ?h_gLE ?h_lLE ?h_kLE ?h_sLE0 ?h_sLE1 ?h_sLE2 ?h_sLE3 ?h_sLE4 ?h_sLE5 ?h_sLE6 ?h_sLE7 ?h_low ?h_hkLE ?h_i_MOST_NODES ?h_i_MOST_SIGNS ?h_i_TOO_GREAT ?h_i_MOST_FIGURES ?h_i_SIGNS ?h_i_FIGURES ?h_nNoTree ?h_kpNoTree ?h_xNoTree ?h_eNoTree ?h_tNoTree ?h_nNotClosed ?h_kpNotClosed ?h_xNotClosed ?h_eNotClosed ?h_tNotClosed ?h_nBadMost ?h_kpBadMost ?h_xBadMost ?h_eBadMost ?h_tBadMost ?h_nNoNumber ?h_kpNoNumber ?h_xNoNumber ?h_eNoNumber ?h_tNoNumber ?h_nNoFunction ?h_kpNoFunction ?h_xNoFunction ?h_eNoFunction ?h_tNoFunction ?h_nDry ?h_kpDry ?h_xDry ?h_eDry ?h_tDry ?h_nNoText ?h_kpNoText ?h_xNoText ?h_eNoText ?h_tNoText ?h_nMillError ?h_kpMillError ?h_xMillError ?h_eMillError ?h_tMillError ?h_hdNoTree ?h_suNoTreeNoTree ?h_hdNoText ?h_suNoTextNoText ?h_hnX ?h_tkX ?h_ygNoText ?h_ykNoText ?h_ydNoText ?h_yaNoText ?h_ymNoText ?h_yvNoText ?h_ynNoTextNoTree ?h_ysNoTextNoTree ?h_ynNoTextNotClosed ?h_ysNoTextNotClosed ?h_ynNoTextBadMost ?h_ysNoTextBadMost ?h_ynNoTextDry ?h_ysNoTextDry ?h_ynNoTextNoNumber ?h_ysNoTextNoNumber ?h_ynNoTextNoFunction ?h_ysNoTextNoFunction ?h_ynNoTextMillError ?h_ysNoTextMillError ?h_yiNoTree ?h_yiNotClosed ?h_yiBadMost ?h_yiDry ?h_yiNoNumber ?h_yiNoFunction ?h_yiMillError ?h_zdm ?h_a0 ?h_l0 ?h_c0 ?h_k0 ?h_a1 ?h_l1 ?h_c1 ?h_k1 ?h_a2 ?h_l2 ?h_c2 ?h_k2 ?h_a3 ?h_l3 ?h_c3 ?h_k3 ?h_a4 ?h_l4 ?h_c4 ?h_k4 ?h_a5 ?h_l5 ?h_c5 ?h_k5 ?h_a6 ?h_l6 ?h_c6 ?h_k6 ?h_a7 ?h_l7 ?h_c7 ?h_k7 ?h_a8 ?h_l8 ?h_c8 ?h_k8 ?h_a9 ?h_l9 ?h_c9 ?h_k9 ?h_a10 ?h_l10 ?h_c10 ?h_k10 ?h_a11 ?h_l11 ?h_c11 ?h_k11 ?h_a12 ?h_l12 ?h_c12 ?h_k12 ?h_a13 ?h_l13 ?h_c13 ?h_k13 ?h_a14 ?h_l14 ?h_c14 ?h_k14 ?h_a15 ?h_l15 ?h_c15 ?h_k15 ?h_a16 ?h_l16 ?h_c16 ?h_k16 ?h_a17 ?h_l17 ?h_c17 ?h_k17
    (case h_z0 => k_is)
    (case h_z1 => k_is)
    (case h_z2 => k_is)
    (case h_z3 => k_is)
    (case h_z4 => k_is)
    (case h_z5 => k_is)
    (case h_z6 => k_is)
    (case h_z7 => k_is)
    (case h_z8 => k_is)
    (case h_z9 => k_is)
    (case h_z10 => k_is)
    (case h_z11 => k_is)
    (case h_z12 => k_is)
    (case h_z13 => k_is)
    (case h_z14 => k_is)
    (case h_z15 => k_is)
    (case h_z16 => k_is)
    (case h_z17 => k_is)
    (case h_z18 => k_is)
    (case h_z19 => k_is)
    (case h_z20 => k_is)
    (case h_z21 => k_is)
    (case h_z22 => k_is)
    (case h_gST => k_is)
    (case h_lST => k_is)
    (case h_kST => k_keys)
    (case h_sST0 => k_is)
    (case h_sST1 => k_is)
    (case h_sST2 => k_is)
    (case h_sST3 => k_is)
    (case h_sST4 => k_is)
    (case h_sST5 => k_is)
    (case h_sST6 => k_is)
    (case h_sST7 => k_is)
    (case h_gLE => k_is)
    (case h_lLE => k_is)
    (case h_kLE => k_keys)
    (case h_sLE0 => k_is)
    (case h_sLE1 => k_is)
    (case h_sLE2 => k_is)
    (case h_sLE3 => k_is)
    (case h_sLE4 => k_is)
    (case h_sLE5 => k_is)
    (case h_sLE6 => k_is)
    (case h_sLE7 => k_is)
    (case h_low => rfl)
    (case h_hkLE => kernel_rfl)
    (case h_i_MOST_NODES => k_is)
    (case h_i_MOST_SIGNS => k_is)
    (case h_i_TOO_GREAT => k_is)
    (case h_i_MOST_FIGURES => k_is)
    (case h_i_SIGNS => k_is)
    (case h_i_FIGURES => k_is)
    (case h_nNoTree => k_is)
    (case h_kpNoTree => k_is)
    (case h_xNoTree => k_exc)
    (case h_eNoTree => k_is)
    (case h_tNoTree => k_is)
    (case h_nNotClosed => k_is)
    (case h_kpNotClosed => k_is)
    (case h_xNotClosed => k_exc)
    (case h_eNotClosed => k_is)
    (case h_tNotClosed => k_is)
    (case h_nBadMost => k_is)
    (case h_kpBadMost => k_is)
    (case h_xBadMost => k_exc)
    (case h_eBadMost => k_is)
    (case h_tBadMost => k_is)
    (case h_nNoNumber => k_is)
    (case h_kpNoNumber => k_is)
    (case h_xNoNumber => k_exc)
    (case h_eNoNumber => k_is)
    (case h_tNoNumber => k_is)
    (case h_nNoFunction => k_is)
    (case h_kpNoFunction => k_is)
    (case h_xNoFunction => k_exc)
    (case h_eNoFunction => k_is)
    (case h_tNoFunction => k_is)
    (case h_nDry => k_is)
    (case h_kpDry => k_is)
    (case h_xDry => k_exc)
    (case h_eDry => k_is)
    (case h_tDry => k_is)
    (case h_nNoText => k_is)
    (case h_kpNoText => k_is)
    (case h_xNoText => k_exc)
    (case h_eNoText => k_is)
    (case h_tNoText => k_is)
    (case h_nMillError => k_is)
    (case h_kpMillError => k_is)
    (case h_xMillError => k_exc)
    (case h_eMillError => k_is)
    (case h_tMillError => k_is)
    (case h_hdNoTree => k_is)
    (case h_suNoTreeNoTree => k_is)
    (case h_hdNoText => k_is)
    (case h_suNoTextNoText => k_is)
    (case h_hnX => k_is)
    (case h_tkX => k_is)
    (case h_ygNoText => k_is)
    (case h_ykNoText => k_is)
    (case h_ydNoText => k_is)
    (case h_yaNoText => k_is)
    (case h_ymNoText => k_is)
    (case h_yvNoText => k_is)
    (case h_ynNoTextNoTree => rfl)
    (case h_ysNoTextNoTree => k_is)
    (case h_ynNoTextNotClosed => rfl)
    (case h_ysNoTextNotClosed => k_is)
    (case h_ynNoTextBadMost => rfl)
    (case h_ysNoTextBadMost => k_is)
    (case h_ynNoTextDry => rfl)
    (case h_ysNoTextDry => k_is)
    (case h_ynNoTextNoNumber => rfl)
    (case h_ysNoTextNoNumber => k_is)
    (case h_ynNoTextNoFunction => rfl)
    (case h_ysNoTextNoFunction => k_is)
    (case h_ynNoTextMillError => rfl)
    (case h_ysNoTextMillError => k_is)
    (case h_yiNoTree => k_is)
    (case h_yiNotClosed => k_is)
    (case h_yiBadMost => k_is)
    (case h_yiDry => k_is)
    (case h_yiNoNumber => k_is)
    (case h_yiNoFunction => k_is)
    (case h_yiMillError => k_is)
    (case h_zdm => k_is)
    (case h_a0 => k_is)
    (case h_l0 => k_is)
    (case h_c0 => k_is)
    (case h_k0 => k_is)
    (case h_a1 => k_is)
    (case h_l1 => k_is)
    (case h_c1 => k_is)
    (case h_k1 => k_is)
    (case h_a2 => k_is)
    (case h_l2 => k_is)
    (case h_c2 => k_is)
    (case h_k2 => k_is)
    (case h_a3 => k_is)
    (case h_l3 => k_is)
    (case h_c3 => k_is)
    (case h_k3 => k_is)
    (case h_a4 => k_is)
    (case h_l4 => k_is)
    (case h_c4 => k_is)
    (case h_k4 => k_is)
    (case h_a5 => k_is)
    (case h_l5 => k_is)
    (case h_c5 => k_is)
    (case h_k5 => k_is)
    (case h_a6 => k_is)
    (case h_l6 => k_is)
    (case h_c6 => k_is)
    (case h_k6 => k_is)
    (case h_a7 => k_is)
    (case h_l7 => k_is)
    (case h_c7 => k_is)
    (case h_k7 => k_is)
    (case h_a8 => k_is)
    (case h_l8 => k_is)
    (case h_c8 => k_is)
    (case h_k8 => k_is)
    (case h_a9 => k_is)
    (case h_l9 => k_is)
    (case h_c9 => k_is)
    (case h_k9 => k_is)
    (case h_a10 => k_is)
    (case h_l10 => k_is)
    (case h_c10 => k_is)
    (case h_k10 => k_is)
    (case h_a11 => k_is)
    (case h_l11 => k_is)
    (case h_c11 => k_is)
    (case h_k11 => k_is)
    (case h_a12 => k_is)
    (case h_l12 => k_is)
    (case h_c12 => k_is)
    (case h_k12 => k_is)
    (case h_a13 => k_is)
    (case h_l13 => k_is)
    (case h_c13 => k_is)
    (case h_k13 => k_is)
    (case h_a14 => k_is)
    (case h_l14 => k_is)
    (case h_c14 => k_is)
    (case h_k14 => k_is)
    (case h_a15 => k_is)
    (case h_l15 => k_is)
    (case h_c15 => k_is)
    (case h_k15 => k_is)
    (case h_a16 => k_is)
    (case h_l16 => k_is)
    (case h_c16 => k_is)
    (case h_k16 => k_is)
    (case h_a17 => k_is)
    (case h_l17 => k_is)
    (case h_c17 => k_is)
    (case h_k17 => k_is)

