import PyProof.Rows.All
import Wide.All
import OpenK.AllK
import Wide.FinOn
import HandS.List
import HandS.Flow
import HandS.DictComp
import HandS.Iter
import HandS.ForMost
import HandS.Exc
import HandS.TryOnly
import HandS.ExcOwn
import HandS.WordsExc
import HandS.IsInst
import HandS.Style
import HandS.Conv
import HandS.More
import KE.SortData
import HandS.ExcIs
import PyProof.AutoSeq1
import HandS.WordsDict
import HandS.TryMany
import PySem.Challenge.RW_closuremill_k03_values_put_in
set_option Elab.async false
set_option maxRecDepth 100000
set_option linter.all false
/-! xs[-m:] = ys, a list's last m items replaced by another list's -/
namespace My
open PySem L2
open PyProof.Rows
theorem tail_bounds {m n : Nat} (h : m ≤ n) (h1 : 1 ≤ m) : sliceBounds (some (-(m : Int))) none none n = (((n - m : Nat) : Int), (n : Int), 1) := by
  unfold sliceBounds
  dsimp only [Option.getD_none]
  rw [if_pos (show (1 : Int) > 0 by decide), if_pos (show (1 : Int) > 0 by decide)]
  refine Prod.ext ?_ rfl
  show max 0 (min (if -(m : Int) < 0 then -(m : Int) + n else -(m : Int)) n) = _
  rw [if_pos (show -(m : Int) < 0 by omega)]
  omega
theorem tail_splice (its its2 : List Value) (a : Nat) : its.toArray.extract 0 a ++ its2.toArray ++ its.toArray.extract its.length its.toArray.size = (its.take a ++ its2).toArray := by
  apply Array.toList_inj.mp
  simp
section
variable {prog : Program} {w : World} {A : Around} {E : Value → Shared → Prop} {s : Shared}
theorem setItem_tail {l b sl : Addr} {items new : Array Value} {n n2 m : Nat} {t : Tok} {Q : Unit → Shared → Prop}
    (e : s.heap.get? l = some { cls := .type "list", data := .seq items n }) (e2 : s.heap.get? b = some { cls := .type "list", data := .seq new n2 }) (hne : l ≠ b)
    (hs : s.heap.IsSliceOf sl (.int (-(m : Int)) t) .none .none) (h1 : 1 ≤ m) (hm : m ≤ items.size) (hsz : items.size + new.size ≤ sizeLine)
    (h : Q () { s with heap := s.heap.update l (Obj.mapSeq fun xs => xs.extract 0 (items.size - m) ++ new ++ xs.extract items.size xs.size) }) : wpAny (model prog w) A (setItem (.ref l) (.ref sl) (.ref b)) Q E s := by
  have hl : s.heap.IsList l items := PySem.IsL.isList e
  have hb : s.heap.IsList b new := PySem.IsL.isList e2
  obtain ⟨os, hos, hcs, hds⟩ := id hs
  have hTs : s.TypeIs (.ref sl) "slice" := ⟨os, hos, hcs⟩
  have hsame : Builtin.List.listSameRef (.ref l) (.ref b) = false := by unfold Builtin.List.listSameRef; exact beq_eq_false_iff_ne.mpr hne
  have hmx : (max ((items.size - m : Nat) : Int) (items.size : Int)).toNat = items.size := by omega
  have hz' : ((fun xs : Array Value => xs.extract 0 (items.size - m) ++ new ++ xs.extract items.size xs.size) items).size ≤ sizeLine + 1 := by simp only [Array.size_append, Array.size_extract]; omega
  unfold setItem; refine wpAny_holding ?_
  refine wpAny_bind (wpAny_sequenceKey hl.typeIs (by decide) (wpAny_bind (wpAny_callSpecial?_slot (name := Str.ofString "__setitem__") hl.typeIs slot_list_setitem (wpAny_call_entry slot_list_setitem hl.typeIs entry_list_setitem ?_ (args_list_setitem _ _ _)))))
  show wpAny _ _ (Builtin.List.listSubscript? (.ref sl) >>= _) _ _ s
  unfold Builtin.List.listSubscript?
  refine wpAny_bind (wpAny_bind (wpAny_specialOf hTs slice_no_index ?_)); simp only [Option.isNone_none, if_true]
  refine wpAny_pure ?_
  show wpAny _ _ (typeOf (.ref sl) >>= _) _ _ s
  refine wpAny_bind (wpAny_typeOf hTs ?_); rw [if_neg (by decide)]
  rw [listSliceParts_eq]; refine wpAny_bind (wpAny_bind (wpAny_field hos hds (x := .none) rfl (wpAny_bind (wpAny_listPart .none ?_))))
  rw [if_neg (show ¬ ((rawPart none == rawInt 0) = true) from Bool.false_ne_true)]
  refine wpAny_bind (wpAny_field hos hds (x := .int (-(m : Int)) t) rfl (wpAny_bind (wpAny_listPart (.int _ _) (wpAny_bind (wpAny_field hos hds (x := .none) rfl (wpAny_bind (wpAny_listPart .none (wpAny_pure ?_))))))))
  simp only [hsame, Bool.false_eq_true, if_false]
  refine wpAny_bind (m := Builtin.List.listAllItems (.ref b) "must assign iterable to extended slice") ?_; unfold Builtin.List.listAllItems
  refine wpAny_bind (wpAny_typeOf hb.typeIs ?_); simp only [beq_self_eq_true, Bool.true_or, if_true]
  unfold Builtin.List.listItems
  refine wpAny_bind (wpAny_seqItems e2 rfl (wpAny_pure (wpAny_bind (wpAny_bind (wpAny_seqItems e rfl (wpAny_pure ?_))))))
  refine wpAny_bind (wpAny_of_eq ((sliceIndices_raw (some (-(m : Int))) none none items.size (by simp)).trans (congrArg (pure : Int × Int × Int → Sem (Int × Int × Int)) (tail_bounds hm h1))) ?_)
  show wpAny _ _ (if ((1 : Int) == 1) = true then _ else _) _ _ s
  rw [if_pos (by decide)]
  refine wpAny_bind (wpAny_rule ?_)
  simp only [notLongL hsz, Bool.false_eq_true, if_false]
  try refine wpAny_bind (wpAny_pure ?_)
  show wpAny _ _ (updateSeq l (fun xs => xs.extract 0 (((items.size - m : Nat) : Int)).toNat ++ new ++ xs.extract (max ((items.size - m : Nat) : Int) (items.size : Int)).toNat xs.size) >>= _) _ _ s
  rw [hmx, Int.toNat_natCast]
  refine wpAny_bind (wpAny_updateSeq (hz := Nat.le_trans (Nat.le_add_right _ _) hsz) (_hz' := hz') e rfl (wpAny_bind (wpAny_letGo ?_)))
  first
    | exact wpAny_bind (wpAny_pure (wpAny_pure ⟨.none, rfl, wpAny_pure h⟩))
    | exact wpAny_pure ⟨.none, rfl, wpAny_pure h⟩
end
/-- o[-m:] = value -/
def sTail (to tl tv : TE) : TS := fun D σ H => tv σ H fun y H1 => to σ H1 fun x H2 => tl σ H2 fun z H3 => ∃ (l b : Addr) (xs ys : List V) (m : Nat), x = .ref l ∧ y = .ref b ∧ z = .int (-(m : Int)) ∧ 1 ≤ m ∧ m ≤ xs.length ∧ l ≠ b ∧
  H3 l = some (.lst xs) ∧ H3 b = some (.lst ys) ∧ xs.length + ys.length ≤ sizeLine ∧ D.nx σ (upd H3 l (.lst (xs.take (xs.length - m) ++ ys)))
theorem ps_tail {X : Cx} {o lo value : Expr} {to tl tv : TE} {p2 pos' pos : Pos} (ho : PE X o to) (hl : PE X lo tl) (hv : PE X value tv) (hs : swapsWith value (some (.Subscript o (.Slice (some lo) none none p2) pos')) pos.line X.env = pure false) :
    PS X (.Assign [.Subscript o (.Slice (some lo) none none p2) pos'] value pos) (sTail to tl tv) := by
  refine ⟨fun pins s σ H D I h => ?_⟩
  refine wpAny_Assign_Subscript (thn (hv.run pins s σ H _ I h) fun r s1 ⟨y, H1, I1, rv, q1⟩ => thn (ho.run pins s1 σ H1 _ I1 q1) fun u s2 ⟨x, H2, I2, rx, q2⟩ => ?_) hs
  refine wpAny_Slice ?_
  rw [evalPart_some]
  refine thn (hl.run pins s2 σ H2 _ I2 q2) fun vl s3 ⟨z, H3, I3, rz, l, b, xs, ys, m, ex, ey, ez, h1, hm, hne, hl3, hb3, hz, q3⟩ => ?_
  subst ex ey ez
  obtain rfl : u = Value.ref l := rx
  obtain rfl : r = Value.ref b := rv
  obtain ⟨t, rfl⟩ := rz
  refine thn (po_none.run pins s3 σ H3 (fun o H4 => o = none ∧ H4 = H3) I3 ⟨rfl, rfl⟩) fun vu s4 ⟨o, H4, I4, pu, eo, e4⟩ => ?_
  subst eo e4
  cases pu
  rw [evalPart_none]
  refine wpAny_pure ?_
  have I5 : Inv X pins σ H4 { s4 with heap := s4.heap.push { cls := .type "slice", data := .fields #[.int (-(m : Int)) t, .none, .none] } } := I4.kept (t' := s4.toks) fun b ob q => Heap.get?_push_of_some _ q
  obtain ⟨z1, its, n1, r1, l1, e1⟩ := I5.lstM hl3
  obtain ⟨z2, its2, n2, r2, l2, e2⟩ := I5.lstM hb3
  refine setItem_tail e1 e2 hne (Heap.IsSliceOf.new ..) h1 (by rw [List.size_toArray, ← l1]; exact hm) (by rw [List.size_toArray, List.size_toArray, ← l1, ← l2]; exact hz) ?_
  refine ⟨σ, _, I5.lset (its' := its.take (xs.length - m) ++ its2) (t' := _) hl3 e1 ?_ (Vals.append (r1.take _) r2) ?_, q3⟩
  · rw [List.size_toArray, ← l1]
    have := tail_splice its its2 (xs.length - m)
    rw [List.size_toArray, ← l1] at this
    exact this
  · rw [List.length_append, List.length_take]; omega
end My

/-! y = {k: v for target in iter if ..} -/
namespace My
open PySem L2
open PyProof.Rows
section
variable {X : Cx}
theorem swD_true {kx vx : Expr} {gs : List Comprehension} {scope : Scope} {pos py : Pos} {y : Str} {l : Nat} {env : Env} (hk : env.scope.kind = .function) (hy : env.scope.names.lookup y = some .local) (hl : (py.line == pos.line) = true)
    (ha : (scope.names.any fun (n, k) => n == y && (k == .local || k == .cell)) = false) : swapsWith (.DictComp kx vx gs scope pos) (some (.Name y py)) l env = pure true := by
  have ky : env.kindOf y = some .local := hy
  have hb : env.blockKind = .function := by unfold Env.blockKind; rw [hk]; rfl
  unfold swapsWith; simp only [hb, ky, ha, Expr.pos, hl]; rfl
theorem ps_setDc {i : Nat} {y : Str} {py : Pos} {kx vx tg iter : Expr} {ifs : List Expr} {scope : Scope} {own : List (Str × Nat)} {pos spos : Pos} {wi : TI} {g : TG} {tt : TT} {tk tv : TE}
    (hc : X.calm = true) (hN : X.N.Nodup) (hy : X.N[i]? = some y) (hyl : X.env.scope.names.lookup y = some .local) (hsw : swapsWith (.DictComp kx vx [⟨tg, iter, ifs, 0⟩] scope pos) (some (.Name y py)) spos.line X.env = pure true)
    (hi : PI X tg iter wi) (ok : BlkOk X.N X.env.scope scope own) (hg : ∀ s H C cl fp, PG (X.blk s H scope (compEnvC scope cl C X.env) fp) tg g) (ht : ∀ s H C cl fp, PTs (X.blk s H scope (compEnvC scope cl C X.env) fp) ifs tt)
    (hk : ∀ s H C cl fp, PE (X.blk s H scope (compEnvC scope cl C X.env) fp) kx tk) (he : ∀ s H C cl fp, PE (X.blk s H scope (compEnvC scope cl C X.env) fp) vx tv) (hs : ∀ x, foldedSetIterable iter X.env x = pure x := by intro _; rfl) :
    PS X (.Assign [.Name y py] (.DictComp kx vx [⟨tg, iter, ifs, 0⟩] scope pos) spos) (tAsg (tDc wi g tt tk tv (own.map (·.2))) (gName i)) := by
  refine ⟨fun pins s σ H D I h => ?_⟩
  rw [exec_Assign_Name_used _ _ _ _ hsw]
  refine wpAny_bind (wpAny_standAt (wpAny_bind ?_))
  show wpAny _ X.A (do let _ ← comprehension (.DictComp kx vx [⟨tg, iter, ifs, 0⟩] scope pos) scope X.env (firstIterPos [⟨tg, iter, ifs, 0⟩] pos) newDict false (eval iter X.env) (some (assign (.Name y py) X.env))) _ _ s
  have h : tDc wi g tt tk tv (own.map (·.2)) σ H (fun x H1 => gName i x σ H1 D.nx) := h
  refine wpAny_bind (thn (dc_core (Qf := fun _ s' => SP X pins D .next s') hc hN I hi ok hg ht hk he hs h fun L C s' m H' I' q hn f => ?_) fun _ s' hq => wpAny_pure (wpAny_pure hq))
  show wpAny _ _ (assign (.Name y py) X.env (.ref L)) _ _ _
  refine wpAny_assign_Name (store_ok2 (v := V.ref L) I' hN hy (.inl hyl) rfl (fun s2 I2 ⟨a, sb, ha⟩ => ?_) (.inr hyl))
  obtain ⟨f0, f1, f2, f3, f4, f5⟩ := f
  have haC : C ≠ a := by
    rcases ha with z | z
    · exact z ▸ f1
    · intro e; exact f4 y a z e.symm
  refine ⟨m, hn.sameBut sb haC, fun h3 sb3 => ⟨_, H', I2.turned (t' := s2.toks) (fun b o hb e => (sb3.2 b hb).trans e) f0 f1 f3 f4 f5, q⟩⟩
end
theorem lock_set {te : TE} {i : Nat} {D : Ends} {σ : L2.St} {H : Hp} (h : tLockE te σ H fun x H' => D.nx (σ.set i (some x)) H') : tLock (tAsg te (gName i)) D σ H := h
end My

namespace My
open PySem L2
open PyProof.Rows (envOfC)

/-! ### a def of the text, called by its name -/
structure Df (P : Program) (w : World) (K : PySem.W.Frag) (mg : Str → Option Value) (base : Heap) (k : Nat) (x : Str) (ps : List Str) (sp : Sp) : Prop where
  ex : ∃ (f : Addr) (fd : FuncData), FnOk P w K mg base CX0 k f fd ps sp ∧ mg x = some (.ref f) ∧ PySem.W.keepIn K (.ref f) = true ∧ Binds K fd ps []
/-- a def stands at the module's name -/
def FunAt (K : PySem.W.Frag) (mg : Str → Option Value) (x : Str) (st : Stmt) : Prop := ∃ (f : Addr) (fd : FuncData), Fun K x x st f fd ∧ mg x = some (.ref f)
/-- how a def's parameters bind -/
def BindAll (x : Str) (st : Stmt) (ps : List Str) : Prop := ∀ (kV doc pm : Value) (an : Option Addr) (cdv ct : Value) (us : List Value), us.length = ps.length → bindArgs (PySem.W.fnOf x x (defArgs st) (defBody st) (defScope st) .none kV doc pm an cdv ct) ⟨us, []⟩ = pure (ps.zip us)
section
variable {P : Program} {w : World} {K : PySem.W.Frag} {mg : Str → Option Value} {base : Heap}
theorem FunAt.df {x : Str} {st : Stmt} {N ps : List Str} {k : Nat} {sp : Sp} (F : FunAt K mg x st) (S : FnScope N ps (defScope st)) (hb : BindAll x st ps) (len : ∀ vs H Q E, sp vs H Q E → vs.length = ps.length)
    (hbody : ∀ (f : Addr) (cdv : Value) (A : Around) (outer : List Env) (s : Shared) (H : Hp) (vs : List V) (Q : VK) (E : XK), Room k (A.deeper (envOfC x (defScope st) s.heap.objs.size f cdv)) → sp vs H Q E →
      ∃ t, PSs (cxOf CX0 P w K mg base N x (defScope st) f cdv A outer s H E).nox (defBody st) t ∧ t { nx := fun _ H' => Q .non H', rt := Q } (start N vs) H) : Df P w K mg base (k + 1) x ps sp := by
  obtain ⟨f, fd, h, m⟩ := F
  exact ⟨f, fd, h.ok S len (hbody f), m, h.kp, h.binds hb⟩
theorem FunAt.mk {l : Heap} {x : Str} {st : Stmt} {f : Addr} {oc : Value} {od an : Option Addr} {osl : Array (Option Value)} {kV doc pm cdv ct : Value} (X : K.In l) (G : l.Ns mainGlobals mg) (a : PySem.W.nsIn K mainGlobals x = some (some (.ref f)))
    (lk : K.lookup f = some ⟨oc, od, .func (PySem.W.fnOf x x (defArgs st) (defBody st) (defScope st) .none kV doc pm an cdv ct), osl⟩) (c : PySem.W.codeIn K cdv x = true) (k : PySem.W.keepIn K (.ref f) = true) : FunAt K mg x st :=
  ⟨f, _, fun_mk (st := st) lk c k, PySem.W.mg_of X G a⟩
theorem Df.imp {k : Nat} {x : Str} {ps : List Str} {sp sp' : Sp} (D : Df P w K mg base k x ps sp) (h : ∀ vs H Q E, sp' vs H Q E → sp vs H Q E) : Df P w K mg base k x ps sp' := by
  obtain ⟨f, fd, F, m, kp, b⟩ := D.ex
  exact ⟨f, fd, F.imp h, m, kp, b⟩
end
def tCallD (sp : Sp) (t : TA) : TE := fun σ H Q => t σ H fun vs H1 => sp vs H1 Q E0
section
variable {X : Cx} {j k : Nat} {x : Str} {ps : List Str} {sp : Sp} {p pos : Pos} {e : Expr} {es : List Expr} {t : TA}
theorem pe_callD (D : Df X.prog X.w X.K X.mg X.base j x ps sp) (hr : Room k X.A) (hj : j ≤ k) (hg : Gl X x) (ha : PA X (e :: es) t) (hdb : (x == ("__debug__" : Str)) = false := by decide)
    (he : starEach (e :: es) X.env = (false, eval e X.env) :: starEach es X.env := by rfl) (hpl : (backTo pos (starEach es X.env)).any (·.1) = false := by rfl) :
    PE X (.Call (.Name x p) (e :: es) [] pos) (tCallD sp t) := by
  obtain ⟨f, fd, F, m, kp, b⟩ := D.ex
  have h : PE X (.Call (.Name x p) (e :: es) [] pos) (tCall sp [] E0 t) := pe_call F (hr.mono hj) hg m kp b .nil pass0 ha hdb he hpl
  refine ⟨fun pins s σ H Q I q => h.run pins s σ H Q I ?_⟩
  unfold tCall
  unfold tCallD at q
  simpa only [List.append_nil] using q
theorem pe_callD0 (D : Df X.prog X.w X.K X.mg X.base j x ps sp) (hr : Room k X.A) (hj : j ≤ k) (hg : Gl X x) (hdb : (x == ("__debug__" : Str)) = false := by decide) :
    PE X (.Call (.Name x p) [] [] pos) (tCallD sp tNil) := by
  obtain ⟨f, fd, F, m, kp, b⟩ := D.ex
  have h : PE X (.Call (.Name x p) [] [] pos) (tCall sp [] E0 tNil) := pe_call0 F (hr.mono hj) hg m kp b .nil pass0 hdb
  refine ⟨fun pins s σ H Q I q => h.run pins s σ H Q I ?_⟩
  unfold tCall
  unfold tCallD at q
  simpa only [List.append_nil] using q
end

/-! ### statements, one at a time -/
theorem seq_ {t u : TS} {D : Ends} {σ : St} {H : Hp} (h : ∀ R : St → Hp → Prop, R = u D → t { D with nx := R } σ H) : tSeq t u D σ H := h _ rfl
theorem while_ {c : TT} {tb : TS} {D : Ends} {σ : St} {H : Hp} (W : Nat → St → Hp → Prop) (m : Nat) (w0 : W m σ H)
    (h : ∀ m σ H, W m σ H → c σ H fun b H1 => if b = true then (∀ N : St → Hp → Prop, (∀ m' σ' H', m' < m → W m' σ' H' → N σ' H') → tb { D with nx := N, ct := N, bk := D.nx } σ H1) else D.nx σ H1)
    (mono : ∀ σ H (Q Q' : Bool → Hp → Prop), (∀ b H1, Q b H1 → Q' b H1) → c σ H Q → c σ H Q') : tWhile c tb D σ H := by
  refine ⟨W, ⟨m, w0⟩, fun m σ H w => mono σ H _ _ (fun b H1 q => ?_) (h m σ H w)⟩
  cases b with
  | true => exact ⟨fun σ' H' => ∃ m', m' < m ∧ W m' σ' H', fun _ _ n => n, q _ fun m' _ _ l w' => ⟨m', l, w'⟩⟩
  | false => exact q
theorem ife {c : Prop} [Decidable c] {A B : Prop} : (if (decide c) = true then A else B) ↔ (if c then A else B) := by by_cases h : c <;> simp [h]

/-! ### heaps -/
/-- tuples are kept -/
def KT (H H' : Hp) : Prop := ∀ a xs, H a = some (.tup xs) → H' a = some (.tup xs)
theorem KT.refl (H : Hp) : KT H H := fun _ _ h => h
theorem KT.trans {H H1 H2 : Hp} (a : KT H H1) (b : KT H1 H2) : KT H H2 := fun c o h => b c o (a c o h)
theorem same_kt {H H' : Hp} (e : Same H H') : KT H H' := fun a _ h => e a _ h
theorem same_new {H : Hp} {p : Addr} {o : HO} (h : H p = none) : Same H (upd H p o) := fun b u q => by rw [upd_ne (ne_of_none q h)]; exact q
theorem kt_new {H : Hp} {p : Addr} {o : HO} (h : H p = none) : KT H (upd H p o) := same_kt (same_new h)
theorem kt_lst {H : Hp} {l : Addr} {xs : List V} {o : HO} (h : H l = some (.lst xs)) : KT H (upd H l o) := fun b u q => by
  rw [upd_ne (ne_of q h (by intro z; cases z))]; exact q
/-- what H did not know may change -/
theorem same_mut {H H' : Hp} {p : Addr} {o : HO} (e : Same H H') (h : H p = none) : Same H (upd H' p o) := fun a u ha => by
  rw [upd_ne (ne_of_none ha h)]
  exact e a u ha
end My
namespace My
open PySem L2
open PyProof.Rows (envOfC)
/-! ### more for the readings -/
def GInt (mg : Str → Option Value) (x : Str) (n : Int) : Prop := ∃ t, mg x = some (.int n t)
theorem pe_gint {X : Cx} {x : Str} {n : Int} {pos : Pos} (hg : Gl X x) (h : GInt X.mg x n) (hd : (x == ("__debug__" : Str)) = false := by decide) : PE X (.Name x pos) (tC (.int n)) := by
  obtain ⟨t, h⟩ := h
  exact pe_glob hg h ⟨t, rfl⟩ hd
def GStr (mg : Str → Option Value) (x : Str) (z : Str) : Prop := ∃ t, mg x = some (.str z t)
theorem pe_gstr {X : Cx} {x z : Str} {pos : Pos} (hg : Gl X x) (h : GStr X.mg x z) (hd : (x == ("__debug__" : Str)) = false := by decide) : PE X (.Name x pos) (tC (.str z)) := by
  obtain ⟨t, h⟩ := h
  exact pe_glob hg h ⟨t, rfl⟩ hd
/-- d[z] of a written dict -/
def RdK (K : PySem.W.Frag) (w : World) (p : Addr) (z : Str) (r : V) : Prop := ∃ (es : Array DictEntry) (n : Nat) (u0 : Value), K.lookup p = some ⟨.type "dict", none, .dict es n, #[]⟩ ∧ PySem.W.KeysLit w.params es.toList ∧ PySem.W.nsIn K p z = some (some u0) ∧ RelV r u0
def rRdK (K : PySem.W.Frag) (w : World) : R2 := fun x y H Q => ∃ (p : Addr) (z : Str) (r : V), x = .ref p ∧ y = .str z ∧ RdK K w p z r ∧ Q r H
theorem ix_kd {X : Cx} : IxR X (rRdK X.K X.w) := ix_kdict
section
variable {CX : CXT} {P : Program} {w : World} {K : PySem.W.Frag} {mg : Str → Option Value} {base : Heap} {N : List Str} {qual : Str} {scope : Scope} {f : Addr} {cd : Value} {A : Around} {outer : List Env} {s : Shared} {H : Hp} {E : XK}
theorem cx_K : (cxOf CX P w K mg base N qual scope f cd A outer s H E).K = K := rfl
theorem cx_w : (cxOf CX P w K mg base N qual scope f cd A outer s H E).w = w := rfl
end

/-! ### trees -/
inductive Tr where
  | num (n : Int) | name (x : Str) | fn (x : Str) (b : Tr) | call (f a : Tr) | plus (a b : Tr) | less (a b : Tr) | ite (c a b : Tr) | lt (x : Str) (e b : Tr)
  deriving DecidableEq
def Tr.kids : Tr → List Tr
  | .num _ => [] | .name _ => [] | .fn _ b => [b] | .call f a => [f, a] | .plus a b => [a, b] | .less a b => [a, b] | .ite c a b => [c, a, b] | .lt _ e b => [e, b]
def Tr.word : Tr → Str
  | .num _ => "num" | .name _ => "name" | .fn _ _ => "fun" | .call _ _ => "call" | .plus _ _ => "plus" | .less _ _ => "less" | .ite _ _ _ => "if" | .lt _ _ _ => "let"
/-- what stands behind the word, ahead of the parts -/
def Tr.own : Tr → List V
  | .num n => [.int n] | .name x => [.str x] | .fn x _ => [.str x] | .lt x _ _ => [.str x] | _ => []
def Tr.size : Tr → Nat
  | .num _ => 1 | .name _ => 1 | .fn _ b => 1 + b.size | .call f a => 1 + f.size + a.size | .plus a b => 1 + a.size + b.size | .less a b => 1 + a.size + b.size
  | .ite c a b => 1 + c.size + a.size + b.size | .lt _ e b => 1 + e.size + b.size
theorem Tr.size_pos : ∀ t : Tr, 0 < t.size := fun t => by cases t <;> simp only [Tr.size] <;> omega
def sizes (ts : List Tr) : Nat := (ts.map Tr.size).sum
theorem sizes_nil : sizes [] = 0 := rfl
theorem sizes_cons (t : Tr) (ts : List Tr) : sizes (t :: ts) = t.size + sizes ts := by simp [sizes]
theorem sizes_append (ts us : List Tr) : sizes (ts ++ us) = sizes ts + sizes us := by simp [sizes]
theorem Tr.size_kids (t : Tr) : t.size = 1 + sizes t.kids := by
  cases t <;> simp only [Tr.size, Tr.kids, sizes_cons, sizes_nil] <;> omega
theorem le_sizes : ∀ ts : List Tr, ts.length ≤ sizes ts
  | [] => Nat.le_refl _
  | t :: ts => by
    have := le_sizes ts
    have := t.size_pos
    rw [sizes_cons, List.length_cons]
    omega
theorem kids_le (t : Tr) : t.kids.length ≤ 3 := by cases t <;> simp [Tr.kids]
/-- the tree stands in the heap at v -/
def At (H : Hp) : Tr → V → Prop
  | .num n, v => ∃ a, v = .ref a ∧ H a = some (.tup [.str "num", .int n])
  | .name x, v => ∃ a, v = .ref a ∧ H a = some (.tup [.str "name", .str x])
  | .fn x b, v => ∃ a u, v = .ref a ∧ H a = some (.tup [.str "fun", .str x, u]) ∧ At H b u
  | .call f g, v => ∃ a u u', v = .ref a ∧ H a = some (.tup [.str "call", u, u']) ∧ At H f u ∧ At H g u'
  | .plus f g, v => ∃ a u u', v = .ref a ∧ H a = some (.tup [.str "plus", u, u']) ∧ At H f u ∧ At H g u'
  | .less f g, v => ∃ a u u', v = .ref a ∧ H a = some (.tup [.str "less", u, u']) ∧ At H f u ∧ At H g u'
  | .ite c f g, v => ∃ a u u' u'', v = .ref a ∧ H a = some (.tup [.str "if", u, u', u'']) ∧ At H c u ∧ At H f u' ∧ At H g u''
  | .lt x f g, v => ∃ a u u', v = .ref a ∧ H a = some (.tup [.str "let", .str x, u, u']) ∧ At H f u ∧ At H g u'
theorem At.mono {H H' : Hp} (k : KT H H') : ∀ {t : Tr} {v : V}, At H t v → At H' t v
  | .num _, _, ⟨a, e, h⟩ => ⟨a, e, k _ _ h⟩
  | .name _, _, ⟨a, e, h⟩ => ⟨a, e, k _ _ h⟩
  | .fn _ _, _, ⟨a, u, e, h, h1⟩ => ⟨a, u, e, k _ _ h, At.mono k h1⟩
  | .call _ _, _, ⟨a, u, u', e, h, h1, h2⟩ => ⟨a, u, u', e, k _ _ h, At.mono k h1, At.mono k h2⟩
  | .plus _ _, _, ⟨a, u, u', e, h, h1, h2⟩ => ⟨a, u, u', e, k _ _ h, At.mono k h1, At.mono k h2⟩
  | .less _ _, _, ⟨a, u, u', e, h, h1, h2⟩ => ⟨a, u, u', e, k _ _ h, At.mono k h1, At.mono k h2⟩
  | .ite _ _ _, _, ⟨a, u, u', u'', e, h, h1, h2, h3⟩ => ⟨a, u, u', u'', e, k _ _ h, At.mono k h1, At.mono k h2, At.mono k h3⟩
  | .lt _ _ _, _, ⟨a, u, u', e, h, h1, h2⟩ => ⟨a, u, u', e, k _ _ h, At.mono k h1, At.mono k h2⟩
abbrev Ats (H : Hp) (ts : List Tr) (vs : List V) : Prop := Paired (At H) ts vs
theorem Ats.mono {H H' : Hp} (k : KT H H') {ts : List Tr} {vs : List V} (h : Ats H ts vs) : Ats H' ts vs := Paired.mapP h fun _ _ => At.mono k
theorem At.view {H : Hp} {t : Tr} {v : V} (h : At H t v) : ∃ a ws, v = .ref a ∧ H a = some (.tup (.str t.word :: t.own ++ ws)) ∧ Ats H t.kids ws := by
  cases t with
  | num n => obtain ⟨a, e, h⟩ := h; exact ⟨a, [], e, h, .nil⟩
  | name x => obtain ⟨a, e, h⟩ := h; exact ⟨a, [], e, h, .nil⟩
  | fn x b => obtain ⟨a, u, e, h, h1⟩ := h; exact ⟨a, [u], e, h, .cons h1 .nil⟩
  | call f g => obtain ⟨a, u, u', e, h, h1, h2⟩ := h; exact ⟨a, [u, u'], e, h, .cons h1 (.cons h2 .nil)⟩
  | plus f g => obtain ⟨a, u, u', e, h, h1, h2⟩ := h; exact ⟨a, [u, u'], e, h, .cons h1 (.cons h2 .nil)⟩
  | less f g => obtain ⟨a, u, u', e, h, h1, h2⟩ := h; exact ⟨a, [u, u'], e, h, .cons h1 (.cons h2 .nil)⟩
  | ite c f g => obtain ⟨a, u, u', u'', e, h, h1, h2, h3⟩ := h; exact ⟨a, [u, u', u''], e, h, .cons h1 (.cons h2 (.cons h3 .nil))⟩
  | lt x f g => obtain ⟨a, u, u', e, h, h1, h2⟩ := h; exact ⟨a, [u, u'], e, h, .cons h1 (.cons h2 .nil)⟩
theorem Ats.append {H : Hp} : ∀ {ts us : List Tr} {vs ws : List V}, Ats H ts vs → Ats H us ws → Ats H (ts ++ us) (vs ++ ws)
  | _, _, _, _, .nil, h => h
  | _, _, _, _, .cons r t, h => .cons r (Ats.append t h)
theorem Ats.snoc_inv {H : Hp} : ∀ {ts : List Tr} {vs : List V} {v : V}, Ats H ts (vs ++ [v]) → ∃ us t, ts = us ++ [t] ∧ Ats H us vs ∧ At H t v
  | _, [], v, .cons r .nil => ⟨[], _, rfl, .nil, r⟩
  | _, u :: vs, v, .cons r t => by
    obtain ⟨us, x, e, h1, h2⟩ := Ats.snoc_inv t
    exact ⟨_ :: us, x, by rw [e]; rfl, .cons r h1, h2⟩
end My
namespace My
open PySem L2
open PyProof.Rows (envOfC)
section
variable {X : Cx}
def rPopL : V → List V → Hp → VK → Prop := fun x vs H Q => ∃ (l : Addr) (ys : List V) (y : V), x = .ref l ∧ vs = [] ∧ H l = some (.lst (ys ++ [y])) ∧ Q y (upd H l (.lst ys))
theorem mt_popL : MtM X "list.pop" rPopL := by
  intro pins s σ H x vs v us Q I rx rv h
  obtain ⟨l, ys, y, e1, e2, hH, q⟩ := h
  refine mt_pop pins s σ H x vs v us Q I rx rv ⟨l, ys ++ [y], y, e1, e2, hH, by simp, ?_⟩
  rw [List.dropLast_concat]
  exact q
end
/-- a loop while a list at a name is not empty -/
theorem whileL_ {K : PySem.W.Frag} {i : Nat} {tb : TS} {D : Ends} {σ : L2.St} {H : Hp} (W : Nat → L2.St → Hp → Prop) (m : Nat) (w0 : W m σ H)
    (h : ∀ m σ H, W m σ H → ∃ (l : Addr) (xs : List V), σ[i]? = some (some (.ref l)) ∧ H l = some (.lst xs) ∧ (xs = [] → D.nx σ H) ∧
      (∀ ys v, xs = ys ++ [v] → ∀ N : L2.St → Hp → Prop, (∀ m' σ' H', m' < m → W m' σ' H' → N σ' H') → tb { D with nx := N, ct := N, bk := D.nx } σ H)) :
    tWhile (fun σ H Q => tVar i σ H fun x H' => ∃ k, TruV K x H' k ∧ Q k H') tb D σ H := by
  refine ⟨W, ⟨m, w0⟩, fun m σ H w => ?_⟩
  obtain ⟨l, xs, e, hl, h0, h1⟩ := h m σ H w
  refine ⟨_, e, !xs.isEmpty, .inl ⟨xs, SqL.of hl, rfl⟩, ?_⟩
  rcases List.eq_nil_or_concat xs with r | ⟨ys, v, r⟩
  · subst r
    exact h0 rfl
  · rw [List.concat_eq_append] at r
    have hne : (!xs.isEmpty) = true := by rw [r]; simp
    rw [hne]
    exact ⟨fun σ' H' => ∃ m', m' < m ∧ W m' σ' H', fun _ _ n => n, h1 ys v r _ fun m' _ _ l w' => ⟨m', l, w'⟩⟩
end My
namespace My
open PySem L2
theorem pe_gref {X : Cx} {x : Str} {a : Addr} {pos : Pos} (hg : Gl X x) (h : X.mg x = some (.ref a)) (hd : (x == ("__debug__" : Str)) = false := by decide) : PE X (.Name x pos) (tC (.ref a)) := pe_glob hg h rfl hd
end My
namespace My
open PySem L2
theorem szL {n : Nat} (h : n ≤ 100000) : n ≤ sizeLine := Nat.le_trans h (by decide)
theorem szLt {n : Nat} (h : n ≤ 100000) : n < sizeLine := Nat.lt_of_le_of_lt h (by decide)
theorem none_ne {H : Hp} {a b : Addr} {o : HO} (h : H a = none) (h' : H b = some o) : a ≠ b := fun e => by rw [e, h'] at h; cases h
end My
namespace My
open PySem L2
/-! ### comprehensions -/
def LcGo (J : It) (g : TG) (tt : TT) (te : TE) (vs : List Nat) (σ : L2.St) (H1 : Hp) (Q : VK) : Prop := ∀ D, H1 D = none → ∃ W : Nat → Nat → Hp → Prop, (∃ m, W 0 m (upd H1 D (.lst []))) ∧ ∀ i m H, W i m H →
  (J.stop i H ∧ Q (.ref D) H) ∨ (J.go i H ∧ ∃ Nx : Hp → Prop, (∀ H', Nx H' → ∃ m', m' < m ∧ W (i + 1) m' H') ∧ ∀ x H', J.yld i H x H' → g x (wipe σ vs) H' fun σ2 H2 => wipe σ2 vs = wipe σ vs ∧ tt σ2 H2 fun b H3 =>
    if b = true then te σ2 H3 fun y H4 => ∃ acc, H4 D = some (.lst acc) ∧ acc.length < sizeLine ∧ Nx (upd H4 D (.lst (acc ++ [y]))) else Nx H3)
theorem tLc_eq {wi : TI} {g : TG} {tt : TT} {te : TE} {vs : List Nat} {σ : L2.St} {H : Hp} {Q : VK} : tLc wi g tt te vs σ H Q = wi σ H fun J H1 => LcGo J g tt te vs σ H1 Q := rfl
section
variable {K : PySem.W.Frag} {a : Addr} {xs : List V} {j : Nat} {tt : TT} {te : TE} {vs : List Nat} {σ : L2.St} {H1 : Hp} {Q : VK}
/-- what a turn has to show -/
def LcTurn (tt : TT) (te : TE) (σ2 : L2.St) (P : Nat → List V → Hp → Prop) (i : Nat) (acc : List V) (H : Hp) : Prop :=
  ∀ Qy : VK, (∀ y H4, Same H H4 → P (i + 1) (acc ++ [y]) H4 → Qy y H4) → ∀ Qn : Hp → Prop, (∀ H3, Same H H3 → P (i + 1) acc H3 → Qn H3) → tt σ2 H fun b H3 => if b = true then te σ2 H3 Qy else Qn H3
/-- the invariant behind i items -/
def LcInv (H1 : Hp) (D : Addr) (P : Nat → List V → Hp → Prop) (i : Nat) (H : Hp) : Prop := ∃ acc, H D = some (.lst acc) ∧ acc.length ≤ i ∧ Same H1 H ∧ P i acc H
theorem lc_turn {D : Addr} {P : Nat → List V → Hp → Prop} (mono : ∀ i acc H H', KT H H' → P i acc H → P i acc H') {i : Nat} {H : Hp} {σ2 : L2.St} (hD : H1 D = none) (hi : i ≤ 100000)
    (hp : LcInv H1 D P i H) (hs : ∀ acc, acc.length ≤ i → Same H1 H → P i acc H → LcTurn tt te σ2 P i acc H) :
    tt σ2 H fun b H3 => if b = true then te σ2 H3 fun y H4 => ∃ acc, H4 D = some (.lst acc) ∧ acc.length < sizeLine ∧ LcInv H1 D P (i + 1) (upd H4 D (.lst (acc ++ [y]))) else LcInv H1 D P (i + 1) H3 := by
  obtain ⟨acc, h1, h2, h3, h4⟩ := hp
  refine hs acc h2 h3 h4 _ (fun y H4 e p => ⟨acc, e _ _ h1, szLt (by omega), acc ++ [y], upd_same, by simp; omega, same_mut (h3.trans e) hD, mono _ _ _ _ (kt_lst (e _ _ h1)) p⟩) _
    (fun H3 e p => ⟨acc, e _ _ h1, by omega, h3.trans e, p⟩)
theorem lcL (P : Nat → List V → Hp → Prop) (mono : ∀ i acc H H', KT H H' → P i acc H → P i acc H') (hx : SqL K H1 a xs) (hl : xs.length ≤ 100000) (hw : ∀ x, wipe ((wipe σ vs).set j (some x)) vs = wipe σ vs) (h0 : P 0 [] H1)
    (hs : ∀ i x acc H, xs[i]? = some x → acc.length ≤ i → Same H1 H → P i acc H → LcTurn tt te ((wipe σ vs).set j (some x)) P i acc H)
    (hq : ∀ D ys H', H1 D = none → Same H1 H' → H' D = some (.lst ys) → P xs.length ys H' → Q (.ref D) H') : LcGo (Itl K a) (gName j) tt te vs σ H1 Q := fun D hD =>
  lc_list (xs := xs) (LcInv H1 D P) ⟨[], upd_same, Nat.zero_le _, same_new hD, mono _ _ _ _ (kt_new hD) h0⟩ (fun i H _ ⟨_, _, _, e, _⟩ => e.seq hx)
    (fun i x H hi p => ⟨hw x, lc_turn mono hD (by have := (List.getElem?_eq_some_iff.mp hi).1; omega) p fun acc h2 h3 h4 => hs i x acc H hi h2 h3 h4⟩)
    (fun H ⟨acc, h1, h2, h3, h4⟩ => hq D acc H hD h3 h1 h4)
theorem Same_seqT {H H' : Hp} (e : Same H H') (h : SqT K H a xs) : SqT K H' a xs := by
  rcases h with (h | ⟨o, h⟩) | h
  · exact .inl (.inl (e _ _ h))
  · exact .inl (.inr ⟨o, e _ _ h⟩)
  · exact .inr h
theorem lcT (P : Nat → List V → Hp → Prop) (mono : ∀ i acc H H', KT H H' → P i acc H → P i acc H') (hx : SqT K H1 a xs) (hl : xs.length ≤ 100000) (hw : ∀ x, wipe ((wipe σ vs).set j (some x)) vs = wipe σ vs) (h0 : P 0 [] H1)
    (hs : ∀ i x acc H, xs[i]? = some x → acc.length ≤ i → Same H1 H → P i acc H → LcTurn tt te ((wipe σ vs).set j (some x)) P i acc H)
    (hq : ∀ D ys H', H1 D = none → Same H1 H' → H' D = some (.lst ys) → P xs.length ys H' → Q (.ref D) H') : LcGo (Itt K a) (gName j) tt te vs σ H1 Q := fun D hD =>
  lc_tup (xs := xs) (LcInv H1 D P) ⟨[], upd_same, Nat.zero_le _, same_new hD, mono _ _ _ _ (kt_new hD) h0⟩ (fun i H _ ⟨_, _, _, e, _⟩ => Same_seqT e hx)
    (fun i x H hi p => ⟨hw x, lc_turn mono hD (by have := (List.getElem?_eq_some_iff.mp hi).1; omega) p fun acc h2 h3 h4 => hs i x acc H hi h2 h3 h4⟩)
    (fun H ⟨acc, h1, h2, h3, h4⟩ => hq D acc H hD h3 h1 h4)
theorem lcR {lo : Int} {n : Nat} (P : Nat → List V → Hp → Prop) (mono : ∀ i acc H H', KT H H' → P i acc H → P i acc H') (hl : n ≤ 100000) (hw : ∀ x, wipe ((wipe σ vs).set j (some x)) vs = wipe σ vs) (h0 : P 0 [] H1)
    (hs : ∀ i acc H, i < n → acc.length ≤ i → Same H1 H → P i acc H → LcTurn tt te ((wipe σ vs).set j (some (.int (lo + i)))) P i acc H)
    (hq : ∀ D ys H', H1 D = none → Same H1 H' → H' D = some (.lst ys) → P n ys H' → Q (.ref D) H') : LcGo (Itr lo n) (gName j) tt te vs σ H1 Q := fun D hD =>
  lc_range (LcInv H1 D P) ⟨[], upd_same, Nat.zero_le _, same_new hD, mono _ _ _ _ (kt_new hD) h0⟩
    (fun i H hi p => ⟨hw _, lc_turn mono hD (by omega) p fun acc h2 h3 h4 => hs i acc H hi h2 h3 h4⟩)
    (fun H ⟨acc, h1, h2, h3, h4⟩ => hq D acc H hD h3 h1 h4)
/-- a copy -/
theorem lcT_copy (hx : SqT K H1 a xs) (hl : xs.length ≤ 100000) (hw : ∀ x, wipe ((wipe σ vs).set j (some x)) vs = wipe σ vs) (hj : ∀ x, ((wipe σ vs).set j (some x))[j]? = some (some x))
    (hq : ∀ D H', H1 D = none → Same H1 H' → H' D = some (.lst xs) → Q (.ref D) H') : LcGo (Itt K a) (gName j) tYes (tVar j) vs σ H1 Q := by
  refine lcT (fun i acc _ => acc = xs.take i) (fun _ _ _ _ _ h => h) hx hl hw rfl (fun i x acc H hi _ _ hp Qy hy Qn hn => ?_) (fun D ys H' hD e h p => hq D H' hD e (by rw [h, p, List.take_length]))
  show tVar j _ H Qy
  refine ⟨x, hj x, hy x H (Same.refl H) ?_⟩
  rw [hp]
  obtain ⟨h1, h2⟩ := List.getElem?_eq_some_iff.mp hi
  rw [List.take_succ, hi]
  rfl
end
end My
namespace My
open PySem L2
def Tr.leaf : Tr → Bool | .num _ => true | .name _ => true | _ => false
def Tr.binds : Tr → Bool | .fn _ _ => true | .lt _ _ _ => true | _ => false
theorem in_leaf (t : Tr) : inV (V.str t.word) [V.str "num", V.str "name"] = t.leaf := by cases t <;> simp only [Tr.word, Tr.leaf] <;> decide +kernel
theorem in_binds (t : Tr) : inV (V.str t.word) [V.str "fun", V.str "let"] = t.binds := by cases t <;> simp only [Tr.word, Tr.binds] <;> decide +kernel
end My
namespace My
open PySem L2
theorem ifs_ {c : TT} {t u : TS} {D : Ends} {σ : L2.St} {H : Hp} (h : ∀ A B : Hp → Prop, A = (fun H1 => t D σ H1) → B = (fun H1 => u D σ H1) → c σ H fun b H1 => if b = true then A H1 else B H1) : tIfS c t u D σ H := h _ _ rfl rfl
theorem ifq_ {c : TT} {t u r : TS} {D : Ends} {σ : L2.St} {H : Hp} (h : ∀ (R : L2.St → Hp → Prop) (A B : Hp → Prop), R = r D → A = (fun H1 => t { D with nx := R } σ H1) → B = (fun H1 => u { D with nx := R } σ H1) → c σ H fun b H1 => if b = true then A H1 else B H1) : tSeq (tIfS c t u) r D σ H := h _ _ _ rfl rfl rfl
/-- xs[m % n], n the length -/
theorem at_mod {α : Type} {xs : List α} (f : α → V) (h : 0 < xs.length) (m : Int) : ∃ x ∈ xs, atI (xs.map f) (m % (xs.length : Int)) = some (f x) := by
  have h0 : 0 ≤ m % (xs.length : Int) := Int.emod_nonneg _ (by omega)
  have h1 : m % (xs.length : Int) < xs.length := Int.emod_lt_of_pos _ (by omega)
  obtain ⟨k, hk⟩ : ∃ k : Nat, m % (xs.length : Int) = (k : Int) := ⟨(m % (xs.length : Int)).toNat, by omega⟩
  rw [hk] at h1 ⊢
  have hk' : k < xs.length := by omega
  refine ⟨xs[k], List.getElem_mem _, atI_nat ?_⟩
  rw [List.getElem?_map, List.getElem?_eq_getElem hk']
  rfl
theorem ixN_last {α : Type} (xs : List α) (v : α) : ixN (xs ++ [v]).length (-1) = some xs.length := by
  have hl : (xs ++ [v]).length = xs.length + 1 := by simp
  unfold ixN
  rw [hl, if_neg (by decide), if_pos (by omega)]
  congr 1
  omega
theorem set_last {α : Type} (xs : List α) (v w : α) : (xs ++ [v]).set xs.length w = xs ++ [w] := by simp
/-! ### what stands in a tree -/
def Tr.all (S : Str → Prop) (N : Int → Prop) : Tr → Prop
  | .num n => N n | .name x => S x | .fn x b => S x ∧ b.all S N | .call f a => f.all S N ∧ a.all S N | .plus a b => a.all S N ∧ b.all S N | .less a b => a.all S N ∧ b.all S N
  | .ite c a b => c.all S N ∧ a.all S N ∧ b.all S N | .lt x e b => S x ∧ e.all S N ∧ b.all S N
/-- a list of trees at l, over a heap H0 that did not know l -/
structure Stk (H0 : Hp) (l : Addr) (S : Str → Prop) (N : Int → Prop) (H : Hp) (vs : List V) (ts : List Tr) : Prop where
  same : Same H0 H
  at_ : H l = some (.lst vs)
  ats : Ats H ts vs
  all : ∀ t ∈ ts, t.all S N
section
variable {H0 H H' : Hp} {l : Addr} {S : Str → Prop} {N : Int → Prop} {vs : List V} {ts : List Tr} {t u : Tr} {r v : V}
theorem Stk.ext (s : Stk H0 l S N H vs ts) (e : Same H H') : Stk H0 l S N H' vs ts := ⟨s.same.trans e, e _ _ s.at_, s.ats.mono (same_kt e), s.all⟩
theorem Stk.len (s : Stk H0 l S N H vs ts) : ts.length = vs.length := Paired.length s.ats
theorem Stk.push (s : Stk H0 l S N H vs ts) (hl : H0 l = none) (h : At H t r) (ha : t.all S N) : Stk H0 l S N (upd H l (.lst (vs ++ [r]))) (vs ++ [r]) (ts ++ [t]) :=
  ⟨same_mut s.same hl, upd_same, (Ats.append s.ats (.cons h .nil)).mono (kt_lst s.at_), fun x hx => by
    rcases List.mem_append.mp hx with hx | hx
    · exact s.all x hx
    · rw [List.mem_singleton.mp hx]; exact ha⟩
theorem Stk.top (s : Stk H0 l S N H (vs ++ [v]) ts) : ∃ us t, ts = us ++ [t] ∧ At H t v ∧ t.all S N ∧ Ats H us vs ∧ ∀ x ∈ us, x.all S N := by
  obtain ⟨us, t, e, h1, h2⟩ := Ats.snoc_inv s.ats
  exact ⟨us, t, e, h2, s.all t (by rw [e]; simp), h1, fun x hx => s.all x (by rw [e]; simp [hx])⟩
theorem Stk.pop (s : Stk H0 l S N H (vs ++ [v]) (ts ++ [t])) (hl : H0 l = none) : Stk H0 l S N (upd H l (.lst vs)) vs ts ∧ At H t v ∧ t.all S N := by
  obtain ⟨us, u, e, h2, h3, h1, h4⟩ := s.top
  obtain ⟨rfl, e2⟩ := List.append_inj' e rfl
  obtain rfl : t = u := by simpa using e2
  exact ⟨⟨same_mut s.same hl, upd_same, h1.mono (kt_lst s.at_), h4⟩, h2, h3⟩
theorem Stk.put (s : Stk H0 l S N H (vs ++ [v]) (ts ++ [t])) (hl : H0 l = none) (h : At H u r) (ha : u.all S N) : Stk H0 l S N (upd H l (.lst (vs ++ [r]))) (vs ++ [r]) (ts ++ [u]) := by
  obtain ⟨us, u', e, h2, h3, h1, h4⟩ := s.top
  obtain ⟨rfl, e2⟩ := List.append_inj' e rfl
  refine ⟨same_mut s.same hl, upd_same, (Ats.append h1 (.cons h .nil)).mono (kt_lst s.at_), fun x hx => ?_⟩
  rcases List.mem_append.mp hx with hx | hx
  · exact h4 x hx
  · rw [List.mem_singleton.mp hx]; exact ha
end
end My
namespace My
open PySem L2
/-! ### a new object -/
def New (H : Hp) (o : HO) (G : Addr → Hp → Prop) : Prop := ∀ p, H p = none → G p (upd H p o)
theorem new_ {H : Hp} {o : HO} {G : Addr → Hp → Prop} (h : ∀ p H', H p = none → Same H H' → H' p = some o → G p H') : New H o G := fun p hp => h p _ hp (same_new hp) upd_same
theorem tTup_eq {t : TA} {σ : L2.St} {H : Hp} {Q : VK} : tTup t σ H Q = t σ H fun xs H1 => xs.length ≤ sizeLine ∧ New H1 (.tup xs) fun p H2 => Q (.ref p) H2 := rfl
theorem tLst_eq {t : TA} {σ : L2.St} {H : Hp} {Q : VK} : tLst t σ H Q = t σ H fun xs H1 => xs.length ≤ sizeLine ∧ New H1 (.lst xs) fun p H2 => Q (.ref p) H2 := rfl
theorem rSlT_eq {K : PySem.W.Frag} {x : V} {lo hi : Option Int} {H : Hp} {Q : VK} : rSlT K x lo hi H Q = ∃ a xs, x = .ref a ∧ SqT K H a xs ∧
  ¬ (HT.sIx xs.length 0 lo = 0 ∧ HT.sIx xs.length xs.length hi = xs.length) ∧ New H (.tup (cutV xs lo hi)) fun p H2 => Q (.ref p) H2 := rfl
theorem rSlL_eq {K : PySem.W.Frag} {x : V} {lo hi : Option Int} {H : Hp} {Q : VK} : rSlL K x lo hi H Q = ∃ a xs, x = .ref a ∧ SqL K H a xs ∧ New H (.lst (cutV xs lo hi)) fun p H2 => Q (.ref p) H2 := rfl
theorem tDNewK_eq {σ : L2.St} {H : Hp} {Q : VK} : tDNewK σ H Q = New H (.dK []) fun p H2 => Q (.ref p) H2 := rfl
theorem tRevL_eq {K : PySem.W.Frag} {te : TE} {σ : L2.St} {H : Hp} {Q : VK} : tRevL K te σ H Q = te σ H fun x H1 => ∃ a xs, x = .ref a ∧ SqL K H1 a xs ∧ New H1 (.lst xs.reverse) fun p H2 => Q (.ref p) H2 := rfl
/-- 1 ≤ the line, for written displays -/
theorem sz0 : ([] : List V).length ≤ sizeLine := szL (by simp)
theorem sz1 {a : V} : [a].length ≤ sizeLine := szL (by simp)
theorem sz2 {a b : V} : [a, b].length ≤ sizeLine := szL (by simp)
theorem sz3 {a b c : V} : [a, b, c].length ≤ sizeLine := szL (by simp)
theorem sz4 {a b c d : V} : [a, b, c, d].length ≤ sizeLine := szL (by simp)
theorem sz5 {a b c d e : V} : [a, b, c, d, e].length ≤ sizeLine := szL (by simp)
theorem sz8 {a b c d e f g h : V} : [a, b, c, d, e, f, g, h].length ≤ sizeLine := szL (by simp)
end My
namespace My
open PySem L2
theorem whileB_ {c : TT} {tb : TS} {D : Ends} {σ : L2.St} {H : Hp} (W : Nat → L2.St → Hp → Prop) (m : Nat) (w0 : W m σ H)
    (h : ∀ m σ H, W m σ H → ∀ A B : Hp → Prop, (∀ H1, (∀ N : L2.St → Hp → Prop, (∀ m' σ' H', m' < m → W m' σ' H' → N σ' H') → tb { D with nx := N, ct := N, bk := D.nx } σ H1) → A H1) → (∀ H1, D.nx σ H1 → B H1) →
      c σ H fun b H1 => if b = true then A H1 else B H1) : tWhile c tb D σ H :=
  ⟨W, ⟨m, w0⟩, fun m σ H w => h m σ H w (fun H1 => ∃ N : L2.St → Hp → Prop, (∀ σ' H', N σ' H' → ∃ m', m' < m ∧ W m' σ' H') ∧ tb { D with nx := N, ct := N, bk := D.nx } σ H1) (fun H1 => D.nx σ H1)
    (fun H1 a => ⟨fun σ' H' => ∃ m', m' < m ∧ W m' σ' H', fun _ _ n => n, a _ fun m' _ _ l w' => ⟨m', l, w'⟩⟩) fun _ b => b⟩
end My
namespace My
open PySem L2
theorem pr_append {α β : Type} {R : α → β → Prop} : ∀ {ts us : List α} {vs ws : List β}, Paired R ts vs → Paired R us ws → Paired R (ts ++ us) (vs ++ ws)
  | _, _, _, _, .nil, h => h
  | _, _, _, _, .cons r t, h => .cons r (pr_append t h)
theorem pr_snoc {α β : Type} {R : α → β → Prop} : ∀ {ts : List α} {vs : List β} {v : β}, Paired R ts (vs ++ [v]) → ∃ us t, ts = us ++ [t] ∧ Paired R us vs ∧ R t v
  | _, [], v, .cons r .nil => ⟨[], _, rfl, .nil, r⟩
  | _, u :: vs, v, .cons r t => by
    obtain ⟨us, x, e, h1, h2⟩ := pr_snoc t
    exact ⟨_ :: us, x, by rw [e]; rfl, .cons r h1, h2⟩
theorem pr_len {α β : Type} {R : α → β → Prop} {ts : List α} {vs : List β} (h : Paired R ts vs) : ts.length = vs.length := Paired.length h
theorem pr_mono {α β : Type} {R S : α → β → Prop} {ts : List α} {vs : List β} (h : Paired R ts vs) (f : ∀ a b, R a b → S a b) : Paired S ts vs := Paired.mapP h f
/-- a list, changed at its end alone; what H0 did not know -/
theorem same_put {H0 H : Hp} {l : Addr} {o : HO} (e : Same H0 H) (hl : H0 l = none) : Same H0 (upd H l o) := same_mut e hl
end My
namespace My
open PySem L2
theorem scal_ii {i j : Int} : scal (.int i) (.int j) = true := rfl
theorem scal_ss {i j : Str} : scal (.str i) (.str j) = true := rfl
theorem scal_bb {i j : Bool} : scal (.bl i) (.bl j) = true := rfl
theorem scal_is {i : Int} {j : Str} : scal (.int i) (.str j) = true := rfl
theorem scal_si {i : Str} {j : Int} : scal (.str i) (.int j) = true := rfl
theorem word_name {t : Tr} (h : t.word = "name") : ∃ y, t = .name y := by
  cases t <;> first
    | exact ⟨_, rfl⟩
    | exact absurd h (by simp only [Tr.word]; decide +kernel)
theorem word_fun {t : Tr} (h : t.word = "fun") : ∃ y b, t = .fn y b := by
  cases t <;> first
    | exact ⟨_, _, rfl⟩
    | exact absurd h (by simp only [Tr.word]; decide +kernel)
theorem word_let {t : Tr} (h : t.word = "let") : ∃ y e b, t = .lt y e b := by
  cases t <;> first
    | exact ⟨_, _, _, rfl⟩
    | exact absurd h (by simp only [Tr.word]; decide +kernel)
theorem at0 (x : V) (xs : List V) : atI (x :: xs) 0 = some x := atI_nat (j := 0) rfl
theorem at1 (x y : V) (xs : List V) : atI (x :: y :: xs) 1 = some y := atI_nat (j := 1) rfl
theorem at2 (x y z : V) (xs : List V) : atI (x :: y :: z :: xs) 2 = some z := atI_nat (j := 2) rfl
theorem at3 (x y z u : V) (xs : List V) : atI (x :: y :: z :: u :: xs) 3 = some u := atI_nat (j := 3) rfl
end My
namespace My
open PySem L2
/-! ### a tuple compared with itself -/
def rNeSelf (K : PySem.W.Frag) : R2 := fun x y H Q => ∃ (a : Addr) (xs : List V), x = .ref a ∧ y = .ref a ∧ SqT K H a xs ∧ Q (.bl false) H
theorem op_ne_self {X : Cx} (hu : X.A.units < cLine) : OpR X (compareOp .NotEq) (rNeSelf X.K) := by
  intro pins s σ H x y v u Q I rx ry h
  obtain ⟨a, xs, rfl, rfl, ha, q⟩ := h
  cases rx
  cases ry
  obtain ⟨its, r1, p1, _⟩ := I.tuple ha
  refine SeqAt.RcNeAt.tuples (e := fun _ => true) (show s.heap.IsTuple a its.toArray from p1) (show s.heap.IsTuple a its.toArray from p1) hu (fun j h1 h2 => SeqAt.EqAt.same _) X.prog X.w X.xe _ ?_
  refine ⟨.bl false, H, I, ?_, q⟩
  show Value.bool _ = Value.bool false
  congr 1
  simp
end My
namespace My
open PySem L2
section
variable {K : PySem.W.Frag} {H : Hp} {a : Addr} {xs : List V}
theorem isi_ll (h : H a = some (.lst xs)) : TyX K H (.ref a) (.type "list") ∧ PySem.W.kitOne K (.type "list") (.type "list") = some true := ⟨.base (.lst h), kit_ty (by decide +kernel)⟩
theorem isi_tt (h : H a = some (.tup xs)) : TyX K H (.ref a) (.type "tuple") ∧ PySem.W.kitOne K (.type "tuple") (.type "tuple") = some true := ⟨.base (.tup h), kit_ty (by decide +kernel)⟩
theorem isi_ss (x : Str) : TyX K H (.str x) (.type "str") ∧ PySem.W.kitOne K (.type "str") (.type "str") = some true := ⟨.base (.str x), kit_ty (by decide +kernel)⟩
theorem isi_ii (i : Int) : TyX K H (.int i) (.type "int") ∧ PySem.W.kitOne K (.type "int") (.type "int") = some true := ⟨.base (.int i), kit_ty (by decide +kernel)⟩
theorem isi_ib (i : Int) : TyX K H (.int i) (.type "int") ∧ PySem.W.kitOne K (.type "int") (.type "bool") = some false := ⟨.base (.int i), kit_ty (by decide +kernel)⟩
/-- what isinstance asks, answered -/
theorem isi_ {x : V} {T n : String} {b : Bool} {G : Bool → Prop} (h : TyX K H x (.type T) ∧ PySem.W.kitOne K (.type T) (.type n) = some b) (g : G b) :
    ∃ t u, ClsV (.ty n) u ∧ TyX K H x t ∧ ∃ b, PySem.W.kitOne K t u = some b ∧ G b := ⟨_, _, .ty _, h.1, b, h.2, g⟩
end
/-- a list of ints, of texts, by its places -/
theorem map_at {α : Type} {xs : List α} {f : α → V} {i : Nat} {y : V} (h : (xs.map f)[i]? = some y) : ∃ (hi : i < xs.length), y = f xs[i] := by
  obtain ⟨h1, h2⟩ := List.getElem?_eq_some_iff.mp h
  have h3 : i < xs.length := by rwa [List.length_map] at h1
  exact ⟨h3, by rw [← h2, List.getElem_map]⟩
end My
namespace My
open PySem L2
def ForGo (J : It) (g : TG) (tb : TS) (D : Ends) (σ : L2.St) (H1 : Hp) : Prop := ∃ W : Nat → Nat → L2.St → Hp → Prop, (∃ m, W 0 m σ H1) ∧ ∀ i m σ H, W i m σ H →
  (J.stop i H ∧ D.nx σ H) ∨ (J.go i H ∧ ∃ N : L2.St → Hp → Prop, (∀ σ' H', N σ' H' → ∃ m', m' < m ∧ W (i + 1) m' σ' H') ∧ ∀ x H', J.yld i H x H' → g x σ H' fun σ2 H2 => tb { D with nx := N, ct := N, bk := D.nx } σ2 H2)
theorem tFor_eq {wi : TI} {g : TG} {tb : TS} {D : Ends} {σ : L2.St} {H : Hp} : tFor wi g tb D σ H = wi σ H fun J H1 => ForGo J g tb D σ H1 := rfl
theorem forR {lo : Int} {n : Nat} {g : TG} {tb : TS} {D : Ends} {σ : L2.St} {H : Hp} (Pv : Nat → L2.St → Hp → Prop) (h0 : Pv 0 σ H)
    (hs : ∀ i σ H, i < n → Pv i σ H → ∀ N : L2.St → Hp → Prop, (∀ σ' H', Pv (i + 1) σ' H' → N σ' H') → g (.int (lo + i)) σ H fun σ2 H2 => tb { D with nx := N, ct := N, bk := D.nx } σ2 H2) (hd : ∀ σ H, Pv n σ H → D.nx σ H) : ForGo (Itr lo n) g tb D σ H :=
  for_range Pv h0 (fun i σ H hi p => hs i σ H hi p _ fun _ _ z => z) hd
theorem forL {K : PySem.W.Frag} {a : Addr} {xs : List V} {g : TG} {tb : TS} {D : Ends} {σ : L2.St} {H : Hp} (Pv : Nat → L2.St → Hp → Prop) (h0 : Pv 0 σ H) (hl : ∀ i σ H, i ≤ xs.length → Pv i σ H → SqL K H a xs)
    (hs : ∀ i x σ H, xs[i]? = some x → Pv i σ H → ∀ N : L2.St → Hp → Prop, (∀ σ' H', Pv (i + 1) σ' H' → N σ' H') → g x σ H fun σ2 H2 => tb { D with nx := N, ct := N, bk := D.nx } σ2 H2) (hd : ∀ σ H, Pv xs.length σ H → D.nx σ H) : ForGo (Itl K a) g tb D σ H :=
  for_list Pv h0 hl (fun i x σ H hi p => hs i x σ H hi p _ fun _ _ z => z) hd
theorem forT {K : PySem.W.Frag} {a : Addr} {xs : List V} {g : TG} {tb : TS} {D : Ends} {σ : L2.St} {H : Hp} (Pv : Nat → L2.St → Hp → Prop) (h0 : Pv 0 σ H) (hl : ∀ i σ H, i ≤ xs.length → Pv i σ H → SqT K H a xs)
    (hs : ∀ i x σ H, xs[i]? = some x → Pv i σ H → ∀ N : L2.St → Hp → Prop, (∀ σ' H', Pv (i + 1) σ' H' → N σ' H') → g x σ H fun σ2 H2 => tb { D with nx := N, ct := N, bk := D.nx } σ2 H2) (hd : ∀ σ H, Pv xs.length σ H → D.nx σ H) : ForGo (Itt K a) g tb D σ H :=
  for_tup Pv h0 hl (fun i x σ H hi p => hs i x σ H hi p _ fun _ _ z => z) hd
end My
namespace My
open PySem L2
theorem pr_right {α β : Type} {R : α → β → Prop} : ∀ {xs : List α} {ys : List β} {i : Nat} {y : β}, Paired R xs ys → ys[i]? = some y → ∃ x, xs[i]? = some x ∧ R x y
  | _, _, _, _, .nil, e => by simp at e
  | _, _, 0, _, .cons r _, e => by simp at e; subst e; exact ⟨_, rfl, r⟩
  | _, _, i + 1, y, .cons _ t, e => by
    obtain ⟨u, h1, h2⟩ := pr_right (i := i) (y := y) t (by simpa using e)
    exact ⟨u, by simpa using h1, h2⟩
theorem pr_left {α β : Type} {R : α → β → Prop} : ∀ {xs : List α} {ys : List β} {i : Nat} {x : α}, Paired R xs ys → xs[i]? = some x → ∃ y, ys[i]? = some y ∧ R x y
  | _, _, _, _, .nil, e => by simp at e
  | _, _, 0, _, .cons r _, e => by simp at e; subst e; exact ⟨_, rfl, r⟩
  | _, _, i + 1, y, .cons _ t, e => by
    obtain ⟨u, h1, h2⟩ := pr_left (i := i) (x := y) t (by simpa using e)
    exact ⟨u, by simpa using h1, h2⟩
end My
namespace My
open PySem L2
/-- xs[:-1] -/
theorem cut_butlast (xs : List V) (v : V) : cutV (xs ++ [v]) none (some (-1)) = xs := by
  unfold cutV
  have hl : (xs ++ [v]).length = xs.length + 1 := by simp
  have e : HT.sIx (xs ++ [v]).length (xs ++ [v]).length (some (-1)) = xs.length := by
    show (if (-1 : Int) < 0 then ((-1 : Int) + ((xs ++ [v]).length : Int)).toNat else min (-1 : Int).toNat (xs ++ [v]).length) = xs.length
    rw [if_pos (by decide), hl]
    omega
  rw [HT.sIx_none, e]
  simp
theorem new2 {H : Hp} {G : Addr → Hp → Prop} {o : Addr → HO} (h : ∀ p H', H p = none → Same H H' → H' p = some (o p) → G p H') : ∀ p, H p = none → G p (upd H p (o p)) := fun p hp => h p _ hp (same_new hp) upd_same
end My
namespace My
open PySem L2
/-! ### texts by their signs -/
def mkS (l : List Nat) : Str := ⟨l.toArray⟩
theorem mkS_of (z : Str) : z = mkS z.cps.toList := by cases z; rfl
theorem mkS_cps (l : List Nat) : (mkS l).cps.toList = l := rfl
theorem mkS_len (l : List Nat) : (mkS l).length = l.length := by show l.toArray.size = _; simp
theorem mkS_inj {a b : List Nat} (h : mkS a = mkS b) : a = b := by
  have := congrArg (fun z : Str => z.cps.toList) h
  exact this
theorem mkS_app (a b : List Nat) : mkS a ++ mkS b = mkS (a ++ b) := by
  show (⟨a.toArray ++ b.toArray⟩ : Str) = _
  simp [mkS]
theorem mkS_nil : mkS [] = Str.ofString "" := by decide +kernel
theorem mkS_hi (l : List Nat) (k : Nat) (h : k ≤ l.length) : cutS (mkS l) none (some (k : Int)) = mkS (l.take k) := by
  unfold cutS
  rw [mkS_len, HT.sIx_none, HT.sIx_nat, Nat.min_eq_left h, mkS_cps]
  simp [mkS]
theorem mkS_lo (l : List Nat) (k : Nat) (h : k ≤ l.length) : cutS (mkS l) (some (k : Int)) none = mkS (l.drop k) := by
  unfold cutS
  rw [mkS_len, HT.sIx_none, HT.sIx_nat, Nat.min_eq_left h, mkS_cps]
  have : (l.drop k).take (l.length - k) = l.drop k := List.take_of_length_le (by rw [List.length_drop]; exact Nat.le_refl _)
  rw [this]
  rfl
/-- the letters -/
def abc : List Nat := List.range' 97 26
theorem abc_eq : Str.ofString "abcdefghijklmnopqrstuvwxyz" = mkS abc := by decide +kernel
/-- the letter at a place -/
def lett (m : Int) : Nat := 97 + (m % 26).toNat
theorem lett_at (m : Int) : atI (mkS abc).cps.toList (m % 26) = some (lett m) := by
  have h0 : 0 ≤ m % 26 := Int.emod_nonneg _ (by decide)
  have h1 : m % 26 < 26 := Int.emod_lt_of_pos _ (by decide)
  obtain ⟨k, hk⟩ : ∃ k : Nat, m % 26 = (k : Int) := ⟨(m % 26).toNat, by omega⟩
  unfold lett
  rw [hk, Int.toNat_natCast, mkS_cps]
  refine atI_nat ?_
  rw [abc, List.getElem?_range' (by omega)]
  simp
theorem lett_lt (m : Int) : 97 ≤ lett m ∧ lett m < 123 := by
  have h0 : 0 ≤ m % 26 := Int.emod_nonneg _ (by decide)
  have h1 : m % 26 < 26 := Int.emod_lt_of_pos _ (by decide)
  unfold lett
  omega
theorem one_sign (c : Nat) : (⟨#[c]⟩ : Str) = mkS [c] := rfl
def reserved : List (List Nat) := [[110, 117, 109], [110, 97, 109, 101], [102, 117, 110], [99, 97, 108, 108], [112, 108, 117, 115], [108, 101, 115, 115], [105, 102], [108, 101, 116]]
theorem reserved_eq : [V.str "num", V.str "name", V.str "fun", V.str "call", V.str "plus", V.str "less", V.str "if", V.str "let"] = reserved.map fun l => V.str (mkS l) := by decide +kernel
theorem in_reserved (l : List Nat) : inV (V.str (mkS l)) [V.str "num", V.str "name", V.str "fun", V.str "call", V.str "plus", V.str "less", V.str "if", V.str "let"] = decide (l ∈ reserved) := by
  rw [reserved_eq]
  unfold inV
  rw [List.any_map, Bool.eq_iff_iff]
  simp only [List.any_eq_true, decide_eq_true_eq, Function.comp]
  constructor
  · rintro ⟨x, hx, h⟩
    have h : (mkS x == mkS l) = true := h
    rw [← mkS_inj (eq_of_beq h)]
    exact hx
  · intro h
    exact ⟨l, h, (show (mkS l == mkS l) = true from beq_self_eq_true _)⟩
/-- a word of a letter within others -/
def wordOf (o : List Nat) (k c : Nat) : List Nat := if o.take k ++ [c] ++ o.drop k ∈ reserved then [c] else o.take k ++ [c] ++ o.drop k
theorem wordOf_len (o : List Nat) (k c : Nat) : (wordOf o k c).length ≤ o.length + 1 ∧ 1 ≤ (wordOf o k c).length := by
  unfold wordOf
  split
  · simp
  · simp only [List.length_append, List.length_singleton, List.length_take, List.length_drop]
    omega
theorem wordOf_inj {o : List Nat} {k c c' : Nat} (h : wordOf o k c = wordOf o k c') : c = c' := by
  have key : ∀ {a b : Nat}, [a] = o.take k ++ [b] ++ o.drop k → a = b := by
    intro a b e
    have hl := congrArg List.length e
    simp only [List.length_append, List.length_singleton, List.length_take, List.length_drop] at hl
    have h0 : o = [] := List.length_eq_zero_iff.mp (by omega)
    subst h0
    simpa using e
  unfold wordOf at h
  split at h
  · split at h
    · simpa using h
    · exact key h
  · split at h
    · exact (key h.symm).symm
    · rw [List.append_assoc, List.append_assoc] at h
      have := List.append_cancel_left h
      simpa using this
/-- the names that the laws make of a cell; m is the law's own step -/
def othersOf (m : Int) (c : Int) : List Nat := (List.range (c / 26 % 8).toNat).map fun (t : Nat) => lett (c / 208 + m * (t : Int))
def nameBy (m : Int) (c : Int) : List Nat := wordOf (othersOf m c) (c / 208 % ((othersOf m c).length + 1 : Int)).toNat (lett c)
theorem othersOf_len (m c : Int) : (othersOf m c).length ≤ 7 := by
  have h0 : 0 ≤ c / 26 % 8 := Int.emod_nonneg _ (by decide)
  have h1 : c / 26 % 8 < 8 := Int.emod_lt_of_pos _ (by decide)
  simp only [othersOf, List.length_map, List.length_range]
  omega
end My
namespace My
open PySem L2
open PyProof.Rows
/-! ### s[::-1] -/
def tRevS (te : TE) : TE := fun σ H Q => te σ H fun x H1 => ∃ z : Str, x = .str z ∧ z.length ≤ sizeLine ∧ Q (.str (mkS z.cps.toList.reverse)) H1
theorem pe_revS {X : Cx} {e : Expr} {te : TE} {k : Nat} {p1 p2 p3 pos : Pos} (he : PE X e te) : PE X (.Subscript e (.Slice none none (some (.UnaryOp .USub (.Constant (.int 1) k p1) p2)) p3) pos) (tRevS te) := by
  refine ⟨fun pins s σ H Q I h => ?_⟩
  refine Subscript_ (thn (he.run pins s σ H _ I h) fun v s1 ⟨x, H1, I1, r1, q1⟩ => ?_)
  obtain ⟨z, ex, hx, q⟩ := q1
  subst ex
  obtain ⟨t, rfl⟩ := r1
  have hst : PO X (some (.UnaryOp .USub (.Constant (.int 1) k p1) p2)) (tPart (tUn (rU fun i => .int (-i)) (tC (.int 1)))) := po_some (pe_un un_neg pe_int)
  refine wpAny_Slice (thn (po_none.run pins s1 σ H1 (fun o H2 => o = none ∧ H2 = H1) I1 ⟨rfl, rfl⟩) fun vl s2 ⟨l, H2, I2, pl, el, e2⟩ => ?_)
  subst el e2
  refine thn (po_none.run pins s2 σ H2 (fun o H3 => o = none ∧ H3 = H2) I2 ⟨rfl, rfl⟩) fun vu s3 ⟨u, H3, I3, pu, eu, e3⟩ => ?_
  subst eu e3
  refine thn (hst.run pins s3 σ H3 (fun o H4 => o = some (-1) ∧ H4 = H3) I3 ⟨1, rfl, -1, rfl, rfl, rfl⟩) fun vs s4 ⟨o, H4, I4, ps, eo, e4⟩ => ?_
  subst eo e4
  cases pl
  cases pu
  cases ps with
  | int i uk =>
  show wpAny (model X.prog X.w) X.A (subscriptTail e (.Slice none none (some (.UnaryOp .USub (.Constant (.int 1) k p1) p2)) p3) (.str z t) (.ref s4.heap.objs.size)) (EP X pins σ Q) X.xe { s4 with heap := s4.heap.push { cls := .type "slice", data := .fields #[.none, .none, .int (-1) uk] } }
  have hrev : (Txt.sliceBy z none none (-1, uk)) = mkS z.cps.toList.reverse := by
    rw [mkS_of (Txt.sliceBy z none none (-1, uk)), step_rev_list]
    congr 1
    apply List.ext_getElem
    · simp [Str.length]
    · intro n h1 h2
      simp only [List.length_map, List.length_range] at h1
      simp only [List.getElem_map, List.getElem_range, List.getElem_reverse, Array.length_toList, Array.getElem_toList]
      have hz : z.length = z.cps.size := rfl
      rw [hz] at h1
      rw [Array.getD_eq_getD_getElem?, hz, Array.getElem?_eq_getElem (by omega)]
      rfl
  refine tail_any (ops := [.ref s4.heap.objs.size, .str z t]) (typeIs_str _ _ _) F.slot_str_getitem.lookup ?_ (by with_unfolding_all rfl)
  refine wpAny_getItem_str_slice (l := none) (u := none) (st := some (-1, uk)) ⟨_, Heap.get?_push_size _ rfl, rfl, rfl⟩ rfl (post_val_or_str ⟨Nat.le_trans (Txt.sliceBy_le z none none (-1, uk) (by show (-1 : Int) ≠ 0; decide)) hx, fun t' c => ?_⟩)
  show EP X pins σ Q (.str (Txt.sliceBy z none none (-1, uk)) t') _
  rw [hrev]
  exact ⟨.str _, H4, I4.kept (t' := c) fun b o e => Heap.get?_push_of_some _ e, ⟨t', rfl⟩, q⟩
end My
namespace My
open PySem L2
theorem mkS_app0 (a : List Nat) : mkS a ++ Str.ofString "" = mkS a := by rw [← mkS_nil, mkS_app, List.append_nil]
end My
namespace My
open PySem L2
theorem sjoin_nil : ∀ parts : List (List Nat), Str.join (Str.ofString "") (parts.map mkS) = mkS parts.flatten
  | [] => rfl
  | [x] => by show mkS x = mkS (x ++ []); rw [List.append_nil]
  | x :: y :: r => by
    show mkS x ++ Str.ofString "" ++ Str.join (Str.ofString "") ((y :: r).map mkS) = _
    rw [sjoin_nil (y :: r), mkS_app0, mkS_app]
    rfl
theorem join_nil (parts : List (List Nat)) : Txt.join (Str.ofString "") (parts.map mkS) = mkS parts.flatten := by rw [TL.join_eq, sjoin_nil]
theorem join_signs (l : List Nat) : Txt.join (Str.ofString "") (l.map fun c => mkS [c]) = mkS l := by
  have := join_nil (l.map fun c => [c])
  rw [List.map_map] at this
  rw [show (fun c => mkS [c]) = mkS ∘ (fun c => [c]) from rfl, this]
  have : ∀ l : List Nat, (l.map fun c => [c]).flatten = l := fun l => by
    induction l with
    | nil => rfl
    | cons c r ih => simpa using ih
  rw [this]
end My
namespace My
open PySem L2
theorem cut_hi (xs : List V) (k : Nat) : cutV xs none (some (k : Int)) = xs.take k := by
  unfold cutV
  rw [HT.sIx_none, HT.sIx_nat, List.drop_zero, Nat.sub_zero]
  by_cases h : k ≤ xs.length
  · rw [Nat.min_eq_left h]
  · rw [Nat.min_eq_right (by omega), List.take_length, List.take_of_length_le (by omega)]
theorem cut_lohi (xs : List V) (j k : Nat) : cutV xs (some (j : Int)) (some (k : Int)) = (xs.take k).drop j := by
  unfold cutV
  rw [HT.sIx_nat, HT.sIx_nat]
  apply List.ext_getElem?
  intro n
  simp only [List.getElem?_take, List.getElem?_drop]
  by_cases h1 : j ≤ xs.length <;> by_cases h2 : k ≤ xs.length
  · rw [Nat.min_eq_left h1, Nat.min_eq_left h2]
    by_cases h : n < k - j
    · rw [if_pos h, if_pos (by omega)]
    · rw [if_neg h, if_neg (by omega)]
  · rw [Nat.min_eq_left h1, Nat.min_eq_right (show xs.length ≤ k by omega)]
    by_cases h : n < xs.length - j
    · rw [if_pos h, if_pos (by omega)]
    · rw [if_neg h]
      split
      · rw [List.getElem?_eq_none (by omega)]
      · rfl
  · rw [Nat.min_eq_right (show xs.length ≤ j by omega), Nat.min_eq_left h2, if_neg (by omega)]
    split
    · rw [List.getElem?_eq_none (by omega)]
    · rfl
  · rw [Nat.min_eq_right (show xs.length ≤ j by omega), Nat.min_eq_right (show xs.length ≤ k by omega), if_neg (by omega)]
    split
    · rw [List.getElem?_eq_none (by omega)]
    · rfl
end My

namespace My
open PySem L2
open PySem.W
/-! ### sorted of pairs (int, text) -/
abbrev SRow := Addr × Int × Str
def encR (b : SRow) : PyData := .tuple [.int b.2.1, .str b.2.2]
def rSortIS (K : PySem.W.Frag) : List V → Hp → VK → Prop := fun vs H Q => ∃ (a : Addr) (bs : List SRow), vs = [.ref a] ∧ SqL K H a (bs.map fun b => .ref b.1) ∧ (∀ b ∈ bs, SqT K H b.1 [.int b.2.1, .str b.2.2]) ∧ bs.length ≤ 1000 ∧
  ∀ (cs : List SRow) (p : Addr), cs.Perm bs → cs.Pairwise (fun b c => b.2.1 ≤ c.2.1) → H p = none → Q (.ref p) (upd H p (.lst (cs.map fun c => .ref c.1)))
theorem encR_le {b c : SRow} (h : dataLe false encR b c = true) : b.2.1 ≤ c.2.1 := by
  have h1 : (!dataLt (encR c) (encR b)) = true := by rw [PySem.W.dataLe_eq] at h; exact h
  have h2 : dataLt (encR c) (encR b) = false := by simpa using h1
  unfold encR at h2
  rw [PySem.W.dataLt_pair (by simp [alike]) (by simp [alike]), PySem.W.dataLt_int] at h2
  by_cases e : PyData.eqv (.int c.2.1) (.int b.2.1) = true
  · simp only [PyData.eqv, beq_iff_eq] at e
    omega
  · rw [if_neg e] at h2
    have := of_decide_eq_false h2
    omega
theorem cr_sortedIS {X : Cx} (hu : X.A.units + 64 < cLine) : CallR X (.builtin "sorted") (rSortIS X.K) := by
  intro pins s σ H xs us Q I r h
  obtain ⟨a, bs, rfl, ha, hb, hl, q⟩ := h
  rw [Vals.ref1 r]
  obtain ⟨its, rv, p, hz⟩ := I.list ha
  have its_eq : its = bs.map fun b => Value.ref b.1 := by
    have : ∀ (bs : List SRow) (its : List Value), Vals (bs.map fun b => V.ref b.1) its → its = bs.map fun b => Value.ref b.1 := by
      intro bs
      induction bs with
      | nil => intro its h; cases h; rfl
      | cons b r ih =>
        intro its h
        cases h with
        | cons h1 h2 => rw [ih _ h2, show _ = Value.ref b.1 from h1]; rfl
    exact this bs its rv
  subst its_eq
  have e : ∀ (bs : List SRow), EachIs (fun v (b : SRow) => v = Value.ref b.1) (bs.map fun b => Value.ref b.1) bs := by
    intro bs
    induction bs with
    | nil => exact .nil
    | cons b r ih => exact .cons rfl ih
  have er : ∀ (cs : List SRow), (∀ b ∈ cs, b ∈ bs) → EachIs (fun v (b : SRow) => ∃ as, Reads s.heap v (encR b) as) (cs.map fun b => Value.ref b.1) cs := by
    intro cs
    induction cs with
    | nil => intro _; exact .nil
    | cons b r ih =>
      intro hm
      refine .cons ?_ (ih fun x hx => hm x (List.mem_cons_of_mem _ hx))
      obtain ⟨ts, rt, ⟨o, ho, hc, n, hd⟩, _⟩ := I.tuple (hb b (hm b (List.mem_cons_self)))
      cases rt with
      | cons r1 rt =>
        cases rt with
        | cons r2 rt =>
          cases rt
          obtain ⟨t1, rfl⟩ := r1
          obtain ⟨t2, rfl⟩ := r2
          exact ⟨_, Reads.tuple ho hc hd (.cons (.int _ _) (.cons (.str _ _) .nil))⟩
  refine sorted_data (R := fun v (b : SRow) => v = Value.ref b.1) (enc := encR) (bs := bs) p.isList (e bs) (er bs fun _ h => h) (AllAlike.of fun b c => by simp [encR, alike, PySem.W.alikeAll]) (Sortable.tuples fun b => ⟨_, _, rfl⟩) (szL (by omega)) (fun b _ => ?_) (fun out ho eo => ?_)
  · have : (encR b).depth ≤ 2 := by show PyData.depth (.tuple [.int b.2.1, .str b.2.2]) ≤ 2; simp [PyData.depth, PyData.depthAll]
    omega
  · obtain ⟨c, hc⟩ := PyProof.Rows.sortedAll_at s.heap (bs.map fun b => Value.ref b.1) out.toArray
    have hp : s.heap.objs.size ≤ s.heap.objs.size + 1 := Nat.le_succ _
    have hn : H (s.heap.objs.size + 1) = none := I.hok.fresh hp
    have hperm : (bs.mergeSort (dataLe false encR)).Perm bs := List.mergeSort_perm _ _
    have hpw : (bs.mergeSort (dataLe false encR)).Pairwise (fun b c => b.2.1 ≤ c.2.1) :=
      (PySem.W.sort_pairwise (PySem.W.sortLe_total _ false _) bs).imp fun h => encR_le h
    have hv : Vals ((bs.mergeSort (dataLe false encR)).map fun c => V.ref c.1) out := by
      clear hc ho hperm hpw
      generalize bs.mergeSort (dataLe false encR) = cs at eo
      induction eo with
      | nil => exact .nil
      | cons h1 h2 ih => exact .cons h1 ih
    refine ⟨.ref _, _, I.laid (a := s.heap.objs.size + 1) (o := .lst ((bs.mergeSort (dataLe false encR)).map fun c => V.ref c.1)) (t' := s.toks) (fun b o q => PyProof.Rows.sortedAll_old q) hp ⟨?_, out, c, hv, hc⟩, rfl, q _ _ hperm hpw hn⟩
    rw [List.length_map, hperm.length_eq]
    exact szL (by omega)
end My
namespace My
open PySem L2
/-! ### the rules within a comprehension's block: the written part told by name -/
section
variable {X : Cx} {K : PySem.W.Frag}
theorem ix_tupK (h : X.K = K := by rfl) : IxR X (rIxT K) := h ▸ ix_tup
theorem ix_listK (h : X.K = K := by rfl) : IxR X (rIxL K) := h ▸ ix_list
theorem sl_tupK (h : X.K = K := by rfl) : SlR X (rSlT K) := h ▸ sl_tup
theorem sl_listK (h : X.K = K := by rfl) : SlR X (rSlL K) := h ▸ sl_list
theorem op_in_seqK (h : X.K = K := by rfl) : OpR X (compareOp .In) (rIn K false) := h ▸ op_in_seq
theorem op_notIn_seqK (h : X.K = K := by rfl) : OpR X (compareOp .NotIn) (rIn K true) := h ▸ op_notIn_seq
end
end My
namespace My
open PySem L2
theorem pr_zip {α β : Type} {R : α → β → Prop} : ∀ {as : List α} {bs : List β}, Paired R as bs → ∀ p ∈ as.zip bs, R p.1 p.2
  | _, _, .nil, p, h => by simp at h
  | _, _, .cons r t, p, h => by
    rcases List.mem_cons.mp h with e | h
    · subst e; exact r
    · exact pr_zip t p h
end My
namespace My
open PySem L2
open PyProof.Rows (envOfC)
/-- the law's def, by its address -/
theorem law_of {P : Program} {w : World} {K : PySem.W.Frag} {mg : Str → Option Value} {st : Stmt} {fa : Addr} {x y : Str} {k : Nat} {sp : Sp} {CX : CXT} (F : FunAt K mg x st) (hfa : mg x = some (.ref fa))
    (hb : ∀ (kV doc pm : Value) (an : Option Addr) (cdv ct : Value) (v : Value), bindArgs (PySem.W.fnOf x x (defArgs st) (defBody st) (defScope st) .none kV doc pm an cdv ct) ⟨[v], []⟩ = pure [(y, v)])
    {H : Heap → Prop} (h : ∀ fd : FuncData, Fun K x x st fa fd → ∀ base : Heap, H base → FnOk P w K mg base CX k fa fd [y] sp) :
    ∃ fd : FuncData, (∀ (s : Shared) (v : Value), BindsTo s fd ⟨[v], []⟩ [(y, v)]) ∧ ∀ base : Heap, H base → FnOk P w K mg base CX k fa fd [y] sp := by
  obtain ⟨f, fd, Fn, m⟩ := F
  cases hfa.symm.trans m
  refine ⟨fd, fun s v => ?_, h fd Fn⟩
  obtain ⟨oc, od, kV, doc, pm, an, cdv, ct, osl, rfl, lk, hcd⟩ := Fn.ex
  exact .of_eq (hb kV doc pm an cdv ct v)
end My

namespace My
open PySem L2
open PyProof.Rows (envOfC)
/-! ### a def that may raise -/
structure DfX (P : Program) (w : World) (K : PySem.W.Frag) (mg : Str → Option Value) (base : Heap) (k : Nat) (x : Str) (ps : List Str) (sp : Sp) : Prop where
  ex : ∃ (f : Addr) (fd : FuncData), FnOk P w K mg base (L2.CX P w) k f fd ps sp ∧ mg x = some (.ref f) ∧ PySem.W.keepIn K (.ref f) = true ∧ Binds K fd ps []
section
variable {P : Program} {w : World} {K : PySem.W.Frag} {mg : Str → Option Value} {base : Heap}
theorem FunAt.dfX {x : Str} {st : Stmt} {N ps : List Str} {k : Nat} {sp : Sp} (F : FunAt K mg x st) (S : FnScope N ps (defScope st)) (hb : BindAll x st ps) (len : ∀ vs H Q E, sp vs H Q E → vs.length = ps.length)
    (hbody : ∀ (f : Addr) (cdv : Value) (A : Around) (outer : List Env) (s : Shared) (H : Hp) (vs : List V) (Q : VK) (E : XK), Room k (A.deeper (envOfC x (defScope st) s.heap.objs.size f cdv)) → sp vs H Q E →
      ∃ t, PSs (cxOf (L2.CX P w) P w K mg base N x (defScope st) f cdv A outer s H E) (defBody st) t ∧ t { nx := fun _ H' => Q .non H', rt := Q } (start N vs) H) : DfX P w K mg base (k + 1) x ps sp := by
  obtain ⟨f, fd, h, m⟩ := F
  exact ⟨f, fd, h.okX S len (hbody f), m, h.kp, h.binds hb⟩
end
section
variable {X : Cx} {j k : Nat} {x : Str} {ps : List Str} {sp : Sp} {p pos : Pos} {e : Expr} {es : List Expr} {t : TA} {E : St → XK}
/-- called where nothing is let out -/
theorem pe_callX (D : DfX X.prog X.w X.K X.mg X.base j x ps sp) (hr : Room k X.A) (hj : j ≤ k) (hg : Gl X x) (ha : PA X (e :: es) t) (hdb : (x == ("__debug__" : Str)) = false := by decide)
    (he : starEach (e :: es) X.env = (false, eval e X.env) :: starEach es X.env := by rfl) (hpl : (backTo pos (starEach es X.env)).any (·.1) = false := by rfl) :
    PE X (.Call (.Name x p) (e :: es) [] pos) (tCallD sp t) := by
  obtain ⟨f, fd, F, m, kp, b⟩ := D.ex
  have h : PE X (.Call (.Name x p) (e :: es) [] pos) (tCall sp [] E0 t) := pe_call F (hr.mono hj) hg m kp b .nil passL ha hdb he hpl
  refine ⟨fun pins s σ H Q I q => h.run pins s σ H Q I ?_⟩
  unfold tCall
  unfold tCallD at q
  simpa only [List.append_nil] using q
/-- called where what it lets out is taken -/
theorem pe_callXS (D : DfX X.prog X.w X.K X.mg X.base j x ps sp) (hr : Room k X.A) (hj : j ≤ k) (hg : Gl X x) (hx : ∀ σ, PassesAt (L2.CX X.prog X.w) X σ (E σ)) (ha : PA X (e :: es) t) (hdb : (x == ("__debug__" : Str)) = false := by decide)
    (he : starEach (e :: es) X.env = (false, eval e X.env) :: starEach es X.env := by rfl) (hpl : (backTo pos (starEach es X.env)).any (·.1) = false := by rfl) :
    PE X (.Call (.Name x p) (e :: es) [] pos) (tCallS sp E t) := by
  obtain ⟨f, fd, F, m, kp, b⟩ := D.ex
  exact pe_callS F (hr.mono hj) hg m kp b hx ha hdb he hpl
end
/-- isinstance of the error that a suite holds -/
def rIsEc (K : PySem.W.Frag) (D a : Addr) (cls : Value) (d : Option Addr) : List V → Hp → VK → Prop := fun xs H Q => cls = .ref D ∧ d = none ∧ ∃ (c : V) (b : Bool), xs = [.ref a, c] ∧ (∃ cv, (∀ u, RelV c u → u = cv) ∧ PySem.W.kitOne K (.ref D) cv = some b) ∧ Q (.bl b) H
theorem call_isEc {X : Cx} {a D : Addr} {cls : Value} {d : Option Addr} {oe : Obj} {pn : List (Addr × Obj)} (C : ExcC X.K D) (hz : Zc cls d oe) (hf : ∃ vs, oe.data = .fields vs) : CallR (X.suite a ((a, oe) :: pn)) (.builtin "isinstance") (rIsEc X.K D a cls d) := by
  intro pins s σ H xs us Q I r h
  obtain ⟨rfl, rfl, c, b, e, ⟨cv, h1, h2⟩, q⟩ := h
  exact call_isE C hz hf pins s σ H xs us Q I r ⟨c, cv, b, e, h1, h2, q⟩
/-! ### a text a number of times -/
def rMulS : R2 := fun x y H Q => ∃ (l : List Nat) (n : Nat), x = .str (mkS l) ∧ y = .int n ∧ 1 ≤ n ∧ n ≤ 1000 ∧ l.length ≤ 1000 ∧ Q (.str (mkS (List.replicate n l).flatten)) H
theorem foldl_app : ∀ (xs : List (Array Nat)) (a : Array Nat), (xs.foldl (· ++ ·) a).toList = a.toList ++ (xs.map Array.toList).flatten
  | [], a => by simp
  | x :: xs, a => by rw [List.foldl_cons, foldl_app xs (a ++ x)]; simp
theorem rep_len (l : List Nat) : ∀ n : Nat, (List.replicate n l).flatten.length = n * l.length
  | 0 => by simp
  | n + 1 => by rw [List.replicate_succ, List.flatten_cons, List.length_append, rep_len l n, Nat.succ_mul, Nat.add_comm]
theorem op_mul_str {X : Cx} : OpR X (binaryOp .Mult) rMulS := by
  intro pins s σ H x y v u Q I rx ry h
  obtain ⟨l, n, rfl, rfl, h1, h2, h3, q⟩ := h
  obtain ⟨t, rfl⟩ := rx
  obtain ⟨t', rfl⟩ := ry
  have hm : l.length * n ≤ 1000000 := Nat.mul_le_mul h3 h2
  have hlen : (mkS l).length = l.length := mkS_len l
  have hz : (⟨(List.replicate n (mkS l).cps).foldl (· ++ ·) #[]⟩ : Str) = mkS (List.replicate n l).flatten := by
    rw [mkS_of ⟨_⟩]
    show mkS ((List.replicate n (mkS l).cps).foldl (· ++ ·) #[]).toList = _
    rw [foldl_app, List.map_replicate]
    rfl
  refine PySem.P.mul_str ?_ ?_ ?_ ?_
  · simp; omega
  · intro _ _
    rw [hlen]
    have : (1000000 : Int) ≤ (2 ^ 63 - 1) / n := by
      rw [Int.le_ediv_iff_mul_le (by omega)]
      omega
    omega
  · intro _ _
    rw [hlen, Int.toNat_natCast]
    show decide (l.length * n > sizeLine) = false
    exact decide_eq_false (Nat.not_lt.mpr (Nat.le_trans hm (by decide)))
  · rw [if_neg (by omega), Int.toNat_natCast, hz]
    by_cases h : ((n : Int) == 1 || (mkS l).length == 0) = true
    · have e : mkS (List.replicate n l).flatten = mkS l := by
        simp only [Bool.or_eq_true, beq_iff_eq] at h
        rcases h with h | h
        · have : n = 1 := by omega
          subst this
          simp
        · rw [hlen] at h
          have : l = [] := List.length_eq_zero_iff.mp h
          subst this
          congr 1
          simp
      rw [if_pos h]
      rw [e] at q
      exact ⟨.str _, H, I, ⟨t, rfl⟩, q⟩
    · rw [if_neg h]
      refine ⟨?_, .str _, H, I.tok _, ⟨_, rfl⟩, q⟩
      rw [mkS_len, rep_len]
      have : n * l.length ≤ 1000000 := by rw [Nat.mul_comm]; exact hm
      exact Nat.le_trans this (by decide)
/-! ### a comprehension over a text -/
section
variable {z : Str} {j : Nat} {tt : TT} {te : TE} {vs : List Nat} {σ : L2.St} {H1 : Hp} {Q : VK}
theorem lcS (P : Nat → List V → Hp → Prop) (mono : ∀ i acc H H', KT H H' → P i acc H → P i acc H') (hl : z.cps.size ≤ 100000) (hw : ∀ x, wipe ((wipe σ vs).set j (some x)) vs = wipe σ vs) (h0 : P 0 [] H1)
    (hs : ∀ i c acc H, z.cps[i]? = some c → acc.length ≤ i → Same H1 H → P i acc H → LcTurn tt te ((wipe σ vs).set j (some (.str (mkS [c])))) P i acc H)
    (hq : ∀ D ys H', H1 D = none → Same H1 H' → H' D = some (.lst ys) → P z.cps.size ys H' → Q (.ref D) H') : LcGo (Its z) (gName j) tt te vs σ H1 Q := by
  intro D hD
  refine ⟨fun i m H => m = z.cps.size - i ∧ i ≤ z.cps.size ∧ LcInv H1 D P i H, ⟨z.cps.size, by simp, Nat.zero_le _, [], upd_same, Nat.zero_le _, same_new hD, mono _ _ _ _ (kt_new hD) h0⟩, ?_⟩
  rintro i m H ⟨rfl, hi, p⟩
  by_cases hlt : i < z.cps.size
  · refine .inr ⟨hlt, LcInv H1 D P (i + 1), fun H' p' => ⟨z.cps.size - (i + 1), by omega, rfl, hlt, p'⟩, ?_⟩
    rintro x H' ⟨rfl, c, hc, rfl⟩
    exact ⟨hw _, lc_turn mono hD (by omega) p fun acc h2 h3 h4 => hs i c acc _ hc h2 h3 h4⟩
  · have e : i = z.cps.size := by omega
    subst e
    obtain ⟨acc, h1, h2, h3, h4⟩ := p
    exact .inl ⟨Nat.le_refl _, hq D acc H hD h3 h1 h4⟩
end
/-! ### a written dict, also asked for what it does not hold -/
def rInK (K : PySem.W.Frag) (d : Addr) (neg : Bool) : R2 := fun x y H Q => ∃ (z : Str) (b : Bool), x = .str z ∧ y = .ref d ∧ (∃ r, PySem.W.nsIn K d z = some r ∧ r.isSome = b) ∧ Q (.bl (if neg = true then !b else b)) H
abbrev KDE (K : PySem.W.Frag) (w : World) (d : Addr) : Prop := ∃ es n, KDict K w d es n
theorem op_in_kde {X : Cx} {d : Addr} (D : KDE X.K X.w d) : OpR X (compareOp .In) (rInK X.K d false) := by
  obtain ⟨es, n, D⟩ := D
  intro pins s σ H x y v u Q I rx ry h
  obtain ⟨z, b, e1, e2, ⟨r, h1, rfl⟩, q⟩ := h
  exact op_in_kd D pins s σ H x y v u Q I rx ry ⟨z, r, e1, e2, h1, q⟩
theorem op_notIn_kde {X : Cx} {d : Addr} (D : KDE X.K X.w d) : OpR X (compareOp .NotIn) (rInK X.K d true) := by
  obtain ⟨es, n, D⟩ := D
  intro pins s σ H x y v u Q I rx ry h
  obtain ⟨z, b, e1, e2, ⟨r, h1, rfl⟩, q⟩ := h
  exact op_notIn_kd D pins s σ H x y v u Q I rx ry ⟨z, r, e1, e2, h1, q⟩
/-- what a written dict does not hold -/
theorem nsIn_none {K : PySem.W.Frag} {a : Addr} {c : Value} {od : Option Addr} {es : Array DictEntry} {n : Nat} {sl : Array (Option Value)} {ws : List Str} (h : K.lookup a = some ⟨c, od, .dict es n, sl⟩)
    (hk : es.toList.all (fun e => match e.key with | .str z _ => ws.contains z | _ => false) = true) {x : Str} (hx : ws.contains x = false) : PySem.W.nsIn K a x = some none := by
  unfold PySem.W.nsIn
  rw [h]
  have hk' := List.all_eq_true.mp hk
  have h1 : es.toList.find? (fun e => e.key.isStr x) = none := by
    rw [List.find?_eq_none]
    intro e he hs
    have := hk' e he
    split at this
    · rename_i z t ez
      rw [ez] at hs
      have hzx : z = x := by simpa [Value.isStr] using hs
      rw [hzx, hx] at this
      cases this
    · cases this
  have h2 : es.toList.any (fun e => e.refKey) = false := by
    rw [List.any_eq_false]
    intro e he hs
    have := hk' e he
    split at this
    · rename_i z t ez
      unfold DictEntry.refKey at hs
      rw [ez] at hs
      cases hs
    · cases this
  dsimp only
  rw [h1]
  dsimp only
  rw [h2]
  rfl
end My
namespace My
open PySem L2
theorem cut_from {xs : List V} {n : Nat} (h : n ≤ xs.length) : cutV xs (some (n : Int)) none = xs.drop n := by
  unfold cutV
  rw [HT.sIx_nat, HT.sIx_none, Nat.min_eq_left h]
  exact List.take_of_length_le (by rw [List.length_drop]; exact Nat.le_refl _)
theorem not_whole {n m : Nat} (h : 0 < n) (hm : n ≤ m) : ¬ (HT.sIx m 0 (some (n : Int)) = 0 ∧ HT.sIx m m none = m) := by
  rw [HT.sIx_nat]
  omega
/-- the script's number at a place, 0 behind its end -/
def cell (ns : List Int) (k : Nat) : Int := ns.getD k 0
theorem cell_at {ns : List Int} {k : Nat} (h : (k : Int) < ((ns.map V.int).length : Int)) : atI (ns.map V.int) (k : Int) = some (.int (cell ns k)) := by
  rw [List.length_map] at h
  have h' : k < ns.length := by omega
  refine atI_nat ?_
  rw [List.getElem?_map, List.getElem?_eq_getElem h']
  simp [cell, List.getD_eq_getElem?_getD, List.getElem?_eq_getElem h']
theorem cell_out {ns : List Int} {k : Nat} (h : ¬ (k : Int) < ((ns.map V.int).length : Int)) : cell ns k = 0 := by
  rw [List.length_map] at h
  have h' : ns.length ≤ k := by omega
  simp [cell, List.getD_eq_getElem?_getD, List.getElem?_eq_none h']
def spCellA (K : PySem.W.Frag) : Sp := fun vs H Q _ => ∃ (a : Addr) (ns : List Int) (k : Nat), vs = [.ref a, .int k] ∧ SqL K H a (ns.map V.int) ∧ Q (.int (cell ns k)) H
end My
namespace My
open PySem L2
section
variable {lo c : Int} {n : Nat} {j : Nat} {tt : TT} {te : TE} {vs : List Nat} {σ : L2.St} {H1 : Hp} {Q : VK}
theorem lcC (P : Nat → List V → Hp → Prop) (mono : ∀ i acc H H', KT H H' → P i acc H → P i acc H') (hl : n ≤ 100000) (hw : ∀ x, wipe ((wipe σ vs).set j (some x)) vs = wipe σ vs) (h0 : P 0 [] H1)
    (hs : ∀ i acc H, i < n → acc.length ≤ i → Same H1 H → P i acc H → LcTurn tt te ((wipe σ vs).set j (some (.int (lo + (i : Nat) * c)))) P i acc H)
    (hq : ∀ D ys H', H1 D = none → Same H1 H' → H' D = some (.lst ys) → P n ys H' → Q (.ref D) H') : LcGo (Itc lo c n) (gName j) tt te vs σ H1 Q := by
  intro D hD
  refine ⟨fun i m H => m = n - i ∧ i ≤ n ∧ LcInv H1 D P i H, ⟨n, by simp, Nat.zero_le _, [], upd_same, Nat.zero_le _, same_new hD, mono _ _ _ _ (kt_new hD) h0⟩, ?_⟩
  rintro i m H ⟨rfl, hi, p⟩
  by_cases hlt : i < n
  · refine .inr ⟨hlt, LcInv H1 D P (i + 1), fun H' p' => ⟨n - (i + 1), by omega, rfl, hlt, p'⟩, ?_⟩
    rintro x H' ⟨rfl, rfl⟩
    exact ⟨hw _, lc_turn mono hD (by omega) p fun acc h2 h3 h4 => hs i acc _ hlt h2 h3 h4⟩
  · have e : i = n := by omega
    subst e
    obtain ⟨acc, h1, h2, h3, h4⟩ := p
    exact .inl ⟨Nat.le_refl _, hq D acc H hD h3 h1 h4⟩
end
theorem RgC.two {m : Nat} (h0 : 0 < m) (h1 : m ≤ 100000) : RgC 0 ((m : Int) - 1) 2 (m / 2) := by
  refine ⟨by decide, by decide, ?_, ?_⟩
  · have hz : Builtin.Range.rangeSize 0 ((m : Int) - 1) 2 = ((m / 2 : Nat) : Int) := by
      unfold Builtin.Range.rangeSize
      rw [if_pos (by decide)]
      split <;> omega
    unfold Builtin.Range.small
    rw [hz]
    simp only [Builtin.Range.rangeFitsLong, Bool.and_eq_true, Bool.or_eq_true, decide_eq_true_eq, beq_iff_eq, show (2 : Int) > 0 by decide, if_true]
    omega
  · unfold Builtin.Range.rangeSize
    rw [if_pos (by decide)]
    split <;> omega
end My
namespace My
open PySem L2
theorem kit_own {K : PySem.W.Frag} {t : Value} {C : Addr} (h1 : PySem.W.isClsIn K C = true) (h2 : PySem.W.typeIn K (.ref C) = some (.type "type")) (h3 : PySem.W.subIn K t (.ref C) = some true) : PySem.W.kitOne K t (.ref C) = some true := by
  unfold PySem.W.kitOne
  split
  · rfl
  · have h1' : (PySem.W.clsIn K C).isSome = true := h1
    show (if ((PySem.W.clsIn K C).isSome && PySem.W.typeIn K (.ref C) == some (.type "type")) = true then PySem.W.subIn K t (.ref C) else none) = some true
    rw [h1', h2]
    exact (if_pos (by rfl)).trans h3
theorem kit_blt {K : PySem.W.Frag} {t : Value} {T : String} (h1 : PySem.W.kitMeta T = true) (h3 : PySem.W.subIn K t (.type T) = some true) : PySem.W.kitOne K t (.type T) = some true := by
  unfold PySem.W.kitOne
  split
  · rfl
  · show (if PySem.W.kitMeta T = true then PySem.W.subIn K t (.type T) else none) = some true
    rw [if_pos h1]
    exact h3
end My

namespace My
open PySem L2
/-! ### free names and putting in -/
/-- x stands free in the tree -/
def Tr.fr (x : Str) : Tr → Prop
  | .num _ => False
  | .name y => y = x
  | .fn y b => y ≠ x ∧ b.fr x
  | .call f a => f.fr x ∨ a.fr x
  | .plus f a => f.fr x ∨ a.fr x
  | .less f a => f.fr x ∨ a.fr x
  | .ite c f a => c.fr x ∨ f.fr x ∨ a.fr x
  | .lt y e b => e.fr x ∨ (y ≠ x ∧ b.fr x)
def Tr.closed (t : Tr) : Prop := ∀ x, ¬ t.fr x
/-- what stands for names -/
abbrev Sb := Str → Option Tr
def Sb.none : Sb := fun _ => Option.none
def Sb.one (x : Str) (v : Tr) : Sb := fun y => if y = x then some v else Option.none
def Sb.del (s : Sb) (x : Str) : Sb := fun y => if y = x then Option.none else s y
def Sb.add (s : Sb) (x : Str) (v : Tr) : Sb := fun y => if y = x then some v else s y
def Sb.or (s r : Sb) : Sb := fun y => (s y).or (r y)
/-- put in for all of them at once -/
def Tr.sub (s : Sb) : Tr → Tr
  | .num n => .num n
  | .name y => (s y).getD (.name y)
  | .fn y b => .fn y (b.sub (s.del y))
  | .call f a => .call (f.sub s) (a.sub s)
  | .plus f a => .plus (f.sub s) (a.sub s)
  | .less f a => .less (f.sub s) (a.sub s)
  | .ite c f a => .ite (c.sub s) (f.sub s) (a.sub s)
  | .lt y e b => .lt y (e.sub s) (b.sub (s.del y))
def Tr.put (t : Tr) (x : Str) (v : Tr) : Tr := t.sub (Sb.one x v)
def Sb.Cl (s : Sb) : Prop := ∀ x v, s x = some v → v.closed
theorem Sb.Cl.del {s : Sb} (h : s.Cl) (x : Str) : (s.del x).Cl := fun y v e => by
  unfold Sb.del at e
  split at e
  · cases e
  · exact h y v e
theorem Sb.Cl.add {s : Sb} (h : s.Cl) {x : Str} {v : Tr} (hv : v.closed) : (s.add x v).Cl := fun y u e => by
  unfold Sb.add at e
  split at e
  · cases e; exact hv
  · exact h y u e
theorem Sb.Cl.one {x : Str} {v : Tr} (hv : v.closed) : (Sb.one x v).Cl := fun y u e => by
  unfold Sb.one at e
  split at e
  · cases e; exact hv
  · cases e
theorem Tr.sub_congr : ∀ {t : Tr} {s r : Sb}, (∀ x, t.fr x → s x = r x) → t.sub s = t.sub r
  | .num _, s, r, h => rfl
  | .name y, s, r, h => by simp only [Tr.sub]; rw [h y rfl]
  | .fn y b, s, r, h => by
    simp only [Tr.sub]
    rw [Tr.sub_congr (t := b) (s := s.del y) (r := r.del y) fun x hx => by
      unfold Sb.del
      split
      · rfl
      · rename_i ne; exact h x ⟨fun e => ne e.symm, hx⟩]
  | .call f a, s, r, h => by simp only [Tr.sub]; rw [Tr.sub_congr fun x hx => h x (.inl hx), Tr.sub_congr fun x hx => h x (.inr hx)]
  | .plus f a, s, r, h => by simp only [Tr.sub]; rw [Tr.sub_congr fun x hx => h x (.inl hx), Tr.sub_congr fun x hx => h x (.inr hx)]
  | .less f a, s, r, h => by simp only [Tr.sub]; rw [Tr.sub_congr fun x hx => h x (.inl hx), Tr.sub_congr fun x hx => h x (.inr hx)]
  | .ite c f a, s, r, h => by simp only [Tr.sub]; rw [Tr.sub_congr fun x hx => h x (.inl hx), Tr.sub_congr fun x hx => h x (.inr (.inl hx)), Tr.sub_congr fun x hx => h x (.inr (.inr hx))]
  | .lt y e b, s, r, h => by
    simp only [Tr.sub]
    rw [Tr.sub_congr (t := e) fun x hx => h x (.inl hx), Tr.sub_congr (t := b) (s := s.del y) (r := r.del y) fun x hx => by
      unfold Sb.del
      split
      · rfl
      · rename_i ne; exact h x (.inr ⟨fun e => ne e.symm, hx⟩)]
theorem Sb.none_del (x : Str) : Sb.none.del x = Sb.none := by
  funext y
  unfold Sb.del Sb.none
  split <;> rfl
theorem Tr.sub_none : ∀ t : Tr, t.sub Sb.none = t
  | .num _ => rfl
  | .name _ => rfl
  | .fn y b => by simp only [Tr.sub]; rw [Sb.none_del, Tr.sub_none b]
  | .call f a => by simp only [Tr.sub]; rw [Tr.sub_none f, Tr.sub_none a]
  | .plus f a => by simp only [Tr.sub]; rw [Tr.sub_none f, Tr.sub_none a]
  | .less f a => by simp only [Tr.sub]; rw [Tr.sub_none f, Tr.sub_none a]
  | .ite c f a => by simp only [Tr.sub]; rw [Tr.sub_none c, Tr.sub_none f, Tr.sub_none a]
  | .lt y e b => by simp only [Tr.sub]; rw [Sb.none_del, Tr.sub_none e, Tr.sub_none b]
theorem Tr.sub_id {t : Tr} {s : Sb} (h : ∀ x, t.fr x → s x = none) : t.sub s = t := (Tr.sub_congr (r := Sb.none) h).trans t.sub_none
theorem Tr.sub_closed {t : Tr} (h : t.closed) (s : Sb) : t.sub s = t := Tr.sub_id fun x hx => absurd hx (h x)
theorem Tr.put_id {t : Tr} {x : Str} {v : Tr} (h : ¬ t.fr x) : t.put x v = t := Tr.sub_id fun y hy => by
  unfold Sb.one
  rw [if_neg]
  intro e
  exact h (e ▸ hy)
theorem Sb.or_del (s r : Sb) (x : Str) : (s.or r).del x = (s.del x).or (r.del x) := by
  funext y
  unfold Sb.del Sb.or
  by_cases h : y = x <;> simp [h]
/-- first s, then r: closed things stand for names in s -/
theorem Tr.sub_sub : ∀ {t : Tr} {s r : Sb}, s.Cl → (t.sub s).sub r = t.sub (s.or r)
  | .num _, s, r, h => rfl
  | .name y, s, r, h => by
    simp only [Tr.sub, Sb.or]
    cases e : s y with
    | none => rfl
    | some v => exact Tr.sub_closed (h y v e) r
  | .fn y b, s, r, h => by simp only [Tr.sub]; rw [Tr.sub_sub (h.del y), Sb.or_del]
  | .call f a, s, r, h => by simp only [Tr.sub]; rw [Tr.sub_sub h, Tr.sub_sub h]
  | .plus f a, s, r, h => by simp only [Tr.sub]; rw [Tr.sub_sub h, Tr.sub_sub h]
  | .less f a, s, r, h => by simp only [Tr.sub]; rw [Tr.sub_sub h, Tr.sub_sub h]
  | .ite c f a, s, r, h => by simp only [Tr.sub]; rw [Tr.sub_sub h, Tr.sub_sub h, Tr.sub_sub h]
  | .lt y e b, s, r, h => by simp only [Tr.sub]; rw [Tr.sub_sub h, Tr.sub_sub (h.del y), Sb.or_del]
/-- what is free behind it -/
theorem Tr.fr_sub : ∀ {t : Tr} {s : Sb} {x : Str}, s.Cl → ((t.sub s).fr x ↔ t.fr x ∧ s x = none)
  | .num _, s, x, h => by simp [Tr.sub, Tr.fr]
  | .name y, s, x, h => by
    simp only [Tr.sub, Tr.fr]
    cases e : s y with
    | none =>
      show y = x ↔ _
      constructor
      · intro h; exact ⟨h, h ▸ e⟩
      · exact fun h => h.1
    | some v =>
      show v.fr x ↔ _
      constructor
      · intro hx; exact absurd hx (h y v e x)
      · rintro ⟨rfl, h2⟩; rw [e] at h2; cases h2
  | .fn y b, s, x, h => by
    simp only [Tr.sub, Tr.fr]
    rw [Tr.fr_sub (h.del y)]
    unfold Sb.del
    constructor
    · rintro ⟨h1, h2, h3⟩
      rw [if_neg (fun e => h1 e.symm)] at h3
      exact ⟨⟨h1, h2⟩, h3⟩
    · rintro ⟨⟨h1, h2⟩, h3⟩
      exact ⟨h1, h2, by rw [if_neg (fun e => h1 e.symm)]; exact h3⟩
  | .call f a, s, x, h => by simp only [Tr.sub, Tr.fr]; rw [Tr.fr_sub h, Tr.fr_sub h]; exact ⟨fun | .inl p => ⟨.inl p.1, p.2⟩ | .inr p => ⟨.inr p.1, p.2⟩, fun | ⟨.inl p, q⟩ => .inl ⟨p, q⟩ | ⟨.inr p, q⟩ => .inr ⟨p, q⟩⟩
  | .plus f a, s, x, h => by simp only [Tr.sub, Tr.fr]; rw [Tr.fr_sub h, Tr.fr_sub h]; exact ⟨fun | .inl p => ⟨.inl p.1, p.2⟩ | .inr p => ⟨.inr p.1, p.2⟩, fun | ⟨.inl p, q⟩ => .inl ⟨p, q⟩ | ⟨.inr p, q⟩ => .inr ⟨p, q⟩⟩
  | .less f a, s, x, h => by simp only [Tr.sub, Tr.fr]; rw [Tr.fr_sub h, Tr.fr_sub h]; exact ⟨fun | .inl p => ⟨.inl p.1, p.2⟩ | .inr p => ⟨.inr p.1, p.2⟩, fun | ⟨.inl p, q⟩ => .inl ⟨p, q⟩ | ⟨.inr p, q⟩ => .inr ⟨p, q⟩⟩
  | .ite c f a, s, x, h => by
    simp only [Tr.sub, Tr.fr]
    rw [Tr.fr_sub h, Tr.fr_sub h, Tr.fr_sub h]
    exact ⟨fun | .inl p => ⟨.inl p.1, p.2⟩ | .inr (.inl p) => ⟨.inr (.inl p.1), p.2⟩ | .inr (.inr p) => ⟨.inr (.inr p.1), p.2⟩, fun | ⟨.inl p, q⟩ => .inl ⟨p, q⟩ | ⟨.inr (.inl p), q⟩ => .inr (.inl ⟨p, q⟩) | ⟨.inr (.inr p), q⟩ => .inr (.inr ⟨p, q⟩)⟩
  | .lt y e b, s, x, h => by
    simp only [Tr.sub, Tr.fr]
    rw [Tr.fr_sub h, Tr.fr_sub (h.del y)]
    unfold Sb.del
    constructor
    · rintro (p | ⟨h1, h2, h3⟩)
      · exact ⟨.inl p.1, p.2⟩
      · rw [if_neg (fun e => h1 e.symm)] at h3
        exact ⟨.inr ⟨h1, h2⟩, h3⟩
    · rintro ⟨p | ⟨h1, h2⟩, h3⟩
      · exact .inl ⟨p, h3⟩
      · exact .inr ⟨h1, h2, by rw [if_neg (fun e => h1 e.symm)]; exact h3⟩
theorem Sb.del_or_one (s : Sb) (x : Str) (v : Tr) : (s.del x).or (Sb.one x v) = s.add x v := by
  funext y
  unfold Sb.del Sb.or Sb.one Sb.add
  by_cases h : y = x
  · simp [h]
  · simp [h]
/-- the body of a function round which s was put in, with v for its name -/
theorem Tr.put_body {b : Tr} {s : Sb} {x : Str} {v : Tr} (h : s.Cl) : (b.sub (s.del x)).put x v = b.sub (s.add x v) := by
  unfold Tr.put
  rw [Tr.sub_sub (h.del x), Sb.del_or_one]
end My

namespace My
open PySem L2
/-! ### what a deed is refused for -/
inductive Er where
  | number | function | closed
  deriving DecidableEq
/-! ### one deed -/
inductive St1 where
  | val | to (t : Tr) | err (e : Er)
def Tr.isV : Tr → Bool
  | .num _ => true
  | .fn _ _ => true
  | _ => false
def Tr.step : Tr → St1
  | .num _ => .val
  | .fn _ _ => .val
  | .name _ => .err .closed
  | .plus a b => match a.step with
    | .to a' => .to (.plus a' b)
    | .err e => .err e
    | .val => match b.step with
      | .to b' => .to (.plus a b')
      | .err e => .err e
      | .val => match a, b with
        | .num m, .num n => .to (.num (m + n))
        | _, _ => .err .number
  | .less a b => match a.step with
    | .to a' => .to (.less a' b)
    | .err e => .err e
    | .val => match b.step with
      | .to b' => .to (.less a b')
      | .err e => .err e
      | .val => match a, b with
        | .num m, .num n => .to (.num (m - n))
        | _, _ => .err .number
  | .call a b => match a.step with
    | .to a' => .to (.call a' b)
    | .err e => .err e
    | .val => match b.step with
      | .to b' => .to (.call a b')
      | .err e => .err e
      | .val => match a with
        | .fn x t => .to (t.put x b)
        | _ => .err .function
  | .ite c a b => match c.step with
    | .to c' => .to (.ite c' a b)
    | .err e => .err e
    | .val => match c with
      | .num n => .to (if n = 0 then b else a)
      | _ => .err .number
  | .lt x e b => match e.step with
    | .to e' => .to (.lt x e' b)
    | .err e => .err e
    | .val => .to (b.put x e)
theorem Tr.step_val {t : Tr} : t.step = .val ↔ t.isV = true := by
  cases t with
  | num n => simp [Tr.step, Tr.isV]
  | fn x b => simp [Tr.step, Tr.isV]
  | name x => simp [Tr.step, Tr.isV]
  | plus a b =>
    simp only [Tr.step, Tr.isV]
    repeat' split
    all_goals simp
  | less a b =>
    simp only [Tr.step, Tr.isV]
    repeat' split
    all_goals simp
  | call a b =>
    simp only [Tr.step, Tr.isV]
    repeat' split
    all_goals simp
  | ite c a b =>
    simp only [Tr.step, Tr.isV]
    repeat' split
    all_goals simp
  | lt x e b =>
    simp only [Tr.step, Tr.isV]
    repeat' split
    all_goals simp
/-! ### deed behind deed -/
/-- what comes of a whole work: a value and the deeds left; refused; dry -/
inductive Rs (α : Type) where
  | ok (v : α) (m : Nat) | err (e : Er) | dry
def work : Nat → Tr → Rs Tr
  | 0, t => match t.step with
    | .val => .ok t 0
    | _ => .dry
  | m + 1, t => match t.step with
    | .val => .ok t (m + 1)
    | .to t' => work m t'
    | .err e => .err e
/-! ### the machine -/
mutual
inductive Val where
  | num (n : Int) | fn (x : Str) (b : Tr) (e : Env)
inductive Env where
  | nil | cons (y : Str) (v : Val) (e : Env)
end
def Env.look : Env → Str → Option Val
  | .nil, _ => none
  | .cons y v e, x => if x = y then some v else e.look x
def Env.keep (e : Env) : List Str → Env
  | [] => .nil
  | y :: r => match e.look y with
    | some v => .cons y v (e.keep r)
    | none => e.keep r
inductive Rv where
  | ok (v : Val) (m : Nat) (l : List Val) | err (e : Er) | dry
def Rv.left : Rv → Nat
  | .ok _ m _ => m
  | _ => 0
def Rv.log (l : List Val) : Rv → Rv
  | .ok v m l' => .ok v m (l ++ l')
  | r => r
theorem Rv.left_log (l : List Val) (r : Rv) : (r.log l).left = r.left := by cases r <;> rfl
def Val.add : Val → Val → Rv
  | .num m, .num n => .ok (.num (m + n)) 0 []
  | _, _ => .err .number
/-- a sum's or a difference's deed, with m deeds left behind it -/
def arith (f : Int → Int → Int) (v w : Val) (m : Nat) (l : List Val) : Rv := match v, w with
  | .num a, .num b => .ok (.num (f a b)) m l
  | _, _ => .err .number
theorem arith_left (f : Int → Int → Int) (v w : Val) (m : Nat) (l : List Val) : (arith f v w m l).left ≤ m := by
  unfold arith
  split
  · exact Nat.le_refl _
  · exact Nat.zero_le _
theorem lexle {a b c d : Nat} (h : a ≤ b) (g : c < d) : Prod.Lex (fun x y => x < y) (fun x y => x < y) (a, c) (b, d) := by
  rcases Nat.lt_or_eq_of_le h with h | h
  · exact Prod.Lex.left _ _ h
  · subst h; exact Prod.Lex.right _ g
variable (fl : Tr → List Str)
def evA : (m : Nat) → (e : Env) → (t : Tr) → {r : Rv // r.left ≤ m}
  | m, e, .num n => ⟨.ok (.num n) m [], Nat.le_refl _⟩
  | m, e, .name x => match e.look x with
    | some v => ⟨.ok v m [], Nat.le_refl _⟩
    | none => ⟨.err .closed, Nat.zero_le _⟩
  | m, e, .fn x b => ⟨.ok (.fn x b (e.keep (fl (.fn x b)))) m [.fn x b (e.keep (fl (.fn x b)))], Nat.le_refl _⟩
  | m, e, .plus a b => match evA m e a with
    | ⟨.ok v m1 l1, h1⟩ => match evA m1 e b with
      | ⟨.ok _ 0 _, _⟩ => ⟨.dry, Nat.zero_le _⟩
      | ⟨.ok w (m2 + 1) l2, h2⟩ => ⟨arith (· + ·) v w m2 (l1 ++ l2), Nat.le_trans (arith_left _ _ _ _ _) (by simp only [Rv.left] at h1 h2; omega)⟩
      | ⟨.err c, _⟩ => ⟨.err c, Nat.zero_le _⟩
      | ⟨.dry, _⟩ => ⟨.dry, Nat.zero_le _⟩
    | ⟨.err c, _⟩ => ⟨.err c, Nat.zero_le _⟩
    | ⟨.dry, _⟩ => ⟨.dry, Nat.zero_le _⟩
  | m, e, .less a b => match evA m e a with
    | ⟨.ok v m1 l1, h1⟩ => match evA m1 e b with
      | ⟨.ok _ 0 _, _⟩ => ⟨.dry, Nat.zero_le _⟩
      | ⟨.ok w (m2 + 1) l2, h2⟩ => ⟨arith (· - ·) v w m2 (l1 ++ l2), Nat.le_trans (arith_left _ _ _ _ _) (by simp only [Rv.left] at h1 h2; omega)⟩
      | ⟨.err c, _⟩ => ⟨.err c, Nat.zero_le _⟩
      | ⟨.dry, _⟩ => ⟨.dry, Nat.zero_le _⟩
    | ⟨.err c, _⟩ => ⟨.err c, Nat.zero_le _⟩
    | ⟨.dry, _⟩ => ⟨.dry, Nat.zero_le _⟩
  | m, e, .call a b => match evA m e a with
    | ⟨.ok v m1 l1, h1⟩ => match evA m1 e b with
      | ⟨.ok _ 0 _, _⟩ => ⟨.dry, Nat.zero_le _⟩
      | ⟨.ok w (m2 + 1) l2, h2⟩ => match v with
        | .fn x t e' => ⟨(evA m2 (.cons x w e') t).1.log (l1 ++ l2), by rw [Rv.left_log]; exact Nat.le_trans (evA m2 (.cons x w e') t).2 (by simp only [Rv.left] at h1 h2; omega)⟩
        | .num _ => ⟨.err .function, Nat.zero_le _⟩
      | ⟨.err c, _⟩ => ⟨.err c, Nat.zero_le _⟩
      | ⟨.dry, _⟩ => ⟨.dry, Nat.zero_le _⟩
    | ⟨.err c, _⟩ => ⟨.err c, Nat.zero_le _⟩
    | ⟨.dry, _⟩ => ⟨.dry, Nat.zero_le _⟩
  | m, e, .ite c a b => match evA m e c with
    | ⟨.ok _ 0 _, _⟩ => ⟨.dry, Nat.zero_le _⟩
    | ⟨.ok v (m1 + 1) l1, h1⟩ => match v with
      | .num n => if n = 0 then ⟨(evA m1 e b).1.log l1, by rw [Rv.left_log]; exact Nat.le_trans (evA m1 e b).2 (by simp only [Rv.left] at h1; omega)⟩
        else ⟨(evA m1 e a).1.log l1, by rw [Rv.left_log]; exact Nat.le_trans (evA m1 e a).2 (by simp only [Rv.left] at h1; omega)⟩
      | .fn _ _ _ => ⟨.err .number, Nat.zero_le _⟩
    | ⟨.err c, _⟩ => ⟨.err c, Nat.zero_le _⟩
    | ⟨.dry, _⟩ => ⟨.dry, Nat.zero_le _⟩
  | m, e, .lt x a b => match evA m e a with
    | ⟨.ok _ 0 _, _⟩ => ⟨.dry, Nat.zero_le _⟩
    | ⟨.ok v (m1 + 1) l1, h1⟩ => ⟨(evA m1 (.cons x v e) b).1.log l1, by rw [Rv.left_log]; exact Nat.le_trans (evA m1 (.cons x v e) b).2 (by simp only [Rv.left] at h1; omega)⟩
    | ⟨.err c, _⟩ => ⟨.err c, Nat.zero_le _⟩
    | ⟨.dry, _⟩ => ⟨.dry, Nat.zero_le _⟩
termination_by m _ t => (m, t.size)
decreasing_by
  all_goals simp_wf
  all_goals (simp only [Rv.left, Tr.size] at *; first | exact lexle (by omega) (by omega) | exact Prod.Lex.left _ _ (by omega))
def ev (m : Nat) (e : Env) (t : Tr) : Rv := (evA fl m e t).1
section
variable {fl : Tr → List Str} {m : Nat} {e : Env} {x : Str} {n : Int} {a b c : Tr}
theorem ev_num : ev fl m e (.num n) = .ok (.num n) m [] := by unfold ev; rw [evA]
theorem ev_name : ev fl m e (.name x) = match e.look x with | some v => .ok v m [] | none => .err .closed := by
  unfold ev; rw [evA]
  split <;> rfl
theorem ev_fn : ev fl m e (.fn x b) = .ok (.fn x b (e.keep (fl (.fn x b)))) m [.fn x b (e.keep (fl (.fn x b)))] := by unfold ev; rw [evA]
/-- behind a first part -/
def Rv.bind (r : Rv) (k : Val → Nat → List Val → Rv) : Rv := match r with
  | .ok v m l => k v m l
  | .err c => .err c
  | .dry => .dry
/-- a deed, where one is left -/
def deed (m : Nat) (k : Nat → Rv) : Rv := match m with
  | 0 => .dry
  | m + 1 => k m
theorem ev_plus : ev fl m e (.plus a b) = (ev fl m e a).bind fun v m1 l1 => (ev fl m1 e b).bind fun w m2 l2 => deed m2 fun m3 => arith (· + ·) v w m3 (l1 ++ l2) := by
  unfold ev; rw [evA]
  generalize evA fl m e a = A
  obtain ⟨r, hr⟩ := A
  cases r with
  | ok v m1 l1 =>
    dsimp only [Rv.bind]
    generalize evA fl m1 e b = B
    obtain ⟨r2, hr2⟩ := B
    cases r2 with
    | ok w m2 l2 => cases m2 <;> first | rfl | (cases v <;> rfl)
    | _ => rfl
  | _ => rfl
theorem ev_less : ev fl m e (.less a b) = (ev fl m e a).bind fun v m1 l1 => (ev fl m1 e b).bind fun w m2 l2 => deed m2 fun m3 => arith (· - ·) v w m3 (l1 ++ l2) := by
  unfold ev; rw [evA]
  generalize evA fl m e a = A
  obtain ⟨r, hr⟩ := A
  cases r with
  | ok v m1 l1 =>
    dsimp only [Rv.bind]
    generalize evA fl m1 e b = B
    obtain ⟨r2, hr2⟩ := B
    cases r2 with
    | ok w m2 l2 => cases m2 <;> first | rfl | (cases v <;> rfl)
    | _ => rfl
  | _ => rfl
theorem ev_call : ev fl m e (.call a b) = (ev fl m e a).bind fun v m1 l1 => (ev fl m1 e b).bind fun w m2 l2 => deed m2 fun m3 => match v with | .fn x t e' => (ev fl m3 (.cons x w e') t).log (l1 ++ l2) | .num _ => .err .function := by
  unfold ev; rw [evA]
  generalize evA fl m e a = A
  obtain ⟨r, hr⟩ := A
  cases r with
  | ok v m1 l1 =>
    dsimp only [Rv.bind]
    generalize evA fl m1 e b = B
    obtain ⟨r2, hr2⟩ := B
    cases r2 with
    | ok w m2 l2 => cases m2 <;> first | rfl | (cases v <;> rfl)
    | _ => rfl
  | _ => rfl
theorem ev_ite : ev fl m e (.ite c a b) = (ev fl m e c).bind fun v m1 l1 => deed m1 fun m2 => match v with | .num n => (ev fl m2 e (if n = 0 then b else a)).log l1 | .fn _ _ _ => .err .number := by
  unfold ev; rw [evA]
  generalize evA fl m e c = A
  obtain ⟨r, hr⟩ := A
  cases r with
  | ok v m1 l1 => cases m1 <;> first | rfl | (cases v <;> first | rfl | (rename_i n; dsimp only [Rv.bind, deed]; split <;> rfl))
  | _ => rfl
theorem ev_lt : ev fl m e (.lt x a b) = (ev fl m e a).bind fun v m1 l1 => deed m1 fun m2 => (ev fl m2 (.cons x v e) b).log l1 := by
  unfold ev; rw [evA]
  generalize evA fl m e a = A
  obtain ⟨r, hr⟩ := A
  cases r with
  | ok v m1 l1 => cases m1 <;> first | rfl | (cases v <;> first | rfl | (rename_i n; dsimp only [Rv.bind, deed]; split <;> rfl))
  | _ => rfl
theorem ev_left : (ev fl m e a).left ≤ m := (evA fl m e a).2
end
end My

namespace My
open PySem L2
mutual
def Val.told : Val → Tr
  | .num n => .num n
  | .fn x b e => .fn x (b.sub (e.sb.del x))
def Env.sb : Env → Sb
  | .nil => Sb.none
  | .cons y v e => e.sb.add y v.told
end
mutual
def Val.ok : Val → Prop
  | .num _ => True
  | .fn x b e => (∀ y, (Tr.fn x b).fr y → ∃ v, e.look y = some v) ∧ e.ok
def Env.ok : Env → Prop
  | .nil => True
  | .cons _ v e => v.ok ∧ e.ok
end
def Env.Cov (e : Env) (t : Tr) : Prop := ∀ y, t.fr y → ∃ v, e.look y = some v
theorem Env.sb_look : ∀ (e : Env) (y : Str), e.sb y = (e.look y).map Val.told
  | .nil, y => rfl
  | .cons z v e, y => by
    show (if y = z then some v.told else e.sb y) = Option.map Val.told (if y = z then some v else e.look y)
    split
    · rfl
    · exact Env.sb_look e y
mutual
theorem Val.closed_told : ∀ {v : Val}, v.ok → v.told.closed
  | .num n, _ => fun x h => h
  | .fn x b e, h => fun y hy => by
    have hc : e.sb.Cl := Env.cl_sb h.2
    have hy : ((Tr.fn x b).sub e.sb).fr y := hy
    obtain ⟨h1, h2⟩ := (Tr.fr_sub hc).mp hy
    obtain ⟨v, hv⟩ := h.1 y h1
    rw [Env.sb_look, hv] at h2
    cases h2
theorem Env.cl_sb : ∀ {e : Env}, e.ok → e.sb.Cl
  | .nil, _ => fun x v h => by cases h
  | .cons y v e, h => (Env.cl_sb h.2).add (Val.closed_told h.1)
end
theorem Val.isV_told (v : Val) : v.told.isV = true := by cases v <;> rfl
theorem Val.step_told (v : Val) : v.told.step = .val := Tr.step_val.mpr v.isV_told
theorem Env.ok_look : ∀ {e : Env} {y : Str} {v : Val}, e.ok → e.look y = some v → v.ok
  | .nil, y, v, _, h => by cases h
  | .cons z u e, y, v, k, h => by
    have h : (if y = z then some u else e.look y) = some v := h
    split at h
    · cases h; exact k.1
    · exact Env.ok_look k.2 h
theorem Env.look_keep {e : Env} : ∀ {ns : List Str} {y : Str}, (e.keep ns).look y = if y ∈ ns then e.look y else none
  | [], y => by simp [Env.keep, Env.look]
  | z :: r, y => by
    have ih := Env.look_keep (e := e) (ns := r) (y := y)
    show (match e.look z with | some v => Env.cons z v (e.keep r) | none => e.keep r).look y = _
    cases h : e.look z with
    | none =>
      dsimp only
      rw [ih]
      by_cases hy : y = z
      · subst hy
        simp [h]
      · simp [hy]
    | some v =>
      show (if y = z then some v else (e.keep r).look y) = _
      by_cases hy : y = z
      · subst hy
        simp [h]
      · rw [if_neg hy, ih]
        simp [hy]
theorem Env.ok_keep {e : Env} (k : e.ok) : ∀ ns : List Str, (e.keep ns).ok
  | [] => trivial
  | z :: r => by
    show (match e.look z with | some v => Env.cons z v (e.keep r) | none => e.keep r).ok
    cases h : e.look z with
    | none => exact Env.ok_keep k r
    | some v => exact ⟨Env.ok_look k h, Env.ok_keep k r⟩
/-- a place in which a part is worked out next -/
structure Ctx (F : Tr → Tr) : Prop where
  to : ∀ T T', T.step = .to T' → (F T).step = .to (F T')
  err : ∀ T c, T.step = .err c → (F T).step = .err c
theorem Ctx.id : Ctx fun T => T := ⟨fun _ _ h => h, fun _ _ h => h⟩
theorem Ctx.comp {F G : Tr → Tr} (f : Ctx F) (g : Ctx G) : Ctx fun T => F (G T) := ⟨fun T T' h => f.to _ _ (g.to _ _ h), fun T c h => f.err _ _ (g.err _ _ h)⟩
theorem ctx_plus1 (b : Tr) : Ctx fun T => .plus T b := ⟨fun T T' h => by simp only [Tr.step, h], fun T c h => by simp only [Tr.step, h]⟩
theorem ctx_less1 (b : Tr) : Ctx fun T => .less T b := ⟨fun T T' h => by simp only [Tr.step, h], fun T c h => by simp only [Tr.step, h]⟩
theorem ctx_call1 (b : Tr) : Ctx fun T => .call T b := ⟨fun T T' h => by simp only [Tr.step, h], fun T c h => by simp only [Tr.step, h]⟩
theorem ctx_ite (a b : Tr) : Ctx fun T => .ite T a b := ⟨fun T T' h => by simp only [Tr.step, h], fun T c h => by simp only [Tr.step, h]⟩
theorem ctx_lt (x : Str) (b : Tr) : Ctx fun T => .lt x T b := ⟨fun T T' h => by simp only [Tr.step, h], fun T c h => by simp only [Tr.step, h]⟩
theorem ctx_plus2 {a : Tr} (k : a.step = .val) : Ctx fun T => .plus a T := ⟨fun T T' h => by simp only [Tr.step, k, h], fun T c h => by simp only [Tr.step, k, h]⟩
theorem ctx_less2 {a : Tr} (k : a.step = .val) : Ctx fun T => .less a T := ⟨fun T T' h => by simp only [Tr.step, k, h], fun T c h => by simp only [Tr.step, k, h]⟩
theorem ctx_call2 {a : Tr} (k : a.step = .val) : Ctx fun T => .call a T := ⟨fun T T' h => by simp only [Tr.step, k, h], fun T c h => by simp only [Tr.step, k, h]⟩
theorem work_to {m : Nat} {t t' : Tr} (h : t.step = .to t') : work (m + 1) t = work m t' := by rw [work, h]
theorem work_err {m : Nat} {t : Tr} {c : Er} (h : t.step = .err c) : work (m + 1) t = .err c := by rw [work, h]
theorem work_to0 {t t' : Tr} (h : t.step = .to t') : work 0 t = .dry := by rw [work, h]
theorem work_err0 {t : Tr} {c : Er} (h : t.step = .err c) : work 0 t = .dry := by rw [work, h]
theorem work_val {m : Nat} {t : Tr} (h : t.step = .val) : work m t = .ok t m := by
  cases m <;> rw [work, h]
/-- what ev tells of the work on the tree -/
def Agree (m : Nat) (T : Tr) (F : Tr → Tr) : Rv → Prop
  | .ok v m' l => v.ok ∧ (∀ u ∈ l, u.ok) ∧ work m (F T) = work m' (F v.told)
  | .err c => work m (F T) = .err c
  | .dry => work m (F T) = .dry
theorem Agree.trans {m m1 : Nat} {T T1 : Tr} {F F1 : Tr → Tr} {r : Rv} (h : work m (F T) = work m1 (F1 T1)) (g : Agree m1 T1 F1 r) (k : ∀ v, r = v → True) (hF : ∀ u : Val, F1 u.told = F u.told) : Agree m T F r := by
  cases r with
  | ok v m' l => exact ⟨g.1, g.2.1, by rw [h, g.2.2, hF]⟩
  | err c => exact h.trans g
  | dry => exact h.trans g
theorem Agree.log {m : Nat} {T : Tr} {F : Tr → Tr} {r : Rv} {l : List Val} (g : Agree m T F r) (hl : ∀ u ∈ l, u.ok) : Agree m T F (r.log l) := by
  cases r with
  | ok v m' l' => exact ⟨g.1, fun u hu => by
      rcases List.mem_append.mp hu with hu | hu
      · exact hl u hu
      · exact g.2.1 u hu, g.2.2⟩
  | err c => exact g
  | dry => exact g
variable {fl : Tr → List Str}
theorem agree (hfl : ∀ t y, t.fr y → y ∈ fl t) : ∀ (m : Nat) (e : Env) (t : Tr), e.ok → e.Cov t → ∀ F, Ctx F → Agree m (t.sub e.sb) F (ev fl m e t)
  | m, e, .num n, ho, hc, F, hF => by rw [ev_num]; exact ⟨trivial, (fun u hu => by cases hu), rfl⟩
  | m, e, .name x, ho, hc, F, hF => by
    obtain ⟨v, hv⟩ := hc x rfl
    rw [ev_name, hv]
    refine ⟨Env.ok_look ho hv, (fun u hu => by cases hu), ?_⟩
    simp only [Tr.sub]
    rw [Env.sb_look, hv]
    rfl
  | m, e, .fn x b, ho, hc, F, hF => by
    rw [ev_fn]
    have hok : (Val.fn x b (e.keep (fl (.fn x b)))).ok := ⟨fun y hy => by
      obtain ⟨v, hv⟩ := hc y hy
      exact ⟨v, by rw [Env.look_keep, if_pos (hfl _ _ hy), hv]⟩, Env.ok_keep ho _⟩
    refine ⟨hok, fun u hu => by rw [List.mem_singleton.mp hu]; exact hok, ?_⟩
    have : (Tr.fn x b).sub e.sb = (Tr.fn x b).sub (e.keep (fl (.fn x b))).sb := Tr.sub_congr fun y hy => by
      rw [Env.sb_look, Env.sb_look, Env.look_keep, if_pos (hfl _ _ hy)]
    rw [this]
    rfl
  | m, e, .plus a b, ho, hc, F, hF => by
    rw [ev_plus]
    have g1 := agree hfl m e a ho (fun y hy => hc y (.inl hy)) _ (hF.comp (ctx_plus1 (b.sub e.sb)))
    have l1 := ev_left (fl := fl) (m := m) (e := e) (a := a)
    cases h1 : ev fl m e a with
    | err c => rw [h1] at g1; exact g1
    | dry => rw [h1] at g1; exact g1
    | ok v m1 L1 =>
      rw [h1] at g1 l1
      have hle : m1 ≤ m := l1
      have g2 := agree hfl m1 e b ho (fun y hy => hc y (.inr hy)) _ (hF.comp (ctx_plus2 v.step_told))
      have q : work m (F (.plus (a.sub e.sb) (b.sub e.sb))) = work m1 (F (.plus v.told (b.sub e.sb))) := g1.2.2
      dsimp only [Rv.bind]
      cases h2 : ev fl m1 e b with
      | err c => rw [h2] at g2; exact q.trans g2
      | dry => rw [h2] at g2; exact q.trans g2
      | ok w m2 L2 =>
        rw [h2] at g2
        have q2 := q.trans g2.2.2
        have hst : ∀ m2 v w, (Tr.plus (Val.told v) (Val.told w)).step = match arith (· + ·) v w m2 (L1 ++ L2) with | .ok u _ _ => .to u.told | _ => .err .number := by
          intro m2 v w
          simp only [Tr.step, Val.step_told]
          cases v <;> cases w <;> rfl
        have hst := hst m2 v w
        cases m2 with
        | zero =>
          show work m (F (.plus (a.sub e.sb) (b.sub e.sb))) = .dry
          rw [q2]
          cases v <;> cases w <;> first | exact work_to0 (hF.to _ _ hst) | exact work_err0 (hF.err _ _ hst)
        | succ m3 =>
          cases v <;> cases w <;> first
            | exact ⟨trivial, fun u hu => by
                rcases List.mem_append.mp hu with hu | hu
                · exact g1.2.1 u hu
                · exact g2.2.1 u hu, q2.trans (work_to (hF.to _ _ hst))⟩
            | exact q2.trans (work_err (hF.err _ _ hst))
  | m, e, .less a b, ho, hc, F, hF => by
    rw [ev_less]
    have g1 := agree hfl m e a ho (fun y hy => hc y (.inl hy)) _ (hF.comp (ctx_less1 (b.sub e.sb)))
    have l1 := ev_left (fl := fl) (m := m) (e := e) (a := a)
    cases h1 : ev fl m e a with
    | err c => rw [h1] at g1; exact g1
    | dry => rw [h1] at g1; exact g1
    | ok v m1 L1 =>
      rw [h1] at g1 l1
      have hle : m1 ≤ m := l1
      have g2 := agree hfl m1 e b ho (fun y hy => hc y (.inr hy)) _ (hF.comp (ctx_less2 v.step_told))
      have q : work m (F (.less (a.sub e.sb) (b.sub e.sb))) = work m1 (F (.less v.told (b.sub e.sb))) := g1.2.2
      dsimp only [Rv.bind]
      cases h2 : ev fl m1 e b with
      | err c => rw [h2] at g2; exact q.trans g2
      | dry => rw [h2] at g2; exact q.trans g2
      | ok w m2 L2 =>
        rw [h2] at g2
        have q2 := q.trans g2.2.2
        have hst : ∀ m2 v w, (Tr.less (Val.told v) (Val.told w)).step = match arith (· - ·) v w m2 (L1 ++ L2) with | .ok u _ _ => .to u.told | _ => .err .number := by
          intro m2 v w
          simp only [Tr.step, Val.step_told]
          cases v <;> cases w <;> rfl
        have hst := hst m2 v w
        cases m2 with
        | zero =>
          show work m (F (.less (a.sub e.sb) (b.sub e.sb))) = .dry
          rw [q2]
          cases v <;> cases w <;> first | exact work_to0 (hF.to _ _ hst) | exact work_err0 (hF.err _ _ hst)
        | succ m3 =>
          cases v <;> cases w <;> first
            | exact ⟨trivial, fun u hu => by
                rcases List.mem_append.mp hu with hu | hu
                · exact g1.2.1 u hu
                · exact g2.2.1 u hu, q2.trans (work_to (hF.to _ _ hst))⟩
            | exact q2.trans (work_err (hF.err _ _ hst))
  | m, e, .call a b, ho, hc, F, hF => by
    rw [ev_call]
    have g1 := agree hfl m e a ho (fun y hy => hc y (.inl hy)) _ (hF.comp (ctx_call1 (b.sub e.sb)))
    have l1 := ev_left (fl := fl) (m := m) (e := e) (a := a)
    cases h1 : ev fl m e a with
    | err c => rw [h1] at g1; exact g1
    | dry => rw [h1] at g1; exact g1
    | ok v m1 L1 =>
      rw [h1] at g1 l1
      have hle : m1 ≤ m := l1
      have g2 := agree hfl m1 e b ho (fun y hy => hc y (.inr hy)) _ (hF.comp (ctx_call2 v.step_told))
      have l2 := ev_left (fl := fl) (m := m1) (e := e) (a := b)
      have q : work m (F (.call (a.sub e.sb) (b.sub e.sb))) = work m1 (F (.call v.told (b.sub e.sb))) := g1.2.2
      dsimp only [Rv.bind]
      cases h2 : ev fl m1 e b with
      | err c => rw [h2] at g2; exact q.trans g2
      | dry => rw [h2] at g2; exact q.trans g2
      | ok w m2 L2 =>
        rw [h2] at g2 l2
        have q2 := q.trans g2.2.2
        have hL : ∀ u ∈ L1 ++ L2, u.ok := fun u hu => by
          rcases List.mem_append.mp hu with hu | hu
          · exact g1.2.1 u hu
          · exact g2.2.1 u hu
        cases v with
        | num n =>
          have hst : (Tr.call (Val.num n).told w.told).step = .err .function := by
            simp only [Tr.step, Val.step_told]; rfl
          cases m2 with
          | zero => exact q2.trans (work_err0 (hF.err _ _ hst))
          | succ m3 => exact q2.trans (work_err (hF.err _ _ hst))
        | fn x t e' =>
          have hst : (Tr.call (Val.fn x t e').told w.told).step = .to (t.sub (Env.cons x w e').sb) := by
            simp only [Tr.step, Val.step_told]
            show St1.to ((t.sub (e'.sb.del x)).put x w.told) = _
            rw [Tr.put_body (Env.cl_sb g1.1.2)]
            rfl
          cases m2 with
          | zero => exact q2.trans (work_to0 (hF.to _ _ hst))
          | succ m3 =>
            have hlt : m3 < m := by simp only [Rv.left] at l1 l2; omega
            have g3 := agree hfl m3 (.cons x w e') t ⟨g2.1, g1.1.2⟩ (fun y hy => by
              by_cases hxy : y = x
              · exact ⟨w, by show (if y = x then some w else _) = _; rw [if_pos hxy]⟩
              · obtain ⟨u, hu⟩ := g1.1.1 y ⟨fun e => hxy e.symm, hy⟩
                exact ⟨u, by show (if y = x then some w else e'.look y) = _; rw [if_neg hxy]; exact hu⟩) F hF
            have q3 := q2.trans (work_to (m := m3) (hF.to _ _ hst))
            exact (Agree.trans (F := F) (F1 := F) (T := Tr.call (a.sub e.sb) (b.sub e.sb)) q3 g3 (fun _ _ => trivial) fun _ => rfl).log hL
  | m, e, .ite c a b, ho, hc, F, hF => by
    rw [ev_ite]
    have g1 := agree hfl m e c ho (fun y hy => hc y (.inl hy)) _ (hF.comp (ctx_ite (a.sub e.sb) (b.sub e.sb)))
    have l1 := ev_left (fl := fl) (m := m) (e := e) (a := c)
    cases h1 : ev fl m e c with
    | err c => rw [h1] at g1; exact g1
    | dry => rw [h1] at g1; exact g1
    | ok v m1 L1 =>
      rw [h1] at g1 l1
      have q : work m (F (.ite (c.sub e.sb) (a.sub e.sb) (b.sub e.sb))) = work m1 (F (.ite v.told (a.sub e.sb) (b.sub e.sb))) := g1.2.2
      cases v with
      | fn x t e' =>
        have hst : (Tr.ite (Val.fn x t e').told (a.sub e.sb) (b.sub e.sb)).step = .err .number := by
          simp only [Tr.step, Val.step_told]; rfl
        cases m1 with
        | zero => exact q.trans (work_err0 (hF.err _ _ hst))
        | succ m3 => exact q.trans (work_err (hF.err _ _ hst))
      | num n =>
        have hst : (Tr.ite (Val.num n).told (a.sub e.sb) (b.sub e.sb)).step = .to ((if n = 0 then b else a).sub e.sb) := by
          simp only [Tr.step, Val.step_told, Val.told]
          split <;> rfl
        cases m1 with
        | zero => exact q.trans (work_to0 (hF.to _ _ hst))
        | succ m3 =>
          have hlt : m3 < m := by simp only [Rv.left] at l1; omega
          have g3 := agree hfl m3 e (if n = 0 then b else a) ho (fun y hy => by
            by_cases h0 : n = 0
            · rw [if_pos h0] at hy; exact hc y (.inr (.inr hy))
            · rw [if_neg h0] at hy; exact hc y (.inr (.inl hy))) F hF
          have q3 := q.trans (work_to (m := m3) (hF.to _ _ hst))
          exact (Agree.trans (F := F) (F1 := F) (T := Tr.ite (c.sub e.sb) (a.sub e.sb) (b.sub e.sb)) q3 g3 (fun _ _ => trivial) fun _ => rfl).log g1.2.1
  | m, e, .lt x a b, ho, hc, F, hF => by
    rw [ev_lt]
    have g1 := agree hfl m e a ho (fun y hy => hc y (.inl hy)) _ (hF.comp (ctx_lt x (b.sub (e.sb.del x))))
    have l1 := ev_left (fl := fl) (m := m) (e := e) (a := a)
    cases h1 : ev fl m e a with
    | err c => rw [h1] at g1; exact g1
    | dry => rw [h1] at g1; exact g1
    | ok v m1 L1 =>
      rw [h1] at g1 l1
      have q : work m (F (.lt x (a.sub e.sb) (b.sub (e.sb.del x)))) = work m1 (F (.lt x v.told (b.sub (e.sb.del x)))) := g1.2.2
      have hst : (Tr.lt x v.told (b.sub (e.sb.del x))).step = .to (b.sub (Env.cons x v e).sb) := by
        simp only [Tr.step, Val.step_told]
        rw [Tr.put_body (Env.cl_sb ho)]
        rfl
      cases m1 with
      | zero => exact q.trans (work_to0 (hF.to _ _ hst))
      | succ m3 =>
        have hlt : m3 < m := by simp only [Rv.left] at l1; omega
        have g3 := agree hfl m3 (.cons x v e) b ⟨g1.1, ho⟩ (fun y hy => by
          by_cases hxy : y = x
          · exact ⟨v, by show (if y = x then some v else _) = _; rw [if_pos hxy]⟩
          · obtain ⟨u, hu⟩ := hc y (.inr ⟨fun e => hxy e.symm, hy⟩)
            exact ⟨u, by show (if y = x then some v else e.look y) = _; rw [if_neg hxy]; exact hu⟩) F hF
        have q3 := q.trans (work_to (m := m3) (hF.to _ _ hst))
        exact (Agree.trans (F := F) (F1 := F) (T := Tr.lt x (a.sub e.sb) (b.sub (e.sb.del x))) q3 g3 (fun _ _ => trivial) fun _ => rfl).log g1.2.1
termination_by m _ t => (m, t.size)
decreasing_by
  all_goals simp_wf
  all_goals (try simp only [Rv.left] at *)
  all_goals (try simp only [Tr.size])
  all_goals first | exact Prod.Lex.left _ _ (by omega) | exact lexle (by omega) (by omega)
/-- run and worked come to the same -/
theorem run_work (hfl : ∀ t y, t.fr y → y ∈ fl t) {m : Nat} {t : Tr} (hc : t.closed) : work m t = match ev fl m .nil t with | .ok v m' _ => .ok v.told m' | .err c => .err c | .dry => .dry := by
  have g := agree hfl m .nil t trivial (fun y hy => absurd hy (hc y)) _ Ctx.id
  have e : t.sub Env.nil.sb = t := t.sub_none
  rw [e] at g
  cases h : ev fl m .nil t with
  | ok v m' l =>
    rw [h] at g
    exact g.2.2.trans (work_val v.step_told)
  | err c => rw [h] at g; exact g
  | dry => rw [h] at g; exact g
end My

namespace My
open PySem L2
/-- the names that the module has no own for -/
structure Bt (mg : Str → Option Value) : Prop where
  len : mg "len" = none
  list : mg "list" = none
  range : mg "range" = none
  isinstance : mg "isinstance" = none
  type : mg "type" = none
  all : mg "all" = none
  any : mg "any" = none
  str : mg "str" = none
  int : mg "int" = none
  bool : mg "bool" = none
  tuple : mg "tuple" = none
  sorted : mg "sorted" = none
  reversed : mg "reversed" = none
  zip : mg "zip" = none
  dict : mg "dict" = none
  min : mg "min" = none
  max : mg "max" = none
  sum : mg "sum" = none
  set : mg "set" = none
  repr : mg "repr" = none
  abs : mg "abs" = none
  enumerate : mg "enumerate" = none
  ValueError : mg "ValueError" = none
def kinWord (c : Int) : List Nat := (List.range 8).map fun (k : Nat) => lett (c + 3 * (k : Int))
def kinTurned (c : Int) : List (List Nat) := (List.range 8).map fun k => (kinWord c).drop k ++ (kinWord c).take k
def kinBy (c : Int) (many : Nat) : List (List Nat) :=
  if c / 26 % 2 = 0 ∧ many < 9 then (List.range many).map fun k => (kinWord c).take (k + 1) else (kinTurned c ++ (kinTurned c).map List.reverse).take many
def spKin : Sp := fun vs H Q _ => ∃ (c : Int) (many : Nat), vs = [.int c, .int many] ∧ many ≤ 16 ∧ ∀ (l : Addr) (H' : Hp), H l = none → Same H H' → H' l = some (.lst ((kinBy c many).map fun x => .str (mkS x))) → Q (.ref l) H'
def spName (m : Int) : Sp := fun vs H Q _ => ∃ (c : Int), vs = [.int c] ∧ ∀ H', Same H H' → Q (.str (mkS (nameBy m c))) H'
/-- what the law's _law_joined makes -/
def joined (k : Int) (x : Str) (a b : Tr) : Tr :=
  if k = 6 then .call (.fn x a) b else if k = 7 then .plus a b else if k = 8 then .less a b else if k = 9 then .ite a b (.name x) else .lt x a b
def spJoined : Sp := fun vs H Q _ => ∃ (k : Int) (x : Str) (a b : Tr) (u v : V), vs = [.int k, .str x, u, v] ∧ At H a u ∧ At H b v ∧ ∀ (r : V) (H' : Hp), Same H H' → At H' (joined k x a b) r → Q r H'
def N60 (n : Int) : Prop := -(10 ^ 60) < n ∧ n < 10 ^ 60
theorem n60a (m : Int) : N60 (m % (2 * 10 ^ (60 : Int).toNat - 1) - 10 ^ (60 : Int).toNat + 1) := by
  show -(10 ^ 60) < m % (2 * 10 ^ 60 - 1) - 10 ^ 60 + 1 ∧ m % (2 * 10 ^ 60 - 1) - 10 ^ 60 + 1 < 10 ^ 60
  omega
theorem n60b (m : Int) : N60 (m % 10 ^ (60 : Int).toNat) := by
  show -(10 ^ 60) < m % 10 ^ 60 ∧ m % 10 ^ 60 < 10 ^ 60
  omega
def spTreeN (K : PySem.W.Frag) (nn g : Nat) : Sp := fun vs H Q _ => ∃ (a b : Addr) (ns : List Int) (xs : List Str), vs = [.ref a, .ref b] ∧ SqL K H a (ns.map V.int) ∧ ns.length ≤ 60 ∧ SqL K H b (xs.map V.str) ∧ xs.length = nn ∧
  ∀ (t : Tr) (r : V) (H' : Hp), Same H H' → At H' t r → t.all (· ∈ xs) N60 → t.size ≤ g * ns.length + 2 → Q r H'
theorem n60n (m : Int) : N60 (m % 10 ^ (60 : Int).toNat) := n60b m
theorem n60s (m : Int) : N60 (m % 7 - 3) := by
  show -(10 ^ 60) < m % 7 - 3 ∧ m % 7 - 3 < 10 ^ 60
  omega
theorem at_nm {xs : List Str} {nn : Nat} (h : xs.length = nn) (h0 : 0 < nn) (m : Int) : ∃ x ∈ xs, atI (xs.map V.str) (m % (nn : Int)) = some (.str x) := by
  subst h
  exact at_mod V.str h0 m
theorem joined_all {S : Str → Prop} {N : Int → Prop} {k : Int} {x : Str} {a b : Tr} (hx : S x) (ha : a.all S N) (hb : b.all S N) : (joined k x a b).all S N := by
  unfold joined
  split
  · exact ⟨⟨hx, ha⟩, hb⟩
  split
  · exact ⟨ha, hb⟩
  split
  · exact ⟨ha, hb⟩
  split
  · exact ⟨ha, hb, hx⟩
  · exact ⟨hx, ha, hb⟩
theorem joined_size (k : Int) (x : Str) (a b : Tr) : (joined k x a b).size ≤ a.size + b.size + 2 := by
  unfold joined
  split
  · simp only [Tr.size]; omega
  split
  · simp only [Tr.size]; omega
  split
  · simp only [Tr.size]; omega
  split
  · simp only [Tr.size]; omega
  · simp only [Tr.size]; omega
def joined11 (k : Int) (x : Str) (a b : Tr) : Tr := if k = 6 then .call (.fn x a) b else if k = 7 then .plus a b else if k = 8 then .ite a b (.name x) else .lt x a b
def spJoined11 : Sp := fun vs H Q _ => ∃ (k : Int) (x : Str) (a b : Tr) (u v : V), vs = [.int k, .str x, u, v] ∧ At H a u ∧ At H b v ∧ ∀ (r : V) (H' : Hp), Same H H' → At H' (joined11 k x a b) r → Q r H'
theorem joined_all11 {S : Str → Prop} {N : Int → Prop} {k : Int} {x : Str} {a b : Tr} (hx : S x) (ha : a.all S N) (hb : b.all S N) : (joined11 k x a b).all S N := by
  unfold joined11
  repeat' split
  all_goals simp only [Tr.all]
  all_goals simp only [hx, ha, hb, and_self]
theorem joined_size11 (k : Int) (x : Str) (a b : Tr) : (joined11 k x a b).size ≤ a.size + b.size + 2 := by
  unfold joined11
  repeat' split
  all_goals simp only [Tr.size]
  all_goals omega
def joined13 (k : Int) (x : Str) (a b : Tr) : Tr := if k = 5 then .call (.fn x a) b else if k = 6 then .plus a b else if k = 7 then .less a b else if k = 8 then .ite a (.fn x (.name x)) b else .lt x a b
def spJoined13 : Sp := fun vs H Q _ => ∃ (k : Int) (x : Str) (a b : Tr) (u v : V), vs = [.int k, .str x, u, v] ∧ At H a u ∧ At H b v ∧ ∀ (r : V) (H' : Hp), Same H H' → At H' (joined13 k x a b) r → Q r H'
theorem joined_all13 {S : Str → Prop} {N : Int → Prop} {k : Int} {x : Str} {a b : Tr} (hx : S x) (ha : a.all S N) (hb : b.all S N) : (joined13 k x a b).all S N := by
  unfold joined13
  repeat' split
  all_goals simp only [Tr.all]
  all_goals simp only [hx, ha, hb, and_self]
theorem joined_size13 (k : Int) (x : Str) (a b : Tr) : (joined13 k x a b).size ≤ a.size + b.size + 3 := by
  unfold joined13
  repeat' split
  all_goals simp only [Tr.size]
  all_goals omega
/-- two leaves that are one -/
def spLeaf : Sp := fun vs H Q _ => ∃ (v : V), ((∃ i, v = .int i) ∨ ∃ x, v = .str x) ∧ vs = [v, v] ∧ Q (.bl true) H
theorem isi_it {K : PySem.W.Frag} {H : Hp} (i : Int) : TyX K H (.int i) (.type "int") ∧ PySem.W.kitOne K (.type "int") (.type "tuple") = some false := ⟨.base (.int i), kit_ty (by decide +kernel)⟩
theorem isi_st {K : PySem.W.Frag} {H : Hp} (i : Str) : TyX K H (.str i) (.type "str") ∧ PySem.W.kitOne K (.type "str") (.type "tuple") = some false := ⟨.base (.str i), kit_ty (by decide +kernel)⟩
theorem isi_sb {K : PySem.W.Frag} {H : Hp} (i : Str) : TyX K H (.str i) (.type "str") ∧ PySem.W.kitOne K (.type "str") (.type "bool") = some false := ⟨.base (.str i), kit_ty (by decide +kernel)⟩
theorem isi_is {K : PySem.W.Frag} {H : Hp} (i : Int) : TyX K H (.int i) (.type "int") ∧ PySem.W.kitOne K (.type "int") (.type "str") = some false := ⟨.base (.int i), kit_ty (by decide +kernel)⟩
/-! ### two trees, walked down at once -/
def Tr.dep : Tr → Nat
  | .num _ => 1 | .name _ => 1 | .fn _ b => 1 + b.dep | .call a b => 1 + max a.dep b.dep | .plus a b => 1 + max a.dep b.dep | .less a b => 1 + max a.dep b.dep
  | .ite c a b => 1 + max c.dep (max a.dep b.dep) | .lt _ a b => 1 + max a.dep b.dep
theorem Tr.dep_pos (t : Tr) : 1 ≤ t.dep := by cases t <;> simp only [Tr.dep] <;> omega
structure Rw where
  u : V
  v : V
  b : Bool
  d : Nat
  n : Nat
/-- v is u with w in the place of x, where b doesn't tell that x is bound -/
def RowR (x : Str) (w : Tr) (H : Hp) (r : Rw) : Prop :=
  (((∃ i, r.u = .int i) ∨ ∃ z, r.u = .str z) ∧ r.v = r.u ∧ r.d = 0 ∧ r.n = 1) ∨
  ∃ t t' : Tr, At H t r.u ∧ At H t' r.v ∧ t' = (if r.b = true then t else t.put x w) ∧ r.d = t'.dep ∧ r.n = 8 * t'.size + (if r.b = true then 0 else 1)
def nsum (rs : List Rw) : Nat := (rs.map Rw.n).sum
theorem nsum_append (a b : List Rw) : nsum (a ++ b) = nsum a + nsum b := by simp [nsum]
theorem nsum_cons (a : Rw) (b : List Rw) : nsum (a :: b) = a.n + nsum b := by simp [nsum]
theorem RowR.pos {x : Str} {w : Tr} {H : Hp} {r : Rw} (h : RowR x w H r) : 1 ≤ r.n := by
  rcases h with ⟨_, _, _, e⟩ | ⟨t, t', _, _, _, _, e⟩
  · omega
  · have := t'.size_pos; omega
/-- is x bound at the k-th place of a node? -/
def flagAt (x : Str) (b : Bool) (t : Tr) (k : Nat) : Bool := match t with
  | .fn z _ => b || decide (z = x)
  | .lt z _ _ => b || (decide (z = x) && decide (k = 3))
  | _ => b
/-- a node's own row, taken apart -/
structure Apart (x : Str) (w : Tr) (H : Hp) (r : Rw) (t : Tr) (a a' : Addr) (xs ys : List V) (ks : List Rw) : Prop where
  u : r.u = .ref a
  v : r.v = .ref a'
  xs_ : H a = some (.tup xs)
  ys_ : H a' = some (.tup ys)
  mu : ks.map Rw.u = xs
  mv : ks.map Rw.v = ys
  b : ∀ k s, ks[k]? = some s → s.b = flagAt x r.b t k
  row : ∀ s ∈ ks, RowR x w H s
  d : ∀ s ∈ ks, s.d + 1 ≤ r.d
  n : nsum ks < r.n
  le : ks.length ≤ 4
  word : xs[0]? = some (.str t.word)
  name : t.binds = true → ∃ z, xs[1]? = some (.str z) ∧ ((∃ c, t = .fn z c) ∨ ∃ e c, t = .lt z e c)
theorem row_leaf {x : Str} {w : Tr} {H : Hp} {v : V} (b : Bool) (h : (∃ i, v = .int i) ∨ ∃ z, v = .str z) : RowR x w H ⟨v, v, b, 0, 1⟩ := .inl ⟨h, rfl, rfl, rfl⟩
theorem row_tree {x : Str} {w : Tr} {H : Hp} {t t' : Tr} {u v : V} (b : Bool) (h1 : At H t u) (h2 : At H t' v) (h : t' = (if b = true then t else t.put x w)) : RowR x w H ⟨u, v, b, t'.dep, 8 * t'.size + (if b = true then 0 else 1)⟩ := .inr ⟨t, t', h1, h2, h, rfl, rfl⟩
theorem put_fn {z x : Str} {c w : Tr} : (Tr.fn z c).put x w = .fn z (if z = x then c else c.put x w) := by
  unfold Tr.put
  simp only [Tr.sub]
  by_cases h : z = x
  · subst h
    rw [if_pos rfl, Tr.sub_id]
    intro y hy
    unfold Sb.del Sb.one
    by_cases e : y = z <;> simp [e]
  · rw [if_neg h]
    congr 2
    funext y
    unfold Sb.del Sb.one
    by_cases e : y = z
    · subst e; rw [if_pos rfl, if_neg h]
    · rw [if_neg e]
theorem put_lt {z x : Str} {e c w : Tr} : (Tr.lt z e c).put x w = .lt z (e.put x w) (if z = x then c else c.put x w) := by
  have h := put_fn (z := z) (x := x) (c := c) (w := w)
  unfold Tr.put at h ⊢
  simp only [Tr.sub] at h ⊢
  injection h with h1 h2
  rw [h2]
theorem put_call {x : Str} {a b w : Tr} : (Tr.call a b).put x w = .call (a.put x w) (b.put x w) := rfl
theorem put_plus {x : Str} {a b w : Tr} : (Tr.plus a b).put x w = .plus (a.put x w) (b.put x w) := rfl
theorem put_less {x : Str} {a b w : Tr} : (Tr.less a b).put x w = .less (a.put x w) (b.put x w) := rfl
theorem put_ite {x : Str} {c a b w : Tr} : (Tr.ite c a b).put x w = .ite (c.put x w) (a.put x w) (b.put x w) := rfl
theorem put_num {x : Str} {n : Int} {w : Tr} : (Tr.num n).put x w = .num n := rfl
theorem put_name {x y : Str} {w : Tr} : (Tr.name y).put x w = if y = x then w else .name y := by
  unfold Tr.put
  simp only [Tr.sub, Sb.one]
  split <;> rfl
local macro_rules | `(tactic| walk_at "ap_b") => `(tactic| (rintro (_ | _ | _ | _ | k) s hs <;> first | (simp at hs; done) | (cases hs; simp [flagAt])))
local macro_rules | `(tactic| walk_at "ap_d") => `(tactic| (simp only [List.mem_cons, List.not_mem_nil, or_false, forall_eq_or_imp, forall_eq, Tr.dep]; omega))
local macro_rules | `(tactic| walk_at "ap_n") => `(tactic| (simp only [nsum, List.map_cons, List.map_nil, List.sum_cons, List.sum_nil, Tr.size]; (repeat' split) <;> first | omega | (exfalso; simp_all; done)))
local macro_rules | `(tactic| walk_at "ap_m") => `(tactic| simp only [List.mem_cons, List.not_mem_nil, or_false, forall_eq_or_imp, forall_eq])
theorem apart {x : Str} {w : Tr} {H : Hp} {r : Rw} {t t' : Tr} (h1 : At H t r.u) (h2 : At H t' r.v) (ht : t' = (if r.b = true then t else t.put x w)) (hd : r.d = t'.dep) (hn : r.n = 8 * t'.size + (if r.b = true then 0 else 1)) (hx : r.b = false → t ≠ .name x) :
    ∃ a a' xs ys ks, Apart x w H r t a a' xs ys ks := by
  obtain ⟨u, v, b, d, n⟩ := r
  change At H t u at h1
  change At H t' v at h2
  change t' = (if b = true then t else t.put x w) at ht
  change d = t'.dep at hd
  change n = 8 * t'.size + (if b = true then 0 else 1) at hn
  change b = false → t ≠ .name x at hx
  cases t with
  | num i =>
    have e : t' = .num i := by
      rw [ht]; cases b <;> rfl
    subst e
    subst hd
    subst hn
    obtain ⟨a, rfl, ha⟩ := h1
    obtain ⟨a', rfl, ha'⟩ := h2
    exact ⟨a, a', _, _, [⟨.str "num", .str "num", b, 0, 1⟩, ⟨.int i, .int i, b, 0, 1⟩], rfl, rfl, ha, ha', rfl, rfl, (by walk_at "ap_b"),
      (by walk_at "ap_m"; exact ⟨row_leaf _ (.inr ⟨_, rfl⟩), row_leaf _ (.inl ⟨_, rfl⟩)⟩), (by walk_at "ap_d"), (by walk_at "ap_n"), (by simp), rfl, (fun h => by cases h)⟩
  | name y =>
    have e : t' = .name y := by
      rw [ht]
      cases b with
      | true => rfl
      | false =>
        rw [if_neg (by decide), put_name, if_neg]
        intro e
        exact hx rfl (by rw [e])
    subst e
    subst hd
    subst hn
    obtain ⟨a, rfl, ha⟩ := h1
    obtain ⟨a', rfl, ha'⟩ := h2
    exact ⟨a, a', _, _, [⟨.str "name", .str "name", b, 0, 1⟩, ⟨.str y, .str y, b, 0, 1⟩], rfl, rfl, ha, ha', rfl, rfl, (by walk_at "ap_b"),
      (by walk_at "ap_m"; exact ⟨row_leaf _ (.inr ⟨_, rfl⟩), row_leaf _ (.inr ⟨_, rfl⟩)⟩), (by walk_at "ap_d"), (by walk_at "ap_n"), (by simp), rfl, (fun h => by cases h)⟩
  | fn z c =>
    have e : t' = .fn z (if (b || decide (z = x)) = true then c else c.put x w) := by
      rw [ht]
      cases b with
      | true => rfl
      | false => rw [if_neg (by decide), put_fn]; by_cases h : z = x <;> simp [h]
    subst e
    subst hd
    subst hn
    obtain ⟨a, u1, rfl, ha, c1⟩ := h1
    obtain ⟨a', v1, rfl, ha', d1⟩ := h2
    exact ⟨a, a', _, _, [⟨.str "fun", .str "fun", (b || decide (z = x)), 0, 1⟩, ⟨.str z, .str z, (b || decide (z = x)), 0, 1⟩, ⟨u1, v1, (b || decide (z = x)), Tr.dep (if (b || decide (z = x)) = true then c else c.put x w), 8 * Tr.size (if (b || decide (z = x)) = true then c else c.put x w) + (if ((b || decide (z = x))) = true then 0 else 1)⟩], rfl, rfl, ha, ha', rfl, rfl, (by walk_at "ap_b"),
      (by walk_at "ap_m"; exact ⟨row_leaf _ (.inr ⟨_, rfl⟩), row_leaf _ (.inr ⟨_, rfl⟩), row_tree (b || decide (z = x)) c1 d1 rfl⟩), (by walk_at "ap_d"), (by walk_at "ap_n"), (by simp), rfl, (fun _ => ⟨z, rfl, .inl ⟨c, rfl⟩⟩)⟩
  | call f g =>
    have e : t' = .call (if b = true then f else f.put x w) (if b = true then g else g.put x w) := by
      rw [ht]; cases b <;> rfl
    subst e
    subst hd
    subst hn
    obtain ⟨a, u1, u2, rfl, ha, c1, c2⟩ := h1
    obtain ⟨a', v1, v2, rfl, ha', d1, d2⟩ := h2
    exact ⟨a, a', _, _, [⟨.str "call", .str "call", b, 0, 1⟩, ⟨u1, v1, b, Tr.dep (if b = true then f else f.put x w), 8 * Tr.size (if b = true then f else f.put x w) + (if (b) = true then 0 else 1)⟩, ⟨u2, v2, b, Tr.dep (if b = true then g else g.put x w), 8 * Tr.size (if b = true then g else g.put x w) + (if (b) = true then 0 else 1)⟩], rfl, rfl, ha, ha', rfl, rfl, (by walk_at "ap_b"),
      (by walk_at "ap_m"; exact ⟨row_leaf _ (.inr ⟨_, rfl⟩), row_tree b c1 d1 rfl, row_tree b c2 d2 rfl⟩), (by walk_at "ap_d"), (by walk_at "ap_n"), (by simp), rfl, (fun h => by cases h)⟩
  | plus f g =>
    have e : t' = .plus (if b = true then f else f.put x w) (if b = true then g else g.put x w) := by
      rw [ht]; cases b <;> rfl
    subst e
    subst hd
    subst hn
    obtain ⟨a, u1, u2, rfl, ha, c1, c2⟩ := h1
    obtain ⟨a', v1, v2, rfl, ha', d1, d2⟩ := h2
    exact ⟨a, a', _, _, [⟨.str "plus", .str "plus", b, 0, 1⟩, ⟨u1, v1, b, Tr.dep (if b = true then f else f.put x w), 8 * Tr.size (if b = true then f else f.put x w) + (if (b) = true then 0 else 1)⟩, ⟨u2, v2, b, Tr.dep (if b = true then g else g.put x w), 8 * Tr.size (if b = true then g else g.put x w) + (if (b) = true then 0 else 1)⟩], rfl, rfl, ha, ha', rfl, rfl, (by walk_at "ap_b"),
      (by walk_at "ap_m"; exact ⟨row_leaf _ (.inr ⟨_, rfl⟩), row_tree b c1 d1 rfl, row_tree b c2 d2 rfl⟩), (by walk_at "ap_d"), (by walk_at "ap_n"), (by simp), rfl, (fun h => by cases h)⟩
  | less f g =>
    have e : t' = .less (if b = true then f else f.put x w) (if b = true then g else g.put x w) := by
      rw [ht]; cases b <;> rfl
    subst e
    subst hd
    subst hn
    obtain ⟨a, u1, u2, rfl, ha, c1, c2⟩ := h1
    obtain ⟨a', v1, v2, rfl, ha', d1, d2⟩ := h2
    exact ⟨a, a', _, _, [⟨.str "less", .str "less", b, 0, 1⟩, ⟨u1, v1, b, Tr.dep (if b = true then f else f.put x w), 8 * Tr.size (if b = true then f else f.put x w) + (if (b) = true then 0 else 1)⟩, ⟨u2, v2, b, Tr.dep (if b = true then g else g.put x w), 8 * Tr.size (if b = true then g else g.put x w) + (if (b) = true then 0 else 1)⟩], rfl, rfl, ha, ha', rfl, rfl, (by walk_at "ap_b"),
      (by walk_at "ap_m"; exact ⟨row_leaf _ (.inr ⟨_, rfl⟩), row_tree b c1 d1 rfl, row_tree b c2 d2 rfl⟩), (by walk_at "ap_d"), (by walk_at "ap_n"), (by simp), rfl, (fun h => by cases h)⟩
  | ite f g k =>
    have e : t' = .ite (if b = true then f else f.put x w) (if b = true then g else g.put x w) (if b = true then k else k.put x w) := by
      rw [ht]; cases b <;> rfl
    subst e
    subst hd
    subst hn
    obtain ⟨a, u1, u2, u3, rfl, ha, c1, c2, c3⟩ := h1
    obtain ⟨a', v1, v2, v3, rfl, ha', d1, d2, d3⟩ := h2
    exact ⟨a, a', _, _, [⟨.str "if", .str "if", b, 0, 1⟩, ⟨u1, v1, b, Tr.dep (if b = true then f else f.put x w), 8 * Tr.size (if b = true then f else f.put x w) + (if (b) = true then 0 else 1)⟩, ⟨u2, v2, b, Tr.dep (if b = true then g else g.put x w), 8 * Tr.size (if b = true then g else g.put x w) + (if (b) = true then 0 else 1)⟩, ⟨u3, v3, b, Tr.dep (if b = true then k else k.put x w), 8 * Tr.size (if b = true then k else k.put x w) + (if (b) = true then 0 else 1)⟩], rfl, rfl, ha, ha', rfl, rfl, (by walk_at "ap_b"),
      (by walk_at "ap_m"; exact ⟨row_leaf _ (.inr ⟨_, rfl⟩), row_tree b c1 d1 rfl, row_tree b c2 d2 rfl, row_tree b c3 d3 rfl⟩), (by walk_at "ap_d"), (by walk_at "ap_n"), (by simp), rfl, (fun h => by cases h)⟩
  | lt z f c =>
    have e : t' = .lt z (if b = true then f else f.put x w) (if (b || decide (z = x)) = true then c else c.put x w) := by
      rw [ht]
      cases b with
      | true => rfl
      | false => rw [if_neg (by decide), put_lt]; by_cases h : z = x <;> simp [h]
    subst e
    subst hd
    subst hn
    obtain ⟨a, u1, u2, rfl, ha, c1, c2⟩ := h1
    obtain ⟨a', v1, v2, rfl, ha', d1, d2⟩ := h2
    exact ⟨a, a', _, _, [⟨.str "let", .str "let", b, 0, 1⟩, ⟨.str z, .str z, b, 0, 1⟩, ⟨u1, v1, b, Tr.dep (if b = true then f else f.put x w), 8 * Tr.size (if b = true then f else f.put x w) + (if (b) = true then 0 else 1)⟩, ⟨u2, v2, (b || decide (z = x)), Tr.dep (if (b || decide (z = x)) = true then c else c.put x w), 8 * Tr.size (if (b || decide (z = x)) = true then c else c.put x w) + (if ((b || decide (z = x))) = true then 0 else 1)⟩], rfl, rfl, ha, ha', rfl, rfl, (by walk_at "ap_b"),
      (by walk_at "ap_m"; exact ⟨row_leaf _ (.inr ⟨_, rfl⟩), row_leaf _ (.inr ⟨_, rfl⟩), row_tree b c1 d1 rfl, row_tree (b || decide (z = x)) c2 d2 rfl⟩), (by walk_at "ap_d"), (by walk_at "ap_n"), (by simp), rfl, (fun _ => ⟨z, rfl, .inr ⟨f, c, rfl⟩⟩)⟩
theorem map_snoc {α : Type} {f : α → V} {xs : List α} {ys : List V} {y : V} (h : xs.map f = ys ++ [y]) : ∃ zs z, xs = zs ++ [z] ∧ ys = zs.map f ∧ y = f z := by
  rcases List.eq_nil_or_concat xs with r | ⟨zs, z, r⟩
  · subst r
    simp at h
  · rw [List.concat_eq_append] at r
    subst r
    rw [List.map_append] at h
    obtain ⟨h1, h2⟩ := List.append_inj' h rfl
    exact ⟨zs, z, rfl, h1.symm, by simpa using h2.symm⟩
/-- found is the tree with w in the place of x -/
def spLed : Sp := fun vs H Q _ => ∃ (r : Rw) (x : Str) (wv : V) (w : Tr) (_ : True), vs = [r.u, r.v, .str x, wv] ∧ RowR x w H r ∧ r.b = false ∧ At H w wv ∧ r.d ≤ 1000000 ∧ ∀ H', Same H H' → Q (.bl true) H'
/-- what _law_led's first look at a row tells -/
def innerB (x : Str) (b : Bool) (t : Tr) : Bool := match t with
  | .fn z _ => b || decide (z = x)
  | _ => b
def letB (x : Str) (t : Tr) (k : Nat) : Bool := match t with
  | .lt z _ _ => decide (z = x) && decide (k = 3)
  | _ => false
theorem flag_inner (x : Str) (b : Bool) (t : Tr) (k : Nat) : flagAt x b t k = (innerB x b t || letB x t k) := by
  cases t <;> simp [flagAt, innerB, letB]
theorem szLt5 {n : Nat} (h : n ≤ 5000000) : n < sizeLine := Nat.lt_of_le_of_lt h (by decide)
theorem tru_bl {K : PySem.W.Frag} {b c : Bool} {H : Hp} (h : b = c) : TruV K (.bl b) H c := h ▸ rfl
theorem Tr.dep_size : ∀ t : Tr, t.dep ≤ t.size
  | .num _ => Nat.le_refl _
  | .name _ => Nat.le_refl _
  | .fn _ b => by have := b.dep_size; simp only [Tr.dep, Tr.size]; omega
  | .call a b => by have := a.dep_size; have := b.dep_size; simp only [Tr.dep, Tr.size]; omega
  | .plus a b => by have := a.dep_size; have := b.dep_size; simp only [Tr.dep, Tr.size]; omega
  | .less a b => by have := a.dep_size; have := b.dep_size; simp only [Tr.dep, Tr.size]; omega
  | .ite c a b => by have := c.dep_size; have := a.dep_size; have := b.dep_size; simp only [Tr.dep, Tr.size]; omega
  | .lt _ a b => by have := a.dep_size; have := b.dep_size; simp only [Tr.dep, Tr.size]; omega
theorem Tr.dep_sub {s : Sb} {d : Nat} (h : ∀ x v, s x = some v → v.dep ≤ d) : ∀ t : Tr, (t.sub s).dep ≤ t.dep + d
  | .num _ => by simp only [Tr.sub, Tr.dep]; omega
  | .name y => by
    simp only [Tr.sub, Tr.dep]
    cases e : s y with
    | none => show (Tr.name y).dep ≤ _; simp only [Tr.dep]; omega
    | some v => show v.dep ≤ _; have := h y v e; omega
  | .fn y b => by
    have := Tr.dep_sub (s := s.del y) (d := d) (fun x v e => by unfold Sb.del at e; split at e; cases e; exact h x v e) b
    simp only [Tr.sub, Tr.dep]; omega
  | .call a b => by have := Tr.dep_sub h a; have := Tr.dep_sub h b; simp only [Tr.sub, Tr.dep]; omega
  | .plus a b => by have := Tr.dep_sub h a; have := Tr.dep_sub h b; simp only [Tr.sub, Tr.dep]; omega
  | .less a b => by have := Tr.dep_sub h a; have := Tr.dep_sub h b; simp only [Tr.sub, Tr.dep]; omega
  | .ite c a b => by have := Tr.dep_sub h c; have := Tr.dep_sub h a; have := Tr.dep_sub h b; simp only [Tr.sub, Tr.dep]; omega
  | .lt y a b => by
    have := Tr.dep_sub h a
    have := Tr.dep_sub (s := s.del y) (d := d) (fun x v e => by unfold Sb.del at e; split at e; cases e; exact h x v e) b
    simp only [Tr.sub, Tr.dep]; omega
theorem Tr.dep_put (t : Tr) (x : Str) (w : Tr) : (t.put x w).dep ≤ t.dep + w.dep := Tr.dep_sub (fun y v e => by unfold Sb.one at e; split at e; cases e; exact Nat.le_refl _; cases e) t
/-! ### the program's promises -/
def spPut : Sp := fun vs H Q _ => ∃ (t w : Tr) (x : Str) (u v : V), vs = [u, .str x, v] ∧ At H t u ∧ At H w v ∧ w.closed ∧ t.dep ≤ 100000 ∧ w.dep ≤ 100000 ∧ ∀ r H', Same H H' → At H' (t.put x w) r → Q r H'
/-- the law: true, whatever the script -/
def spLaw (K : PySem.W.Frag) : Sp := fun vs H Q _ => ∃ (a : Addr) (ns : List Int), vs = [.ref a] ∧ SqL K H a (ns.map V.int) ∧ ns.length ≤ 63 ∧ ∀ H', Q (.bl true) H'
def cellK (first : Int) (k : Nat) (s : Int) : Int := first - first % 26 + (first + s * (k : Int)) % 26
theorem kinBy_len (c : Int) {many : Nat} (hm : many ≤ 16) : (kinBy c many).length = many := by
  unfold kinBy
  split
  · simp
  · rw [List.length_take]
    simp only [kinTurned, List.length_append, List.length_map, List.length_range]
    omega
theorem none_ne' {H : Hp} {a b : Addr} {o : HO} (h : H b = none) (h' : H a = some o) : a ≠ b := fun e => by rw [e, h] at h'; cases h'
/-- does x stand free in the tree? -/
def spHas : Sp := fun vs H Q _ => ∃ (t : Tr) (x : Str) (v : V), vs = [v, .str x] ∧ At H t v ∧ t.size ≤ 1000 ∧ ∀ (b : Bool) (H' : Hp), Same H H' → (b = true ↔ t.fr x) → Q (.bl b) H'
end My
namespace My
open PySem L2
open PyProof.Rows
/-! ### l.extend(a tuple) -/
def rExtendT (K : PySem.W.Frag) : V → List V → Hp → VK → Prop := fun x vs H Q => ∃ l b xs zs, x = .ref l ∧ vs = [.ref b] ∧ H l = some (.lst xs) ∧ SqT K H b zs ∧ xs.length + zs.length ≤ sizeLine ∧ Q .non (upd H l (.lst (xs ++ zs)))
theorem ext_tup (l : Addr) (ys : Array Value) (c : Nat) (b : Addr) (zs : Array Value) (d : Nat) (od : Option Addr) (sl : Array (Option Value)) (g1 : ¬(!ys.isEmpty && Builtin.List.listTooLong (ys.size + zs.size)) = true) (g2 : ys.size ≤ sizeLine) (g3 : (ys ++ zs).size ≤ sizeLine + 1) :
    Meets (Builtin.«list.extend» ⟨[.ref l, .ref b], []⟩) (fun _ R s => s.heap.get? l = some { cls := .type "list", data := .seq ys c } ∧ s.heap.get? b = some { cls := .type "tuple", dict := od, data := .seq zs d, slots := sl } ∧
      R (.ok (.ret .none)) { s with heap := s.heap.update l (Obj.mapSeq fun x => x ++ zs) }) :=
  .of_wp fun pg wd A R s0 k => by
    obtain ⟨hp, gs, dr, tk, os⟩ := s0
    obtain ⟨k1, k2, k3⟩ := k
    have i1 := AutoSeq1.idx_int
    have i2 := AutoSeq1.sub_tuple_tuple
    have i3 := AutoSeq1.sub_list_list
    have i4 := AutoSeq1.sub_tuple_list
    have i5 := AutoSeq1.sub_list_tuple
    wp_walk using (wpAny_updateSeq k1 rfl (hz := g2) (_hz' := g3)), AutoSeq1.wpAny_loadPart' k1, AutoSeq1.wpAny_loadPart' k2
    exact ⟨_, rfl, k3⟩
theorem mt_extendT {X : Cx} : MtM X "list.extend" (rExtendT X.K) := by
  intro pins s σ H x vs v us Q I rx rv h
  obtain ⟨l, b, xs, zs, rfl, rfl, hH, hB, hz, q⟩ := h
  cases rx
  obtain ⟨u, rfl, ru⟩ := rv.one
  cases ru
  obtain ⟨z, its, n, r, hl, e⟩ := I.lstM hH
  obtain ⟨its2, r2, ⟨o2, e2, c2, n2, d2⟩, _⟩ := I.tuple hB
  obtain ⟨oc, od, oa, sl⟩ := o2
  dsimp only at c2 d2
  subst c2 d2
  have h1 := r.length
  have h2 := r2.length
  have g1 : ¬ (!its.toArray.isEmpty && Builtin.List.listTooLong (its.toArray.size + its2.toArray.size)) = true := by
    have : Builtin.List.listTooLong (its.toArray.size + its2.toArray.size) = false := by
      unfold Builtin.List.listTooLong
      exact decide_eq_false (by simp only [List.size_toArray]; omega)
    rw [this, Bool.and_false]
    decide
  refine call_meets PySem.F.slot_list_extend ⟨_, e, rfl⟩ PySem.F.entry_list_extend (PySem.F.args_list_extend_2 _ _) (ext_tup l its.toArray n b its2.toArray n2 od sl g1 (by simp only [List.size_toArray]; omega) (by simp only [Array.size_append, List.size_toArray]; omega)) ⟨e, e2, ?_⟩
  refine ⟨.non, _, I.lset (its' := its ++ its2) hH e (by simp) (r.append r2) ?_, rfl, q⟩
  rw [List.length_append]
  omega
/-- one tree, twice -/
def spSameT : Sp := fun vs H Q _ => ∃ (t : Tr) (u v : V), vs = [u, v] ∧ At H t u ∧ At H t v ∧ t.dep ≤ 1000000 ∧ ∀ H', Same H H' → Q (.bl true) H'
end My

namespace My
open PySem L2
/-! ### the eight words -/
inductive Wd where
  | num | name | fn | call | plus | less | ite | lt
  deriving DecidableEq
def Wd.str : Wd → Str
  | .num => "num" | .name => "name" | .fn => "fun" | .call => "call" | .plus => "plus" | .less => "less" | .ite => "if" | .lt => "let"
def Wd.len : Wd → Int
  | .num => 2 | .name => 2 | .fn => 3 | .call => 3 | .plus => 3 | .less => 3 | .ite => 4 | .lt => 4
def Wd.start : Wd → Int
  | .num => 2 | .name => 2 | .fn => 2 | .lt => 2 | _ => 1
def wordsL : List Str := ["num", "name", "fun", "call", "plus", "less", "if", "let"]
def Wd.find (x : Str) : Option Wd :=
  if x = "num" then some .num else if x = "name" then some .name else if x = "fun" then some .fn else if x = "call" then some .call else if x = "plus" then some .plus else if x = "less" then some .less
  else if x = "if" then some .ite else if x = "let" then some .lt else none
theorem Wd.find_str (t : Wd) : Wd.find t.str = some t := by cases t <;> decide +kernel
theorem Wd.of_find {x : Str} {t : Wd} (h : Wd.find x = some t) : x = t.str := by
  unfold Wd.find at h
  repeat' split at h
  all_goals first
    | (cases h; assumption)
    | cases h
theorem Wd.find_none {x : Str} (h : Wd.find x = none) : wordsL.contains x = false := by
  unfold Wd.find at h
  repeat' split at h
  all_goals first
    | cases h
    | skip
  simp only [wordsL, List.contains_cons, List.contains_nil, Bool.or_false, Bool.or_eq_false_iff, beq_eq_false_iff_ne]
  exact ⟨by assumption, by assumption, by assumption, by assumption, by assumption, by assumption, by assumption, by assumption⟩
/-- the addresses of the classes of refusals -/
structure Ers where
  mill : Addr
  tree : Addr
  closed : Addr
  most : Addr
  number : Addr
  function : Addr
  dry : Addr
  text : Addr
/-- a class of refusals, straight under MillError -/
structure ErrC (K : PySem.W.Frag) (mg : Str → Option Value) (x : Str) (c : Addr) : Prop where
  c_ : mg x = some (.ref c)
  k : PySem.W.keepIn K (.ref c) = true
  inn : PySem.W.excIn K c [.type "ValueError", .type "Exception", .type "BaseException", .type "object"] "ValueError.__new__" = true
  ex : PySem.W.subIn K (.ref c) (.type "BaseException") = some true
  ty : PySem.W.typeIn K (.ref c) = some (.type "type")
theorem ErrC.r {K : PySem.W.Frag} {mg : Str → Option Value} {x : Str} {c : Addr} (T : ErrC K mg x c) {X : Cx} (h : X.K = K := by rfl) : Raises X (.ref c) := raises_own (by rw [h]; exact T.ex) (by rw [h]; exact T.ty)
/-- what trees.py's top has written -/
structure PTxt (K : PySem.W.Frag) (w : World) (mg : Str → Option Value) (aL aS cT : Addr) : Prop extends Bt mg where
  MOST_NODES : GInt mg "MOST_NODES" 400
  MOST_SIGNS : GInt mg "MOST_SIGNS" 8
  TOO_GREAT : GInt mg "TOO_GREAT" (10 ^ 60)
  SIGNS : GStr mg "SIGNS" "abcdefghijklmnopqrstuvwxyz"
  STARTS : mg "STARTS" = some (.ref aS)
  starts : ∀ t : Wd, RdK K w aS t.str (.int t.start)
  LENGTHS : mg "LENGTHS" = some (.ref aL)
  lengths : ∀ t : Wd, RdK K w aL t.str (.int t.len)
  nolen : ∀ x, Wd.find x = none → PySem.W.nsIn K aL x = some none
  KLENGTHS : KDE K w aL
  NoTree : ErrC K mg "NoTree" cT
/-- what free's part of trees.py's top has written -/
structure FTxt (K : PySem.W.Frag) (w : World) (mg : Str → Option Value) (aS : Addr) : Prop extends Bt mg where
  LOOK : GInt mg "LOOK" 0
  BIND : GInt mg "BIND" 1
  LOOSE : GInt mg "LOOSE" 2
  STARTS : mg "STARTS" = some (.ref aS)
  starts : ∀ t : Wd, RdK K w aS t.str (.int t.start)
theorem PTxt.has {K : PySem.W.Frag} {w : World} {mg : Str → Option Value} {aL aS cT : Addr} (T : PTxt K w mg aL aS cT) (x : Str) : ∃ r, PySem.W.nsIn K aL x = some r ∧ r.isSome = (Wd.find x).isSome := by
  cases h : Wd.find x with
  | none => exact ⟨none, T.nolen x h, rfl⟩
  | some t =>
    obtain ⟨es, n, u0, h1, h2, h3, h4⟩ := T.lengths t
    rw [Wd.of_find h]
    exact ⟨_, h3, rfl⟩
/-! ### what _is_node answers -/
def numV : V → Bool
  | .int n => decide (-(10 ^ 60) < n) && decide (n < 10 ^ 60)
  | _ => false
def isLet (c : Nat) : Bool := decide (97 ≤ c) && decide (c < 123)
theorem in_abc (c : Nat) : decide (c ∈ (Str.ofString "abcdefghijklmnopqrstuvwxyz").cps.toList) = isLet c := by
  rw [abc_eq, mkS_cps, Bool.eq_iff_iff]
  simp only [decide_eq_true_eq, isLet, Bool.and_eq_true, abc, List.mem_range'_1]
def isName (x : Str) : Bool := decide (1 ≤ x.length) && decide (x.length ≤ 8) && (Wd.find x).isNone && x.cps.toList.all isLet
def nameV : V → Bool
  | .str x => isName x
  | _ => false
def Wd.ownOk : Wd → List V → Bool
  | .num, v :: _ => numV v
  | .name, v :: _ => nameV v
  | .fn, v :: _ => nameV v
  | .lt, v :: _ => nameV v
  | _, _ => true
def nodeC : List V → Bool
  | .str w :: r => match Wd.find w with | none => false | some t => decide ((r.length : Int) + 1 = t.len) && t.ownOk r
  | _ => false
theorem nodeC_str (x : Str) (r : List V) : nodeC (.str x :: r) = (match Wd.find x with | none => false | some t => decide ((r.length : Int) + 1 = t.len) && t.ownOk r) := rfl
theorem nodeC_str_app (x : Str) (r s : List V) : nodeC (.str x :: r ++ s) = (match Wd.find x with | none => false | some t => decide (((r ++ s).length : Int) + 1 = t.len) && t.ownOk (r ++ s)) := rfl
def nodeV (H : Hp) (v : V) : Bool := match v with
  | .ref a => (match H a with | some (.tup xs) => nodeC xs | _ => false)
  | _ => false
/-- of a kind that type() tells -/
def Kd (H : Hp) (v : V) : Prop := ∃ n, zTyV v H = some n
/-- a value that need_tree may come to -/
def Kn (H : Hp) (v : V) : Prop := Kd H v ∧ ∀ a xs, v = .ref a → H a = some (.tup xs) → xs.length ≤ 100 ∧ ∀ x ∈ xs, Kd H x
theorem zTy_tup {H : Hp} {v : V} (h : zTyV v H = some "tuple") : ∃ a xs, v = .ref a ∧ H a = some (.tup xs) := by
  unfold zTyV at h
  split at h
  all_goals first
    | (cases h; done)
    | skip
  all_goals first
    | (exact absurd h (by decide))
    | skip
  rename_i p
  split at h
  · exact absurd h (by decide)
  · exact ⟨p, _, rfl, by assumption⟩
  · cases h
theorem zTy_int {H : Hp} {v : V} (h : zTyV v H = some "int") : ∃ i, v = .int i := by
  unfold zTyV at h
  split at h
  all_goals first
    | exact ⟨_, rfl⟩
    | (cases h; done)
    | (exact absurd h (by decide))
    | skip
  split at h
  all_goals first
    | (cases h; done)
    | (exact absurd h (by decide))
theorem zTy_str {H : Hp} {v : V} (h : zTyV v H = some "str") : ∃ i, v = .str i := by
  unfold zTyV at h
  split at h
  all_goals first
    | exact ⟨_, rfl⟩
    | (cases h; done)
    | (exact absurd h (by decide))
    | skip
  split at h
  all_goals first
    | (cases h; done)
    | (exact absurd h (by decide))
theorem num_no {H : Hp} {v : V} {n : String} (h : zTyV v H = some n) (hn : n ≠ "int") : numV v = false := by
  cases v with
  | int i => exact absurd (Option.some.inj h).symm hn
  | _ => rfl
theorem name_no {H : Hp} {v : V} {n : String} (h : zTyV v H = some n) (hn : n ≠ "str") : nameV v = false := by
  cases v with
  | str i => exact absurd (Option.some.inj h).symm hn
  | _ => rfl
theorem node_no {H : Hp} {v : V} (h : zTyV v H ≠ some "tuple") : nodeV H v = false := by
  unfold nodeV
  split
  · split
    · rename_i a _ xs e
      exact absurd (show (match H a with | some (.lst _) => some "list" | some (.tup _) => some "tuple" | _ => none) = some "tuple" by rw [e]) h
    · rfl
  · rfl
def spNum : Sp := fun vs H Q _ => ∃ v, vs = [v] ∧ Kd H v ∧ Q (.bl (numV v)) H
def spIsName : Sp := fun vs H Q _ => ∃ v, vs = [v] ∧ Kd H v ∧ (∀ x, v = .str x → x.length ≤ 10000) ∧ ∀ H', Same H H' → Q (.bl (nameV v)) H'
/-- a tuple of a node's form is given: its parts, in a new list -/
def spParts : Sp := fun vs H Q _ => ∃ (t : Wd) (a : Addr) (own ws : List V), vs = [.ref a] ∧ H a = some (.tup (.str t.str :: own ++ ws)) ∧ ((own.length : Int) + 1 = t.start) ∧ ws.length ≤ 3 ∧ ∀ (l : Addr) (H' : Hp), H l = none → Same H H' → H' l = some (.lst ws) → Q (.ref l) H'
def spIsNode : Sp := fun vs H Q _ => ∃ v, vs = [v] ∧ Kn H v ∧ (∀ a xs x, v = .ref a → H a = some (.tup xs) → V.str x ∈ xs → x.length ≤ 10000) ∧ ∀ H', Same H H' → Q (.bl (nodeV H v)) H'
theorem own_at {t : Wd} {own ws : List V} (h : (own.length : Int) + 1 = t.start) : ∃ n : Nat, t.start = (n : Int) ∧ 0 < n ∧ (V.str t.str :: own ++ ws).drop n = ws ∧ n ≤ (V.str t.str :: own ++ ws).length :=
  ⟨own.length + 1, by omega, by omega, by simp, by simp⟩
/-! ### what need_tree walks over -/
structure Bad (H : Hp) (v : V) : Prop where
  kn : Kn H v
  st : ∀ x, v = .str x → x.length ≤ 10000
  sts : ∀ a xs x, v = .ref a → H a = some (.tup xs) → V.str x ∈ xs → x.length ≤ 10000
  no : nodeV H v = false
/-- a good node's own head -/
def OwnV (v : V) : Prop := (∃ n, v = .int n) ∨ ∃ x, v = .str x ∧ x.length ≤ 10000
/-- values, one behind another, that are nodes as they ought to be, all the way down, or (then b is true) things that are none; n nodes and things in all -/
inductive Wks (H : Hp) : List V → Nat → Bool → Prop
  | nil : Wks H [] 0 false
  | nd {a : Addr} {t : Wd} {own ws vs : List V} {m n : Nat} {b c : Bool} (h : H a = some (.tup (.str t.str :: own ++ ws))) (ho : (own.length : Int) + 1 = t.start) (hn : nodeC (.str t.str :: own ++ ws) = true) (hw : ∀ x ∈ own, OwnV x) (hl : ws.length ≤ 3)
      (h1 : Wks H ws m b) (h2 : Wks H vs n c) : Wks H (.ref a :: vs) (1 + m + n) (b || c)
  | odd {v : V} {vs : List V} {n : Nat} {c : Bool} (h : Bad H v) (h2 : Wks H vs n c) : Wks H (v :: vs) (1 + n) true
theorem Wks.append {H : Hp} {xs : List V} {m : Nat} {b : Bool} (h : Wks H xs m b) {ys : List V} {n : Nat} {c : Bool} (g : Wks H ys n c) : Wks H (xs ++ ys) (m + n) (b || c) := by
  induction h with
  | nil => simpa using g
  | nd h ho hn hw hl h1 h2 ih1 ih2 =>
    rw [List.cons_append, Nat.add_assoc, Bool.or_assoc]
    exact .nd h ho hn hw hl h1 ih2
  | odd h h2 ih =>
    rw [List.cons_append, Nat.add_assoc, Bool.true_or]
    exact .odd h ih
theorem Wks.snoc {H : Hp} {v : V} : ∀ {ys : List V} {n : Nat} {b : Bool}, Wks H (ys ++ [v]) n b → ∃ n1 b1 n2 b2, Wks H ys n1 b1 ∧ Wks H [v] n2 b2 ∧ n = n1 + n2 ∧ b = (b1 || b2)
  | [], n, b, h => ⟨0, false, n, b, .nil, h, by omega, by simp⟩
  | u :: ys, n, b, h => by
    cases h with
    | nd h ho hn hw hl h1 h2 =>
      obtain ⟨n1, b1, n2, b2, g1, g2, rfl, rfl⟩ := Wks.snoc h2
      exact ⟨_, _, n2, b2, .nd h ho hn hw hl h1 g1, g2, by omega, by rw [Bool.or_assoc]⟩
    | odd h h2 =>
      obtain ⟨n1, b1, n2, b2, g1, g2, rfl, rfl⟩ := Wks.snoc h2
      exact ⟨_, _, n2, b2, .odd h g1, g2, by omega, by rw [Bool.true_or]⟩
theorem zTy_same {H H' : Hp} (e : Same H H') {v : V} {n : String} (h : zTyV v H = some n) : zTyV v H' = some n := by
  cases v with
  | ref p =>
    have h' : (match H p with | some (.lst _) => some "list" | some (.tup _) => some "tuple" | _ => none) = some n := h
    show (match H' p with | some (.lst _) => some "list" | some (.tup _) => some "tuple" | _ => none) = some n
    cases q : H p with
    | none => rw [q] at h'; cases h'
    | some o => rw [e _ _ q]; rw [q] at h'; exact h'
  | _ => exact h
theorem Kd.same {H H' : Hp} (e : Same H H') {v : V} (h : Kd H v) : Kd H' v := ⟨h.choose, zTy_same e h.choose_spec⟩
theorem zTy_known {H : Hp} {a : Addr} (h : Kd H (.ref a)) : ∃ o, H a = some o := by
  obtain ⟨n, h⟩ := h
  have h' : (match H a with | some (.lst _) => some "list" | some (.tup _) => some "tuple" | _ => none) = some n := h
  cases q : H a with
  | none => rw [q] at h'; cases h'
  | some o => exact ⟨o, rfl⟩
theorem same_at {H H' : Hp} (e : Same H H') {a : Addr} (k : Kd H (.ref a)) : H' a = H a := by
  obtain ⟨o, h⟩ := zTy_known k
  rw [h]
  exact e _ _ h
theorem Bad.same {H H' : Hp} (e : Same H H') {v : V} (h : Bad H v) : Bad H' v where
  kn := ⟨h.kn.1.same e, fun a xs ev ha => by
    subst ev
    rw [same_at e h.kn.1] at ha
    obtain ⟨h1, h2⟩ := h.kn.2 a xs rfl ha
    exact ⟨h1, fun x hx => (h2 x hx).same e⟩⟩
  st := h.st
  sts := fun a xs x ev ha => by
    subst ev
    rw [same_at e h.kn.1] at ha
    exact h.sts a xs x rfl ha
  no := by
    cases v with
    | ref a =>
      show (match H' a with | some (.tup xs) => nodeC xs | _ => false) = false
      rw [same_at e h.kn.1]
      exact h.no
    | _ => rfl
theorem Wks.same {H H' : Hp} (e : Same H H') {vs : List V} {n : Nat} {b : Bool} (h : Wks H vs n b) : Wks H' vs n b := by
  induction h with
  | nil => exact .nil
  | nd h ho hn hw hl h1 h2 ih1 ih2 => exact .nd (e _ _ h) ho hn hw hl ih1 ih2
  | odd h h2 ih => exact .odd (h.same e) ih
theorem kd_tup {H : Hp} {a : Addr} {xs : List V} (h : H a = some (.tup xs)) : Kd H (.ref a) :=
  ⟨"tuple", show (match H a with | some (.lst _) => some "list" | some (.tup _) => some "tuple" | _ => none) = some "tuple" by rw [h]⟩
theorem Wks.kd {H : Hp} {vs : List V} {n : Nat} {b : Bool} (h : Wks H vs n b) : ∀ v ∈ vs, Kd H v ∧ ∀ x, v = .str x → x.length ≤ 10000 := by
  induction h with
  | nil => intro v hv; cases hv
  | nd h ho hn hw hl h1 h2 ih1 ih2 =>
    intro v hv
    rcases List.mem_cons.mp hv with e | hv
    · subst e
      exact ⟨kd_tup h, fun x e => by cases e⟩
    · exact ih2 v hv
  | odd h h2 ih =>
    intro v hv
    rcases List.mem_cons.mp hv with e | hv
    · subst e
      exact ⟨h.kn.1, h.st⟩
    · exact ih v hv
/-- one thing: a good node with its parts, or none -/
theorem Wks.one {H : Hp} {v : V} {n : Nat} {b : Bool} (h : Wks H [v] n b) : (Bad H v ∧ n = 1 ∧ b = true) ∨
    (∃ (a : Addr) (t : Wd) (own ws : List V) (m : Nat), v = .ref a ∧ H a = some (.tup (.str t.str :: own ++ ws)) ∧ (own.length : Int) + 1 = t.start ∧ nodeV H v = true ∧ Kn H v ∧ (∀ a xs x, v = .ref a → H a = some (.tup xs) → V.str x ∈ xs → x.length ≤ 10000) ∧ ws.length ≤ 3 ∧ Wks H ws m b ∧ n = 1 + m) := by
  cases h with
  | @nd a t own ws _ m _ b' _ h ho hn hw hl h1 h2 =>
    cases h2
    have hkd := h1.kd
    have key : ∀ x ∈ (V.str t.str :: own ++ ws), Kd H x ∧ ∀ z, x = .str z → z.length ≤ 10000 := by
      intro x hx
      rcases List.mem_append.mp hx with hx | hx
      · rcases List.mem_cons.mp hx with e | hx
        · subst e
          exact ⟨⟨"str", rfl⟩, fun z e => by cases e; cases t <;> decide +kernel⟩
        · rcases hw x hx with ⟨n, rfl⟩ | ⟨z, rfl, hz⟩
          · exact ⟨⟨"int", rfl⟩, fun z e => by cases e⟩
          · exact ⟨⟨"str", rfl⟩, fun z' e => by cases e; exact hz⟩
      · exact hkd x hx
    have hlen : (V.str t.str :: own ++ ws).length ≤ 100 := by
      have : t.start ≤ 2 := by cases t <;> decide
      simp only [List.length_append, List.length_cons]
      omega
    refine .inr ⟨a, t, own, ws, m, rfl, h, ho, ?_, ⟨kd_tup h, fun a' xs e ha => ?_⟩, fun a' xs x e ha hx => ?_, hl, ?_, by omega⟩
    · show (match H a with | some (.tup xs) => nodeC xs | _ => false) = true
      rw [h]
      exact hn
    · cases e
      rw [h] at ha
      cases ha
      exact ⟨hlen, fun x hx => (key x hx).1⟩
    · cases e
      rw [h] at ha
      cases ha
      exact (key _ hx).2 x rfl
    · simpa using h1
  | odd h h2 =>
    cases h2
    exact .inl ⟨h, rfl, rfl⟩
def spNeed (cN : Addr) : Sp := fun vs H Q E => ∃ (v : V) (n : Nat) (b : Bool), vs = [v] ∧ Wks H [v] n b ∧ (n ≤ 400 → b = false → ∀ H', Same H H' → Q v H') ∧ ((400 < n ∨ b = true) → ∀ H', Same H H' → E (.ref cN) none H')
/-- a tree as the document asks -/
def Good (t : Tr) : Prop := t.all (fun x => isName x = true) N60
/-! ### one thing, with whether it holds something that is none -/
def W1 (H : Hp) (v : V) (b : Bool) : Prop := ∃ n, Wks H [v] n b
theorem nodeW {H : Hp} {a : Addr} (t : Wd) (own ws : List V) {n : Nat} {b : Bool} (h : H a = some (.tup (.str t.str :: own ++ ws))) (ho : (own.length : Int) + 1 = t.start) (hn : nodeC (.str t.str :: own ++ ws) = true) (hw : ∀ x ∈ own, OwnV x) (hl : ws.length ≤ 3)
    (h1 : Wks H ws n b) : Wks H [.ref a] (1 + n) b := by
  have := Wks.nd h ho hn hw hl h1 .nil
  simpa using this
theorem wks2 {H : Hp} {u v : V} {m n : Nat} {b c : Bool} (h1 : Wks H [u] m b) (h2 : Wks H [v] n c) : Wks H [u, v] (m + n) (b || c) := h1.append h2
theorem wks3 {H : Hp} {u v x : V} {m n k : Nat} {b c d : Bool} (h1 : Wks H [u] m b) (h2 : Wks H [v] n c) (h3 : Wks H [x] k d) : Wks H [u, v, x] (m + n + k) (b || c || d) := (wks2 h1 h2).append h3
theorem name_own {x : Str} (h : isName x = true) : ∀ v ∈ [V.str x], OwnV v := fun v hv => by
  rw [List.mem_singleton.mp hv]
  refine .inr ⟨x, rfl, ?_⟩
  unfold isName at h
  simp only [Bool.and_eq_true, decide_eq_true_eq] at h
  omega
theorem wks_of {H : Hp} : ∀ {t : Tr} {v : V}, At H t v → Good t → Wks H [v] t.size false
  | .num n, _, ⟨a, rfl, h⟩, g => nodeW .num [.int n] [] h rfl (by rw [nodeC_str_app, Wd.find_str]; show (true && (decide (-(10 ^ 60) < n) && decide (n < 10 ^ 60))) = true; rw [decide_eq_true g.1, decide_eq_true g.2]; rfl) (fun v hv => by rw [List.mem_singleton.mp hv]; exact .inl ⟨n, rfl⟩) (by simp) .nil
  | .name x, _, ⟨a, rfl, h⟩, g => nodeW .name [.str x] [] h rfl (by rw [nodeC_str_app, Wd.find_str]; show (true && isName x) = true; rw [show isName x = true from g]; rfl) (name_own g) (by simp) .nil
  | .fn x b, _, ⟨a, u, rfl, h, h1⟩, g => by
    have := nodeW .fn [.str x] [u] h rfl (by rw [nodeC_str_app, Wd.find_str]; show (true && isName x) = true; rw [g.1]; rfl) (name_own g.1) (by simp) (wks_of h1 g.2)
    exact this
  | .call f b, _, ⟨a, u, u', rfl, h, h1, h2⟩, g => by
    have := nodeW .call [] [u, u'] h rfl rfl (fun v hv => by cases hv) (by simp) (wks2 (wks_of h1 g.1) (wks_of h2 g.2))
    rw [show (Tr.call f b).size = 1 + (f.size + b.size) by simp only [Tr.size]; omega]; exact this
  | .plus f b, _, ⟨a, u, u', rfl, h, h1, h2⟩, g => by
    have := nodeW .plus [] [u, u'] h rfl rfl (fun v hv => by cases hv) (by simp) (wks2 (wks_of h1 g.1) (wks_of h2 g.2))
    rw [show (Tr.plus f b).size = 1 + (f.size + b.size) by simp only [Tr.size]; omega]; exact this
  | .less f b, _, ⟨a, u, u', rfl, h, h1, h2⟩, g => by
    have := nodeW .less [] [u, u'] h rfl rfl (fun v hv => by cases hv) (by simp) (wks2 (wks_of h1 g.1) (wks_of h2 g.2))
    rw [show (Tr.less f b).size = 1 + (f.size + b.size) by simp only [Tr.size]; omega]; exact this
  | .ite c f b, _, ⟨a, u, u', u'', rfl, h, h1, h2, h3⟩, g => by
    have := nodeW .ite [] [u, u', u''] h rfl rfl (fun v hv => by cases hv) (by simp) (wks3 (wks_of h1 g.1) (wks_of h2 g.2.1) (wks_of h3 g.2.2))
    rw [show (Tr.ite c f b).size = 1 + (c.size + f.size + b.size) by simp only [Tr.size]; omega]; exact this
  | .lt x f b, _, ⟨a, u, u', rfl, h, h1, h2⟩, g => by
    have := nodeW .lt [.str x] [u, u'] h rfl (by rw [nodeC_str_app, Wd.find_str]; show (true && isName x) = true; rw [g.1]; rfl) (name_own g.1) (by simp) (wks2 (wks_of h1 g.2.1) (wks_of h2 g.2.2))
    rw [show (Tr.lt x f b).size = 1 + (f.size + b.size) by simp only [Tr.size]; omega]; exact this
/-- what free has to do -/
inductive Td where
  | look (t : Tr) | bind (x : Str) | loose (x : Str)
def At3 (H : Hp) : Td → V → Prop
  | .look t, v => ∃ a u, v = .ref a ∧ H a = some (.tup [.int 0, u]) ∧ At H t u
  | .bind x, v => ∃ a, v = .ref a ∧ H a = some (.tup [.int 1, .str x])
  | .loose x, v => ∃ a, v = .ref a ∧ H a = some (.tup [.int 2, .str x])
theorem At3.mono {H H' : Hp} (k : KT H H') : ∀ {d : Td} {v : V}, At3 H d v → At3 H' d v
  | .look _, _, ⟨a, u, e, h, h1⟩ => ⟨a, u, e, k _ _ h, h1.mono k⟩
  | .bind _, _, ⟨a, e, h⟩ => ⟨a, e, k _ _ h⟩
  | .loose _, _, ⟨a, e, h⟩ => ⟨a, e, k _ _ h⟩
/-- what a node that is no name sets going -/
def reading (t : Tr) : List Td := match t with
  | .fn x b => [.bind x, .look b, .loose x]
  | .lt x e b => [.look e, .bind x, .look b, .loose x]
  | t => t.kids.map .look
def spReading : Sp := fun vs H Q _ => ∃ (t : Tr) (a : Addr), vs = [.ref a] ∧ At H t (.ref a) ∧ ∀ (l : Addr) (ws : List V) (H' : Hp), H l = none → Same H H' → H' l = some (.lst ws) → Paired (At3 H') (reading t) ws → Q (.ref l) H'
/-- the free ones, in the order of reading, each as often as it stands; b tells how often a name is bound round it -/
def inc (x : Str) (b : Str → Nat) : Str → Nat := fun y => if y = x then b y + 1 else b y
def dec (x : Str) (b : Str → Nat) : Str → Nat := fun y => if y = x then b y - 1 else b y
theorem dec_inc (x : Str) (b : Str → Nat) : dec x (inc x b) = b := by
  funext y
  unfold dec inc
  by_cases h : y = x
  · simp [h]
  · simp [h]
def frees (b : Str → Nat) : Tr → List Str
  | .num _ => []
  | .name y => if b y = 0 then [y] else []
  | .fn x t => frees (inc x b) t
  | .call f a => frees b f ++ frees b a
  | .plus f a => frees b f ++ frees b a
  | .less f a => frees b f ++ frees b a
  | .ite c f a => frees b c ++ (frees b f ++ frees b a)
  | .lt x e t => frees b e ++ frees (inc x b) t
def rem : List Td → (Str → Nat) → List Str
  | [], _ => []
  | .look t :: r, b => frees b t ++ rem r b
  | .bind x :: r, b => rem r (inc x b)
  | .loose x :: r, b => rem r (dec x b)
def wf : List Td → (Str → Nat) → Prop
  | [], _ => True
  | .look _ :: r, b => wf r b
  | .bind x :: r, b => wf r (inc x b)
  | .loose x :: r, b => 1 ≤ b x ∧ wf r (dec x b)
def isNm : Tr → Bool | .name _ => true | _ => false
theorem rem_reading (t : Tr) (h : isNm t = false) (r : List Td) (b : Str → Nat) : rem (reading t ++ r) b = frees b t ++ rem r b := by
  cases t <;> simp [reading, rem, frees, Tr.kids, dec_inc, isNm] at h ⊢
theorem wf_reading (t : Tr) (r : List Td) (b : Str → Nat) : wf (reading t ++ r) b ↔ wf r b := by
  cases t <;> simp [reading, wf, Tr.kids, dec_inc, inc]
def wt1 : Td → Nat | .look t => 3 * t.size | _ => 1
def wt (ds : List Td) : Nat := (ds.map wt1).sum
theorem wt_append (a b : List Td) : wt (a ++ b) = wt a + wt b := by simp [wt]
theorem wt_reverse (a : List Td) : wt a.reverse = wt a := by simp [wt, List.sum_reverse]
theorem wt_one (d : Td) : wt [d] = wt1 d := by simp [wt]
theorem le_wt : ∀ a : List Td, a.length ≤ wt a
  | [] => Nat.le_refl _
  | d :: r => by
    have := le_wt r
    have h : 1 ≤ wt1 d := by
      cases d with
      | look t => have := t.size_pos; simp only [wt1]; omega
      | _ => exact Nat.le_refl _
    simp only [wt, List.map_cons, List.sum_cons, List.length_cons] at *
    omega
theorem wt_reading (t : Tr) : wt (reading t) + 1 ≤ 3 * t.size := by
  cases t <;> simp [reading, wt, wt1, Tr.kids, Tr.size] <;> omega
/-- each once -/
def dd (fs : List Str) : List Str → List Str
  | [] => fs
  | x :: r => dd (if x ∈ fs then fs else fs ++ [x]) r
def freeNames (t : Tr) : List Str := dd [] (frees (fun _ => 0) t)
/-- the dict of the names that are bound -/
def Bd (kvs : List (Key × V)) (b : Str → Nat) : Prop := ∀ x : Str, match valV kvs (Sum.inr x : Key) with | none => b x = 0 | some v => v = .int (b x)
theorem Bd.get {kvs : List (Key × V)} {b : Str → Nat} (h : Bd kvs b) (x : Str) : (valV kvs (Sum.inr x : Key)).getD (.int 0) = .int (b x) := by
  have := h x
  cases e : valV kvs (Sum.inr x : Key) with
  | none => rw [e] at this; simp only at this; rw [this]; rfl
  | some v => rw [e] at this; exact this
theorem Bd.there {kvs : List (Key × V)} {b : Str → Nat} (h : Bd kvs b) {x : Str} (hx : 1 ≤ b x) : valV kvs (Sum.inr x : Key) = some (.int (b x)) := by
  have := h x
  cases e : valV kvs (Sum.inr x : Key) with
  | none => rw [e] at this; simp only at this; omega
  | some v => rw [e] at this; simp only at this; rw [this]
theorem Bd.put {kvs : List (Key × V)} {b b' : Str → Nat} (h : Bd kvs b) (x : Str) (hb : ∀ y, y ≠ x → b' y = b y) : Bd (putK kvs (Sum.inr x) (.int (b' x))) b' := by
  intro y
  rw [valV_put]
  by_cases e : y = x
  · subst e; rw [if_pos rfl]
  · rw [if_neg (fun z => e (Sum.inr.inj z))]
    have := h y
    rw [hb y e]
    exact this
def foundK (fs : List Str) : List (Key × V) := fs.map fun x => (Sum.inr x, V.bl true)
theorem foundK_val (fs : List Str) (x : Str) : valV (foundK fs) (Sum.inr x : Key) = if x ∈ fs then some (.bl true) else none := by
  induction fs with
  | nil => rfl
  | cons y r ih =>
    show valV ((Sum.inr y, V.bl true) :: foundK r) (Sum.inr x : Key) = _
    by_cases e : y = x
    · subst e
      rw [valV_pos rfl]; simp
    · rw [valV_neg (fun z => e (Sum.inr.inj z)), ih]
      have : ¬ x = y := fun z => e z.symm
      simp [this]
theorem foundK_put (fs : List Str) (x : Str) : putK (foundK fs) (Sum.inr x) (.bl true) = foundK (if x ∈ fs then fs else fs ++ [x]) := by
  by_cases h : x ∈ fs
  · rw [if_pos h]
    have e : (foundK fs).any (fun kv => decide (kv.1 = (Sum.inr x : Key))) = true := by
      rw [valV_any, foundK_val, if_pos h]; rfl
    unfold putK
    rw [if_pos e]
    unfold foundK
    rw [List.map_map]
    refine List.map_congr_left fun y _ => ?_
    simp only [Function.comp]
    split
    · rename_i e; rw [Sum.inr.inj e]
    · rfl
  · rw [if_neg h, putK_new _ (by rw [foundK_val, if_neg h])]
    simp [foundK]
def spFree : Sp := fun vs H Q _ => ∃ (t : Tr) (v : V), vs = [v] ∧ At H t v ∧ t.size ≤ 30000 ∧ ∀ (l : Addr) (H' : Hp), H l = none → Same H H' → H' l = some (.lst ((freeNames t).map V.str)) → Q (.ref l) H'
def Tr.wd : Tr → Wd
  | .num _ => .num | .name _ => .name | .fn _ _ => .fn | .call _ _ => .call | .plus _ _ => .plus | .less _ _ => .less | .ite _ _ _ => .ite | .lt _ _ _ => .lt
theorem Tr.wd_str (t : Tr) : t.wd.str = t.word := by cases t <;> rfl
theorem Tr.wd_start (t : Tr) : (t.own.length : Int) + 1 = t.wd.start := by cases t <;> rfl
/-- parts, asked of a tree -/
def spPartsT : Sp := fun vs H Q _ => ∃ (t : Tr) (a : Addr) (ws : List V), vs = [.ref a] ∧ H a = some (.tup (.str t.word :: t.own ++ ws)) ∧ ws.length ≤ 3 ∧ ∀ (l : Addr) (H' : Hp), H l = none → Same H H' → H' l = some (.lst ws) → Q (.ref l) H'
theorem parts_t {P : Program} {w : World} {K : PySem.W.Frag} {mg : Str → Option Value} {base : Heap} (D : Df P w K mg base 1 "parts" ["tree"] spParts) : Df P w K mg base 1 "parts" ["tree"] spPartsT :=
  D.imp fun vs H Q E ⟨t, a, ws, h1, h2, h3, h4⟩ => ⟨t.wd, a, t.own, ws, h1, by rw [t.wd_str]; exact h2, t.wd_start, h3, h4⟩
end My

namespace My
open PySem L2
/-! ### what the program promises -/
def Ers.cls (E : Ers) : Er → Addr
  | .number => E.number
  | .function => E.function
  | .closed => E.closed
abbrev evF := ev freeNames
/-- a closed tree and a count of deeds, as they ought to be -/
structure OkIn (H : Hp) (t : Tr) (v : V) (m : Nat) : Prop where
  at_ : At H t v
  good : Good t
  closed : t.closed
  size : t.size ≤ 400
  most : m ≤ 1000
def spRun (E : Ers) (KV : Hp → Val → V → Prop) : Sp := fun vs H Q X => ∃ (v : V) (t : Tr) (m : Nat), vs = [v, .int m] ∧ OkIn H t v m ∧
  match evF m .nil t with
  | .ok u m' _ => ∀ (r : V) (p : Addr) (H' : Hp), Same H H' → KV H' u r → H' p = some (.tup [r, .int ((m : Int) - m')]) → Q (.ref p) H'
  | .err c => ∀ H', Same H H' → X (.ref (E.cls c)) none H'
  | .dry => ∀ H', Same H H' → X (.ref E.dry) none H'
def spWorked (E : Ers) : Sp := fun vs H Q X => ∃ (v : V) (t : Tr) (m : Nat), vs = [v, .int m] ∧ OkIn H t v m ∧
  match work m t with
  | .ok u m' => ∀ (r : V) (p : Addr) (H' : Hp), Same H H' → At H' u r → H' p = some (.tup [r, .int ((m : Int) - m')]) → Q (.ref p) H'
  | .err c => ∀ H', Same H H' → X (.ref (E.cls c)) none H'
  | .dry => ∀ H', Same H H' → X (.ref E.dry) none H'
/-- the trees on the way -/
def path : Nat → Tr → List Tr
  | 0, t => [t]
  | m + 1, t => match t.step with
    | .to t' => t :: path m t'
    | _ => [t]
def spSteps (E : Ers) : Sp := fun vs H Q X => ∃ (v : V) (t : Tr) (m : Nat), vs = [v, .int m] ∧ OkIn H t v m ∧
  match work m t with
  | .ok _ _ => ∀ (rs : List V) (l : Addr) (H' : Hp), Same H H' → Ats H' (path m t) rs → H' l = some (.lst rs) → Q (.ref l) H'
  | .err c => ∀ H', Same H H' → X (.ref (E.cls c)) none H'
  | .dry => ∀ H', Same H H' → X (.ref E.dry) none H'
def spTold (KV : Hp → Val → V → Prop) : Sp := fun vs H Q _ => ∃ (u : Val) (v : V), vs = [v] ∧ KV H u v ∧ u.ok ∧ ∀ (r : V) (H' : Hp), Same H H' → At H' u.told r → Q r H'
theorem path_ok : ∀ {m : Nat} {t u : Tr} {m' : Nat}, work m t = .ok u m' → m' ≤ m ∧ (path m t).length = m - m' + 1 ∧ (path m t).getLast? = some u
  | 0, t, u, m', h => by
    rw [work] at h
    split at h
    · cases h; exact ⟨Nat.le_refl _, rfl, rfl⟩
    · cases h
  | m + 1, t, u, m', h => by
    rw [work] at h
    split at h
    · rename_i hs
      cases h
      refine ⟨Nat.le_refl _, ?_, ?_⟩ <;> (rw [path, hs]; simp)
    · rename_i t' hs
      obtain ⟨h1, h2, h3⟩ := path_ok h
      refine ⟨by omega, ?_, ?_⟩
      · rw [path, hs]; simp only [List.length_cons]; omega
      · rw [path, hs]
        dsimp only
        cases hp : path m t' with
        | nil => rw [hp] at h3; cases h3
        | cons a r => rw [hp] at h3; rw [List.getLast?_cons_cons]; exact h3
    · cases h
/-- with just as many deeds as there are it is done, with one fewer it is dry -/
theorem work_less : ∀ {m : Nat} {t u : Tr} {m' : Nat}, work m t = .ok u m' → work (m - m') t = .ok u 0 ∧ (0 < m - m' → work (m - m' - 1) t = .dry)
  | 0, t, u, m', h => by
    rw [work] at h
    split at h
    · rename_i hs
      cases h
      exact ⟨by rw [work, hs], fun h => by omega⟩
    · cases h
  | m + 1, t, u, m', h => by
    have hle := (path_ok h).1
    rw [work] at h
    split at h
    · rename_i hs
      cases h
      rw [Nat.sub_self]
      exact ⟨by rw [work, hs], fun h => by omega⟩
    · rename_i t' hs
      obtain ⟨h1, h2⟩ := work_less h
      have hle2 := (path_ok h).1
      have e : m + 1 - m' = (m - m') + 1 := by omega
      rw [e]
      refine ⟨by rw [work, hs]; exact h1, fun _ => ?_⟩
      rw [Nat.add_sub_cancel]
      by_cases h0 : m - m' = 0
      · rw [h0, work, hs]
      · obtain ⟨k, hk⟩ : ∃ k, m - m' = k + 1 := ⟨m - m' - 1, by omega⟩
        have := h2 (by omega)
        rw [hk] at this ⊢
        rw [work, hs]
        exact this
    · cases h
/-- freeNames tells the free ones -/
theorem frees_mem : ∀ (t : Tr) (b : Str → Nat) (x : Str), x ∈ frees b t ↔ t.fr x ∧ b x = 0
  | .num _, b, x => by simp [frees, Tr.fr]
  | .name y, b, x => by
    simp only [frees, Tr.fr]
    split
    · rename_i h
      simp only [List.mem_singleton]
      constructor
      · intro e; subst e; exact ⟨rfl, h⟩
      · exact fun e => e.1.symm
    · rename_i h
      simp only [List.not_mem_nil, false_iff]
      rintro ⟨rfl, h2⟩
      exact h h2
  | .fn y t, b, x => by
    simp only [frees, Tr.fr]
    rw [frees_mem t (inc y b) x]
    unfold inc
    by_cases h : x = y
    · subst h; simp
    · rw [if_neg h]
      constructor
      · rintro ⟨h1, h2⟩; exact ⟨⟨fun e => h e.symm, h1⟩, h2⟩
      · rintro ⟨⟨_, h1⟩, h2⟩; exact ⟨h1, h2⟩
  | .call f a, b, x => by simp only [frees, Tr.fr, List.mem_append]; rw [frees_mem f b x, frees_mem a b x]; exact ⟨fun h => h.elim (fun h => ⟨.inl h.1, h.2⟩) fun h => ⟨.inr h.1, h.2⟩, fun ⟨h1, h2⟩ => h1.elim (fun h => .inl ⟨h, h2⟩) fun h => .inr ⟨h, h2⟩⟩
  | .plus f a, b, x => by simp only [frees, Tr.fr, List.mem_append]; rw [frees_mem f b x, frees_mem a b x]; exact ⟨fun h => h.elim (fun h => ⟨.inl h.1, h.2⟩) fun h => ⟨.inr h.1, h.2⟩, fun ⟨h1, h2⟩ => h1.elim (fun h => .inl ⟨h, h2⟩) fun h => .inr ⟨h, h2⟩⟩
  | .less f a, b, x => by simp only [frees, Tr.fr, List.mem_append]; rw [frees_mem f b x, frees_mem a b x]; exact ⟨fun h => h.elim (fun h => ⟨.inl h.1, h.2⟩) fun h => ⟨.inr h.1, h.2⟩, fun ⟨h1, h2⟩ => h1.elim (fun h => .inl ⟨h, h2⟩) fun h => .inr ⟨h, h2⟩⟩
  | .ite c f a, b, x => by
    simp only [frees, Tr.fr, List.mem_append]
    rw [frees_mem c b x, frees_mem f b x, frees_mem a b x]
    exact ⟨fun h => h.elim (fun h => ⟨.inl h.1, h.2⟩) fun h => h.elim (fun h => ⟨.inr (.inl h.1), h.2⟩) fun h => ⟨.inr (.inr h.1), h.2⟩, fun ⟨h1, h2⟩ => h1.elim (fun h => .inl ⟨h, h2⟩) fun h => h.elim (fun h => .inr (.inl ⟨h, h2⟩)) fun h => .inr (.inr ⟨h, h2⟩)⟩
  | .lt y e t, b, x => by
    simp only [frees, Tr.fr, List.mem_append]
    rw [frees_mem e b x, frees_mem t (inc y b) x]
    unfold inc
    by_cases h : x = y
    · subst h; simp
    · rw [if_neg h]
      constructor
      · rintro (⟨h1, h2⟩ | ⟨h1, h2⟩)
        · exact ⟨.inl h1, h2⟩
        · exact ⟨.inr ⟨fun e => h e.symm, h1⟩, h2⟩
      · rintro ⟨h1 | ⟨_, h1⟩, h2⟩
        · exact .inl ⟨h1, h2⟩
        · exact .inr ⟨h1, h2⟩
theorem dd_mem : ∀ (ys fs : List Str) (x : Str), x ∈ dd fs ys ↔ x ∈ fs ∨ x ∈ ys
  | [], fs, x => by simp [dd]
  | y :: r, fs, x => by
    simp only [dd]
    rw [dd_mem r _ x]
    by_cases h : y ∈ fs
    · rw [if_pos h]
      constructor
      · rintro (h1 | h1)
        · exact .inl h1
        · exact .inr (List.mem_cons_of_mem _ h1)
      · rintro (h1 | h1)
        · exact .inl h1
        · rcases List.mem_cons.mp h1 with e | h1
          · exact .inl (e ▸ h)
          · exact .inr h1
    · rw [if_neg h]
      simp only [List.mem_append, List.mem_cons, List.not_mem_nil, or_false]
      exact ⟨fun h => h.elim (fun h => h.elim .inl fun e => .inr (.inl e)) fun h => .inr (.inr h), fun h => h.elim (fun h => .inl (.inl h)) fun h => h.elim (fun e => .inl (.inr e)) .inr⟩
theorem fl_iff (t : Tr) (x : Str) : x ∈ freeNames t ↔ t.fr x := by
  unfold freeNames
  rw [dd_mem, frees_mem]
  simp
theorem fl_mem : ∀ t y, Tr.fr y t → y ∈ freeNames t := fun t y h => (fl_iff t y).mpr h
theorem put_closed {b w : Tr} {x : Str} (hw : w.closed) (hb : ∀ y, b.fr y → y = x) : (b.put x w).closed := fun y hy => by
  obtain ⟨h1, h2⟩ := (Tr.fr_sub (Sb.Cl.one hw)).mp hy
  have := hb y h1
  subst this
  unfold Sb.one at h2
  rw [if_pos rfl] at h2
  cases h2
theorem step_closed : ∀ {t : Tr}, t.closed → t.step ≠ .err .closed ∧ ∀ t', t.step = .to t' → t'.closed
  | .num n, _ => ⟨by simp [Tr.step], fun t' h => by simp [Tr.step] at h⟩
  | .fn x b, _ => ⟨by simp [Tr.step], fun t' h => by simp [Tr.step] at h⟩
  | .name x, h => absurd rfl (h x)
  | .plus a b, h => by
    have ha := step_closed (t := a) fun x hx => h x (.inl hx)
    have hb := step_closed (t := b) fun x hx => h x (.inr hx)
    simp only [Tr.step]
    split
    · rename_i a' e
      exact ⟨by simp, fun t' ht => by cases ht; exact fun x hx => hx.elim (ha.2 _ e x) fun hx => h x (.inr hx)⟩
    · rename_i c e
      exact ⟨fun hc => by cases hc; exact ha.1 e, fun t' ht => by cases ht⟩
    · split
      · rename_i b' e
        exact ⟨by simp, fun t' ht => by cases ht; exact fun x hx => hx.elim (fun hx => h x (.inl hx)) (hb.2 _ e x)⟩
      · rename_i c e
        exact ⟨fun hc => by cases hc; exact hb.1 e, fun t' ht => by cases ht⟩
      · split
        · exact ⟨by simp, fun t' ht => by cases ht; exact fun x hx => hx⟩
        · exact ⟨by simp, fun t' ht => by cases ht⟩
  | .less a b, h => by
    have ha := step_closed (t := a) fun x hx => h x (.inl hx)
    have hb := step_closed (t := b) fun x hx => h x (.inr hx)
    simp only [Tr.step]
    split
    · rename_i a' e
      exact ⟨by simp, fun t' ht => by cases ht; exact fun x hx => hx.elim (ha.2 _ e x) fun hx => h x (.inr hx)⟩
    · rename_i c e
      exact ⟨fun hc => by cases hc; exact ha.1 e, fun t' ht => by cases ht⟩
    · split
      · rename_i b' e
        exact ⟨by simp, fun t' ht => by cases ht; exact fun x hx => hx.elim (fun hx => h x (.inl hx)) (hb.2 _ e x)⟩
      · rename_i c e
        exact ⟨fun hc => by cases hc; exact hb.1 e, fun t' ht => by cases ht⟩
      · split
        · exact ⟨by simp, fun t' ht => by cases ht; exact fun x hx => hx⟩
        · exact ⟨by simp, fun t' ht => by cases ht⟩
  | .call a b, h => by
    have ha := step_closed (t := a) fun x hx => h x (.inl hx)
    have hb := step_closed (t := b) fun x hx => h x (.inr hx)
    simp only [Tr.step]
    split
    · rename_i a' e
      exact ⟨by simp, fun t' ht => by cases ht; exact fun x hx => hx.elim (ha.2 _ e x) fun hx => h x (.inr hx)⟩
    · rename_i c e
      exact ⟨fun hc => by cases hc; exact ha.1 e, fun t' ht => by cases ht⟩
    · split
      · rename_i b' e
        exact ⟨by simp, fun t' ht => by cases ht; exact fun x hx => hx.elim (fun hx => h x (.inl hx)) (hb.2 _ e x)⟩
      · rename_i c e
        exact ⟨fun hc => by cases hc; exact hb.1 e, fun t' ht => by cases ht⟩
      · split
        · rename_i x t e
          exact ⟨by simp, fun t' ht => by
            cases ht
            exact put_closed (fun y hy => h y (.inr hy)) fun y hy => by
              by_cases e : x = y
              · exact e.symm
              · exact absurd (.inl ⟨e, hy⟩) (h y)⟩
        · exact ⟨by simp, fun t' ht => by cases ht⟩
  | .ite c a b, h => by
    have hc := step_closed (t := c) fun x hx => h x (.inl hx)
    simp only [Tr.step]
    split
    · rename_i a' e
      exact ⟨by simp, fun t' ht => by cases ht; exact fun x hx => hx.elim (hc.2 _ e x) fun hx => h x (.inr hx)⟩
    · rename_i k e
      exact ⟨fun hk => by cases hk; exact hc.1 e, fun t' ht => by cases ht⟩
    · split
      · refine ⟨by simp, fun t' ht => ?_⟩
        injection ht with ht
        subst ht
        split
        · exact fun x hx => h x (.inr (.inr hx))
        · exact fun x hx => h x (.inr (.inl hx))
      · exact ⟨by simp, fun t' ht => by cases ht⟩
  | .lt x a b, h => by
    have ha := step_closed (t := a) fun y hy => h y (.inl hy)
    simp only [Tr.step]
    split
    · rename_i a' e
      exact ⟨by simp, fun t' ht => by cases ht; exact fun y hy => hy.elim (ha.2 _ e y) fun hy => h y (.inr hy)⟩
    · rename_i k e
      exact ⟨fun hk => by cases hk; exact ha.1 e, fun t' ht => by cases ht⟩
    · exact ⟨by simp, fun t' ht => by
        cases ht
        exact put_closed (fun y hy => h y (.inl hy)) fun y hy => by
          by_cases e : x = y
          · exact e.symm
          · exact absurd (.inr ⟨e, hy⟩) (h y)⟩
theorem work_closed : ∀ {m : Nat} {t : Tr}, t.closed → work m t ≠ .err .closed ∧ ∀ u m', work m t = .ok u m' → u.closed
  | 0, t, h => by
    rw [work]
    split
    · exact ⟨by simp, fun u m' e => by cases e; exact h⟩
    · exact ⟨by simp, fun u m' e => by cases e⟩
  | m + 1, t, h => by
    have hs := step_closed h
    rw [work]
    split
    · exact ⟨by simp, fun u m' e => by cases e; exact h⟩
    · rename_i t' e
      exact work_closed (hs.2 t' e)
    · rename_i c e
      exact ⟨fun hc => by cases hc; exact hs.1 e, fun u m' e => by cases e⟩
theorem ev_closed {m : Nat} {t : Tr} (h : t.closed) : evF m .nil t ≠ .err .closed := fun e => by
  have := run_work (fl := freeNames) fl_mem (m := m) h
  rw [show ev freeNames m .nil t = .err .closed from e] at this
  exact (work_closed h).1 this
/-- how the classes of refusals are told apart -/
structure MeetsT (K : PySem.W.Frag) (E : Ers) : Prop where
  nn : PySem.W.exmOne K (.ref E.number) (.ref E.number) = some true
  fn : PySem.W.exmOne K (.ref E.function) (.ref E.number) = some false
  ff : PySem.W.exmOne K (.ref E.function) (.ref E.function) = some true
  dn : PySem.W.exmOne K (.ref E.dry) (.ref E.number) = some false
  df : PySem.W.exmOne K (.ref E.dry) (.ref E.function) = some false
  dd : PySem.W.exmOne K (.ref E.dry) (.ref E.dry) = some true
/-- what the law's three ways of asking need of the text -/
structure ATxt (K : PySem.W.Frag) (mg : Str → Option Value) (E : Ers) : Prop extends Bt mg where
  NoNumber : ErrC K mg "NoNumber" E.number
  NoFunction : ErrC K mg "NoFunction" E.function
  Dry : ErrC K mg "Dry" E.dry
  meets : MeetsT K E
def Er.word : Er → Str
  | .number => "number"
  | .function => "function"
  | .closed => "closed"
def spRunW (KV : Hp → Val → V → Prop) : Sp := fun vs H Q _ => ∃ (v : V) (t : Tr) (m : Nat), vs = [v, .int m] ∧ OkIn H t v m ∧
  match evF m .nil t with
  | .ok u m' _ => ∀ (r : V) (p : Addr) (H' : Hp), Same H H' → KV H' u r → H' p = some (.tup [r, .int ((m : Int) - m')]) → Q (.ref p) H'
  | .err c => ∀ H', Same H H' → Q (.str c.word) H'
  | .dry => ∀ H', Same H H' → Q (.str "dry") H'
def spWorkedW : Sp := fun vs H Q _ => ∃ (v : V) (t : Tr) (m : Nat), vs = [v, .int m] ∧ OkIn H t v m ∧
  match work m t with
  | .ok u m' => ∀ (r : V) (p : Addr) (H' : Hp), Same H H' → At H' u r → H' p = some (.tup [r, .int ((m : Int) - m')]) → Q (.ref p) H'
  | .err c => ∀ H', Same H H' → Q (.str c.word) H'
  | .dry => ∀ H', Same H H' → Q (.str "dry") H'
def spStepsW : Sp := fun vs H Q _ => ∃ (v : V) (t : Tr) (m : Nat), vs = [v, .int m] ∧ OkIn H t v m ∧
  match work m t with
  | .ok _ _ => ∀ (rs : List V) (l : Addr) (H' : Hp), Same H H' → Ats H' (path m t) rs → H' l = some (.lst rs) → Q (.ref l) H'
  | .err c => ∀ H', Same H H' → Q (.str c.word) H'
  | .dry => ∀ H', Same H H' → Q (.str "dry") H'
structure KTxt (K : PySem.W.Frag) (mg : Str → Option Value) (E : Ers) (cK : Addr) : Prop extends ATxt K mg E where
  cKept : mg "Kept" = some (.ref cK)
  kint : PySem.W.kitOne K (.type "int") (.ref cK) = some false
/-- what a machine's value is in the heap, as far as the laws ask for it -/
structure KVok (K : PySem.W.Frag) (cK : Addr) (KV : Hp → Val → V → Prop) : Prop where
  num : ∀ {H n r}, KV H (.num n) r → r = .int n
  fn : ∀ {H x b e r}, KV H (.fn x b e) r → ∃ t, TyX K H r t ∧ PySem.W.kitOne K t (.ref cK) = some true
  same : ∀ {H H' u r}, Same H H' → KV H u r → KV H' u r
/-- a pair with a count -/
def spPair : Sp := fun vs H Q _ => ∃ (p : Addr) (r : V) (n : Int), vs = [.ref p] ∧ H p = some (.tup [r, .int n]) ∧ Q (.bl true) H
theorem OkIn.same {H H' : Hp} {t : Tr} {v : V} {m : Nat} (h : OkIn H t v m) (e : Same H H') : OkIn H' t v m := ⟨h.at_.mono (same_kt e), h.good, h.closed, h.size, h.most⟩
end My

namespace My
open PySem L2
/-! ### how deep the trees become -/
/-- each free x stands at most d deep -/
def Oc (x : Str) : Nat → Tr → Prop
  | _, .num _ => True
  | _, .name _ => True
  | d, .fn y b => y = x ∨ match d with | 0 => ¬ b.fr x | d + 1 => Oc x d b
  | d, .call f a => match d with | 0 => ¬ f.fr x ∧ ¬ a.fr x | d + 1 => Oc x d f ∧ Oc x d a
  | d, .plus f a => match d with | 0 => ¬ f.fr x ∧ ¬ a.fr x | d + 1 => Oc x d f ∧ Oc x d a
  | d, .less f a => match d with | 0 => ¬ f.fr x ∧ ¬ a.fr x | d + 1 => Oc x d f ∧ Oc x d a
  | d, .ite c f a => match d with | 0 => ¬ c.fr x ∧ ¬ f.fr x ∧ ¬ a.fr x | d + 1 => Oc x d c ∧ Oc x d f ∧ Oc x d a
  | d, .lt y e b => match d with | 0 => ¬ e.fr x ∧ (y = x ∨ ¬ b.fr x) | d + 1 => Oc x d e ∧ (y = x ∨ Oc x d b)
theorem oc_not {x : Str} : ∀ {t : Tr} {d : Nat}, ¬ t.fr x → Oc x d t
  | .num _, d, h => by unfold Oc; trivial
  | .name _, d, h => by unfold Oc; trivial
  | .fn y b, d, h => by
    unfold Oc
    by_cases e : y = x
    · exact .inl e
    · have hb : ¬ b.fr x := fun hb => h ⟨e, hb⟩
      right
      cases d with
      | zero => exact hb
      | succ d => exact oc_not hb
  | .call f a, d, h => by
    have h1 : ¬ f.fr x := fun k => h (.inl k)
    have h2 : ¬ a.fr x := fun k => h (.inr k)
    unfold Oc
    cases d with
    | zero => exact ⟨h1, h2⟩
    | succ d => exact ⟨oc_not h1, oc_not h2⟩
  | .plus f a, d, h => by
    have h1 : ¬ f.fr x := fun k => h (.inl k)
    have h2 : ¬ a.fr x := fun k => h (.inr k)
    unfold Oc
    cases d with
    | zero => exact ⟨h1, h2⟩
    | succ d => exact ⟨oc_not h1, oc_not h2⟩
  | .less f a, d, h => by
    have h1 : ¬ f.fr x := fun k => h (.inl k)
    have h2 : ¬ a.fr x := fun k => h (.inr k)
    unfold Oc
    cases d with
    | zero => exact ⟨h1, h2⟩
    | succ d => exact ⟨oc_not h1, oc_not h2⟩
  | .ite c f a, d, h => by
    have h0 : ¬ c.fr x := fun k => h (.inl k)
    have h1 : ¬ f.fr x := fun k => h (.inr (.inl k))
    have h2 : ¬ a.fr x := fun k => h (.inr (.inr k))
    unfold Oc
    cases d with
    | zero => exact ⟨h0, h1, h2⟩
    | succ d => exact ⟨oc_not h0, oc_not h1, oc_not h2⟩
  | .lt y e b, d, h => by
    have h1 : ¬ e.fr x := fun k => h (.inl k)
    unfold Oc
    by_cases q : y = x
    · cases d with
      | zero => exact ⟨h1, .inl q⟩
      | succ d => exact ⟨oc_not h1, .inl q⟩
    · have h2 : ¬ b.fr x := fun k => h (.inr ⟨q, k⟩)
      cases d with
      | zero => exact ⟨h1, .inr h2⟩
      | succ d => exact ⟨oc_not h1, .inr (oc_not h2)⟩
/-- a tree is as deep as that -/
theorem oc_dep {x : Str} : ∀ {t : Tr} {d : Nat}, t.dep ≤ d → Oc x d t
  | .num _, d, h => by unfold Oc; trivial
  | .name _, d, h => by unfold Oc; trivial
  | .fn y b, 0, h => by simp only [Tr.dep] at h; omega
  | .fn y b, d + 1, h => by unfold Oc; simp only [Tr.dep] at h; exact .inr (oc_dep (by omega))
  | .call f a, 0, h => by simp only [Tr.dep] at h; omega
  | .call f a, d + 1, h => by unfold Oc; simp only [Tr.dep] at h; exact ⟨oc_dep (by omega), oc_dep (by omega)⟩
  | .plus f a, 0, h => by simp only [Tr.dep] at h; omega
  | .plus f a, d + 1, h => by unfold Oc; simp only [Tr.dep] at h; exact ⟨oc_dep (by omega), oc_dep (by omega)⟩
  | .less f a, 0, h => by simp only [Tr.dep] at h; omega
  | .less f a, d + 1, h => by unfold Oc; simp only [Tr.dep] at h; exact ⟨oc_dep (by omega), oc_dep (by omega)⟩
  | .ite c f a, 0, h => by simp only [Tr.dep] at h; omega
  | .ite c f a, d + 1, h => by unfold Oc; simp only [Tr.dep] at h; exact ⟨oc_dep (by omega), oc_dep (by omega), oc_dep (by omega)⟩
  | .lt y e b, 0, h => by simp only [Tr.dep] at h; omega
  | .lt y e b, d + 1, h => by unfold Oc; simp only [Tr.dep] at h; exact ⟨oc_dep (by omega), .inr (oc_dep (by omega))⟩
theorem put_dep {x : Str} {w : Tr} : ∀ {t : Tr} {d : Nat}, Oc x d t → (t.put x w).dep ≤ max t.dep (d + w.dep)
  | .num _, d, h => by rw [put_num]; omega
  | .name y, d, h => by rw [put_name]; split <;> omega
  | .fn y b, d, h => by
    unfold Oc at h
    rw [put_fn]
    by_cases e : y = x
    · rw [if_pos e]; omega
    · rw [if_neg e]
      have h := h.resolve_left e
      cases d with
      | zero =>
        rw [Tr.put_id h]; omega
      | succ d => have := put_dep (w := w) h; simp only [Tr.dep]; omega
  | .call f a, 0, h => by unfold Oc at h; rw [put_call, Tr.put_id h.1, Tr.put_id h.2]; omega
  | .call f a, d + 1, h => by unfold Oc at h; have := put_dep (w := w) h.1; have := put_dep (w := w) h.2; rw [put_call]; simp only [Tr.dep]; omega
  | .plus f a, 0, h => by unfold Oc at h; rw [put_plus, Tr.put_id h.1, Tr.put_id h.2]; omega
  | .plus f a, d + 1, h => by unfold Oc at h; have := put_dep (w := w) h.1; have := put_dep (w := w) h.2; rw [put_plus]; simp only [Tr.dep]; omega
  | .less f a, 0, h => by unfold Oc at h; rw [put_less, Tr.put_id h.1, Tr.put_id h.2]; omega
  | .less f a, d + 1, h => by unfold Oc at h; have := put_dep (w := w) h.1; have := put_dep (w := w) h.2; rw [put_less]; simp only [Tr.dep]; omega
  | .ite c f a, 0, h => by unfold Oc at h; rw [put_ite, Tr.put_id h.1, Tr.put_id h.2.1, Tr.put_id h.2.2]; omega
  | .ite c f a, d + 1, h => by unfold Oc at h; have := put_dep (w := w) h.1; have := put_dep (w := w) h.2.1; have := put_dep (w := w) h.2.2; rw [put_ite]; simp only [Tr.dep]; omega
  | .lt y e b, d, h => by
    unfold Oc at h
    rw [put_lt]
    cases d with
    | zero =>
      rw [Tr.put_id h.1]
      by_cases q : y = x
      · rw [if_pos q]; omega
      · rw [if_neg q, Tr.put_id (h.2.resolve_left q)]; omega
    | succ d =>
      have := put_dep (w := w) h.1
      by_cases q : y = x
      · rw [if_pos q]; simp only [Tr.dep]; omega
      · rw [if_neg q]
        have := put_dep (w := w) (h.2.resolve_left q)
        simp only [Tr.dep]; omega
/-- putting closed things in changes nothing of that -/
theorem oc_sub {x : Str} : ∀ {t : Tr} {d : Nat} {s : Sb}, s.Cl → Oc x d t → Oc x d (t.sub s)
  | .num _, d, s, hs, h => by simp only [Tr.sub]; unfold Oc; trivial
  | .name y, d, s, hs, h => by
    simp only [Tr.sub]
    cases e : s y with
    | none => show Oc x d (.name y); unfold Oc; trivial
    | some v => exact oc_not (hs y v e x)
  | .fn y b, d, s, hs, h => by
    simp only [Tr.sub]
    unfold Oc at h ⊢
    rcases h with h | h
    · exact .inl h
    · right
      cases d with
      | zero => exact fun k => h ((Tr.fr_sub (hs.del y)).mp k).1
      | succ d => exact oc_sub (hs.del y) h
  | .call f a, d, s, hs, h => by
    simp only [Tr.sub]
    unfold Oc at h ⊢
    cases d with
    | zero => exact ⟨fun k => h.1 ((Tr.fr_sub hs).mp k).1, fun k => h.2 ((Tr.fr_sub hs).mp k).1⟩
    | succ d => exact ⟨oc_sub hs h.1, oc_sub hs h.2⟩
  | .plus f a, d, s, hs, h => by
    simp only [Tr.sub]
    unfold Oc at h ⊢
    cases d with
    | zero => exact ⟨fun k => h.1 ((Tr.fr_sub hs).mp k).1, fun k => h.2 ((Tr.fr_sub hs).mp k).1⟩
    | succ d => exact ⟨oc_sub hs h.1, oc_sub hs h.2⟩
  | .less f a, d, s, hs, h => by
    simp only [Tr.sub]
    unfold Oc at h ⊢
    cases d with
    | zero => exact ⟨fun k => h.1 ((Tr.fr_sub hs).mp k).1, fun k => h.2 ((Tr.fr_sub hs).mp k).1⟩
    | succ d => exact ⟨oc_sub hs h.1, oc_sub hs h.2⟩
  | .ite c f a, d, s, hs, h => by
    simp only [Tr.sub]
    unfold Oc at h ⊢
    cases d with
    | zero => exact ⟨fun k => h.1 ((Tr.fr_sub hs).mp k).1, fun k => h.2.1 ((Tr.fr_sub hs).mp k).1, fun k => h.2.2 ((Tr.fr_sub hs).mp k).1⟩
    | succ d => exact ⟨oc_sub hs h.1, oc_sub hs h.2.1, oc_sub hs h.2.2⟩
  | .lt y e b, d, s, hs, h => by
    simp only [Tr.sub]
    unfold Oc at h ⊢
    cases d with
    | zero => exact ⟨fun k => h.1 ((Tr.fr_sub hs).mp k).1, h.2.imp id fun g k => g ((Tr.fr_sub (hs.del y)).mp k).1⟩
    | succ d => exact ⟨oc_sub hs h.1, h.2.imp id fun g => oc_sub (hs.del y) g⟩
/-- each bound name stands at most c deep in what it is bound in -/
def Bo (c : Nat) : Tr → Prop
  | .num _ => True
  | .name _ => True
  | .fn y b => Oc y c b ∧ Bo c b
  | .call f a => Bo c f ∧ Bo c a
  | .plus f a => Bo c f ∧ Bo c a
  | .less f a => Bo c f ∧ Bo c a
  | .ite k f a => Bo c k ∧ Bo c f ∧ Bo c a
  | .lt y e b => Oc y c b ∧ Bo c e ∧ Bo c b
theorem bo_dep : ∀ {t : Tr} {c : Nat}, t.dep ≤ c → Bo c t
  | .num _, c, h => trivial
  | .name _, c, h => trivial
  | .fn y b, c, h => by simp only [Tr.dep] at h; exact ⟨oc_dep (by omega), bo_dep (by omega)⟩
  | .call f a, c, h => by simp only [Tr.dep] at h; exact ⟨bo_dep (by omega), bo_dep (by omega)⟩
  | .plus f a, c, h => by simp only [Tr.dep] at h; exact ⟨bo_dep (by omega), bo_dep (by omega)⟩
  | .less f a, c, h => by simp only [Tr.dep] at h; exact ⟨bo_dep (by omega), bo_dep (by omega)⟩
  | .ite k f a, c, h => by simp only [Tr.dep] at h; exact ⟨bo_dep (by omega), bo_dep (by omega), bo_dep (by omega)⟩
  | .lt y e b, c, h => by simp only [Tr.dep] at h; exact ⟨oc_dep (by omega), bo_dep (by omega), bo_dep (by omega)⟩
theorem bo_sub {c : Nat} : ∀ {t : Tr} {s : Sb}, s.Cl → (∀ x v, s x = some v → Bo c v) → Bo c t → Bo c (t.sub s)
  | .num _, s, hs, hb, h => trivial
  | .name y, s, hs, hb, h => by
    simp only [Tr.sub]
    cases e : s y with
    | none => exact trivial
    | some v => exact hb y v e
  | .fn y b, s, hs, hb, h => ⟨oc_sub (hs.del y) h.1, bo_sub (hs.del y) (fun x v e => by unfold Sb.del at e; split at e; cases e; exact hb x v e) h.2⟩
  | .call f a, s, hs, hb, h => ⟨bo_sub hs hb h.1, bo_sub hs hb h.2⟩
  | .plus f a, s, hs, hb, h => ⟨bo_sub hs hb h.1, bo_sub hs hb h.2⟩
  | .less f a, s, hs, hb, h => ⟨bo_sub hs hb h.1, bo_sub hs hb h.2⟩
  | .ite k f a, s, hs, hb, h => ⟨bo_sub hs hb h.1, bo_sub hs hb h.2.1, bo_sub hs hb h.2.2⟩
  | .lt y e b, s, hs, hb, h => ⟨oc_sub (hs.del y) h.1, bo_sub hs hb h.2.1, bo_sub (hs.del y) (fun x v e => by unfold Sb.del at e; split at e; cases e; exact hb x v e) h.2.2⟩
theorem bo_put {c : Nat} {t w : Tr} {x : Str} (hw : w.closed) (hb : Bo c w) (h : Bo c t) : Bo c (t.put x w) :=
  bo_sub (Sb.Cl.one hw) (fun y v e => by unfold Sb.one at e; split at e; cases e; exact hb; cases e) h
/-- a step makes it deeper by c at most -/
theorem step_dep {c : Nat} : ∀ {t t' : Tr}, t.closed → Bo c t → t.step = .to t' → Bo c t' ∧ t'.dep ≤ t.dep + c
  | .num n, t', _, _, h => by simp [Tr.step] at h
  | .fn x b, t', _, _, h => by simp [Tr.step] at h
  | .name x, t', _, _, h => by simp [Tr.step] at h
  | .plus a b, t', hc, hb, h => by
    simp only [Tr.step] at h
    split at h
    · rename_i a' e
      cases h
      have := step_dep (fun x hx => hc x (.inl hx)) hb.1 e
      exact ⟨⟨this.1, hb.2⟩, by simp only [Tr.dep]; omega⟩
    · cases h
    · split at h
      · rename_i b' e
        cases h
        have := step_dep (fun x hx => hc x (.inr hx)) hb.2 e
        exact ⟨⟨hb.1, this.1⟩, by simp only [Tr.dep]; omega⟩
      · cases h
      · split at h
        · cases h; exact ⟨trivial, by simp only [Tr.dep]; omega⟩
        · cases h
  | .less a b, t', hc, hb, h => by
    simp only [Tr.step] at h
    split at h
    · rename_i a' e
      cases h
      have := step_dep (fun x hx => hc x (.inl hx)) hb.1 e
      exact ⟨⟨this.1, hb.2⟩, by simp only [Tr.dep]; omega⟩
    · cases h
    · split at h
      · rename_i b' e
        cases h
        have := step_dep (fun x hx => hc x (.inr hx)) hb.2 e
        exact ⟨⟨hb.1, this.1⟩, by simp only [Tr.dep]; omega⟩
      · cases h
      · split at h
        · cases h; exact ⟨trivial, by simp only [Tr.dep]; omega⟩
        · cases h
  | .call a b, t', hc, hb, h => by
    simp only [Tr.step] at h
    split at h
    · rename_i a' e
      cases h
      have := step_dep (fun x hx => hc x (.inl hx)) hb.1 e
      exact ⟨⟨this.1, hb.2⟩, by simp only [Tr.dep]; omega⟩
    · cases h
    · split at h
      · rename_i b' e
        cases h
        have := step_dep (fun x hx => hc x (.inr hx)) hb.2 e
        exact ⟨⟨hb.1, this.1⟩, by simp only [Tr.dep]; omega⟩
      · cases h
      · split at h
        · rename_i x t e
          cases h
          have := put_dep (w := b) hb.1.1
          exact ⟨bo_put (fun y hy => hc y (.inr hy)) hb.2 hb.1.2, by simp only [Tr.dep]; omega⟩
        · cases h
  | .ite k a b, t', hc, hb, h => by
    simp only [Tr.step] at h
    split at h
    · rename_i a' e
      cases h
      have := step_dep (fun x hx => hc x (.inl hx)) hb.1 e
      exact ⟨⟨this.1, hb.2⟩, by simp only [Tr.dep]; omega⟩
    · cases h
    · split at h
      · injection h with h
        subst h
        split
        · exact ⟨hb.2.2, by simp only [Tr.dep]; omega⟩
        · exact ⟨hb.2.1, by simp only [Tr.dep]; omega⟩
      · cases h
  | .lt x a b, t', hc, hb, h => by
    simp only [Tr.step] at h
    split at h
    · rename_i a' e
      cases h
      have := step_dep (fun x hx => hc x (.inl hx)) hb.2.1 e
      exact ⟨⟨hb.1, this.1, hb.2.2⟩, by simp only [Tr.dep]; omega⟩
    · cases h
    · cases h
      have := put_dep (w := a) hb.1
      exact ⟨bo_put (fun y hy => hc y (.inl hy)) hb.2.1 hb.2.2, by simp only [Tr.dep]; omega⟩
theorem work_dep {c : Nat} : ∀ {m : Nat} {t u : Tr} {m' : Nat}, t.closed → Bo c t → work m t = .ok u m' → u.dep ≤ t.dep + m * c
  | 0, t, u, m', hc, hb, h => by
    rw [work] at h
    split at h
    · cases h; omega
    · cases h
  | m + 1, t, u, m', hc, hb, h => by
    rw [work] at h
    split at h
    · cases h; omega
    · rename_i t' e
      have h1 := step_dep hc hb e
      have h2 := work_dep ((step_closed hc).2 t' e) h1.1 h
      rw [Nat.succ_mul]
      omega
    · cases h
/-- the value of a tree of 400 nodes behind 1000 deeds -/
theorem work_dep' {m : Nat} {t u : Tr} {m' : Nat} (hc : t.closed) (hs : t.size ≤ 400) (hm : m ≤ 1000) (h : work m t = .ok u m') : u.dep ≤ 500000 := by
  have hd := t.dep_size
  have h1 := work_dep (c := 400) hc (bo_dep (by omega)) h
  have : m * 400 ≤ 400000 := by omega
  omega
theorem ev_ok {m : Nat} {t : Tr} (hc : t.closed) {u : Val} {m' : Nat} {l : List Val} (h : evF m .nil t = .ok u m' l) : u.ok := by
  have g := agree (fl := freeNames) fl_mem m .nil t trivial (fun y hy => absurd hy (hc y)) _ Ctx.id
  rw [show ev freeNames m .nil t = _ from h] at g
  exact g.1
theorem not_bang {p : Prop} {i : Decidable p} (h : p) : ¬ (!(@decide p i)) = true := by simp [h]
end My

namespace My
open PySem L2
/-! ### trees in which a name may be a number -/
inductive Sh where
  | num (n : Int) | name (k : Key) | fn (x : Str) (b : Sh) | call (f a : Sh) | plus (a b : Sh) | less (a b : Sh) | ite (c a b : Sh) | lt (x : Str) (e b : Sh)
def Tr.sh : Tr → Sh
  | .num n => .num n
  | .name x => .name (.inr x)
  | .fn x b => .fn x b.sh
  | .call f a => .call f.sh a.sh
  | .plus f a => .plus f.sh a.sh
  | .less f a => .less f.sh a.sh
  | .ite c f a => .ite c.sh f.sh a.sh
  | .lt x e b => .lt x e.sh b.sh
namespace Sh
def kids : Sh → List Sh
  | .num _ => [] | .name _ => [] | .fn _ b => [b] | .call f a => [f, a] | .plus a b => [a, b] | .less a b => [a, b] | .ite c a b => [c, a, b] | .lt _ e b => [e, b]
def word : Sh → Str
  | .num _ => "num" | .name _ => "name" | .fn _ _ => "fun" | .call _ _ => "call" | .plus _ _ => "plus" | .less _ _ => "less" | .ite _ _ _ => "if" | .lt _ _ _ => "let"
def own : Sh → List V
  | .num n => [.int n] | .name k => [kV k] | .fn x _ => [.str x] | .lt x _ _ => [.str x] | _ => []
def size : Sh → Nat
  | .num _ => 1 | .name _ => 1 | .fn _ b => 1 + b.size | .call f a => 1 + f.size + a.size | .plus a b => 1 + a.size + b.size | .less a b => 1 + a.size + b.size
  | .ite c a b => 1 + c.size + a.size + b.size | .lt _ e b => 1 + e.size + b.size
def dep : Sh → Nat
  | .num _ => 1 | .name _ => 1 | .fn _ b => 1 + b.dep | .call f a => 1 + max f.dep a.dep | .plus a b => 1 + max a.dep b.dep | .less a b => 1 + max a.dep b.dep
  | .ite c a b => 1 + max c.dep (max a.dep b.dep) | .lt _ e b => 1 + max e.dep b.dep
theorem size_pos : ∀ t : Sh, 0 < t.size := fun t => by cases t <;> simp only [size] <;> omega
theorem dep_pos : ∀ t : Sh, 0 < t.dep := fun t => by cases t <;> simp only [dep] <;> omega
theorem kids_le (t : Sh) : t.kids.length ≤ 3 := by cases t <;> simp [kids]
/-- other parts in the place of its own -/
def build : Sh → List Sh → Sh
  | .fn x _, [b] => .fn x b
  | .call _ _, [f, a] => .call f a
  | .plus _ _, [f, a] => .plus f a
  | .less _ _, [f, a] => .less f a
  | .ite _ _ _, [c, f, a] => .ite c f a
  | .lt x _ _, [e, b] => .lt x e b
  | t, _ => t
end Sh
abbrev Ss := Key → Option Sh
def Ss.none : Ss := fun _ => Option.none
def Ss.one (k : Key) (v : Sh) : Ss := fun j => if j = k then some v else Option.none
def Ss.del (s : Ss) (x : Str) : Ss := fun j => if j = .inr x then Option.none else s j
def Sh.sub (s : Ss) : Sh → Sh
  | .num n => .num n
  | .name k => (s k).getD (.name k)
  | .fn y b => .fn y (b.sub (s.del y))
  | .call f a => .call (f.sub s) (a.sub s)
  | .plus f a => .plus (f.sub s) (a.sub s)
  | .less f a => .less (f.sub s) (a.sub s)
  | .ite c f a => .ite (c.sub s) (f.sub s) (a.sub s)
  | .lt y e b => .lt y (e.sub s) (b.sub (s.del y))
def Sh.pars (s : Ss) : Sh → List (Sh × Ss)
  | .num _ => []
  | .name _ => []
  | .fn y b => [(b, s.del y)]
  | .call f a => [(f, s), (a, s)]
  | .plus f a => [(f, s), (a, s)]
  | .less f a => [(f, s), (a, s)]
  | .ite c f a => [(c, s), (f, s), (a, s)]
  | .lt y e b => [(e, s), (b, s.del y)]
theorem Ss.none_del (x : Str) : Ss.none.del x = Ss.none := by
  funext y
  unfold Ss.del Ss.none
  split <;> rfl
theorem Ss.del_id {s : Ss} {x : Str} (h : s (.inr x) = Option.none) : s.del x = s := by
  funext y
  unfold Ss.del
  split
  · rename_i e; rw [e, h]
  · rfl
theorem Sh.sub_none : ∀ t : Sh, t.sub Ss.none = t
  | .num _ => rfl
  | .name _ => rfl
  | .fn y b => by simp only [Sh.sub]; rw [Ss.none_del, Sh.sub_none b]
  | .call f a => by simp only [Sh.sub]; rw [Sh.sub_none f, Sh.sub_none a]
  | .plus f a => by simp only [Sh.sub]; rw [Sh.sub_none f, Sh.sub_none a]
  | .less f a => by simp only [Sh.sub]; rw [Sh.sub_none f, Sh.sub_none a]
  | .ite c f a => by simp only [Sh.sub]; rw [Sh.sub_none c, Sh.sub_none f, Sh.sub_none a]
  | .lt y e b => by simp only [Sh.sub]; rw [Ss.none_del, Sh.sub_none e, Sh.sub_none b]
theorem Sh.pars_len (s : Ss) (t : Sh) : (t.pars s).length = t.kids.length := by cases t <;> rfl
theorem Sh.pars_fst (s : Ss) (t : Sh) : (t.pars s).map (·.1) = t.kids := by cases t <;> rfl
theorem Sh.sub_pars {s : Ss} {t : Sh} (hn : t.word ≠ "name") : t.sub s = t.build ((t.pars s).map fun p => p.1.sub p.2) := by
  cases t <;> first | rfl | exact absurd rfl hn
theorem Sh.dep_kid {t u : Sh} (h : u ∈ t.kids) : u.dep + 1 ≤ t.dep := by
  cases t <;> simp only [Sh.kids, List.mem_cons, List.not_mem_nil, or_false] at h
  all_goals (try exact h.elim)
  all_goals simp only [Sh.dep]
  · subst h; omega
  · rcases h with rfl | rfl <;> omega
  · rcases h with rfl | rfl <;> omega
  · rcases h with rfl | rfl <;> omega
  · rcases h with rfl | rfl | rfl <;> omega
  · rcases h with rfl | rfl <;> omega
/-- the tree stands in the heap at v -/
def AtS (H : Hp) : Sh → V → Prop
  | .num n, v => ∃ a, v = .ref a ∧ H a = some (.tup [.str "num", .int n])
  | .name k, v => ∃ a, v = .ref a ∧ H a = some (.tup [.str "name", kV k])
  | .fn x b, v => ∃ a u, v = .ref a ∧ H a = some (.tup [.str "fun", .str x, u]) ∧ AtS H b u
  | .call f g, v => ∃ a u u', v = .ref a ∧ H a = some (.tup [.str "call", u, u']) ∧ AtS H f u ∧ AtS H g u'
  | .plus f g, v => ∃ a u u', v = .ref a ∧ H a = some (.tup [.str "plus", u, u']) ∧ AtS H f u ∧ AtS H g u'
  | .less f g, v => ∃ a u u', v = .ref a ∧ H a = some (.tup [.str "less", u, u']) ∧ AtS H f u ∧ AtS H g u'
  | .ite c f g, v => ∃ a u u' u'', v = .ref a ∧ H a = some (.tup [.str "if", u, u', u'']) ∧ AtS H c u ∧ AtS H f u' ∧ AtS H g u''
  | .lt x f g, v => ∃ a u u', v = .ref a ∧ H a = some (.tup [.str "let", .str x, u, u']) ∧ AtS H f u ∧ AtS H g u'
theorem at_sh {H : Hp} : ∀ {t : Tr} {v : V}, AtS H t.sh v ↔ At H t v
  | .num _, _ => Iff.rfl
  | .name _, _ => Iff.rfl
  | .fn _ b, _ => by simp only [Tr.sh, AtS, At, at_sh (t := b)]
  | .call f g, _ => by simp only [Tr.sh, AtS, At, at_sh (t := f), at_sh (t := g)]
  | .plus f g, _ => by simp only [Tr.sh, AtS, At, at_sh (t := f), at_sh (t := g)]
  | .less f g, _ => by simp only [Tr.sh, AtS, At, at_sh (t := f), at_sh (t := g)]
  | .ite c f g, _ => by simp only [Tr.sh, AtS, At, at_sh (t := c), at_sh (t := f), at_sh (t := g)]
  | .lt _ f g, _ => by simp only [Tr.sh, AtS, At, at_sh (t := f), at_sh (t := g)]
theorem AtS.mono {H H' : Hp} (k : KT H H') : ∀ {t : Sh} {v : V}, AtS H t v → AtS H' t v
  | .num _, _, ⟨a, e, h⟩ => ⟨a, e, k _ _ h⟩
  | .name _, _, ⟨a, e, h⟩ => ⟨a, e, k _ _ h⟩
  | .fn _ _, _, ⟨a, u, e, h, h1⟩ => ⟨a, u, e, k _ _ h, AtS.mono k h1⟩
  | .call _ _, _, ⟨a, u, u', e, h, h1, h2⟩ => ⟨a, u, u', e, k _ _ h, AtS.mono k h1, AtS.mono k h2⟩
  | .plus _ _, _, ⟨a, u, u', e, h, h1, h2⟩ => ⟨a, u, u', e, k _ _ h, AtS.mono k h1, AtS.mono k h2⟩
  | .less _ _, _, ⟨a, u, u', e, h, h1, h2⟩ => ⟨a, u, u', e, k _ _ h, AtS.mono k h1, AtS.mono k h2⟩
  | .ite _ _ _, _, ⟨a, u, u', u'', e, h, h1, h2, h3⟩ => ⟨a, u, u', u'', e, k _ _ h, AtS.mono k h1, AtS.mono k h2, AtS.mono k h3⟩
  | .lt _ _ _, _, ⟨a, u, u', e, h, h1, h2⟩ => ⟨a, u, u', e, k _ _ h, AtS.mono k h1, AtS.mono k h2⟩
theorem AtS.view {H : Hp} {t : Sh} {v : V} (h : AtS H t v) : ∃ a ws, v = .ref a ∧ H a = some (.tup (.str t.word :: t.own ++ ws)) ∧ Paired (AtS H) t.kids ws := by
  cases t with
  | num n => obtain ⟨a, e, h⟩ := h; exact ⟨a, [], e, h, .nil⟩
  | name x => obtain ⟨a, e, h⟩ := h; exact ⟨a, [], e, h, .nil⟩
  | fn x b => obtain ⟨a, u, e, h, h1⟩ := h; exact ⟨a, [u], e, h, .cons h1 .nil⟩
  | call f g => obtain ⟨a, u, u', e, h, h1, h2⟩ := h; exact ⟨a, [u, u'], e, h, .cons h1 (.cons h2 .nil)⟩
  | plus f g => obtain ⟨a, u, u', e, h, h1, h2⟩ := h; exact ⟨a, [u, u'], e, h, .cons h1 (.cons h2 .nil)⟩
  | less f g => obtain ⟨a, u, u', e, h, h1, h2⟩ := h; exact ⟨a, [u, u'], e, h, .cons h1 (.cons h2 .nil)⟩
  | ite c f g => obtain ⟨a, u, u', u'', e, h, h1, h2, h3⟩ := h; exact ⟨a, [u, u', u''], e, h, .cons h1 (.cons h2 (.cons h3 .nil))⟩
  | lt x f g => obtain ⟨a, u, u', e, h, h1, h2⟩ := h; exact ⟨a, [u, u'], e, h, .cons h1 (.cons h2 .nil)⟩
theorem AtS.build {H : Hp} {t : Sh} {ks : List Sh} {a : Addr} {ws : List V} (hl : ks.length = t.kids.length) (h : H a = some (.tup (.str t.word :: t.own ++ ws))) (hw : Paired (AtS H) ks ws) : AtS H (t.build ks) (.ref a) := by
  cases t <;> simp only [Sh.kids, List.length_cons, List.length_nil] at hl
  · cases hw with
    | nil => exact ⟨a, rfl, h⟩
    | cons _ _ => simp at hl
  · cases hw with
    | nil => exact ⟨a, rfl, h⟩
    | cons _ _ => simp at hl
  · cases hw with
    | nil => simp at hl
    | cons h1 t1 =>
      cases t1 with
      | nil => exact ⟨a, _, rfl, h, h1⟩
      | cons _ _ => simp at hl
  all_goals
    cases hw with
    | nil => simp at hl
    | cons h1 t1 =>
      cases t1 with
      | nil => simp at hl
      | cons h2 t2 =>
        cases t2 with
        | nil => first | exact ⟨a, _, _, rfl, h, h1, h2⟩ | simp at hl
        | cons h3 t3 =>
          cases t3 with
          | nil => first | exact ⟨a, _, _, _, rfl, h, h1, h2, h3⟩ | simp at hl
          | cons _ _ => simp at hl
/-! ### what put_all has yet to do -/
structure PIt where
  t : Sh
  s : Ss
  r : Bool
def PIt.wt (i : PIt) : Nat := if i.r then 1 else 2 * i.t.size
def wtP (W : List PIt) : Nat := (W.map PIt.wt).sum
theorem wtP_cons (i : PIt) (W : List PIt) : wtP (i :: W) = i.wt + wtP W := by simp [wtP]
theorem wtP_append (V W : List PIt) : wtP (V ++ W) = wtP V + wtP W := by simp [wtP]
theorem wtP_reverse (W : List PIt) : wtP W.reverse = wtP W := by simp [wtP, List.map_reverse, List.sum_reverse]
/-- W from its top -/
def finP : List PIt → List Sh → List Sh
  | [], D => D
  | ⟨t, s, false⟩ :: W, D => finP W (D ++ [t.sub s])
  | ⟨t, _, true⟩ :: W, D => finP W (D.take (D.length - t.kids.length) ++ [t.build (D.drop (D.length - t.kids.length))])
def okP : List PIt → Nat → Prop
  | [], n => n = 1
  | ⟨_, _, false⟩ :: W, n => okP W (n + 1)
  | ⟨t, _, true⟩ :: W, n => t.kids.length ≤ n ∧ 1 ≤ t.kids.length ∧ okP W (n - t.kids.length + 1)
def dpP (N : Nat) : List PIt → Prop
  | [] => True
  | i :: W => W.length + 4 * i.t.dep ≤ N ∧ dpP N W
theorem dpP.len {N : Nat} {W : List PIt} (h : dpP N W) : W.length ≤ N + 1 := by
  cases W with
  | nil => exact Nat.zero_le _
  | cons i W => have := h.1; rw [List.length_cons]; omega
theorem okP.le : ∀ {W : List PIt} {n : Nat}, okP W n → n ≤ 1 + 2 * W.length
  | [], n, h => by have h : n = 1 := h; omega
  | ⟨t, s, false⟩ :: W, n, h => by
    have := okP.le (W := W) (n := n + 1) h
    rw [List.length_cons]; omega
  | ⟨t, s, true⟩ :: W, n, h => by
    have h3 := okP.le h.2.2
    have := t.kids_le
    have := h.1
    rw [List.length_cons]; omega
def itemsP (ps : List (Sh × Ss)) : List PIt := ps.map fun p => ⟨p.1, p.2, false⟩
theorem itemsP_len (ps : List (Sh × Ss)) : (itemsP ps).length = ps.length := List.length_map _
theorem finP_items : ∀ (ps : List (Sh × Ss)) (W : List PIt) (D : List Sh), finP (itemsP ps ++ W) D = finP W (D ++ ps.map fun p => p.1.sub p.2)
  | [], W, D => by simp [itemsP]
  | p :: ps, W, D => by
    show finP (itemsP ps ++ W) (D ++ [p.1.sub p.2]) = _
    rw [finP_items ps W]
    simp
theorem okP_items : ∀ (ps : List (Sh × Ss)) (W : List PIt) (n : Nat), okP (itemsP ps ++ W) n ↔ okP W (n + ps.length)
  | [], W, n => Iff.rfl
  | p :: ps, W, n => by
    show okP (itemsP ps ++ W) (n + 1) ↔ _
    rw [okP_items ps W, List.length_cons]
    rw [show n + 1 + ps.length = n + (ps.length + 1) by omega]
theorem dpP_items {N : Nat} : ∀ (ps : List (Sh × Ss)) (W : List PIt) (d : Nat), (∀ p ∈ ps, p.1.dep + 1 ≤ d) → W.length + ps.length + 4 * d ≤ N + 4 → dpP N W → dpP N (itemsP ps ++ W)
  | [], W, d, _, _, h => h
  | p :: ps, W, d, hp, hl, h => by
    rw [List.length_cons] at hl
    refine ⟨?_, dpP_items ps W d (fun q hq => hp q (List.mem_cons_of_mem _ hq)) (by omega) h⟩
    have := hp p List.mem_cons_self
    show (itemsP ps ++ W).length + 4 * p.1.dep ≤ N
    rw [List.length_append, itemsP_len]
    omega
theorem wtP_items (s : Ss) (t : Sh) : wtP (itemsP (t.pars s)) + 2 = 2 * t.size := by
  cases t <;> simp [itemsP, Sh.pars, wtP, PIt.wt, Sh.size] <;> omega
theorem finP_ready {t : Sh} {s : Ss} {W : List PIt} {D : List Sh} (hn : t.word ≠ "name") : finP (itemsP (t.pars s) ++ ⟨t, s, true⟩ :: W) D = finP (⟨t, s, false⟩ :: W) D := by
  rw [finP_items]
  have hl : ((t.pars s).map fun p => p.1.sub p.2).length = t.kids.length := by rw [List.length_map, Sh.pars_len]
  show finP W _ = finP W _
  rw [List.length_append, hl, Nat.add_sub_cancel, List.take_left, List.drop_left, ← Sh.sub_pars hn]
theorem okP_ready {t : Sh} {s : Ss} {W : List PIt} {n : Nat} (hk : 1 ≤ t.kids.length) : okP (itemsP (t.pars s) ++ ⟨t, s, true⟩ :: W) n ↔ okP (⟨t, s, false⟩ :: W) n := by
  rw [okP_items, Sh.pars_len]
  show _ ∧ _ ∧ okP W _ ↔ okP W _
  rw [Nat.add_sub_cancel]
  exact ⟨fun h => h.2.2, fun h => ⟨by omega, hk, h⟩⟩
theorem dpP_ready {N : Nat} {t : Sh} {s : Ss} {W : List PIt} (h : dpP N (⟨t, s, false⟩ :: W)) : dpP N (itemsP (t.pars s) ++ ⟨t, s, true⟩ :: W) := by
  refine dpP_items _ _ t.dep (fun p hp => ?_) ?_ ⟨h.1, h.2⟩
  · exact Sh.dep_kid (by rw [← Sh.pars_fst s t]; exact List.mem_map_of_mem hp)
  · have h1 := h.1
    have := t.kids_le
    dsimp only at h1
    rw [List.length_cons, Sh.pars_len]
    omega
/-! ### a dict of trees -/
structure DictS (H : Hp) (d : Addr) (s : Ss) : Prop where
  ex : ∃ kvs : List (Key × V), H d = some (.dK kvs) ∧ kvs.length ≤ 100000 ∧ ∀ k, (valV kvs k = none ∧ s k = none) ∨ ∃ r t, valV kvs k = some r ∧ s k = some t ∧ AtS H t r
/-- tuples and dicts are kept -/
def KD (H H' : Hp) : Prop := (∀ a xs, H a = some (.tup xs) → H' a = some (.tup xs)) ∧ ∀ a kvs, H a = some (.dK kvs) → H' a = some (.dK kvs)
theorem KD.kt {H H' : Hp} (k : KD H H') : KT H H' := k.1
theorem KD.refl (H : Hp) : KD H H := ⟨fun _ _ h => h, fun _ _ h => h⟩
theorem KD.trans {H H1 H2 : Hp} (a : KD H H1) (b : KD H1 H2) : KD H H2 := ⟨fun c o h => b.1 c o (a.1 c o h), fun c o h => b.2 c o (a.2 c o h)⟩
theorem same_kd {H H' : Hp} (e : Same H H') : KD H H' := ⟨fun a _ h => e a _ h, fun a _ h => e a _ h⟩
theorem kd_lst {H : Hp} {l : Addr} {xs : List V} {o : HO} (h : H l = some (.lst xs)) : KD H (upd H l o) :=
  ⟨fun b u q => by rw [upd_ne (ne_of q h (by intro z; cases z))]; exact q, fun b u q => by rw [upd_ne (ne_of q h (by intro z; cases z))]; exact q⟩
theorem DictS.mono {H H' : Hp} (k : KD H H') {d : Addr} {s : Ss} (h : DictS H d s) : DictS H' d s := by
  obtain ⟨kvs, h1, h2, h3⟩ := h.ex
  exact ⟨kvs, k.2 _ _ h1, h2, fun j => (h3 j).imp id fun ⟨r, t, a, b, c⟩ => ⟨r, t, a, b, c.mono k.kt⟩⟩
def AtP (H : Hp) (i : PIt) (v : V) : Prop := ∃ p tv d, v = .ref p ∧ H p = some (.tup [tv, .ref d, .bl i.r]) ∧ AtS H i.t tv ∧ DictS H d i.s
theorem AtP.mono {H H' : Hp} (k : KD H H') {i : PIt} {v : V} : AtP H i v → AtP H' i v := fun ⟨p, tv, d, e, h1, h2, h3⟩ => ⟨p, tv, d, e, k.1 _ _ h1, h2.mono k.kt, h3.mono k⟩
/-! ### a tree of names alone -/
def Sb.ss (s : Sb) : Ss := fun k => match k with
  | .inr x => (s x).map Tr.sh
  | .inl _ => Option.none
theorem Sb.ss_del (s : Sb) (x : Str) : (s.del x).ss = s.ss.del x := by
  funext k
  cases k with
  | inl i => unfold Ss.del; split <;> rfl
  | inr y =>
    show (s.del x y).map Tr.sh = if (Sum.inr y : Key) = Sum.inr x then Option.none else (s y).map Tr.sh
    unfold Sb.del
    by_cases e : y = x
    · subst e; simp
    · rw [if_neg e, if_neg (fun q => e (Sum.inr.inj q))]
theorem Tr.sub_sh : ∀ (t : Tr) (s : Sb), (t.sub s).sh = t.sh.sub s.ss
  | .num _, s => rfl
  | .name x, s => by
    show ((s x).getD (.name x)).sh = ((s x).map Tr.sh).getD (.name (.inr x))
    cases s x <;> rfl
  | .fn x b, s => by simp only [Tr.sub, Tr.sh, Sh.sub]; rw [b.sub_sh, Sb.ss_del]
  | .call f a, s => by simp only [Tr.sub, Tr.sh, Sh.sub]; rw [f.sub_sh, a.sub_sh]
  | .plus f a, s => by simp only [Tr.sub, Tr.sh, Sh.sub]; rw [f.sub_sh, a.sub_sh]
  | .less f a, s => by simp only [Tr.sub, Tr.sh, Sh.sub]; rw [f.sub_sh, a.sub_sh]
  | .ite c f a, s => by simp only [Tr.sub, Tr.sh, Sh.sub]; rw [c.sub_sh, f.sub_sh, a.sub_sh]
  | .lt x e b, s => by simp only [Tr.sub, Tr.sh, Sh.sub]; rw [e.sub_sh, b.sub_sh, Sb.ss_del]
theorem Sb.one_ss (x : Str) (v : Tr) : (Sb.one x v).ss = Ss.one (.inr x) v.sh := by
  funext k
  cases k with
  | inl i => unfold Ss.one; split <;> first | rfl | (rename_i e; cases e)
  | inr y =>
    show (if y = x then some v else Option.none).map Tr.sh = if (Sum.inr y : Key) = Sum.inr x then some v.sh else Option.none
    by_cases e : y = x
    · subst e; simp
    · rw [if_neg e, if_neg (fun q => e (Sum.inr.inj q))]; rfl
theorem Tr.put_sh (t : Tr) (x : Str) (v : Tr) : (t.put x v).sh = t.sh.sub (Ss.one (.inr x) v.sh) := by rw [← Sb.one_ss]; exact t.sub_sh _
theorem Tr.dep_sh : ∀ t : Tr, t.sh.dep = t.dep
  | .num _ => rfl
  | .name _ => rfl
  | .fn _ b => by simp only [Tr.sh, Sh.dep, Tr.dep, b.dep_sh]
  | .call f a => by simp only [Tr.sh, Sh.dep, Tr.dep, f.dep_sh, a.dep_sh]
  | .plus f a => by simp only [Tr.sh, Sh.dep, Tr.dep, f.dep_sh, a.dep_sh]
  | .less f a => by simp only [Tr.sh, Sh.dep, Tr.dep, f.dep_sh, a.dep_sh]
  | .ite c f a => by simp only [Tr.sh, Sh.dep, Tr.dep, c.dep_sh, f.dep_sh, a.dep_sh]
  | .lt _ e b => by simp only [Tr.sh, Sh.dep, Tr.dep, e.dep_sh, b.dep_sh]
end My

namespace My
open PySem L2
/-! ### {k: v for k in d if ..} over a dict that is locked meanwhile -/
theorem lock_dc {td tk tv : TE} {tt : TT} {j : Nat} {vs : List Nat} {σ : L2.St} {H : Hp} {d : Addr} {kvs : List (Key × V)} {Q : VK} (p : Key → Bool) (hd : H d = some (.dK kvs)) (hz : kvs.length < sizeLine)
    (htd : ∀ H' (Q : VK), Q (.ref d) H' → td σ H' Q) (hw : ∀ x, wipe ((wipe σ vs).set j (some x)) vs = wipe σ vs)
    (hk : ∀ (k : Key) (o : Obj) (H' : Hp), Same (upd H d (.frz o (.dK kvs))) H' → (∀ Qt, Qt (p k) H' → tt ((wipe σ vs).set j (some (kV k))) H' Qt) ∧ (∀ Q : VK, Q (kV k) H' → tk ((wipe σ vs).set j (some (kV k))) H' Q) ∧
      ∀ (v : V) (Q : VK), valV kvs k = some v → Q v H' → tv ((wipe σ vs).set j (some (kV k))) H' Q)
    (hq : ∀ D acc H', H D = none → Same H H' → H' D = some (.dK acc) → acc.length ≤ kvs.length → (∀ k, valV acc k = if p k = true then valV kvs k else none) → Q (.ref D) H') :
    tLockE (tDc (iKeys td) (gName j) tt tk tv vs) σ H Q := by
  refine ⟨d, _, hd, trivial, fun od => ?_⟩
  refine htd _ _ ⟨d, od, rfl, .inl ⟨kvs, upd_same, fun D hD => ?_⟩⟩
  have hdD : D ≠ d := fun e => by rw [e, upd_same] at hD; cases hD
  have hD0 : H D = none := by rw [upd_ne hdD] at hD; exact hD
  let In (i : Nat) (k : Key) : Prop := ∃ j v, j < i ∧ kvs[j]? = some (k, v)
  refine ⟨fun i m H' => m = kvs.length - i ∧ i ≤ kvs.length ∧ Same (upd H d (.frz od (.dK kvs))) H' ∧ ∃ acc, H' D = some (.dK acc) ∧ acc.length ≤ i ∧ ∀ k, (p k = true → In i k → valV acc k = valV kvs k) ∧ (¬ (p k = true ∧ In i k) → valV acc k = none),
    ⟨kvs.length, by simp, Nat.zero_le _, same_new hD, [], upd_same, Nat.zero_le _, fun k => ⟨fun _ ⟨j, v, h, _⟩ => absurd h (Nat.not_lt_zero _), fun _ => rfl⟩⟩, ?_⟩
  rintro i m H' ⟨rfl, hi, e, acc, hA, hl, hv⟩
  have hd' := e _ _ (upd_same (H := H) (a := d))
  by_cases hlt : i < kvs.length
  · refine .inr ⟨⟨hd', hlt⟩, fun H'' => Same (upd H d (.frz od (.dK kvs))) H'' ∧ ∃ acc, H'' D = some (.dK acc) ∧ acc.length ≤ i + 1 ∧ ∀ k, (p k = true → In (i + 1) k → valV acc k = valV kvs k) ∧ (¬ (p k = true ∧ In (i + 1) k) → valV acc k = none),
      fun H'' h => ⟨kvs.length - (i + 1), by omega, rfl, hlt, h⟩, ?_⟩
    rintro x H'' ⟨rfl, k, v, hkv, rfl⟩
    refine ⟨hw _, ?_⟩
    obtain ⟨ht, hk1, hv1⟩ := hk k od H'' e
    refine ht _ ?_
    have inS : ∀ k', In (i + 1) k' ↔ In i k' ∨ k' = k := fun k' => by
      constructor
      · rintro ⟨j, u, h1, h2⟩
        by_cases hj : j = i
        · subst hj; rw [hkv] at h2; cases h2; exact .inr rfl
        · exact .inl ⟨j, u, by omega, h2⟩
      · rintro (⟨j, u, h1, h2⟩ | rfl)
        · exact ⟨j, u, by omega, h2⟩
        · exact ⟨i, v, by omega, hkv⟩
    have hs : ∃ u, valV kvs k = some u := by
      cases h : valV kvs k with
      | some u => exact ⟨u, rfl⟩
      | none =>
        have h1 := valV_any k kvs
        rw [h] at h1
        have : (kvs.any fun kv => decide (kv.1 = k)) = true := List.any_eq_true.mpr ⟨(k, v), List.mem_of_getElem? hkv, by simp⟩
        rw [this] at h1
        cases h1
    by_cases hp : p k = true
    · rw [if_pos hp]
      refine hk1 _ ?_
      obtain ⟨u, hu⟩ := hs
      refine hv1 u _ hu ?_
      refine ⟨acc, k, rfl, hA, by omega, ?_, putK acc k u, upd_same, ?_, fun k' => ?_⟩
      · exact same_mut e hD
      · have := length_putK acc k u; omega
      · rw [valV_put]
        by_cases e1 : k' = k
        · subst e1
          exact ⟨fun _ _ => by rw [if_pos rfl, hu], fun h => absurd ⟨hp, (inS k').mpr (.inr rfl)⟩ h⟩
        · rw [if_neg e1]
          exact ⟨fun h1 h2 => (hv k').1 h1 (((inS k').mp h2).resolve_right e1), fun h => (hv k').2 fun h' => h ⟨h'.1, (inS k').mpr (.inl h'.2)⟩⟩
    · rw [if_neg hp]
      refine ⟨e, acc, hA, by omega, fun k' => ⟨fun h1 h2 => (hv k').1 h1 (((inS k').mp h2).resolve_right fun e1 => hp (e1 ▸ h1)), fun h => (hv k').2 fun h' => h ⟨h'.1, (inS k').mpr (.inl h'.2)⟩⟩⟩
  · have hi' : i = kvs.length := by omega
    refine .inl ⟨⟨hd', by omega⟩, hd', hq D acc _ hD0 ?_ ?_ (by omega) fun k => ?_⟩
    · intro b o hb
      by_cases e1 : b = d
      · subst e1; rw [upd_same]; rw [hd] at hb; exact hb
      · rw [upd_ne e1]; exact e b o (by rw [upd_ne e1]; exact hb)
    · rw [upd_ne hdD]; exact hA
    · by_cases hp : p k = true
      · rw [if_pos hp]
        by_cases hin : In i k
        · exact (hv k).1 hp hin
        · rw [(hv k).2 fun h => hin h.2]
          cases h : valV kvs k with
          | none => rfl
          | some u =>
            have h1 := valV_any k kvs
            rw [h] at h1
            obtain ⟨q, hq1, hq2⟩ := List.any_eq_true.mp h1
            obtain ⟨j, hj, e2⟩ := List.mem_iff_getElem.mp hq1
            exact absurd ⟨j, q.2, by omega, by rw [List.getElem?_eq_getElem hj, e2, ← of_decide_eq_true hq2]⟩ hin
      · rw [if_neg hp]
        exact (hv k).2 fun h => hp h.1
/-! ### what putting.py's putting in promises -/
def Sh.wd : Sh → Wd
  | .num _ => .num | .name _ => .name | .fn _ _ => .fn | .call _ _ => .call | .plus _ _ => .plus | .less _ _ => .less | .ite _ _ _ => .ite | .lt _ _ _ => .lt
theorem Sh.wd_str (t : Sh) : t.wd.str = t.word := by cases t <;> rfl
theorem Sh.wd_start (t : Sh) : ((t.own.length : Nat) : Int) + 1 = t.wd.start := by cases t <;> rfl
structure UTxt (K : PySem.W.Frag) (w : World) (mg : Str → Option Value) (aS : Addr) : Prop extends Bt mg where
  STARTS : mg "STARTS" = some (.ref aS)
  starts : ∀ t : Wd, RdK K w aS t.str (.int t.start)
def spPartsS : Sp := fun vs H Q _ => ∃ (t : Sh) (a : Addr) (ws : List V), vs = [.ref a] ∧ H a = some (.tup (.str t.word :: t.own ++ ws)) ∧ ws.length ≤ 3 ∧ ∀ (l : Addr) (H' : Hp), H l = none → Same H H' → H' l = some (.lst ws) → Q (.ref l) H'
theorem parts_s {P : Program} {w : World} {K : PySem.W.Frag} {mg : Str → Option Value} {base : Heap} (D : Df P w K mg base 1 "parts" ["tree"] spParts) : Df P w K mg base 1 "parts" ["tree"] spPartsS :=
  D.imp fun vs H Q E ⟨t, a, ws, h1, h2, h3, h4⟩ => ⟨t.wd, a, t.own, ws, h1, by rw [t.wd_str]; exact h2, t.wd_start, h3, h4⟩
theorem Df.mono {P : Program} {w : World} {K : PySem.W.Frag} {mg : Str → Option Value} {base : Heap} {j k : Nat} {x : Str} {ps : List Str} {sp : Sp} (D : Df P w K mg base j x ps sp) (h : j ≤ k) : Df P w K mg base k x ps sp := by
  obtain ⟨f, fd, F, m, kp, b⟩ := D.ex
  exact ⟨f, fd, F.mono h, m, kp, b⟩
def spPutting : Sp := fun vs H Q _ => ∃ (t : Sh) (s : Ss) (u : V) (d : Addr), vs = [u, .ref d] ∧ AtS H t u ∧ DictS H d s ∧
  ∀ (l : Addr) (rs : List V) (H' : Hp), H l = none → Same H H' → H' l = some (.lst rs) → Paired (AtP H') (itemsP (t.pars s)) rs → Q (.ref l) H'
def spPutAll : Sp := fun vs H Q _ => ∃ (t : Sh) (s : Ss) (u : V) (d : Addr), vs = [u, .ref d] ∧ AtS H t u ∧ DictS H d s ∧ t.dep ≤ 1000000 ∧ ∀ r H', Same H H' → AtS H' (t.sub s) r → Q r H'
def spPutS : Sp := fun vs H Q _ => ∃ (t v : Sh) (k : Key) (u y : V), vs = [u, kV k, y] ∧ AtS H t u ∧ AtS H v y ∧ t.dep ≤ 1000000 ∧ ∀ r H', Same H H' → AtS H' (t.sub (Ss.one k v)) r → Q r H'
theorem put_t {P : Program} {w : World} {K : PySem.W.Frag} {mg : Str → Option Value} {base : Heap} {j : Nat} (D : Df P w K mg base j "put" ["tree", "name", "value"] spPutS) : Df P w K mg base j "put" ["tree", "name", "value"] spPut :=
  D.imp fun vs H Q E ⟨t, v, x, u, y, h1, h2, h3, _, h4, _, q⟩ => ⟨t.sh, v.sh, .inr x, u, y, h1, at_sh.mpr h2, at_sh.mpr h3, by rw [t.dep_sh]; omega, fun r H' e h => q r H' e (at_sh.mp (by rw [t.put_sh]; exact h))⟩
theorem DictS.one {H : Hp} {d : Addr} {k : Key} {v : Sh} {y : V} (h : H d = some (.dK [(k, y)])) (hv : AtS H v y) : DictS H d (Ss.one k v) := ⟨_, h, by simp, fun j => by
  unfold Ss.one
  by_cases e : j = k
  · subst e; exact .inr ⟨y, v, valV_pos rfl, if_pos rfl, hv⟩
  · exact .inl ⟨valV_neg fun z => e z.symm, if_neg e⟩⟩
end My
namespace My
open PySem L2
def AtK (d : Addr) (H : Hp) (k : Sh) (v : V) : Prop := ∃ p tv, v = .ref p ∧ H p = some (.tup [tv, .ref d, .bl false]) ∧ AtS H k tv
theorem AtK.mono {H H' : Hp} (k : KT H H') {d : Addr} {t : Sh} {v : V} : AtK d H t v → AtK d H' t v := fun ⟨p, tv, e, h1, h2⟩ => ⟨p, tv, e, k _ _ h1, h2.mono k⟩
theorem AtK.items {H : Hp} {d : Addr} {s : Ss} (hs : DictS H d s) : ∀ {ts : List Sh} {vs : List V}, Paired (AtK d H) ts vs → Paired (AtP H) (itemsP (ts.map fun k => (k, s))) vs
  | _, _, .nil => .nil
  | _, _, .cons ⟨p, tv, e, h1, h2⟩ t => .cons ⟨p, tv, d, e, h1, h2, hs⟩ (AtK.items hs t)
/-- nothing is bound again: all parts as the whole -/
theorem Sh.pars_same {s : Ss} {t : Sh} (h : ∀ x, (t.word = "fun" ∨ t.word = "let") → t.own = [.str x] → s (.inr x) = none) : t.pars s = t.kids.map fun k => (k, s) := by
  cases t with
  | fn x b => simp only [Sh.pars, Sh.kids, List.map_cons, List.map_nil]; rw [Ss.del_id (h x (.inl rfl) rfl)]
  | lt x e b => simp only [Sh.pars, Sh.kids, List.map_cons, List.map_nil]; rw [Ss.del_id (h x (.inr rfl) rfl)]
  | _ => rfl
/-- the last one with another dict -/
theorem Sh.pars_last {s : Ss} {t : Sh} {x : Str} (hw : t.word = "fun" ∨ t.word = "let") (ho : t.own = [.str x]) : ∃ us b, t.kids = us ++ [b] ∧ t.pars s = (us.map fun k => (k, s)) ++ [(b, s.del x)] := by
  cases t with
  | fn y b => cases ho; exact ⟨[], b, rfl, rfl⟩
  | lt y e b => cases ho; exact ⟨[e], b, rfl, rfl⟩
  | num n => (simp only [Sh.word] at hw; exact absurd hw (by decide +kernel))
  | name k => (simp only [Sh.word] at hw; exact absurd hw (by decide +kernel))
  | call _ _ => (simp only [Sh.word] at hw; exact absurd hw (by decide +kernel))
  | plus _ _ => (simp only [Sh.word] at hw; exact absurd hw (by decide +kernel))
  | less _ _ => (simp only [Sh.word] at hw; exact absurd hw (by decide +kernel))
  | ite _ _ _ => (simp only [Sh.word] at hw; exact absurd hw (by decide +kernel))
theorem DictS.look {H : Hp} {d : Addr} {s : Ss} (h : DictS H d s) : ∃ kvs : List (Key × V), H d = some (.dK kvs) ∧ kvs.length ≤ 100000 ∧ ∀ k, (valV kvs k = none ∧ s k = none) ∨ ∃ r t, valV kvs k = some r ∧ s k = some t ∧ AtS H t r := h.ex
theorem Sh.bind_own {t : Sh} (h : t.word = "fun" ∨ t.word = "let") : ∃ x, t.own = [.str x] := by
  cases t with
  | fn y b => exact ⟨y, rfl⟩
  | lt y e b => exact ⟨y, rfl⟩
  | num n => (simp only [Sh.word] at h; exact absurd h (by decide +kernel))
  | name k => (simp only [Sh.word] at h; exact absurd h (by decide +kernel))
  | call _ _ => (simp only [Sh.word] at h; exact absurd h (by decide +kernel))
  | plus _ _ => (simp only [Sh.word] at h; exact absurd h (by decide +kernel))
  | less _ _ => (simp only [Sh.word] at h; exact absurd h (by decide +kernel))
  | ite _ _ _ => (simp only [Sh.word] at h; exact absurd h (by decide +kernel))
end My
namespace My
open PySem L2
theorem pr_take {α β : Type} {R : α → β → Prop} : ∀ {xs : List α} {ys : List β} (_ : Paired R xs ys) (n : Nat), Paired R (xs.take n) (ys.take n)
  | _, _, _, 0 => .nil
  | _, _, .nil, _ + 1 => .nil
  | _, _, .cons r t, n + 1 => .cons r (pr_take t n)
theorem pr_drop {α β : Type} {R : α → β → Prop} : ∀ {xs : List α} {ys : List β} (_ : Paired R xs ys) (n : Nat), Paired R (xs.drop n) (ys.drop n)
  | _, _, h, 0 => h
  | _, _, .nil, _ + 1 => .nil
  | _, _, .cons _ t, n + 1 => pr_drop t n
/-- xs[-k:] -/
theorem cut_tail {xs : List V} {k : Nat} (h : k ≤ xs.length) (h1 : 1 ≤ k) : cutV xs (some (-(k : Int))) none = xs.drop (xs.length - k) := by
  have e : HT.sIx xs.length 0 (some (-(k : Int))) = xs.length - k := by
    show (if -(k : Int) < 0 then (-(k : Int) + (xs.length : Int)).toNat else min (-(k : Int)).toNat xs.length) = _
    rw [if_pos (by omega)]
    omega
  unfold cutV
  rw [e, HT.sIx_none]
  exact List.take_of_length_le (by rw [List.length_drop]; exact Nat.le_refl _)
end My
namespace My
open PySem L2
theorem pr_rev {α β : Type} {R : α → β → Prop} {xs : List α} {ys : List β} (h : Paired R xs ys) : Paired R xs.reverse ys.reverse := by
  induction h with
  | nil => exact .nil
  | cons r t ih =>
    rw [List.reverse_cons, List.reverse_cons]
    exact pr_append ih (.cons r .nil)
end My
namespace My
theorem wtP_r {us : List PIt} {t : Sh} {s : Ss} : wtP (us ++ [⟨t, s, true⟩]) = wtP us + 1 := by rw [wtP_append]; rfl
theorem wtP_f {us : List PIt} {t : Sh} {s : Ss} : wtP (us ++ [⟨t, s, false⟩]) = wtP us + 2 * t.size := by rw [wtP_append]; rfl
end My

namespace K03
open PySem L2 My
open PyProof.Rows (envOfC)
local macro_rules | `(tactic| walk_at "rd") => `(tactic| simp only [My.ife, My.tFor_eq, My.cx_K, My.cx_w, My.rRdK, My.rNeSelf, rIsi, tAsg, tDrop, tChain, tThenZ, kTyp, My.rInK, My.rMulS, iStr, V.ty.injEq, rAll, rU, tRet, tRetN, tIfS, tVar, tC, tOp, tUn, rI0, rI, rEq, rNe, CDiv, CMul, CPow, My.tTup_eq, My.tLst_eq, My.tDNewK_eq, My.tRevL_eq, My.tRevS, tM1, tM0, My.sz0, My.sz1, My.sz2, My.sz3, My.sz4, My.sz5, My.sz8, tCons, tNil, My.tCallD, tCB, gName, gTup, gCons, gNil, gSub, tTest, tB, tAnd, tOr, tNot, tIf, tAndV, tOrV, tNotV, rSetL, rSlS, rIxL, rIxT, rIxS, My.rSlT_eq, My.rSlL_eq, rIn, rCat, tLc_eq, iList, iTup, iRng1, iRng2, iRng3, wipe, List.map_cons, List.map_nil, tSl, tPart, tNoPart, tBM, tBM0, rAppend, My.rPopL, rExtend, My.rExtendT, tNext, tBreak, tCont, My.scal_ii, My.scal_ss, My.scal_bb, My.scal_is, My.scal_si, ipI, rListD, sDPut, tDGet, tDGet2, tAug, List.getElem?_cons_zero, List.getElem?_cons_succ, List.set_cons_zero, List.set_cons_succ, Option.some.injEq, exists_eq_left', exists_eq_left, V.int.injEq, V.ref.injEq, V.str.injEq, V.bl.injEq, exists_and_left, true_and, and_true, List.cons.injEq, exists_const, Bool.false_eq_true, ↓reduceIte, reduceCtorEq, false_and, and_assoc, decide_true, decide_false])
local macro_rules | `(tactic| walk_at "st") => `(tactic| (refine My.seq_ fun R hR => ?_))
local macro_rules | `(tactic| walk_at "sd") => `(tactic| repeat (first | refine ⟨by decide, ?_⟩ | refine ⟨.inl (by decide), ?_⟩))

def topS (i : Nat) : Stmt := PySem.Challenge.pw_closuremill_k03_values_put_in.main.body.getD i (.Pass ⟨0, 0, 0, 0⟩)
abbrev s__law_cell_at : Stmt := topS 8
abbrev N__law_cell_at : List Str := ["_law_script", "_law_k"]
theorem sc__law_cell_at : FnScope N__law_cell_at ["_law_script", "_law_k"] (defScope s__law_cell_at) := ⟨rfl, rfl, rfl, by decide +kernel, rfl, by decide +kernel, by decide +kernel⟩
theorem bd__law_cell_at : BindAll "_law_cell_at" s__law_cell_at ["_law_script", "_law_k"] := fun _ _ _ _ _ _ us hl => match us, hl with | [_, _], _ => rfl
theorem st__law_cell_at (v0 v1 : V) : start N__law_cell_at [v0, v1] = [some v0, some v1] := rfl
section
variable {P : Program} {w : World} {K : PySem.W.Frag} {mg : Str → Option Value} {base : Heap}
theorem df_cell (T : Bt mg) (F : FunAt K mg "_law_cell_at" s__law_cell_at) : Df P w K mg base 1 "_law_cell_at" ["_law_script", "_law_k"] (spCellA K) := by
  refine F.df sc__law_cell_at bd__law_cell_at (fun vs H Q E h => ?_) (fun f cdv A outer s H vs Q E hr h => ?_)
  · obtain ⟨_, _, _, rfl, _⟩ := h; rfl
  obtain ⟨a, ns, k, rfl, hS, q⟩ := h
  have nd := sc__law_cell_at.nd
  refine ⟨_, (pss_cons (ps_if (pt_cmpR op_lt (pv 1) (pe_callB call_len_seq (by rfl) T.len PySem.boot_len (pa_cons (pv 0) pa_nil)) (nomark _))
    (pss_one (ps_ret (pe_ix ix_list (pv 0) (pv 1) (fun _ _ => rfl))))
    pss_nil)
  (pss_one (ps_ret pe_int))), ?_⟩
  rw [st__law_cell_at]
  refine seq_ fun R hR => ?_
  walk_at "rd"
  refine ⟨_, .inl hS, ?_⟩
  split
  · exact ⟨_, hS, _, cell_at (by assumption), q⟩
  · rw [hR]
    walk_at "rd"
    rw [← cell_out (ns := ns) (k := k) (by assumption)]
    exact q
end

abbrev s__law_kin_by : Stmt := topS 9
abbrev N__law_kin_by : List Str := ["_law_cell", "_law_many", "_law_letters", "_law_word", "_law_turned", "_law_k", "_law_one"]
theorem sc__law_kin_by : FnScope N__law_kin_by ["_law_cell", "_law_many"] (defScope s__law_kin_by) := ⟨rfl, rfl, rfl, by decide +kernel, rfl, by decide +kernel, by decide +kernel⟩
theorem bd__law_kin_by : BindAll "_law_kin_by" s__law_kin_by ["_law_cell", "_law_many"] := fun _ _ _ _ _ _ us hl => match us, hl with | [_, _], _ => rfl
theorem st__law_kin_by (v0 v1 : V) : start N__law_kin_by [v0, v1] = [some v0, some v1, none, none, none, none, none] := rfl
section
variable {P : Program} {w : World} {K : PySem.W.Frag} {mg : Str → Option Value} {base : Heap} 
theorem df_kin (T : Bt mg) (F : FunAt K mg "_law_kin_by" s__law_kin_by) : Df P w K mg base 1 "_law_kin_by" ["_law_cell", "_law_many"] spKin := by
  refine F.df sc__law_kin_by bd__law_kin_by (fun vs H Q E h => ?_) (fun f cdv A outer s H vs Q E hr h => ?_)
  · obtain ⟨_, _, rfl, _⟩ := h; rfl
  obtain ⟨c, many, rfl, hm, q⟩ := h
  have nd := sc__law_kin_by.nd
  refine ⟨_, (pss_cons (ps_set (i := 2) nd rfl (Or.inr rfl) pe_str)
  (pss_cons (ps_set (i := 3) nd rfl (Or.inr rfl) (pe_join pe_str (pe_lc (own := [("_law_k", 5)]) (g := gName 5) rfl nd (pi_range1 rfl T.range (pa_cons pe_int pa_nil)) (blkOk_by (N := N__law_kin_by) (sc := defScope s__law_kin_by) (by decide +kernel)) (fun _ _ _ _ _ => (pg_name (i := 5) nd rfl (Or.inl rfl))) (fun _ _ _ _ _ => pts_nil) (fun _ _ _ _ _ => (pe_ix ix_str (pv 2) (pe_op op_mod (pe_op op_add (pv 0) (pe_op op_mul pe_int (pv 5))) pe_int) (fun _ _ => rfl))))))
  (pss_cons (ps_if (PW.pt (pw_and (pt_cmpR op_eq (pe_op op_mod (pe_op op_fdiv (pv 0) pe_int) pe_int) pe_int (nomark _)) (pw_and1 (pt_cmpR op_lt (pv 1) pe_int (nomark _)))))
    (pss_one (ps_ret (pe_lc (own := [("_law_k", 5)]) (g := gName 5) rfl nd (pi_range1 rfl T.range (pa_cons (pv 1) pa_nil)) (blkOk_by (N := N__law_kin_by) (sc := defScope s__law_kin_by) (by decide +kernel)) (fun _ _ _ _ _ => (pg_name (i := 5) nd rfl (Or.inl rfl))) (fun _ _ _ _ _ => pts_nil) (fun _ _ _ _ _ => (pe_slice sl_str (pv 3) po_none (po_some (pe_op op_add (pv 5) pe_int)))))))
    pss_nil)
  (pss_cons (ps_setLc (i := 4) (own := [("_law_k", 5)]) (g := gName 5) rfl nd rfl rfl (sw_true rfl rfl rfl (by decide +kernel)) (pi_range1 rfl T.range (pa_cons pe_int pa_nil)) (blkOk_by (N := N__law_kin_by) (sc := defScope s__law_kin_by) (by decide +kernel)) (fun _ _ _ _ _ => (pg_name (i := 5) nd rfl (Or.inl rfl))) (fun _ _ _ _ _ => pts_nil) (fun _ _ _ _ _ => (pe_op op_add_str (pe_slice sl_str (pv 3) (po_some (pv 5)) po_none) (pe_slice sl_str (pv 3) po_none (po_some (pv 5))))))
  (pss_one (ps_ret (pe_slice sl_list (pe_op op_cat (pv 4) (pe_lc (own := [("_law_one", 6)]) (g := gName 6) rfl nd (pi_list (pv 4)) (blkOk_by (N := N__law_kin_by) (sc := defScope s__law_kin_by) (by decide +kernel)) (fun _ _ _ _ _ => (pg_name (i := 6) nd rfl (Or.inl rfl))) (fun _ _ _ _ _ => pts_nil) (fun _ _ _ _ _ => (pe_revS (pv 6))))) po_none (po_some (pv 1))))))))), ?_⟩
  rw [st__law_kin_by]
  refine seq_ fun R hR => ?_
  walk_at "rd"
  rw [hR]; clear hR
  refine seq_ fun R hR => ?_
  walk_at "rd"
  have wlen : (kinWord c).length = 8 := by simp [kinWord]
  refine ⟨⟨_, rfl⟩, by decide, by decide, lcR (fun i acc _ => acc = ((kinWord c).take i).map fun z => .str (mkS [z])) (fun _ _ _ _ _ h => h) (by decide) (fun _ => rfl) rfl ?_ ?_⟩
  · intro i acc H1 hi hl e1 p Qy hy Qn hn
    walk_at "rd"
    rw [abc_eq, Int.zero_add]
    refine ⟨.inl (by decide), by decide, by decide, _, lett_at _, hy _ _ (Same.refl _) ?_⟩
    show _ = ((kinWord c).take (i + 1)).map fun z => V.str (mkS [z])
    rw [p, one_sign, List.take_succ]
    have hi' : i < 8 := hi
    simp only [kinWord, List.getElem?_map, List.getElem?_range hi', Option.map_some, Option.toList_some, List.map_append, List.map_cons, List.map_nil]
  intro D ys H1 hD e1 hD1 p
  rw [show (8 : Int).toNat = (kinWord c).length from wlen.symm, List.take_length] at p
  refine ⟨D, rfl, (kinWord c).map (fun z => mkS [z]), .inl ?_, ?_, ?_⟩
  · rw [List.map_map]
    refine SqL.of ?_
    rw [hD1, p]
    rfl
  · rw [List.map_map]
    simp only [Function.comp_def, mkS_len, wlen, List.length_map, List.length_cons, List.length_nil]
    rw [List.map_const', wlen, show (Str.ofString "").length = 0 by decide +kernel]
    decide
  rw [join_signs, hR]; clear hR
  refine ifq_ fun R A B hR hA hB => ?_
  walk_at "rd"
  have hBok : ¬ (c / 26 % 2 = 0 ∧ (many : Int) < 9) → B H1 := by
    intro hno
    rw [hB]
    walk_at "rd"
    rw [hR]; clear hR
    have hkb : kinBy c many = (kinTurned c ++ (kinTurned c).map List.reverse).take many := by
      unfold kinBy
      rw [if_neg (fun h => hno ⟨h.1, by omega⟩)]
    have tlen : (kinTurned c).length = 8 := by simp [kinTurned]
    have tl8 : ∀ x ∈ kinTurned c, x.length = 8 := by
      intro x hx
      obtain ⟨k, hk, rfl⟩ := List.mem_map.mp hx
      rw [List.length_append, List.length_drop, List.length_take, wlen]
      have := List.mem_range.mp hk
      omega
    refine seq_ fun R hR => ?_
    walk_at "rd"
    refine ⟨by decide, by decide, lcR (fun i acc _ => acc = ((kinTurned c).take i).map fun z => .str (mkS z)) (fun _ _ _ _ _ h => h) (by decide) (fun _ => rfl) rfl ?_ ?_⟩
    · intro i acc H2 hi hl e2 p Qy hy Qn hn
      walk_at "rd"
      have hi' : i < 8 := hi
      rw [Int.zero_add, mkS_lo _ _ (by omega), mkS_hi _ _ (by omega), mkS_len, mkS_len, mkS_len, mkS_app]
      refine ⟨szL (by omega), szL (by omega), szL (by rw [List.length_drop, List.length_take]; omega), hy _ _ (Same.refl _) ?_⟩
      show _ = ((kinTurned c).take (i + 1)).map fun z => V.str (mkS z)
      rw [p, List.take_succ]
      simp only [kinTurned, List.getElem?_map, List.getElem?_range hi', Option.map_some, Option.toList_some, List.map_append, List.map_cons, List.map_nil]
    intro D2 ys2 H2 hD2 e2 hL2 p2
    rw [show (8 : Int).toNat = (kinTurned c).length from tlen.symm, List.take_length] at p2
    rw [hR]; clear hR
    walk_at "rd"
    refine ⟨⟨_, SqL.of hL2⟩, lcL (fun i acc _ => acc = (((kinTurned c).map List.reverse).take i).map fun z => .str (mkS z)) (fun _ _ _ _ _ h => h) (SqL.of hL2) (by rw [p2, List.length_map, tlen]; decide) (fun _ => rfl) rfl ?_ ?_⟩
    · intro i x acc H3 hi hl e3 p Qy hy Qn hn
      rw [p2] at hi
      obtain ⟨hi', rfl⟩ := map_at hi
      walk_at "rd"
      rw [mkS_len, mkS_cps]
      refine ⟨szL (by rw [tl8 _ (List.getElem_mem _)]; decide), hy _ _ (Same.refl _) ?_⟩
      show _ = (((kinTurned c).map List.reverse).take (i + 1)).map fun z => V.str (mkS z)
      rw [p, List.take_succ, List.getElem?_map, List.getElem?_eq_getElem hi']
      simp
    intro D3 ys3 H3 hD3 e3 hL3 p3
    rw [p2, List.length_map, show (kinTurned c).length = ((kinTurned c).map List.reverse).length by simp, List.take_length] at p3
    have hL2' := e3 _ _ hL2
    have yl : ys2.length = 8 := by rw [p2, List.length_map, tlen]
    have yl3 : ys3.length = 8 := by rw [p3, List.length_map, List.length_map, tlen]
    refine ⟨_, rfl, _, hL2', _, hL3, szL (by omega), fun p4 hp4 => ⟨_, SqL.of upd_same, new_ fun p5 H5 hp5 k5 a5 => ?_⟩⟩
    have k4 := same_new (o := .lst (ys2 ++ ys3)) hp4
    refine q p5 H5 (e1.free (e2.free (e3.free (k4.free hp5)))) (e1.trans (e2.trans (e3.trans (k4.trans k5)))) ?_
    rw [a5, cut_hi, p2, p3, ← List.map_append, ← List.map_take, hkb]
  have hAok : c / 26 % 2 = 0 ∧ (many : Int) < 9 → A H1 := by
    intro ⟨h1, h2⟩
    rw [hA]
    walk_at "rd"
    have hkb : kinBy c many = (List.range many).map fun k => (kinWord c).take (k + 1) := by
      unfold kinBy
      rw [if_pos ⟨h1, by omega⟩]
    refine ⟨by omega, by omega, lcR (fun i acc _ => acc = (List.range i).map fun k => .str (mkS ((kinWord c).take (k + 1)))) (fun _ _ _ _ _ h => h) (by omega) (fun _ => rfl) rfl ?_ ?_⟩
    · intro i acc H2 hi hl e2 p Qy hy Qn hn
      walk_at "rd"
      have hi' : i < many := by simpa using hi
      rw [Int.zero_add, show (i : Int) + 1 = ((i + 1 : Nat) : Int) from rfl, mkS_hi _ _ (by omega), mkS_len]
      refine ⟨szL (by omega), hy _ _ (Same.refl _) ?_⟩
      show _ = (List.range (i + 1)).map fun k => V.str (mkS ((kinWord c).take (k + 1)))
      rw [p, List.range_succ, List.map_append]
      rfl
    · intro D2 ys2 H2 hD2 e2 hL2 p2
      refine q D2 H2 (e1.free hD2) (e1.trans e2) ?_
      rw [hL2, p2, hkb, List.map_map, Int.toNat_natCast]
      rfl
  refine ⟨by decide, by decide, by decide, ?_⟩
  split
  · split
    · exact hAok ⟨by assumption, by assumption⟩
    · exact hBok fun h => absurd h.2 (by assumption)
  · exact hBok fun h => absurd h.1 (by assumption)
end

abbrev s__law_name_by : Stmt := topS 10
abbrev N__law_name_by : List Str := ["_law_cell", "_law_letters", "_law_round_it", "_law_turn", "_law_at", "_law_word"]
theorem sc__law_name_by : FnScope N__law_name_by ["_law_cell"] (defScope s__law_name_by) := ⟨rfl, rfl, rfl, by decide +kernel, rfl, by decide +kernel, by decide +kernel⟩
theorem bd__law_name_by : BindAll "_law_name_by" s__law_name_by ["_law_cell"] := fun _ _ _ _ _ _ us hl => match us, hl with | [_], _ => rfl
theorem st__law_name_by (v0 : V) : start N__law_name_by [v0] = [some v0, none, none, none, none, none] := rfl
section
variable {P : Program} {w : World} {K : PySem.W.Frag} {mg : Str → Option Value} {base : Heap} 
theorem df_name (T : Bt mg) (F : FunAt K mg "_law_name_by" s__law_name_by) : Df P w K mg base 1 "_law_name_by" ["_law_cell"] (spName 7) := by
  refine F.df sc__law_name_by bd__law_name_by (fun vs H Q E h => ?_) (fun f cdv A outer s H vs Q E hr h => ?_)
  · obtain ⟨_, rfl, _⟩ := h; rfl
  obtain ⟨c, rfl, q⟩ := h
  have nd := sc__law_name_by.nd
  refine ⟨_, (pss_cons (ps_set (i := 1) nd rfl (Or.inl rfl) pe_str)
  (pss_cons (ps_set (i := 2) nd rfl (Or.inl rfl) pe_str)
  (pss_cons (ps_for PassesOwn.never rfl (pi_range1 rfl T.range (pa_cons (pe_op op_mod (pe_op op_fdiv (pv 0) pe_int) pe_int) pa_nil)) (pg_name (i := 3) nd rfl (Or.inl rfl))
    (pss_one (ps_set (i := 2) nd rfl (Or.inl rfl) (pe_op op_add_str (pv 2) (pe_ix ix_str (pv 1) (pe_op op_mod (pe_op op_add (pe_op op_fdiv (pv 0) pe_int) (pe_op op_mul pe_int (pv 3))) pe_int) (fun _ _ => rfl))))))
  (pss_cons (ps_set (i := 4) nd rfl (Or.inl rfl) (pe_op op_mod (pe_op op_fdiv (pv 0) pe_int) (pe_op op_add (pe_callB call_len_str (by rfl) T.len PySem.boot_len (pa_cons (pv 2) pa_nil)) pe_int)))
  (pss_cons (ps_set (i := 5) nd rfl (Or.inl rfl) (pe_op op_add_str (pe_op op_add_str (pe_slice sl_str (pv 2) po_none (po_some (pv 4))) (pe_ix ix_str (pv 1) (pe_op op_mod (pv 0) pe_int) (fun _ _ => rfl))) (pe_slice sl_str (pv 2) (po_some (pv 4)) po_none)))
  (pss_cons (ps_if (pt_cmpR op_in_seq (pv 5) (pe_tup (pa_cons pe_str (pa_cons pe_str (pa_cons pe_str (pa_cons pe_str (pa_cons pe_str (pa_cons pe_str (pa_cons pe_str (pa_cons pe_str pa_nil))))))))) rfl)
    (pss_one (ps_ret (pe_ix ix_str (pv 1) (pe_op op_mod (pv 0) pe_int) (fun _ _ => rfl))))
    pss_nil)
  (pss_one (ps_ret (pv 5))))))))), ?_⟩
  rw [st__law_name_by]
  refine seq_ fun R hR => ?_
  walk_at "rd"
  rw [hR]; clear hR
  refine seq_ fun R hR => ?_
  walk_at "rd"
  rw [hR]; clear hR
  refine seq_ fun R hR => ?_
  walk_at "rd"
  have h0 : 0 ≤ c / 26 % 8 := Int.emod_nonneg _ (by decide)
  have h1 : c / 26 % 8 < 8 := Int.emod_lt_of_pos _ (by decide)
  refine ⟨by decide, by decide, by decide, by omega, by omega, forR (fun i σ H' => ∃ o3, σ = [some (.int c), some (.str (mkS abc)), some (.str (mkS ((othersOf 7 c).take i))), o3, none, none] ∧ Same H H') ⟨none, by rw [List.take_zero, mkS_nil, abc_eq], Same.refl _⟩ ?_ ?_⟩
  · rintro i σ H1 hi ⟨o3, rfl, e1⟩ N hN
    walk_at "rd"
    have hi' : i < (c / 26 % 8).toNat := hi
    have ho := othersOf_len 5 c
    have hol : (othersOf 7 c).length = (c / 26 % 8).toNat := by simp [othersOf]
    have hoi : (othersOf 7 c).take (i + 1) = (othersOf 7 c).take i ++ [lett (c / 208 + 7 * (i : Int))] := by
      rw [List.take_succ]
      congr 1
      simp only [othersOf, List.getElem?_map, List.getElem?_range hi', Option.map_some, Option.toList_some]
    refine ⟨by decide, by decide, .inl (by decide), by decide, by decide, _, lett_at _, ?_, hN _ _ ⟨some (.int (0 + (i : Int))), ?_, e1⟩⟩
    · rw [one_sign, mkS_len, mkS_len, List.length_take]
      simp only [List.length_cons, List.length_nil]
      exact szL (by omega)
    · rw [one_sign, mkS_app, hoi, Int.zero_add]
  · rintro σ H1 ⟨o3, rfl, e1⟩
    show R _ _
    rw [hR]; clear hR
    have ho := othersOf_len 5 c
    have hol : (othersOf 7 c).length = (c / 26 % 8).toNat := by simp [othersOf]
    rw [← hol, List.take_length]
    refine seq_ fun R hR => ?_
    walk_at "rd"
    rw [mkS_len]
    refine ⟨by decide, by decide, szL (by omega), by omega, ?_⟩
    rw [hR]; clear hR
    refine seq_ fun R hR => ?_
    walk_at "rd"
    have hk0 : 0 ≤ c / 208 % (((othersOf 7 c).length : Int) + 1) := Int.emod_nonneg _ (by omega)
    have hk1 : c / 208 % (((othersOf 7 c).length : Int) + 1) < ((othersOf 7 c).length : Int) + 1 := Int.emod_lt_of_pos _ (by omega)
    have hne : nameBy 7 c = wordOf (othersOf 7 c) (c / 208 % (((othersOf 7 c).length : Int) + 1)).toNat (lett c) := by
      rfl
    obtain ⟨k, hk⟩ : ∃ k : Nat, c / 208 % (((othersOf 7 c).length : Int) + 1) = (k : Int) := ⟨(c / 208 % (((othersOf 7 c).length : Int) + 1)).toNat, by omega⟩
    rw [hk] at hk0 hk1 hne ⊢
    rw [Int.toNat_natCast] at hne
    have hkl : k ≤ (othersOf 7 c).length := by omega
    have lw := wordOf_len (othersOf 7 c) k (lett c)
    rw [mkS_hi _ _ hkl, mkS_lo _ _ hkl]
    simp only [mkS_len]
    refine ⟨szL (by omega), by decide, by decide, _, lett_at _, ?_, szL (by omega), ?_, ?_⟩
    · rw [one_sign, mkS_len, List.length_take]
      simp only [List.length_cons, List.length_nil]
      exact szL (by omega)
    · rw [one_sign, mkS_app, mkS_len]
      simp only [List.length_append, List.length_take, List.length_cons, List.length_nil, List.length_drop]
      exact szL (by omega)
    rw [one_sign, mkS_app, mkS_app, hR]; clear hR
    refine seq_ fun R hR => ?_
    walk_at "rd"
    refine new_ fun p H2 hp k2 a2 => ⟨_, .inr (SqT.of a2), rfl, rfl, ?_⟩
    rw [in_reserved]
    split
    · rename_i hres
      have hres := of_decide_eq_true hres
      refine ⟨by decide, by decide, _, lett_at _, ?_⟩
      rw [one_sign]
      have e : nameBy 7 c = [lett c] := by rw [hne]; unfold wordOf; rw [if_pos hres]
      rw [← e]
      exact q _ (e1.trans k2)
    · rename_i hres
      rw [hR]; clear hR
      walk_at "rd"
      have e : nameBy 7 c = (othersOf 7 c).take k ++ [lett c] ++ (othersOf 7 c).drop k := by
        rw [hne]; unfold wordOf
        rw [if_neg (fun h => hres (decide_eq_true h))]
      rw [← e]
      exact q _ (e1.trans k2)
end

abbrev s__law_joined : Stmt := topS 11
abbrev N__law_joined : List Str := ["_law_kind", "_law_name", "_law_one", "_law_other"]
theorem sc__law_joined : FnScope N__law_joined ["_law_kind", "_law_name", "_law_one", "_law_other"] (defScope s__law_joined) := ⟨rfl, rfl, rfl, by decide +kernel, rfl, by decide +kernel, by decide +kernel⟩
theorem bd__law_joined : BindAll "_law_joined" s__law_joined ["_law_kind", "_law_name", "_law_one", "_law_other"] := fun _ _ _ _ _ _ us hl => match us, hl with | [_, _, _, _], _ => rfl
theorem st__law_joined (v0 v1 v2 v3 : V) : start N__law_joined [v0, v1, v2, v3] = [some v0, some v1, some v2, some v3] := rfl
section
variable {P : Program} {w : World} {K : PySem.W.Frag} {mg : Str → Option Value} {base : Heap}
theorem df_joined (T : Bt mg) (F : FunAt K mg "_law_joined" s__law_joined) : Df P w K mg base 1 "_law_joined" ["_law_kind", "_law_name", "_law_one", "_law_other"] spJoined := by
  refine F.df sc__law_joined bd__law_joined (fun vs H Q E h => ?_) (fun f cdv A outer s H vs Q E hr h => ?_)
  · obtain ⟨_, _, _, _, _, _, rfl, _⟩ := h; rfl
  obtain ⟨k, x, a, b, u, v, rfl, ha, hb, q⟩ := h
  have nd := sc__law_joined.nd
  refine ⟨_, (pss_cons (ps_if (pt_cmpR op_eq (pv 0) pe_int (nomark _))
    (pss_one (ps_ret (pe_tup (pa_cons pe_str (pa_cons (pe_tup (pa_cons pe_str (pa_cons (pv 1) (pa_cons (pv 2) pa_nil)))) (pa_cons (pv 3) pa_nil))))))
    pss_nil)
  (pss_cons (ps_if (pt_cmpR op_eq (pv 0) pe_int (nomark _))
    (pss_one (ps_ret (pe_tup (pa_cons pe_str (pa_cons (pv 2) (pa_cons (pv 3) pa_nil))))))
    pss_nil)
  (pss_cons (ps_if (pt_cmpR op_eq (pv 0) pe_int (nomark _))
    (pss_one (ps_ret (pe_tup (pa_cons pe_str (pa_cons (pv 2) (pa_cons (pv 3) pa_nil))))))
    pss_nil)
  (pss_cons (ps_if (pt_cmpR op_eq (pv 0) pe_int (nomark _))
    (pss_one (ps_ret (pe_tup (pa_cons pe_str (pa_cons (pv 2) (pa_cons (pv 3) (pa_cons (pe_tup (pa_cons pe_str (pa_cons (pv 1) pa_nil))) pa_nil)))))))
    pss_nil)
  (pss_one (ps_ret (pe_tup (pa_cons pe_str (pa_cons (pv 1) (pa_cons (pv 2) (pa_cons (pv 3) pa_nil))))))))))), ?_⟩
  rw [st__law_joined]
  refine seq_ fun R hR => ?_
  walk_at "rd"
  by_cases h6 : k = 6
  · rw [if_pos h6]
    refine new_ fun p H1 hp k1 a1 => new_ fun r H2 hr k2 a2 => q _ _ (k1.trans k2) ?_
    rw [joined, if_pos h6]
    exact ⟨r, _, _, rfl, a2, ⟨p, _, rfl, k2 _ _ a1, ha.mono (same_kt (k1.trans k2))⟩, hb.mono (same_kt (k1.trans k2))⟩
  rw [if_neg h6, hR]; clear hR
  refine seq_ fun R hR => ?_
  walk_at "rd"
  by_cases h7 : k = 7
  · rw [if_pos h7]
    refine new_ fun r H2 hr k2 a2 => q _ _ k2 ?_
    rw [joined, if_neg h6, if_pos h7]
    exact ⟨r, _, _, rfl, a2, ha.mono (same_kt k2), hb.mono (same_kt k2)⟩
  rw [if_neg h7, hR]; clear hR
  refine seq_ fun R hR => ?_
  walk_at "rd"
  by_cases h8 : k = 8
  · rw [if_pos h8]
    refine new_ fun r H2 hr k2 a2 => q _ _ k2 ?_
    rw [joined, if_neg h6, if_neg h7, if_pos h8]
    exact ⟨r, _, _, rfl, a2, ha.mono (same_kt k2), hb.mono (same_kt k2)⟩
  rw [if_neg h8, hR]; clear hR
  refine seq_ fun R hR => ?_
  walk_at "rd"
  by_cases h9 : k = 9
  · rw [if_pos h9]
    refine new_ fun p H1 hp k1 a1 => new_ fun r H2 hr k2 a2 => q _ _ (k1.trans k2) ?_
    rw [joined, if_neg h6, if_neg h7, if_neg h8, if_pos h9]
    exact ⟨r, _, _, _, rfl, a2, ha.mono (same_kt (k1.trans k2)), hb.mono (same_kt (k1.trans k2)), ⟨p, rfl, k2 _ _ a1⟩⟩
  rw [if_neg h9, hR]; clear hR
  walk_at "rd"
  refine new_ fun r H2 hr k2 a2 => q _ _ k2 ?_
  rw [joined, if_neg h6, if_neg h7, if_neg h8, if_neg h9]
  exact ⟨r, _, _, rfl, a2, ha.mono (same_kt k2), hb.mono (same_kt k2)⟩
end

end K03

namespace K03
open PySem L2 My
open PyProof.Rows (envOfC)
local macro_rules | `(tactic| walk_at "rd") => `(tactic| simp only [My.ife, My.tFor_eq, My.cx_K, My.cx_w, My.rRdK, My.rNeSelf, rIsi, tAsg, tDrop, tChain, tThenZ, kTyp, My.rInK, My.rMulS, iStr, V.ty.injEq, rAll, rU, tRet, tRetN, tIfS, tVar, tC, tOp, tUn, rI0, rI, rEq, rNe, CDiv, CMul, CPow, My.tTup_eq, My.tLst_eq, My.tDNewK_eq, My.tRevL_eq, My.tRevS, tM1, tM0, My.sz0, My.sz1, My.sz2, My.sz3, My.sz4, My.sz5, My.sz8, tCons, tNil, My.tCallD, tCB, gName, gTup, gCons, gNil, gSub, tTest, tB, tAnd, tOr, tNot, tIf, tAndV, tOrV, tNotV, rSetL, rSlS, rIxL, rIxT, rIxS, My.rSlT_eq, My.rSlL_eq, rIn, rCat, tLc_eq, iList, iTup, iRng1, iRng2, iRng3, wipe, List.map_cons, List.map_nil, tSl, tPart, tNoPart, tBM, tBM0, rAppend, My.rPopL, rExtend, My.rExtendT, tNext, tBreak, tCont, My.scal_ii, My.scal_ss, My.scal_bb, My.scal_is, My.scal_si, ipI, rListD, sDPut, tDGet, tDGet2, tAug, List.getElem?_cons_zero, List.getElem?_cons_succ, List.set_cons_zero, List.set_cons_succ, Option.some.injEq, exists_eq_left', exists_eq_left, V.int.injEq, V.ref.injEq, V.str.injEq, V.bl.injEq, exists_and_left, true_and, and_true, List.cons.injEq, exists_const, Bool.false_eq_true, ↓reduceIte, reduceCtorEq, false_and, and_assoc, decide_true, decide_false])
local macro_rules | `(tactic| walk_at "st") => `(tactic| (refine My.seq_ fun R hR => ?_))
local macro_rules | `(tactic| walk_at "sd") => `(tactic| repeat (first | refine ⟨by decide, ?_⟩ | refine ⟨.inl (by decide), ?_⟩))

abbrev s__law_tree_by : Stmt := topS 12
abbrev N__law_tree_by : List Str := ["_law_cells", "_law_names", "_law_stack", "_law_cell", "_law_kind", "_law_more", "_law_name", "_law_other"]
theorem sc__law_tree_by : FnScope N__law_tree_by ["_law_cells", "_law_names"] (defScope s__law_tree_by) := ⟨rfl, rfl, rfl, by decide +kernel, rfl, by decide +kernel, by decide +kernel⟩
theorem bd__law_tree_by : BindAll "_law_tree_by" s__law_tree_by ["_law_cells", "_law_names"] := fun _ _ _ _ _ _ us hl => match us, hl with | [_, _], _ => rfl
theorem st__law_tree_by (v0 v1 : V) : start N__law_tree_by [v0, v1] = [some v0, some v1, none, none, none, none, none, none] := rfl
section
variable {P : Program} {w : World} {K : PySem.W.Frag} {mg : Str → Option Value} {base : Heap}
theorem df_tree (T : Bt mg) (F : FunAt K mg "_law_tree_by" s__law_tree_by) (D__law_joined : Df P w K mg base 1 "_law_joined" ["_law_kind", "_law_name", "_law_one", "_law_other"] spJoined) : Df P w K mg base 2 "_law_tree_by" ["_law_cells", "_law_names"] (spTreeN K 4 5) := by
  refine F.df sc__law_tree_by bd__law_tree_by (fun vs H Q E h => ?_) (fun f cdv A outer s H vs Q E hr h => ?_)
  · obtain ⟨_, _, _, _, rfl, _⟩ := h; rfl
  obtain ⟨a, b, ns, xs, rfl, ha, hns, hb, hxn, q⟩ := h
  have nd := sc__law_tree_by.nd
  refine ⟨_, (pss_cons (ps_set (i := 2) nd rfl (Or.inl rfl) (pe_lst pa_nil))
  (pss_cons (ps_for PassesOwn.never rfl (pi_list (pv 0)) (pg_name (i := 3) nd rfl (Or.inl rfl))
    (pss_cons (ps_set (i := 4) nd rfl (Or.inl rfl) (pe_op op_mod (pv 3) pe_int))
      (pss_cons (ps_set (i := 5) nd rfl (Or.inl rfl) (pe_op op_fdiv (pv 3) pe_int))
      (pss_cons (ps_set (i := 6) nd rfl (Or.inl rfl) (pe_ix ix_list (pv 1) (pe_op op_mod (pv 5) pe_int) (fun _ _ => rfl)))
      (pss_one (ps_if (PW.pt (pw_or (pt_cmpR op_lt (pv 4) pe_int (nomark _)) (pw_or1 (PW.pt (pw_and (pt_not (pt_truth (pv 2) (by intro _; rfl))) (pw_and1 (pt_cmpR op_eq (pe_op op_mod (pv 4) pe_int) pe_int (nomark _))))))))
        (pss_one (ps_expr (pe_bm PySem.F.plainAttrs_list PySem.F.slot_list_append PySem.F.type_list_append mt_append (pv 2) (pa_cons (pe_tup (pa_cons pe_str (pa_cons (pv 6) pa_nil))) pa_nil))))
        (pss_one (ps_if (PW.pt (pw_or (pt_cmpR op_eq (pv 4) pe_int (nomark _)) (pw_or1 (pt_not (pt_truth (pv 2) (by intro _; rfl))))))
            (pss_one (ps_expr (pe_bm PySem.F.plainAttrs_list PySem.F.slot_list_append PySem.F.type_list_append mt_append (pv 2) (pa_cons (pe_tup (pa_cons pe_str (pa_cons (pe_op op_mod (pv 5) (pe_op op_pow pe_int pe_int)) pa_nil))) pa_nil))))
            (pss_one (ps_if (pt_cmpR op_eq (pv 4) pe_int (nomark _))
                (pss_one (ps_asg (pe_tup (pa_cons pe_str (pa_cons (pv 6) (pa_cons (pe_ix ix_list (pv 2) (pe_un un_neg pe_int) (fun _ _ => rfl)) pa_nil)))) (pg_sub (pv 2) (pe_un un_neg pe_int) set_list)))
                (pss_one (ps_if (pt_cmpR op_eq (pv 4) pe_int (nomark _))
                    (pss_one (ps_asg (pe_tup (pa_cons pe_str (pa_cons (pe_ix ix_list (pv 2) (pe_un un_neg pe_int) (fun _ _ => rfl)) (pa_cons (pe_tup (pa_cons pe_str (pa_cons (pv 6) pa_nil))) pa_nil)))) (pg_sub (pv 2) (pe_un un_neg pe_int) set_list)))
                    (pss_one (ps_if (pt_cmpR op_eq (pv 4) pe_int (nomark _))
                        (pss_one (ps_asg (pe_tup (pa_cons pe_str (pa_cons (pv 6) (pa_cons (pe_tup (pa_cons pe_str (pa_cons (pv 6) pa_nil))) (pa_cons (pe_ix ix_list (pv 2) (pe_un un_neg pe_int) (fun _ _ => rfl)) pa_nil))))) (pg_sub (pv 2) (pe_un un_neg pe_int) set_list)))
                        (pss_one (ps_if (pt_cmpR op_eq (pe_callB call_len_seq (by rfl) T.len PySem.boot_len (pa_cons (pv 2) pa_nil)) pe_int (nomark _))
                            (pss_one (ps_asg (pe_tup (pa_cons pe_str (pa_cons (pe_tup (pa_cons pe_str (pa_cons (pv 6) pa_nil))) (pa_cons (pe_ix ix_list (pv 2) (pe_un un_neg pe_int) (fun _ _ => rfl)) pa_nil)))) (pg_sub (pv 2) (pe_un un_neg pe_int) set_list)))
                            (pss_cons (ps_set (i := 7) nd rfl (Or.inl rfl) (pe_bm0 PySem.F.plainAttrs_list PySem.F.slot_list_pop PySem.F.type_list_pop mt_popL (pv 2)))
                              (pss_one (ps_asg (pe_callD D__law_joined hr (by decide) rfl (pa_cons (pv 4) (pa_cons (pv 6) (pa_cons (pe_ix ix_list (pv 2) (pe_un un_neg pe_int) (fun _ _ => rfl)) (pa_cons (pv 7) pa_nil))))) (pg_sub (pv 2) (pe_un un_neg pe_int) set_list))))))))))))))))))))
  (pss_cons (ps_while PassesOwn.never (pt_cmpR op_gt (pe_callB call_len_seq (by rfl) T.len PySem.boot_len (pa_cons (pv 2) pa_nil)) pe_int (nomark _))
    (pss_cons (ps_set (i := 7) nd rfl (Or.inl rfl) (pe_bm0 PySem.F.plainAttrs_list PySem.F.slot_list_pop PySem.F.type_list_pop mt_popL (pv 2)))
      (pss_one (ps_asg (pe_tup (pa_cons pe_str (pa_cons (pe_ix ix_list (pv 1) (pe_op op_mod (pe_callB call_len_seq (by rfl) T.len PySem.boot_len (pa_cons (pv 2) pa_nil)) pe_int) (fun _ _ => rfl)) (pa_cons (pe_ix ix_list (pv 2) (pe_un un_neg pe_int) (fun _ _ => rfl)) (pa_cons (pv 7) pa_nil))))) (pg_sub (pv 2) (pe_un un_neg pe_int) set_list)))))
  (pss_cons (ps_if (pt_truth (pv 2) (by intro _; rfl))
    (pss_one (ps_ret (pe_ix ix_list (pv 2) pe_int (fun _ _ => rfl))))
    pss_nil)
  (pss_one (ps_ret (pe_tup (pa_cons pe_str (pa_cons (pe_ix ix_list (pv 1) pe_int (fun _ _ => rfl)) pa_nil))))))))), ?_⟩
  rw [st__law_tree_by]
  refine seq_ fun R hR => ?_
  walk_at "rd"
  refine new_ fun l H0 hl k0 a0 => ?_
  rw [hR]; clear hR
  refine seq_ fun R hR => ?_
  refine ⟨_, rfl, a, rfl, ⟨_, k0.seq ha⟩, for_list (xs := ns.map V.int) (fun i σ H' => ∃ (vs : List V) (ts : List Tr) (o3 o4 o5 o6 o7 : Option V), σ = [some (.ref a), some (.ref b), some (.ref l), o3, o4, o5, o6, o7] ∧
    Stk H l (· ∈ xs) N60 H' vs ts ∧ sizes ts + ts.length ≤ 5 * i ∧ ts.length ≤ i) ?_ ?_ ?_ ?_⟩
  · exact ⟨[], [], none, none, none, none, none, rfl, ⟨k0, a0, .nil, fun _ h => absurd h (by simp)⟩, by simp [sizes], Nat.le_refl _⟩
  · rintro i σ H1 _ ⟨vs, ts, _, _, _, _, _, _, S, _⟩
    exact S.same.seq ha
  · rintro i y0 σ H1 hi ⟨vs, ts, o3, o4, o5, o6, o7, rfl, S, h1, h2⟩
    obtain ⟨c, rfl⟩ : ∃ c, y0 = V.int c := by
      rw [List.getElem?_map] at hi
      cases e : ns[i]? with
      | none => rw [e] at hi; cases hi
      | some u => rw [e] at hi; exact ⟨u, (Option.some.inj hi).symm⟩
    walk_at "rd"
    have il : i < ns.length := by
      have := (List.getElem?_eq_some_iff.mp hi).1
      rwa [List.length_map] at this
    obtain ⟨x, hx, ax⟩ := at_nm hxn (by decide) (c / 11)
    obtain ⟨y, hy, ay⟩ := at_nm hxn (by decide) (c / 11 / 4)
    obtain ⟨z, hz, az⟩ := at_nm hxn (by decide) (c / 11 / 16)
    refine seq_ fun R1 hR1 => ?_
    walk_at "rd"
    walk_at "sd"
    rw [hR1]; clear hR1
    refine seq_ fun R1 hR1 => ?_
    walk_at "rd"
    walk_at "sd"
    rw [hR1]; clear hR1
    refine seq_ fun R1 hR1 => ?_
    walk_at "rd"
    walk_at "sd"
    have hb1 := S.same.seq hb
    refine ⟨_, hb1, _, ax, ?_⟩
    rw [hR1]; clear hR1
    have ty : ∀ {H' vs'}, H' l = some (.lst vs') → tyV K "list" (.ref l) H' := fun h => .inl ⟨rfl, _, SqL.of h⟩
    have vl : vs.length ≤ 60 := by have := S.len; omega
    have bs : ∀ {t : Tr}, t.size ≤ 4 → sizes (ts ++ [t]) + (ts ++ [t]).length ≤ 5 * (i + 1) := fun h => by rw [sizes_append, sizes_cons, sizes_nil, List.length_append, List.length_singleton]; omega
    have bl : ∀ {t : Tr}, (ts ++ [t]).length ≤ i + 1 := by intro t; rw [List.length_append, List.length_singleton]; omega
    refine ifs_ fun A1 B1 hA1 hB1 => ?_
    walk_at "rd"
    have hA : A1 H1 := by
      rw [hA1]
      walk_at "rd"
      refine ⟨ty (S.at_), ?_⟩
      refine new_ fun p10 H10 hp10 k10 a10 => ?_
      have S1 := S.ext (k10)
      refine ⟨_, S1.at_, szLt (by (try simp only [List.length_append, List.length_singleton] at vl); (try simp only [List.length_append, List.length_singleton]); omega), ?_⟩
      exact ⟨_, _, S1.push hl (t := (.name x)) ⟨_, rfl, a10⟩ hx, bs (by simp only [Tr.size]; omega), bl⟩
    have hB : B1 H1 := by
      rw [hB1]
      refine ifs_ fun A2 B2 hA2 hB2 => ?_
      walk_at "rd"
      have hA : A2 H1 := by
        rw [hA2]
        walk_at "rd"
        refine ⟨ty (S.at_), ?_⟩
        walk_at "sd"
        refine new_ fun p10 H10 hp10 k10 a10 => ?_
        have S1 := S.ext (k10)
        refine ⟨_, S1.at_, szLt (by (try simp only [List.length_append, List.length_singleton] at vl); (try simp only [List.length_append, List.length_singleton]); omega), ?_⟩
        exact ⟨_, _, S1.push hl (t := (.num _)) ⟨_, rfl, a10⟩ (by first | exact n60n _ | exact n60a _), bs (by simp only [Tr.size]; omega), bl⟩
      by_cases c3 : c % 11 = 2
      · rw [if_pos c3]; exact hA
      rw [if_neg c3]
      refine ⟨!vs.isEmpty, .inl ⟨vs, SqL.of S.at_, rfl⟩, ?_⟩
      rcases List.eq_nil_or_concat vs with e0 | ⟨ys, v, e0⟩
      · subst e0; exact hA
      rw [List.concat_eq_append] at e0
      subst e0
      have e1 : (!(!(ys ++ [v]).isEmpty)) = false := by simp
      rw [e1, if_neg Bool.false_ne_true, hB2]
      obtain ⟨us, t, rfl, ht, hta, hus, husa⟩ := S.top
      have yl : ys.length ≤ 59 := by rw [List.length_append, List.length_singleton] at vl; omega
      have bs0 := @bs
      have bl0 := @bl
      have bs : ∀ {u : Tr}, u.size ≤ t.size + 4 → sizes (us ++ [u]) + (us ++ [u]).length ≤ 5 * (i + 1) := fun h => by rw [sizes_append, sizes_cons, sizes_nil, List.length_append, List.length_singleton] at h1 ⊢; omega
      have bl : ∀ {u : Tr}, (us ++ [u]).length ≤ i + 1 := by intro u; rw [List.length_append, List.length_singleton] at h2 ⊢; omega
      clear hB2 hA hA2 hB1 hA1
      refine ifs_ fun A3 B3 hA3 hB3 => ?_
      walk_at "rd"
      by_cases c4 : c % 11 = 3
      · rw [if_pos c4, hA3]
        walk_at "rd"
        refine ⟨_, SqL.of (S.at_), _, atI_last _ _, ?_⟩
        refine new_ fun p10 H10 hp10 k10 a10 => ?_
        have S1 := S.ext (k10)
        refine ⟨_, S1.at_, _, ixN_last _ _, ?_⟩
        rw [set_last]
        exact ⟨_, _, S1.put hl (u := (.fn x t)) ⟨_, _, rfl, a10, (ht.mono (same_kt (k10)))⟩ ⟨hx, hta⟩, bs (by simp only [Tr.size]; omega), bl⟩
      rw [if_neg c4, hB3]; clear hB3 hA3
      refine ifs_ fun A3 B3 hA3 hB3 => ?_
      walk_at "rd"
      by_cases c4 : c % 11 = 4
      · rw [if_pos c4, hA3]
        walk_at "rd"
        refine ⟨_, SqL.of (S.at_), _, atI_last _ _, ?_⟩
        refine new_ fun p10 H10 hp10 k10 a10 => ?_
        refine new_ fun p11 H11 hp11 k11 a11 => ?_
        have S1 := S.ext (k10.trans (k11))
        refine ⟨_, S1.at_, _, ixN_last _ _, ?_⟩
        rw [set_last]
        exact ⟨_, _, S1.put hl (u := (.call t (.name x))) ⟨_, _, _, rfl, a11, (ht.mono (same_kt (k10.trans (k11)))), ⟨_, rfl, k11 _ _ (a10)⟩⟩ ⟨hta, hx⟩, bs (by simp only [Tr.size]; omega), bl⟩
      rw [if_neg c4, hB3]; clear hB3 hA3
      refine ifs_ fun A3 B3 hA3 hB3 => ?_
      walk_at "rd"
      by_cases c4 : c % 11 = 5
      · rw [if_pos c4, hA3]
        walk_at "rd"
        refine new_ fun p10 H10 hp10 k10 a10 => ?_
        refine ⟨_, SqL.of (k10 _ _ (S.at_)), _, atI_last _ _, ?_⟩
        refine new_ fun p11 H11 hp11 k11 a11 => ?_
        have S1 := S.ext (k10.trans (k11))
        refine ⟨_, S1.at_, _, ixN_last _ _, ?_⟩
        rw [set_last]
        exact ⟨_, _, S1.put hl (u := (.lt x (.name x) t)) ⟨_, _, _, rfl, a11, ⟨_, rfl, k11 _ _ (a10)⟩, (ht.mono (same_kt (k10.trans (k11))))⟩ ⟨hx, hx, hta⟩, bs (by simp only [Tr.size]; omega), bl⟩
      rw [if_neg c4, hB3]; clear hB3 hA3
      refine ifs_ fun A3 B3 hA3 hB3 => ?_
      walk_at "rd"
      refine ⟨_, .inl (SqL.of S.at_), ?_⟩
      by_cases c4 : (((ys ++ [v]).length : Nat) : Int) = 1
      · rw [if_pos c4, hA3]
        walk_at "rd"
        refine new_ fun p10 H10 hp10 k10 a10 => ?_
        refine ⟨_, SqL.of (k10 _ _ (S.at_)), _, atI_last _ _, ?_⟩
        refine new_ fun p11 H11 hp11 k11 a11 => ?_
        have S1 := S.ext (k10.trans (k11))
        refine ⟨_, S1.at_, _, ixN_last _ _, ?_⟩
        rw [set_last]
        exact ⟨_, _, S1.put hl (u := (.less (.name x) t)) ⟨_, _, _, rfl, a11, ⟨_, rfl, k11 _ _ (a10)⟩, (ht.mono (same_kt (k10.trans (k11))))⟩ ⟨hx, hta⟩, bs (by simp only [Tr.size]; omega), bl⟩
      rw [if_neg c4, hB3]; clear hB3 hA3
      refine seq_ fun R hR => ?_
      walk_at "rd"
      refine ⟨ty S.at_, _, _, S.at_, ?_⟩
      obtain ⟨S2, _, _⟩ := S.pop hl
      have ht2 := ht.mono (kt_lst (o := .lst ys) S.at_)
      rw [hR]; clear hR
      walk_at "rd"
      rcases List.eq_nil_or_concat ys with e2 | ⟨zs, zv, e2⟩
      · subst e2; exact absurd rfl c4
      rw [List.concat_eq_append] at e2
      subst e2
      obtain ⟨us2, t2, rfl, hzt, hza, _, _⟩ := S2.top
      refine ⟨_, SqL.of S2.at_, _, atI_last _ _, _, x, t2, t, zv, v, rfl, hzt, ht2, fun r H2 k2 hr2 => ⟨_, (S2.ext k2).at_, _, ixN_last _ _, ?_⟩⟩
      rw [set_last]
      refine ⟨_, _, (S2.ext k2).put hl hr2 (joined_all hx hza hta), ?_, ?_⟩
      · have js := joined_size (c % 11) x t2 t
        rw [sizes_append, sizes_append, sizes_cons, sizes_cons, sizes_nil] at h1
        rw [sizes_append, sizes_cons, sizes_nil]
        simp only [List.length_append, List.length_singleton] at h1 ⊢
        omega
      · simp only [List.length_append, List.length_singleton] at h2 ⊢
        omega
    by_cases c0 : c % 11 < 2
    · rw [if_pos c0]; exact hA
    · rw [if_neg c0]
      refine ⟨!vs.isEmpty, .inl ⟨vs, SqL.of S.at_, rfl⟩, ?_⟩
      split
      · refine ⟨by decide, ?_⟩
        split
        · exact hA
        · exact hB
      · exact hB
  · rintro σ H1 ⟨vs, ts, o3, o4, o5, o6, o7, rfl, S, h1, h2⟩
    have hxl : (xs.map V.str).length = xs.length := List.length_map _
    have hnl : (ns.map V.int).length = ns.length := List.length_map _
    have ty : ∀ {H' vs'}, H' l = some (.lst vs') → tyV K "list" (.ref l) H' := fun h => .inl ⟨rfl, _, SqL.of h⟩
    show R _ _
    rw [hR]; clear hR
    refine seq_ fun R hR => ?_
    refine whileB_ (fun m σ H' => ∃ (vs : List V) (ts : List Tr) (o' : Option V), σ = [some (.ref a), some (.ref b), some (.ref l), o3, o4, o5, o6, o'] ∧
      Stk H l (· ∈ xs) N60 H' vs ts ∧ sizes ts + ts.length ≤ 5 * ns.length ∧ m = ts.length) _ ⟨vs, ts, o7, rfl, S, by rw [hnl] at h1 h2; omega, rfl⟩ ?_
    rintro m σ H2 ⟨vs, ts, o', rfl, S, h3, rfl⟩ A B hA hB
    walk_at "rd"
    refine ⟨_, .inl (SqL.of S.at_), ?_⟩
    have sl := S.len
    split
    · rename_i c1
      refine hA _ fun N hN => ?_
      rcases List.eq_nil_or_concat vs with e2 | ⟨ys, v, e2⟩
      · subst e2; exact absurd c1 (by decide)
      rw [List.concat_eq_append] at e2
      subst e2
      obtain ⟨us, t, rfl, ht, hta, hus, husa⟩ := S.top
      refine seq_ fun R1 hR1 => ?_
      walk_at "rd"
      refine ⟨ty S.at_, _, _, S.at_, ?_⟩
      obtain ⟨S2, _, _⟩ := S.pop hl
      have ht2 := ht.mono (kt_lst (o := .lst ys) S.at_)
      rw [hR1]; clear hR1
      walk_at "rd"
      rcases List.eq_nil_or_concat ys with e2 | ⟨zs, zv, e2⟩
      · subst e2; exact absurd c1 (by simp)
      rw [List.concat_eq_append] at e2
      subst e2
      obtain ⟨us2, t2, rfl, hzt, hza, _, _⟩ := S2.top
      have hb1 := S2.same.seq hb
      obtain ⟨x, hx, ax⟩ := at_nm hxn (by decide) ((zs ++ [zv]).length : Nat)
      refine ⟨_, .inl (SqL.of S2.at_), by decide, _, hb1, _, ax, _, SqL.of S2.at_, _, atI_last _ _, new_ fun p H3 hp k3 a3 => ?_⟩
      have S3 := S2.ext k3
      refine ⟨_, S3.at_, _, ixN_last _ _, ?_⟩
      rw [set_last]
      refine hN _ _ _ ?_ ⟨_, _, _, rfl, S3.put hl (u := .lt x t2 t) ⟨p, _, _, rfl, a3, hzt.mono (same_kt k3), ht2.mono (same_kt k3)⟩ ⟨hx, hza, hta⟩, ?_, rfl⟩
      · simp only [List.length_append, List.length_singleton]; omega
      · simp only [sizes_append, sizes_cons, sizes_nil, List.length_append, List.length_singleton, Tr.size] at h3 ⊢
        omega
    · rename_i c1
      refine hB _ ?_
      show R _ _
      rw [hR]; clear hR
      refine seq_ fun R1 hR1 => ?_
      walk_at "rd"
      refine ⟨!vs.isEmpty, .inl ⟨vs, SqL.of S.at_, rfl⟩, ?_⟩
      rcases vs with _ | ⟨v, ws⟩
      · show R1 _ _
        rw [hR1]
        walk_at "rd"
        cases xs with
        | nil => exact absurd hxn (by decide)
        | cons x xr =>
          refine ⟨_, S.same.seq hb, _, at0 _ _, new_ fun p H3 hp k3 a3 => ?_⟩
          exact q (.name x) _ _ (S.same.trans k3) ⟨p, rfl, a3⟩ (List.mem_cons_self) (by simp [Tr.size])
      · show ∃ x_1, _
        refine ⟨_, SqL.of S.at_, _, at0 _ _, ?_⟩
        cases hA1 : S.ats with
        | cons h4 h5 =>
          rename_i t tr
          refine q t _ _ S.same h4 (S.all t (List.mem_cons_self)) ?_
          rw [sizes_cons] at h3
          omega
end

end K03

namespace K03
open PySem L2 My
open PyProof.Rows (envOfC)
local macro_rules | `(tactic| walk_at "rd") => `(tactic| simp only [My.ife, My.tFor_eq, My.cx_K, My.cx_w, My.rRdK, My.rNeSelf, rIsi, tAsg, tDrop, tChain, tThenZ, kTyp, My.rInK, My.rMulS, iStr, V.ty.injEq, rAll, rU, tRet, tRetN, tIfS, tVar, tC, tOp, tUn, rI0, rI, rEq, rNe, CDiv, CMul, CPow, My.tTup_eq, My.tLst_eq, My.tDNewK_eq, My.tRevL_eq, My.tRevS, tM1, tM0, My.sz0, My.sz1, My.sz2, My.sz3, My.sz4, My.sz5, My.sz8, tCons, tNil, My.tCallD, tCB, gName, gTup, gCons, gNil, gSub, tTest, tB, tAnd, tOr, tNot, tIf, tAndV, tOrV, tNotV, rSetL, rSlS, rIxL, rIxT, rIxS, My.rSlT_eq, My.rSlL_eq, rIn, rCat, tLc_eq, iList, iTup, iRng1, iRng2, iRng3, wipe, List.map_cons, List.map_nil, tSl, tPart, tNoPart, tBM, tBM0, rAppend, My.rPopL, rExtend, My.rExtendT, tNext, tBreak, tCont, My.scal_ii, My.scal_ss, My.scal_bb, My.scal_is, My.scal_si, ipI, rListD, sDPut, tDGet, tDGet2, tAug, List.getElem?_cons_zero, List.getElem?_cons_succ, List.set_cons_zero, List.set_cons_succ, Option.some.injEq, exists_eq_left', exists_eq_left, V.int.injEq, V.ref.injEq, V.str.injEq, V.bl.injEq, exists_and_left, true_and, and_true, List.cons.injEq, exists_const, Bool.false_eq_true, ↓reduceIte, reduceCtorEq, false_and, and_assoc, decide_true, decide_false])
local macro_rules | `(tactic| walk_at "st") => `(tactic| (refine My.seq_ fun R hR => ?_))
local macro_rules | `(tactic| walk_at "sd") => `(tactic| repeat (first | refine ⟨by decide, ?_⟩ | refine ⟨.inl (by decide), ?_⟩))

abbrev s__law_leaf : Stmt := topS 13
abbrev N__law_leaf : List Str := ["_law_one", "_law_other"]
theorem sc__law_leaf : FnScope N__law_leaf ["_law_one", "_law_other"] (defScope s__law_leaf) := ⟨rfl, rfl, rfl, by decide +kernel, rfl, by decide +kernel, by decide +kernel⟩
theorem bd__law_leaf : BindAll "_law_leaf" s__law_leaf ["_law_one", "_law_other"] := fun _ _ _ _ _ _ us hl => match us, hl with | [_, _], _ => rfl
theorem st__law_leaf (v0 v1 : V) : start N__law_leaf [v0, v1] = [some v0, some v1] := rfl
section
variable {P : Program} {w : World} {K : PySem.W.Frag} {mg : Str → Option Value} {base : Heap}
theorem df_leaf (T : Bt mg) (F : FunAt K mg "_law_leaf" s__law_leaf) : Df P w K mg base 1 "_law_leaf" ["_law_one", "_law_other"] spLeaf := by
  refine F.df sc__law_leaf bd__law_leaf (fun vs H Q E h => ?_) (fun f cdv A outer s H vs Q E hr h => ?_)
  · obtain ⟨_, _, rfl, _⟩ := h; rfl
  obtain ⟨v, hv, rfl, q⟩ := h
  have nd := sc__law_leaf.nd
  refine ⟨_, (pss_cons (ps_if (PW.pt (pw_or (pt_val (pe_callB call_isi (by rfl) T.isinstance (by decide +kernel) (pa_cons (pv 0) (pa_cons (pe_bltn (v := .ty "bool") (by rfl) T.bool (by decide +kernel) rfl) pa_nil)))) (pw_or (pt_val (pe_callB call_isi (by rfl) T.isinstance (by decide +kernel) (pa_cons (pv 1) (pa_cons (pe_bltn (v := .ty "bool") (by rfl) T.bool (by decide +kernel) rfl) pa_nil)))) (pw_or1 (pt_cmpR op_ne (pe_callB call_isi (by rfl) T.isinstance (by decide +kernel) (pa_cons (pv 0) (pa_cons (pe_bltn (v := .ty "str") (by rfl) T.str (by decide +kernel) rfl) pa_nil))) (pe_callB call_isi (by rfl) T.isinstance (by decide +kernel) (pa_cons (pv 1) (pa_cons (pe_bltn (v := .ty "str") (by rfl) T.str (by decide +kernel) rfl) pa_nil))) (nomark _))))))
    (pss_one (ps_ret pe_bl))
    pss_nil)
  (pss_one (ps_ret (pe_and (pe_or (pe_callB call_isi (by rfl) T.isinstance (by decide +kernel) (pa_cons (pv 0) (pa_cons (pe_bltn (v := .ty "str") (by rfl) T.str (by decide +kernel) rfl) pa_nil))) (pe_one (pe_and (pe_callB call_isi (by rfl) T.isinstance (by decide +kernel) (pa_cons (pv 0) (pa_cons (pe_bltn (v := .ty "int") (by rfl) T.int (by decide +kernel) rfl) pa_nil))) (pe_one (pe_callB call_isi (by rfl) T.isinstance (by decide +kernel) (pa_cons (pv 1) (pa_cons (pe_bltn (v := .ty "int") (by rfl) T.int (by decide +kernel) rfl) pa_nil))))))) (pe_one (pe_cmpR op_eq (pv 0) (pv 1) (nomark _))))))), ?_⟩
  rw [st__law_leaf]
  refine seq_ fun R hR => ?_
  walk_at "rd"
  rcases hv with ⟨i, rfl⟩ | ⟨x, rfl⟩
  · refine isi_ (isi_ib i) ?_
    rw [if_neg (by decide)]
    refine isi_ (isi_ib i) ?_
    rw [if_neg (by decide)]
    refine isi_ (isi_is i) (isi_ (isi_is i) ?_)
    rw [if_neg (by decide), hR]
    clear hR
    walk_at "rd"
    refine isi_ (isi_is i) ?_
    rw [if_neg (by decide)]
    refine isi_ (isi_ii i) ?_
    rw [if_pos rfl]
    refine isi_ (isi_ii i) ?_
    rw [if_pos rfl]
    exact q
  · refine isi_ (isi_sb x) ?_
    rw [if_neg (by decide)]
    refine isi_ (isi_sb x) ?_
    rw [if_neg (by decide)]
    refine isi_ (isi_ss x) (isi_ (isi_ss x) ?_)
    rw [if_neg (by decide), hR]
    clear hR
    walk_at "rd"
    refine isi_ (isi_ss x) ?_
    rw [if_pos rfl]
    exact q
end

abbrev s__law_put_right : Stmt := topS 14
abbrev N__law_put_right : List Str := ["_law_tree", "_law_found", "_law_name", "_law_value", "_law_todo", "_law_row", "_law_one", "_law_other", "_law_k", "_law_inner"]
theorem sc__law_put_right : FnScope N__law_put_right ["_law_tree", "_law_found", "_law_name", "_law_value"] (defScope s__law_put_right) := ⟨rfl, rfl, rfl, by decide +kernel, rfl, by decide +kernel, by decide +kernel⟩
theorem bd__law_put_right : BindAll "_law_put_right" s__law_put_right ["_law_tree", "_law_found", "_law_name", "_law_value"] := fun _ _ _ _ _ _ us hl => match us, hl with | [_, _, _, _], _ => rfl
theorem st__law_put_right (v0 v1 v2 v3 : V) : start N__law_put_right [v0, v1, v2, v3] = [some v0, some v1, some v2, some v3, none, none, none, none, none, none] := rfl
section
variable {P : Program} {w : World} {K : PySem.W.Frag} {mg : Str → Option Value} {base : Heap}
theorem df_led (T : Bt mg) (F : FunAt K mg "_law_put_right" s__law_put_right) (D__law_leaf : Df P w K mg base 1 "_law_leaf" ["_law_one", "_law_other"] spLeaf) : Df P w K mg base 2 "_law_put_right" ["_law_tree", "_law_found", "_law_name", "_law_value"] spLed := by
  refine F.df sc__law_put_right bd__law_put_right (fun vs H Q E h => ?_) (fun f cdv A outer s H vs Q E hr h => ?_)
  · obtain ⟨_, _, _, _, _, rfl, _⟩ := h; rfl
  obtain ⟨r0, x, wv, wt, hz, rfl, hr0, hb0, hw, hd0, q⟩ := h
  have nd := sc__law_put_right.nd
  refine ⟨_, (pss_cons (ps_set (i := 4) nd rfl (Or.inl rfl) (pe_lst (pa_cons (pe_tup (pa_cons (pv 0) (pa_cons (pv 1) (pa_cons pe_bl pa_nil)))) pa_nil)))
  (pss_cons (ps_while PassesOwn.never (pt_truth (pv 4) (by intro _; rfl))
    (pss_cons (ps_set (i := 5) nd rfl (Or.inl rfl) (pe_bm0 PySem.F.plainAttrs_list PySem.F.slot_list_pop PySem.F.type_list_pop mt_popL (pv 4)))
      (pss_cons (ps_set (i := 6) nd rfl (Or.inl rfl) (pe_ix ix_tup (pv 5) pe_int (fun _ _ => rfl)))
      (pss_cons (ps_set (i := 7) nd rfl (Or.inl rfl) (pe_ix ix_tup (pv 5) pe_int (fun _ _ => rfl)))
      (pss_one (ps_if (PW.pt (pw_and (pt_val (pe_callB call_isi (by rfl) T.isinstance (by decide +kernel) (pa_cons (pv 6) (pa_cons (pe_bltn (v := .ty "tuple") (by rfl) T.tuple (by decide +kernel) rfl) pa_nil)))) (pw_and (pt_cmpR op_eq (pe_callB call_len_seq (by rfl) T.len PySem.boot_len (pa_cons (pv 6) pa_nil)) pe_int (nomark _)) (pw_and (pt_cmpR op_eq (pe_ix ix_tup (pv 6) pe_int (fun _ _ => rfl)) pe_str (nomark _)) (pw_and (pt_cmpR op_eq (pe_ix ix_tup (pv 6) pe_int (fun _ _ => rfl)) (pv 2) (nomark _)) (pw_and1 (pt_not (pt_truth (pe_ix ix_tup (pv 5) pe_int (fun _ _ => rfl)) (by intro _; rfl)))))))))
        (pss_one (ps_expr (pe_bm PySem.F.plainAttrs_list PySem.F.slot_list_append PySem.F.type_list_append mt_append (pv 4) (pa_cons (pe_tup (pa_cons (pv 3) (pa_cons (pv 7) (pa_cons pe_bl pa_nil)))) pa_nil))))
        (pss_one (ps_if (pt_not (pt_val (pe_callB call_isi (by rfl) T.isinstance (by decide +kernel) (pa_cons (pv 6) (pa_cons (pe_bltn (v := .ty "tuple") (by rfl) T.tuple (by decide +kernel) rfl) pa_nil)))))
            (pss_one (ps_if (PW.pt (pw_or (pt_val (pe_callB call_isi (by rfl) T.isinstance (by decide +kernel) (pa_cons (pv 7) (pa_cons (pe_bltn (v := .ty "tuple") (by rfl) T.tuple (by decide +kernel) rfl) pa_nil)))) (pw_or1 (pt_not (pt_val (pe_callD D__law_leaf hr (by decide) rfl (pa_cons (pv 6) (pa_cons (pv 7) pa_nil))))))))
                (pss_one (ps_ret pe_bl))
                pss_nil))
            (pss_one (ps_if (PW.pt (pw_or (pt_not (pt_val (pe_callB call_isi (by rfl) T.isinstance (by decide +kernel) (pa_cons (pv 7) (pa_cons (pe_bltn (v := .ty "tuple") (by rfl) T.tuple (by decide +kernel) rfl) pa_nil))))) (pw_or1 (pt_cmpR op_ne (pe_callB call_len_seq (by rfl) T.len PySem.boot_len (pa_cons (pv 6) pa_nil)) (pe_callB call_len_seq (by rfl) T.len PySem.boot_len (pa_cons (pv 7) pa_nil)) (nomark _)))))
                (pss_one (ps_ret pe_bl))
                (pss_one (ps_for PassesOwn.never rfl (pi_range1 rfl T.range (pa_cons (pe_callB call_len_seq (by rfl) T.len PySem.boot_len (pa_cons (pv 6) pa_nil)) pa_nil)) (pg_name (i := 8) nd rfl (Or.inl rfl))
                    (pss_cons (ps_set (i := 9) nd rfl (Or.inl rfl) (pe_or (pe_ix ix_tup (pv 5) pe_int (fun _ _ => rfl)) (pe_one (pe_and (pe_cmpR op_eq (pe_ix ix_tup (pv 6) pe_int (fun _ _ => rfl)) pe_str (nomark _)) (pe_one (pe_cmpR op_eq (pe_ix ix_tup (pv 6) pe_int (fun _ _ => rfl)) (pv 2) (nomark _)))))))
                      (pss_one (ps_expr (pe_bm PySem.F.plainAttrs_list PySem.F.slot_list_append PySem.F.type_list_append mt_append (pv 4) (pa_cons (pe_tup (pa_cons (pe_ix ix_tup (pv 6) (pv 8) (fun _ _ => rfl)) (pa_cons (pe_ix ix_tup (pv 7) (pv 8) (fun _ _ => rfl)) (pa_cons (pe_or (pv 9) (pe_one (pe_and (pe_cmpR op_eq (pe_ix ix_tup (pv 6) pe_int (fun _ _ => rfl)) pe_str (nomark _)) (pe_and (pe_cmpR op_eq (pe_ix ix_tup (pv 6) pe_int (fun _ _ => rfl)) (pv 2) (nomark _)) (pe_one (pe_cmpR op_eq (pv 8) pe_int (nomark _))))))) pa_nil)))) pa_nil)))))))))))))))))
  (pss_one (ps_ret pe_bl)))), ?_⟩
  rw [st__law_put_right]
  refine seq_ fun R hR => ?_
  walk_at "rd"
  refine new_ fun p0 H1 hp0 e1 h1 => new_ fun l H2 hl2 e2 h2 => ?_
  have hl : H l = none := Same.free e1 hl2
  rw [hR]; clear hR
  refine seq_ fun R hR => ?_
  refine whileL_ (K := K) (i := 4) (fun m σ H' => ∃ (ps : List Addr) (rs : List Rw) (o5 o6 o7 o8 o9 : Option V), σ = [some r0.u, some r0.v, some (.str x), some wv, some (.ref l), o5, o6, o7, o8, o9] ∧ Same H H' ∧ H' l = some (.lst (ps.map V.ref)) ∧
    Paired (fun r p => H' p = some (.tup [r.u, r.v, .bl r.b])) rs ps ∧ (∀ r ∈ rs, RowR x wt H r) ∧ m = nsum rs ∧ (∀ i r, rs[i]? = some r → i + 4 * r.d ≤ 4000000)) r0.n
    ⟨[p0], [r0], none, none, none, none, none, rfl, e1.trans e2, h2, .cons (by rw [hb0]; exact e2 _ _ h1) .nil, fun r hr => by rw [List.mem_singleton.mp hr]; exact hr0, by simp [nsum], fun i r hi => by
      cases i with
      | zero => cases hi; omega
      | succ i => simp at hi⟩ ?_
  rintro m σ H' ⟨ps, rs, o5, o6, o7, o8, o9, rfl, e3, h3, hp, hrs, rfl, hbd⟩
  refine ⟨l, _, rfl, h3, fun hx => ?_, fun ys y hx N hN => ?_⟩
  · show R _ _
    rw [hR]
    walk_at "rd"
    exact q _ e3
  · clear hR
    obtain ⟨qs, p, rfl, rfl, rfl⟩ := map_snoc hx
    obtain ⟨ss, r, rfl, hp1, hp2⟩ := pr_snoc hp
    have hr := hrs r (by simp)
    have hss : ∀ r ∈ ss, RowR x wt H r := fun r hr => hrs r (by simp [hr])
    have hbr : ss.length + 4 * r.d ≤ 4000000 := hbd ss.length r (by simp)
    have hbs : ∀ i r, ss[i]? = some r → i + 4 * r.d ≤ 4000000 := fun i r hi => hbd i r (by rw [List.getElem?_append_left (List.getElem?_eq_some_iff.mp hi).1]; exact hi)
    have hql := pr_len hp1
    rw [nsum_append, nsum_cons] at hN
    refine seq_ fun R hR => ?_
    walk_at "rd"
    refine ⟨.inl ⟨rfl, _, SqL.of h3⟩, _, _, by rw [h3, List.map_append]; rfl, ?_⟩
    have k4 := kt_lst (o := .lst (qs.map V.ref)) h3
    have e4 : Same H (upd H' l (.lst (qs.map V.ref))) := same_mut e3 hl
    have h4 : upd H' l (.lst (qs.map V.ref)) l = some (.lst (qs.map V.ref)) := upd_same
    have hp1 := pr_mono hp1 fun a b h => k4 _ _ h
    have hp2 := k4 _ _ hp2
    generalize upd H' l (.lst (qs.map V.ref)) = H4 at e4 h4 hp1 hp2
    rw [hR]; clear hR
    refine seq_ fun R hR => ?_
    walk_at "rd"
    refine ⟨_, SqT.of hp2, _, at0 _ _, ?_⟩
    rw [hR]; clear hR
    refine seq_ fun R hR => ?_
    walk_at "rd"
    refine ⟨_, SqT.of hp2, _, at1 _ _ _, ?_⟩
    rw [hR]; clear hR
    refine ifs_ fun A B hA hB => ?_
    walk_at "rd"
    have hpush : ∀ (k : Nat) (p6 : Addr) (H5 H6 : Hp) (rs5 : List Rw) (ps5 : List Addr) (s5 : Rw), Same H H5 → H5 l = some (.lst (ps5.map V.ref)) → Paired (fun r p => H5 p = some (.tup [r.u, r.v, .bl r.b])) rs5 ps5 → Same H5 H6 → H6 p6 = some (.tup [s5.u, s5.v, .bl s5.b]) →
        Same H (upd H6 l (.lst (ps5.map V.ref ++ [.ref p6]))) ∧ (upd H6 l (.lst (ps5.map V.ref ++ [.ref p6]))) l = some (.lst ((ps5 ++ [p6]).map V.ref)) ∧ Paired (fun r p => (upd H6 l (.lst (ps5.map V.ref ++ [.ref p6]))) p = some (.tup [r.u, r.v, .bl r.b])) (rs5 ++ [s5]) (ps5 ++ [p6]) := by
      intro k p6 H5 H6 rs5 ps5 s5 g1 g2 g3 g4 g5
      have k7 := kt_lst (o := .lst (ps5.map V.ref ++ [.ref p6])) (g4 _ _ g2)
      exact ⟨same_mut (g1.trans g4) hl, by rw [upd_same, List.map_append]; rfl, pr_append (pr_mono g3 fun _ _ h => k7 _ _ (g4 _ _ h)) (.cons (k7 _ _ g5) .nil)⟩
    have hB1 : ∀ {t t' : Tr}, At H t r.u → At H t' r.v → t' = (if r.b = true then t else t.put x wt) → r.d = t'.dep → r.n = 8 * t'.size + (if r.b = true then 0 else 1) → (r.b = false → t ≠ .name x) → B H4 := by
      intro t t' g1 g2 g3 g4 g5 g6
      obtain ⟨a, a', xs, ys, ks, ap⟩ := apart g1 g2 g3 g4 g5 g6
      rw [hB]
      clear hA hB
      have hxa := e4 _ _ ap.xs_
      have hya := e4 _ _ ap.ys_
      have hlx : xs.length = ks.length := by rw [← ap.mu, List.length_map]
      have hly : ys.length = ks.length := by rw [← ap.mv, List.length_map]
      have hkl := ap.le
      refine ifs_ fun A B hA hB => ?_
      walk_at "rd"
      rw [ap.u]
      refine isi_ (isi_tt hxa) ?_
      rw [if_neg (by decide), hB]
      clear hA hB
      refine ifs_ fun A B hA hB => ?_
      walk_at "rd"
      rw [ap.v]
      refine isi_ (isi_tt hya) ?_
      rw [if_neg (by decide), ap.u]
      refine ⟨a, rfl, _, .inr (SqT.of hxa), a', rfl, _, .inr (SqT.of hya), ?_⟩
      rw [if_neg (by rw [hlx, hly]; simp), hB]
      clear hA hB
      walk_at "rd"
      rw [ap.u, ap.v]
      refine ⟨a, rfl, _, .inr (SqT.of hxa), by omega, by omega, ?_⟩
      rw [Int.toNat_natCast, hlx]
      refine forR (fun i σ H' => ∃ (ps' : List Addr) (o8 o9 : Option V), σ = [some r0.u, some r0.v, some (.str x), some wv, some (.ref l), some (.ref p), some (.ref a), some (.ref a'), o8, o9] ∧ Same H H' ∧ H' l = some (.lst (ps'.map V.ref)) ∧
        Paired (fun r p => H' p = some (.tup [r.u, r.v, .bl r.b])) (ss ++ ks.take i) ps' ∧ H' p = some (.tup [.ref a, .ref a', .bl r.b])) ⟨qs, _, _, rfl, e4, h4, by simpa using hp1, by rw [← ap.u, ← ap.v]; exact hp2⟩ ?_ ?_
      · rintro i σ H5 hi ⟨ps', o8, o9, rfl, g1, g2, g3, g4⟩ N2 hN2
        have hx5 := g1 _ _ ap.xs_
        have hy5 := g1 _ _ ap.ys_
        refine seq_ fun R hR => ?_
        walk_at "rd"
        have hw0 : atI xs 0 = some (.str t.word) := atI_nat ap.word
        refine ⟨_, SqT.of g4, _, at2 _ _ _ _, _, rfl, ?_⟩
        suffices hin : R [some r0.u, some r0.v, some (.str x), some wv, some (.ref l), some (.ref p), some (.ref a), some (.ref a'), some (.int (0 + (i : Int))), some (.bl (innerB x r.b t))] H5 by
          by_cases hb : r.b = true
          · rw [if_pos hb]
            have : innerB x r.b t = true := by unfold innerB; rw [hb]; split <;> rfl
            rw [this] at hin
            exact hin
          · have hb' : r.b = false := by simpa using hb
            rw [if_neg hb]
            refine ⟨_, SqT.of hx5, _, hw0, rfl, ?_⟩
            by_cases hf : t.word = "fun"
            · rw [if_pos (by rw [hf])]
              obtain ⟨z, c, rfl⟩ := word_fun hf
              obtain ⟨z', hz', hzc⟩ := ap.name rfl
              have hzz : z' = z := by rcases hzc with ⟨c', e⟩ | ⟨e', c', e⟩ <;> cases e; rfl
              subst hzz
              refine ⟨_, SqT.of hx5, _, atI_nat (j := 1) hz', rfl, ?_⟩
              have : innerB x r.b (.fn z' c) = decide (V.str z' = V.str x) := by
                show (r.b || decide (z' = x)) = _
                rw [hb', Bool.false_or, Bool.eq_iff_iff]
                simp
              rw [this] at hin
              exact hin
            · rw [if_neg (by intro e; exact hf (V.str.inj e))]
              have : innerB x r.b t = false := by
                unfold innerB
                split
                · exact absurd rfl hf
                · exact hb'
              rw [this] at hin
              exact hin
        rw [hR]; clear hR
        walk_at "rd"
        have hi' : i < ks.length := hi
        have hxi : atI xs (0 + (i : Int)) = some ks[i].u := by
          rw [Int.zero_add]
          refine atI_nat ?_
          rw [← ap.mu, List.getElem?_map, List.getElem?_eq_getElem hi']
          rfl
        have hyi : atI ys (0 + (i : Int)) = some ks[i].v := by
          rw [Int.zero_add]
          refine atI_nat ?_
          rw [← ap.mv, List.getElem?_map, List.getElem?_eq_getElem hi']
          rfl
        have hbi := ap.b i ks[i] (List.getElem?_eq_getElem hi')
        refine ⟨.inl ⟨rfl, _, SqL.of g2⟩, _, SqT.of hx5, _, hxi, _, SqT.of hy5, _, hyi, ?_⟩
        have fin : ∀ fb : Bool, fb = flagAt x r.b t i → New H5 (.tup [ks[i].u, ks[i].v, .bl fb]) fun p_1 H2 => ∃ x_5, H2 l = some (.lst x_5) ∧ x_5.length < sizeLine ∧
            N2 [some r0.u, some r0.v, some (.str x), some wv, some (.ref l), some (.ref p), some (.ref a), some (.ref a'), some (.int (0 + (i : Int))), some (.bl (innerB x r.b t))] (upd H2 l (.lst (x_5 ++ [.ref p_1]))) := by
          intro fb hfb
          rw [← hbi] at hfb
          subst hfb
          refine new_ fun p6 H6 hp6 e6 h6 => ?_
          obtain ⟨q1, q2, q3⟩ := hpush i p6 H5 H6 _ _ ks[i] g1 g2 g3 e6 h6
          have hpl := pr_len g3
          rw [List.length_append, List.length_take] at hpl
          refine ⟨_, e6 _ _ g2, szLt5 (by rw [List.length_map]; omega), hN2 _ _ ⟨ps' ++ [p6], _, _, rfl, q1, q2, ?_, ?_⟩⟩
          · rw [List.take_succ, List.getElem?_eq_getElem hi', ← List.append_assoc]
            exact q3
          · have k7 := kt_lst (o := .lst (ps'.map V.ref ++ [.ref p6])) (e6 _ _ g2)
            exact k7 _ _ (e6 _ _ g4)
        by_cases hin : innerB x r.b t = true
        · rw [if_pos hin]
          refine fin true ?_
          rw [flag_inner, hin]
          rfl
        · rw [if_neg hin]
          have hin' : innerB x r.b t = false := by simpa using hin
          refine ⟨_, SqT.of hx5, _, hw0, rfl, ?_⟩
          by_cases hf : t.word = "let"
          · rw [if_pos (by rw [hf])]
            obtain ⟨z, e', c, rfl⟩ := word_let hf
            obtain ⟨z', hz', hzc⟩ := ap.name rfl
            have hzz : z' = z := by rcases hzc with ⟨c', e⟩ | ⟨e', c', e⟩ <;> cases e; rfl
            subst hzz
            refine ⟨_, SqT.of hx5, _, atI_nat (j := 1) hz', rfl, ?_⟩
            have hbf : r.b = false := hin'
            by_cases hzx : V.str z' = V.str x
            · rw [if_pos hzx]
              refine fin _ ?_
              show _ = (r.b || (decide (z' = x) && decide (i = 3)))
              rw [hbf, V.str.inj hzx, Bool.false_or, decide_eq_true rfl, Bool.true_and, Bool.eq_iff_iff]
              simp only [decide_eq_true_eq]
              omega
            · rw [if_neg hzx]
              refine fin _ ?_
              show _ = (r.b || (decide (z' = x) && decide (i = 3)))
              rw [hbf, decide_eq_false (fun e => hzx (by rw [e])), Bool.false_and]
              rfl
          · rw [if_neg (by intro e; exact hf (V.str.inj e))]
            refine fin _ ?_
            rw [flag_inner, hin']
            unfold letB
            split
            · exact absurd rfl hf
            · rfl
      · rintro σ H5 ⟨ps', o8, o9, rfl, g1, g2, g3, g4⟩
        rw [List.take_length] at g3
        have hn0 : nsum ([] : List Rw) = 0 := rfl
        have := ap.n
        refine hN (nsum (ss ++ ks)) _ _ (by rw [nsum_append]; omega) ⟨ps', ss ++ ks, _, _, _, _, _, rfl, g1, g2, g3, fun s hs => ?_, rfl, fun i s hi => ?_⟩
        · rcases List.mem_append.mp hs with hs | hs
          · exact hss s hs
          · exact ap.row s hs
        · by_cases hi2 : i < ss.length
          · rw [List.getElem?_append_left hi2] at hi
            exact hbs i s hi
          · rw [List.getElem?_append_right (by omega)] at hi
            have := ap.d s (List.mem_of_getElem? hi)
            have := (List.getElem?_eq_some_iff.mp hi).1
            omega
    rcases id hr with ⟨hlf, hv, hd, hn⟩ | ⟨t, t', g1, g2, g3, g4, g5⟩
    · have hu : (TyX K H4 r.u (.type "int") ∧ PySem.W.kitOne K (.type "int") (.type "tuple") = some false) ∨ (TyX K H4 r.u (.type "str") ∧ PySem.W.kitOne K (.type "str") (.type "tuple") = some false) := by
        rcases hlf with ⟨i, e⟩ | ⟨z, e⟩
        · rw [e]; exact .inl (isi_it i)
        · rw [e]; exact .inr (isi_st z)
      have hB2 : B H4 := by
        rw [hB]
        clear hA hB hB1
        refine ifs_ fun A B hA hB => ?_
        walk_at "rd"
        have go : A H4 := by
          rw [hA]
          clear hA hB
          refine ifs_ fun A B hA hB => ?_
          walk_at "rd"
          rw [hv]
          have go2 : B H4 := by
            rw [hB]
            walk_at "rd"
            refine hN (nsum ss) _ _ (by have := hr.pos; omega) ⟨qs, ss, _, _, _, _, _, rfl, e4, h4, hp1, hss, rfl, hbs⟩
          rcases hu with hu | hu
          · refine isi_ hu ?_
            rw [if_neg (by decide)]
            refine ⟨r.u, hlf, rfl, _, rfl, ?_⟩
            rw [if_neg (by decide)]
            exact go2
          · refine isi_ hu ?_
            rw [if_neg (by decide)]
            refine ⟨r.u, hlf, rfl, _, rfl, ?_⟩
            rw [if_neg (by decide)]
            exact go2
        rcases hu with hu | hu
        · refine isi_ hu ?_
          rw [if_pos (by decide)]
          exact go
        · refine isi_ hu ?_
          rw [if_pos (by decide)]
          exact go
      rcases hu with hu | hu
      · refine isi_ hu ?_
        rw [if_neg (by decide)]
        exact hB2
      · refine isi_ hu ?_
        rw [if_neg (by decide)]
        exact hB2
    · obtain ⟨a, ws, ea, ha, hws⟩ := g1.view
      have ha4 := e4 _ _ ha
      rw [ea]
      refine isi_ (isi_tt ha4) ?_
      rw [if_pos rfl]
      refine ⟨a, rfl, _, .inr (SqT.of ha4), ?_⟩
      by_cases hnm : t = .name x ∧ r.b = false
      · obtain ⟨rfl, hb⟩ := hnm
        have e : ws = [] := by
          have := hws
          cases this
          rfl
        subst e
        rw [if_pos (by rfl)]
        refine ⟨a, rfl, _, SqT.of ha4, _, at0 _ _, rfl, ?_⟩
        rw [if_pos (by rfl)]
        refine ⟨a, rfl, _, SqT.of ha4, _, at1 _ _ _, rfl, ?_⟩
        rw [if_pos rfl]
        refine ⟨_, SqT.of hp2, _, at2 _ _ _ _, false, tru_bl hb, ?_⟩
        rw [if_pos (by decide), hA]
        walk_at "rd"
        have ht' : t' = wt := by rw [g3, if_neg (by rw [hb]; decide), put_name, if_pos rfl]
        have hn8 : r.n = 8 * wt.size + 1 := by rw [g5, ht', if_neg (by rw [hb]; decide)]
        refine ⟨.inl ⟨rfl, _, SqL.of h4⟩, new_ fun p6 H6 hp6 e6 h6 => ?_⟩
        obtain ⟨q1, q2, q3⟩ := hpush 0 p6 H4 H6 _ _ ⟨wv, r.v, true, wt.dep, 8 * wt.size + 0⟩ e4 h4 hp1 e6 h6
        refine ⟨_, e6 _ _ h4, szLt5 (by rw [List.length_map]; omega), ?_⟩
        refine hN (nsum (ss ++ [⟨wv, r.v, true, wt.dep, 8 * wt.size + 0⟩])) _ _ (by rw [nsum_append, nsum_cons, hn8]; show _ + (8 * wt.size + 0 + _) < _; omega) ⟨qs ++ [p6], _, _, _, _, _, _, rfl, q1, q2, q3, fun s hs => ?_, rfl, fun i s hi => ?_⟩
        · rcases List.mem_append.mp hs with hs | hs
          · exact hss s hs
          · rw [List.mem_singleton.mp hs]
            exact .inr ⟨wt, wt, hw, by rw [← ht']; exact g2, rfl, rfl, rfl⟩
        · by_cases hi2 : i < ss.length
          · rw [List.getElem?_append_left hi2] at hi
            exact hbs i s hi
          · rw [List.getElem?_append_right (by omega)] at hi
            have hlt := (List.getElem?_eq_some_iff.mp hi).1
            simp only [List.length_singleton] at hlt
            have : i - ss.length = 0 := by omega
            rw [this] at hi
            cases hi
            show i + 4 * wt.dep ≤ 4000000
            rw [g4, ht'] at hbr
            omega
      · have hB3 := hB1 g1 g2 g3 g4 g5 (fun hb e => hnm ⟨e, hb⟩)
        cases t with
        | num n =>
          cases hws
          rw [if_pos (by rfl)]
          refine ⟨a, rfl, _, SqT.of ha4, _, at0 _ _, rfl, ?_⟩
          rw [if_neg (show ¬ V.str (Tr.num n).word = V.str (Str.ofString "name") from (by decide +kernel : ¬ V.str (Str.ofString "num") = V.str (Str.ofString "name")))]
          exact hB3
        | name y =>
          cases hws
          rw [if_pos (by rfl)]
          refine ⟨a, rfl, _, SqT.of ha4, _, at0 _ _, rfl, ?_⟩
          rw [if_pos (by rfl)]
          refine ⟨a, rfl, _, SqT.of ha4, _, at1 _ _ _, rfl, ?_⟩
          by_cases hyx : V.str y = V.str x
          · rw [if_pos hyx]
            have hb : r.b = true := by
              by_cases h : r.b = true
              · exact h
              · exact absurd ⟨by rw [V.str.inj hyx], by simpa using h⟩ hnm
            refine ⟨_, SqT.of hp2, _, at2 _ _ _ _, true, tru_bl hb, ?_⟩
            rw [if_neg (by decide)]
            exact hB3
          · rw [if_neg hyx]
            exact hB3
        | _ =>
          rw [if_neg (by simp only [List.length_cons, List.length_append, Tr.own, List.length_nil]; have := pr_len hws; simp only [Tr.kids, List.length_cons, List.length_nil] at this; omega)]
          exact hB3
end

end K03

namespace K03
open PySem L2 My
open PyProof.Rows (envOfC)
local macro_rules | `(tactic| walk_at "rd") => `(tactic| simp only [My.ife, My.tFor_eq, My.cx_K, My.cx_w, My.rRdK, My.rNeSelf, rIsi, tAsg, tDrop, tChain, tThenZ, kTyp, My.rInK, My.rMulS, iStr, V.ty.injEq, rAll, rU, tRet, tRetN, tIfS, tVar, tC, tOp, tUn, rI0, rI, rEq, rNe, CDiv, CMul, CPow, My.tTup_eq, My.tLst_eq, My.tDNewK_eq, My.tRevL_eq, My.tRevS, tM1, tM0, My.sz0, My.sz1, My.sz2, My.sz3, My.sz4, My.sz5, My.sz8, tCons, tNil, My.tCallD, tCB, gName, gTup, gCons, gNil, gSub, tTest, tB, tAnd, tOr, tNot, tIf, tAndV, tOrV, tNotV, rSetL, rSlS, rIxL, rIxT, rIxS, My.rSlT_eq, My.rSlL_eq, rIn, rCat, tLc_eq, iList, iTup, iRng1, iRng2, iRng3, wipe, List.map_cons, List.map_nil, tSl, tPart, tNoPart, tBM, tBM0, rAppend, My.rPopL, rExtend, My.rExtendT, tNext, tBreak, tCont, My.scal_ii, My.scal_ss, My.scal_bb, My.scal_is, My.scal_si, ipI, rListD, sDPut, tDGet, tDGet2, tAug, List.getElem?_cons_zero, List.getElem?_cons_succ, List.set_cons_zero, List.set_cons_succ, Option.some.injEq, exists_eq_left', exists_eq_left, V.int.injEq, V.ref.injEq, V.str.injEq, V.bl.injEq, exists_and_left, true_and, and_true, List.cons.injEq, exists_const, Bool.false_eq_true, ↓reduceIte, reduceCtorEq, false_and, and_assoc, decide_true, decide_false])
local macro_rules | `(tactic| walk_at "st") => `(tactic| (refine My.seq_ fun R hR => ?_))
local macro_rules | `(tactic| walk_at "sd") => `(tactic| repeat (first | refine ⟨by decide, ?_⟩ | refine ⟨.inl (by decide), ?_⟩))

abbrev s_law : Stmt := topS 15
abbrev N_law : List Str := ["_law_script", "_law_first", "_law_second", "_law_names", "_law_tree", "_law_name", "_law_other", "_law_number", "_law_some", "_law_value", "_law_k", "_law_found"]
theorem sc_law : FnScope N_law ["_law_script"] (defScope s_law) := ⟨rfl, rfl, rfl, by decide +kernel, rfl, by decide +kernel, by decide +kernel⟩
theorem bd_law : BindAll "law" s_law ["_law_script"] := fun _ _ _ _ _ _ us hl => match us, hl with | [_], _ => rfl
theorem st_law (v0 : V) : start N_law [v0] = [some v0, none, none, none, none, none, none, none, none, none, none, none] := rfl
section
variable {P : Program} {w : World} {K : PySem.W.Frag} {mg : Str → Option Value} {base : Heap}
theorem df_law {fa : Addr} {fd : FuncData} (T : Bt mg) (F : Fun K "law" "law" s_law fa fd) (D__law_cell_at : Df P w K mg base 1 "_law_cell_at" ["_law_script", "_law_k"] (spCellA K))
    (D__law_name_by : Df P w K mg base 1 "_law_name_by" ["_law_cell"] (spName 7)) (D__law_kin_by : Df P w K mg base 1 "_law_kin_by" ["_law_cell", "_law_many"] spKin)
    (D__law_tree_by : Df P w K mg base 2 "_law_tree_by" ["_law_cells", "_law_names"] (spTreeN K 4 5)) (D_put : Df P w K mg base 6 "put" ["tree", "name", "value"] spPut)
    (D__law_put_right : Df P w K mg base 2 "_law_put_right" ["_law_tree", "_law_found", "_law_name", "_law_value"] spLed) : FnOk P w K mg base CX0 7 fa fd ["_law_script"] (spLaw K) := by
  refine F.ok sc_law (fun vs H Q E h => ?_) (fun cdv A outer s H vs Q E hr h => ?_)
  · obtain ⟨_, _, rfl, _⟩ := h; rfl
  obtain ⟨a, ns, rfl, ha, hns, q⟩ := h
  have nd := sc_law.nd
  have nl : (ns.map V.int).length = ns.length := List.length_map _
  refine ⟨_, (pss_cons (ps_set (i := 1) nd rfl (Or.inr rfl) (pe_callD D__law_cell_at hr (by decide) rfl (pa_cons (pv 0) (pa_cons pe_int pa_nil))))
  (pss_cons (ps_set (i := 2) nd rfl (Or.inl rfl) (pe_callD D__law_cell_at hr (by decide) rfl (pa_cons (pv 0) (pa_cons pe_int pa_nil))))
  (pss_cons (ps_setLc (i := 3) (own := [("_law_k", 10)]) (g := gName 10) rfl nd rfl rfl (sw_true rfl rfl rfl (by decide +kernel)) (pi_range1 rfl T.range (pa_cons pe_int pa_nil)) (blkOk_by (N := N_law) (sc := defScope s_law) (by decide +kernel)) (fun _ _ _ _ _ => (pg_name (i := 10) nd rfl (Or.inl rfl))) (fun _ _ _ _ _ => pts_nil) (fun _ _ _ _ _ => (pe_callD D__law_name_by hr (by decide) rfl (pa_cons (pe_op op_add (pe_op op_sub (pv 1) (pe_op op_mod (pv 1) pe_int)) (pe_op op_mod (pe_op op_add (pv 1) (pe_op op_mul pe_int (pv 10))) pe_int)) pa_nil))))
  (pss_cons (ps_if (pt_cmpR op_eq (pe_op op_mod (pe_op op_fdiv (pv 1) pe_int) pe_int) pe_int (nomark _))
    (pss_one (ps_set (i := 3) nd rfl (Or.inl rfl) (pe_callD D__law_kin_by hr (by decide) rfl (pa_cons (pe_op op_fdiv (pv 1) pe_int) (pa_cons (pe_callB call_len_seq (by rfl) T.len PySem.boot_len (pa_cons (pv 3) pa_nil)) pa_nil)))))
    pss_nil)
  (pss_cons (ps_set (i := 4) nd rfl (Or.inl rfl) (pe_callD D__law_tree_by hr (by decide) rfl (pa_cons (pe_slice sl_list (pv 0) (po_some pe_int) (po_some pe_int)) (pa_cons (pv 3) pa_nil))))
  (pss_cons (ps_set (i := 5) nd rfl (Or.inl rfl) (pe_ix ix_list (pv 3) (pe_op op_mod (pe_callD D__law_cell_at hr (by decide) rfl (pa_cons (pv 0) (pa_cons pe_int pa_nil))) pe_int) (fun _ _ => rfl)))
  (pss_cons (ps_set (i := 6) nd rfl (Or.inl rfl) (pe_ix ix_list (pv 3) (pe_op op_mod (pe_op op_fdiv (pv 2) pe_int) pe_int) (fun _ _ => rfl)))
  (pss_cons (ps_set (i := 7) nd rfl (Or.inl rfl) (pe_tup (pa_cons pe_str (pa_cons (pe_op op_add (pe_op op_sub (pe_op op_mod (pe_op op_fdiv (pv 2) pe_int) (pe_op op_sub (pe_op op_mul pe_int (pe_op op_pow pe_int pe_int)) pe_int)) (pe_op op_pow pe_int pe_int)) pe_int) pa_nil))))
  (pss_cons (ps_set (i := 8) nd rfl (Or.inl rfl) (pe_lst (pa_cons (pv 7) (pa_cons (pv 7) (pa_cons (pe_tup (pa_cons pe_str (pa_cons (pv 6) (pa_cons (pe_tup (pa_cons pe_str (pa_cons (pv 6) pa_nil))) pa_nil)))) (pa_cons (pe_tup (pa_cons pe_str (pa_cons (pv 5) (pa_cons (pe_tup (pa_cons pe_str (pa_cons (pe_tup (pa_cons pe_str (pa_cons (pv 5) pa_nil))) (pa_cons (pv 7) pa_nil)))) pa_nil)))) pa_nil))))))
  (pss_cons (ps_expr (pe_bm PySem.F.plainAttrs_list PySem.F.slot_list_append PySem.F.type_list_append mt_append (pv 8) (pa_cons (pe_tup (pa_cons pe_str (pa_cons (pv 6) (pa_cons (pe_tup (pa_cons pe_str (pa_cons (pv 5) (pa_cons (pe_tup (pa_cons pe_str (pa_cons (pe_tup (pa_cons pe_str (pa_cons (pv 5) pa_nil))) (pa_cons (pe_tup (pa_cons pe_str (pa_cons (pv 6) pa_nil))) pa_nil)))) pa_nil)))) pa_nil)))) pa_nil)))
  (pss_cons (ps_set (i := 9) nd rfl (Or.inl rfl) (pe_ix ix_list (pv 8) (pe_op op_mod (pv 2) pe_int) (fun _ _ => rfl)))
  (pss_cons (ps_if (pt_cmpR op_eq (pe_op op_mod (pe_op op_fdiv (pe_callD D__law_cell_at hr (by decide) rfl (pa_cons (pv 0) (pa_cons pe_int pa_nil))) pe_int) pe_int) pe_int (nomark _))
    (pss_one (ps_for PassesOwn.never rfl (pi_range1 rfl T.range (pa_cons pe_int pa_nil)) (pg_name (i := 10) nd rfl (Or.inl rfl))
        (pss_one (ps_set (i := 4) nd rfl (Or.inl rfl) (pe_tup (pa_cons pe_str (pa_cons (pv 4) (pa_cons (pe_tup (pa_cons pe_str (pa_cons (pe_ix ix_list (pv 3) (pe_op op_mod (pv 10) pe_int) (fun _ _ => rfl)) pa_nil))) pa_nil))))))))
    pss_nil)
  (pss_cons (ps_set (i := 11) nd rfl (Or.inl rfl) (pe_callD D_put hr (by decide) rfl (pa_cons (pv 4) (pa_cons (pv 5) (pa_cons (pv 9) pa_nil)))))
  (pss_cons (ps_if (pt_not (pt_val (pe_callD D__law_put_right hr (by decide) rfl (pa_cons (pv 4) (pa_cons (pv 11) (pa_cons (pv 5) (pa_cons (pv 9) pa_nil)))))))
    (pss_one (ps_ret pe_bl))
    pss_nil)
  (pss_one (ps_ret (pe_callD D__law_put_right hr (by decide) rfl (pa_cons (pv 4) (pa_cons (pe_callD D_put hr (by decide) rfl (pa_cons (pv 4) (pa_cons pe_str (pa_cons (pv 9) pa_nil)))) (pa_cons pe_str (pa_cons (pv 9) pa_nil))))))))))))))))))))), ?_⟩
  rw [st_law]
  refine seq_ fun R hR => ?_
  walk_at "rd"
  refine ⟨a, ns, 0, rfl, ha, ?_⟩
  rw [hR]; clear hR
  generalize cell ns 0 = first
  refine seq_ fun R hR => ?_
  walk_at "rd"
  refine ⟨a, ns, 1, rfl, ha, ?_⟩
  rw [hR]; clear hR
  generalize cell ns 1 = second
  refine seq_ fun R hR => ?_
  walk_at "rd"
  refine ⟨by decide, by decide, lcR (fun i acc _ => acc = (List.range i).map fun k => .str (mkS (nameBy 7 (cellK first k 7)))) (fun _ _ _ _ _ h => h) (by decide) (fun _ => rfl) rfl ?_ ?_⟩
  · intro i acc H2 hi hl e2 p Qy hy Qn hn
    walk_at "rd"
    refine ⟨by decide, .inl (by decide), by decide, _, rfl, fun H3 e3 => hy _ _ e3 ?_⟩
    show _ = (List.range (i + 1)).map fun k => V.str (mkS (nameBy 7 (cellK first k 7)))
    rw [p, List.range_succ, List.map_append, Int.zero_add]
    rfl
  intro D0 ys0 H2 hD0 e2 hL0 p0
  have hL0' : H2 D0 = some (.lst (((List.range 4).map fun k => mkS (nameBy 7 (cellK first k 7))).map V.str)) := by rw [hL0, p0, List.map_map]; rfl
  rw [hR]; clear hR
  refine ifq_ fun R A1 B1 hR hA hB => ?_
  walk_at "rd"
  have hrest : ∀ (ln : Addr) (xs : List Str) (H3 : Hp), Same H H3 → H3 ln = some (.lst (xs.map V.str)) → xs.length = 4 →
      R [some (.ref a), some (.int first), some (.int second), some (.ref ln), none, none, none, none, none, none, none, none] H3 := by
    intro ln xs H3 e3 hln hxl
    rw [hR]; clear hR hA hB
    refine seq_ fun R hR => ?_
    walk_at "rd"
    refine ⟨_, e3.seq ha, new_ fun ps Hs hps ks as => ?_⟩
    have ec : cutV (ns.map V.int) (some 8) (some 58) = ((ns.take 58).drop 8).map V.int := by
      have := cut_lohi (ns.map V.int) 8 58
      rw [← List.map_take, ← List.map_drop] at this
      exact this
    rw [ec] at as
    have hdl : ((ns.take 58).drop 8).length ≤ 50 := by rw [List.length_drop, List.length_take]; omega
    refine ⟨ps, ln, _, xs, rfl, SqL.of as, by omega, SqL.of (ks _ _ hln), hxl, fun t v H4 e4 ht hta hts => ?_⟩
    have hln4 := e4 _ _ (ks _ _ hln)
    have ha4 := (e3.trans (ks.trans e4)).seq ha
    have he4 := e3.trans (ks.trans e4)
    clear as ks e4 hta
    obtain ⟨x, hx, ax⟩ := at_nm hxl (by decide) (cell ns 2)
    obtain ⟨y, hy, ay⟩ := at_nm hxl (by decide) (second / 5)
    rw [hR]; clear hR
    refine seq_ fun R hR => ?_
    walk_at "rd"
    refine ⟨a, ns, 2, rfl, ha4, _, rfl, by decide, _, SqL.of hln4, _, ax, ?_⟩
    rw [hR]; clear hR
    refine seq_ fun R hR => ?_
    walk_at "rd"
    refine ⟨by decide, by decide, by decide, _, SqL.of hln4, _, ay, ?_⟩
    rw [hR]; clear hR
    refine seq_ fun R hR => ?_
    walk_at "rd"
    refine ⟨by decide, by decide, by decide, by decide, by decide, .inl ⟨by decide, by decide⟩, by decide, by decide, by decide, by decide, new_ fun pn H5 hpn e5 h5 => ?_⟩
    generalize second / 20 % (2 * 10 ^ Int.toNat 60 - 1) - 10 ^ Int.toNat 60 + 1 = n at h5
    rw [hR]; clear hR
    refine seq_ fun R hR => ?_
    walk_at "rd"
    refine new_ fun p6 H6 hp6 e6 h6 => new_ fun p7 H7 hp7 e7 h7 => new_ fun p8 H8 hp8 e8 h8 => new_ fun p9 H9 hp9 e9 h9 => new_ fun p10 H10 hp10 e10 h10 => new_ fun p11 H11 hp11 e11 h11 => ?_
    rw [hR]; clear hR
    refine seq_ fun R hR => ?_
    walk_at "rd"
    refine ⟨.inl ⟨rfl, _, SqL.of h11⟩, ?_⟩
    refine new_ fun q1 H12 hq1 f1 g1 => new_ fun q2 H13 hq2 f2 g2 => new_ fun q3 H14 hq3 f3 g3 => new_ fun q4 H15 hq4 f4 g4 => new_ fun q5 H16 hq5 f5 g5 => ?_
    have c16 : Same H11 H16 := f1.trans (f2.trans (f3.trans (f4.trans f5)))
    have c11 : Same H H11 := he4.trans (e5.trans (e6.trans (e7.trans (e8.trans (e9.trans (e10.trans e11))))))
    have h16 := c16 _ _ h11
    refine ⟨_, h16, szLt (by simp), ?_⟩
    have hp11' : H p11 = none := Same.free (he4.trans (e5.trans (e6.trans (e7.trans (e8.trans (e9.trans e10)))))) hp11
    have k17 := kt_lst (o := .lst ([V.ref pn, .ref pn, .ref p7, .ref p10] ++ [.ref q5])) h16
    have s17 : Same H (upd H16 p11 (.lst ([V.ref pn, .ref pn, .ref p7, .ref p10] ++ [.ref q5]))) := same_mut (c11.trans c16) hp11'
    have h17 : upd H16 p11 (.lst ([V.ref pn, .ref pn, .ref p7, .ref p10] ++ [.ref q5])) p11 = some (.lst [V.ref pn, .ref pn, .ref p7, .ref p10, .ref q5]) := upd_same
    have l17 : ∀ b, b ≠ p11 → ∀ o, H16 b = some o → upd H16 p11 (.lst ([V.ref pn, .ref pn, .ref p7, .ref p10] ++ [.ref q5])) b = some o := fun b hb o ho => by rw [upd_ne hb]; exact ho
    have hnum := k17 _ _ (c16 _ _ (e11 _ _ (e10 _ _ (e9 _ _ (e8 _ _ (e7 _ _ (e6 _ _ h5)))))))
    have hp6' := k17 _ _ (c16 _ _ (e11 _ _ (e10 _ _ (e9 _ _ (e8 _ _ (e7 _ _ h6))))))
    have hp7' := k17 _ _ (c16 _ _ (e11 _ _ (e10 _ _ (e9 _ _ (e8 _ _ h7)))))
    have hp8' := k17 _ _ (c16 _ _ (e11 _ _ (e10 _ _ (e9 _ _ h8))))
    have hp9' := k17 _ _ (c16 _ _ (e11 _ _ (e10 _ _ h9)))
    have hp10' := k17 _ _ (c16 _ _ (e11 _ _ h10))
    have hq1' := k17 _ _ (f5 _ _ (f4 _ _ (f3 _ _ (f2 _ _ g1))))
    have hq2' := k17 _ _ (f5 _ _ (f4 _ _ (f3 _ _ g2)))
    have hq3' := k17 _ _ (f5 _ _ (f4 _ _ g3))
    have hq4' := k17 _ _ (f5 _ _ g4)
    have hq5' := k17 _ _ g5
    have c4 : Same H4 H11 := e5.trans (e6.trans (e7.trans (e8.trans (e9.trans (e10.trans e11)))))
    have ht17 := (ht.mono (same_kt (c4.trans c16))).mono k17
    have hlnp : ln ≠ p11 := none_ne' hp11 ((e5.trans (e6.trans (e7.trans (e8.trans (e9.trans e10))))) _ _ hln4)
    have hln17 := l17 ln hlnp _ ((c4.trans c16) _ _ hln4)
    generalize upd H16 p11 (.lst ([V.ref pn, .ref pn, .ref p7, .ref p10] ++ [.ref q5])) = H17 at s17 h17 hnum hp6' hp7' hp8' hp9' hp10' hq1' hq2' hq3' hq4' hq5' ht17 hln17
    clear k17 l17
    obtain ⟨wt, wv, hwat, hwt, hwc, hwd⟩ : ∃ (wt : Tr) (wv : V), atI [V.ref pn, .ref pn, .ref p7, .ref p10, .ref q5] (second % 5) = some wv ∧ At H17 wt wv ∧ wt.closed ∧ wt.dep ≤ 10 := by
      have hN : At H17 (.num n) (.ref pn) := ⟨pn, rfl, hnum⟩
      rcases (by omega : second % 5 = 0 ∨ second % 5 = 1 ∨ second % 5 = 2 ∨ second % 5 = 3 ∨ second % 5 = 4) with e | e | e | e | e
      · exact ⟨.num n, _, by rw [e]; exact at0 _ _, hN, fun _ h => h, by simp [Tr.dep]⟩
      · exact ⟨.num n, _, by rw [e]; exact at1 _ _ _, hN, fun _ h => h, by simp [Tr.dep]⟩
      · exact ⟨.fn y (.name y), _, by rw [e]; exact at2 _ _ _ _, ⟨p7, _, rfl, hp7', p6, rfl, hp6'⟩, fun _ h => by simp [Tr.fr] at h, by simp [Tr.dep]⟩
      · exact ⟨.fn x (.plus (.name x) (.num n)), _, by rw [e]; exact at3 _ _ _ _ _, ⟨p10, _, rfl, hp10', p9, _, _, rfl, hp9', ⟨p8, rfl, hp8'⟩, hN⟩, fun _ h => by simp [Tr.fr] at h, by simp [Tr.dep]⟩
      · exact ⟨.fn y (.fn x (.call (.name x) (.name y))), _, by rw [e]; exact atI_nat (j := 4) rfl, ⟨q5, _, rfl, hq5', q4, _, rfl, hq4', q3, _, _, rfl, hq3', ⟨q1, rfl, hq1'⟩, ⟨q2, rfl, hq2'⟩⟩, fun z h => (by obtain ⟨h1, h2, h3⟩ := h; rcases h3 with h3 | h3; exact h2 h3; exact h1 h3), by simp [Tr.dep]⟩
    rw [hR]; clear hR
    refine seq_ fun R hR => ?_
    walk_at "rd"
    refine ⟨by decide, _, SqL.of h17, wv, hwat, ?_⟩
    rw [hR]; clear hR
    refine ifq_ fun R A B hR hA hB => ?_
    walk_at "rd"
    refine ⟨a, ns, 2, rfl, s17.seq ha, _, rfl, by decide, by decide, by decide, ?_⟩
    have hfin : ∀ (t : Tr) (v : V) (H18 : Hp) (o : Option V), Same H17 H18 → At H18 t v → t.dep ≤ 1000 → R [some (.ref a), some (.int first), some (.int second), some (.ref ln), some v, some (.str x), some (.str y), some (.ref pn), some (.ref p11), some wv, o, none] H18 := by
      intro t v H18 o s18 ht18 htd
      rw [hR]; clear hR hA hB
      refine seq_ fun R hR => ?_
      walk_at "rd"
      have ok : ∀ (z : Str) (r : V) (H19 : Hp), Same H18 H19 → At H19 (t.put z wt) r → ∀ H20, Same H19 H20 → ∀ Q' : VK, (∀ H', Same H20 H' → Q' (.bl true) H') → spLed [v, r, .str z, wv] H20 Q' E0 := by
        intro z r H19 s19 hr19 H20 s20 Q' hQ'
        have hd := Tr.dep_put t z wt
        exact ⟨⟨v, r, false, (t.put z wt).dep, 8 * (t.put z wt).size + 1⟩, z, wv, wt, trivial, rfl, .inr ⟨t, t.put z wt, (ht18.mono (same_kt s19)).mono (same_kt s20), hr19.mono (same_kt s20), rfl, rfl, rfl⟩, rfl,
          hwt.mono (same_kt (s18.trans (s19.trans s20))), by show (t.put z wt).dep ≤ 1000000; omega, hQ'⟩
      refine ⟨t, wt, x, v, wv, rfl, ht18, hwt.mono (same_kt s18), hwc, by omega, by omega, fun r H19 s19 hr19 => ?_⟩
      rw [hR]; clear hR
      refine seq_ fun R hR => ?_
      walk_at "rd"
      refine ok x r H19 s19 hr19 H19 (Same.refl _) _ fun H' s20 => ?_
      refine ⟨true, rfl, ?_⟩
      rw [if_neg (by decide), hR]
      clear hR
      walk_at "rd"
      have s20' := s19.trans s20
      refine ⟨t, wt, _, v, wv, rfl, ht18.mono (same_kt s20'), hwt.mono (same_kt (s18.trans s20')), hwc, by omega, by omega, fun r2 H21 s21 hr21 => ?_⟩
      exact ok _ r2 H21 (s20'.trans s21) hr21 H21 (Same.refl _) _ fun H' _ => q H'
    split
    · rw [hA]
      walk_at "rd"
      refine ⟨by decide, by decide, forR (fun i σ H' => ∃ (t : Tr) (v : V) (o : Option V), σ = [some (.ref a), some (.int first), some (.int second), some (.ref ln), some v, some (.str x), some (.str y), some (.ref pn), some (.ref p11), some wv, o, none] ∧ Same H17 H' ∧ At H' t v ∧ t.dep ≤ 400 + i)
        ⟨t, v, none, rfl, Same.refl _, ht17, by have := t.dep_size; omega⟩ ?_ ?_⟩
      · rintro i σ H18 hi ⟨t, v, o, rfl, s18, ht18, htd⟩ N hN
        walk_at "rd"
        obtain ⟨z, hz, az⟩ := at_nm hxl (by decide) (0 + (i : Int))
        refine ⟨by decide, _, SqL.of (s18 _ _ hln17), _, az, new_ fun p19 H19 hp19 e19 h19 => new_ fun p20 H20 hp20 e20 h20 => hN _ _ ⟨.plus t (.name z), _, _, rfl, s18.trans (e19.trans e20), ⟨p20, _, _, rfl, h20, ht18.mono (same_kt (e19.trans e20)), p19, rfl, e20 _ _ h19⟩, ?_⟩⟩
        have := t.dep_pos
        simp only [Tr.dep]
        omega
      · rintro σ H18 ⟨t, v, o, rfl, s18, ht18, htd⟩
        exact hfin t v H18 o s18 ht18 (by have : (Int.toNat 250) = 250 := rfl; omega)
    · rw [hB]
      walk_at "rd"
      have := t.dep_size
      exact hfin t v H17 none (Same.refl _) ht17 (by omega)
  refine ⟨by decide, by decide, by decide, ?_⟩
  split
  · rw [hA]
    walk_at "rd"
    refine ⟨by decide, by decide, _, .inl (SqL.of hL0'), ?_⟩
    rw [List.length_map, List.length_map, List.length_range]
    refine ⟨_, 4, rfl, by decide, fun l H3 hl e3 h3 => ?_⟩
    refine hrest l ((kinBy (first / 78) 4).map mkS) H3 (e2.trans e3) ?_ ?_
    · rw [h3, List.map_map]; rfl
    · rw [List.length_map, kinBy_len _ (by decide)]
  · rw [hB]
    walk_at "rd"
    exact hrest D0 _ H2 e2 hL0' (by simp)
end
end K03

namespace K03
open PySem L2 My
open PyProof.Rows (envOfC)
local macro_rules | `(tactic| walk_at "rd") => `(tactic| simp only [My.ife, My.tFor_eq, My.cx_K, My.cx_w, My.rRdK, My.rNeSelf, rIsi, tAsg, tDrop, tChain, tThenZ, kTyp, My.rInK, My.rMulS, iStr, sTail, tThen, kTup, tDisp, tPairs, tDIn, tDNotIn, V.ty.injEq, rAll, rU, tRet, tRetN, tIfS, tVar, tC, tOp, tUn, rI0, rI, rEq, rNe, CDiv, CMul, CPow, My.tTup_eq, My.tLst_eq, My.tDNewK_eq, My.tRevL_eq, My.tRevS, tM1, tM0, My.sz0, My.sz1, My.sz2, My.sz3, My.sz4, My.sz5, My.sz8, tCons, tNil, My.tCallD, tCB, gName, gTup, gCons, gNil, gSub, tTest, tB, tAnd, tOr, tNot, tIf, tAndV, tOrV, tNotV, rSetL, rSlS, rIxL, rIxT, rIxS, My.rSlT_eq, My.rSlL_eq, rIn, rCat, tLc_eq, iList, iTup, iRng1, iRng2, iRng3, wipe, List.map_cons, List.map_nil, tSl, tPart, tNoPart, tBM, tBM0, rAppend, My.rPopL, rExtend, My.rExtendT, tNext, tBreak, tCont, My.scal_ii, My.scal_ss, My.scal_bb, My.scal_is, My.scal_si, ipI, rListD, sDPut, tDGet, tDGet2, tAug, List.getElem?_cons_zero, List.getElem?_cons_succ, List.set_cons_zero, List.set_cons_succ, Option.some.injEq, exists_eq_left', exists_eq_left, V.int.injEq, V.ref.injEq, V.str.injEq, V.bl.injEq, exists_and_left, true_and, and_true, List.cons.injEq, exists_const, Bool.false_eq_true, ↓reduceIte, reduceCtorEq, false_and, and_assoc, decide_true, decide_false])
local macro_rules | `(tactic| walk_at "st") => `(tactic| (refine My.seq_ fun R hR => ?_))
local macro_rules | `(tactic| walk_at "sd") => `(tactic| repeat (first | refine ⟨by decide, ?_⟩ | refine ⟨.inl (by decide), ?_⟩))

abbrev s_parts : Stmt := topS 2
abbrev N_parts : List Str := ["tree"]
theorem sc_parts : FnScope N_parts ["tree"] (defScope s_parts) := ⟨rfl, rfl, rfl, by decide +kernel, rfl, by decide +kernel, by decide +kernel⟩
theorem bd_parts : BindAll "parts" s_parts ["tree"] := fun _ _ _ _ _ _ us hl => match us, hl with | [_], _ => rfl
theorem st_parts (v0 : V) : start N_parts [v0] = [some v0] := rfl
section
variable {P : Program} {w : World} {K : PySem.W.Frag} {mg : Str → Option Value} {base : Heap} {aS : Addr}
theorem df_parts (T : UTxt K w mg aS) (F : FunAt K mg "parts" s_parts) : Df P w K mg base 1 "parts" ["tree"] spParts := by
  refine F.df sc_parts bd_parts (fun vs H Q E h => ?_) (fun f cdv A outer s H vs Q E hr h => ?_)
  · obtain ⟨_, _, _, _, rfl, _⟩ := h; rfl
  obtain ⟨t, a, own, ws, rfl, h1, h2, h3, q⟩ := h
  have nd := sc_parts.nd
  refine ⟨_, (pss_one (ps_ret (pe_callTy call_list_of (by rfl) T.list (by decide +kernel) (pa_cons (pe_slice sl_tup (pv 0) (po_some (pe_ix ix_kd (pe_gref (by rfl) T.STARTS) (pe_ix ix_tup (pv 0) pe_int (fun _ _ => rfl)) (fun _ _ => rfl))) po_none) pa_nil)))), ?_⟩
  rw [st_parts]
  walk_at "rd"
  refine ⟨_, SqT.of h1, _, at0 _ _, _, rfl, _, T.starts t, _, rfl, ?_⟩
  obtain ⟨n, e, h0, hd, hle⟩ := own_at (ws := ws) h2
  rw [e]
  refine ⟨_, SqT.of h1, not_whole h0 hle, fun p hp => ?_⟩
  rw [cut_from hle, hd]
  refine ⟨_, .inr (SqT.of upd_same), fun l hl => ?_⟩
  have hl0 : H l = none := Same.free (same_new hp) hl
  exact q l _ hl0 ((same_new hp).trans (same_new hl)) upd_same
end

abbrev s__putting : Stmt := topS 6
abbrev N__putting : List Str := ["node", "here", "todo", "loose", "part", "name"]
theorem sc__putting : FnScope N__putting ["node", "here"] (defScope s__putting) := ⟨rfl, rfl, rfl, by decide +kernel, rfl, by decide +kernel, by decide +kernel⟩
theorem bd__putting : BindAll "_putting" s__putting ["node", "here"] := fun _ _ _ _ _ _ us hl => match us, hl with | [_, _], _ => rfl
theorem st__putting (v0 v1 : V) : start N__putting [v0, v1] = [some v0, some v1, none, none, none, none] := rfl
abbrev s_put_all : Stmt := topS 5
abbrev N_put_all : List Str := ["tree", "values", "done", "waiting", "node", "here", "ready", "start", "many"]
theorem sc_put_all : FnScope N_put_all ["tree", "values"] (defScope s_put_all) := ⟨rfl, rfl, rfl, by decide +kernel, rfl, by decide +kernel, by decide +kernel⟩
theorem bd_put_all : BindAll "put_all" s_put_all ["tree", "values"] := fun _ _ _ _ _ _ us hl => match us, hl with | [_, _], _ => rfl
theorem st_put_all (v0 v1 : V) : start N_put_all [v0, v1] = [some v0, some v1, none, none, none, none, none, none, none] := rfl
abbrev s_put : Stmt := topS 4
abbrev N_put : List Str := ["tree", "name", "value"]
theorem sc_put : FnScope N_put ["tree", "name", "value"] (defScope s_put) := ⟨rfl, rfl, rfl, by decide +kernel, rfl, by decide +kernel, by decide +kernel⟩
theorem bd_put : BindAll "put" s_put ["tree", "name", "value"] := fun _ _ _ _ _ _ us hl => match us, hl with | [_, _, _], _ => rfl
theorem st_put (v0 v1 v2 : V) : start N_put [v0, v1, v2] = [some v0, some v1, some v2] := rfl
section
variable {P : Program} {w : World} {K : PySem.W.Frag} {mg : Str → Option Value} {base : Heap} {aS : Addr}
theorem df_putting (T : UTxt K w mg aS) (F : FunAt K mg "_putting" s__putting) (D_parts : Df P w K mg base 1 "parts" ["tree"] spPartsS) : Df P w K mg base 2 "_putting" ["node", "here"] spPutting := by
  refine F.df sc__putting bd__putting (fun vs H Q E h => ?_) (fun f cdv A outer s H vs Q E hr h => ?_)
  · obtain ⟨_, _, _, _, rfl, _⟩ := h; rfl
  obtain ⟨t, s0, u, d, rfl, ht, hs, q⟩ := h
  have nd := sc__putting.nd
  have hu := hu_of hr
  refine ⟨_, (pss_cons (ps_setLc (i := 2) (own := [("part", 4)]) (g := gName 4) rfl nd rfl rfl (sw_true rfl rfl rfl (by decide +kernel)) (pi_list (pe_callD D_parts hr (by decide) rfl (pa_cons (pv 0) pa_nil))) (blkOk_by (N := N__putting) (sc := defScope s__putting) (by decide +kernel)) (fun _ _ _ _ _ => (pg_name (i := 4) nd rfl (Or.inl rfl))) (fun _ _ _ _ _ => pts_nil) (fun _ _ _ _ _ => (pe_tup (pa_cons (pv 4) (pa_cons (pv 1) (pa_cons pe_bl pa_nil))))))
  (pss_cons (ps_if (PW.pt (pw_and (PW.pt (pw_or (pt_cmpR op_eq (pe_ix ix_tup (pv 0) pe_int (fun _ _ => rfl)) pe_str (nomark _)) (pw_or1 (pt_cmpR op_eq (pe_ix ix_tup (pv 0) pe_int (fun _ _ => rfl)) pe_str (nomark _))))) (pw_and1 (pt_cmp (pc_din hu (pe_ix ix_tup (pv 0) pe_int (fun _ _ => rfl)) (pv 1))))))
    (pss_cons (ps_lock (ps_setDc (i := 3) (own := [("name", 5)]) (g := gName 5) rfl nd rfl rfl (swD_true rfl rfl rfl (by decide +kernel)) (pi_keys (pv 1)) (blkOk_by (N := N__putting) (sc := defScope s__putting) (by decide +kernel)) (fun _ _ _ _ _ => (pg_name (i := 5) nd rfl (Or.inl rfl))) (fun _ _ _ _ _ => (pts_one (pt_cmpR op_ne (pv 5) (pe_ix (ix_tupK (K := K)) (pv 0) pe_int (fun _ _ => rfl)) (nomark _)))) (fun _ _ _ _ _ => (pv 5)) (fun _ _ _ _ _ => (pe_dget hu (pv 1) (pv 5) (fun _ _ => rfl)))))
      (pss_one (ps_asg (pe_tup (pa_cons (pe_ix ix_tup (pv 0) (pe_un un_neg pe_int) (fun _ _ => rfl)) (pa_cons (pv 3) (pa_cons pe_bl pa_nil)))) (pg_sub (pv 2) (pe_un un_neg pe_int) set_list))))
    pss_nil)
  (pss_one (ps_ret (pv 2))))), ?_⟩
  rw [st__putting]
  refine seq_ fun R hR => ?_
  walk_at "rd"
  obtain ⟨a, ws, rfl, ha, hws⟩ := ht.view
  have wl := pr_len hws
  refine ⟨t, a, ws, rfl, ha, by rw [← wl]; exact t.kids_le, fun l H1 hl k1 a1 => ?_⟩
  walk_at "rd"
  refine ⟨⟨_, SqL.of a1⟩, lcL (fun i acc H' => Paired (AtK d H') (t.kids.take i) acc) (fun i acc H' H'' k p => pr_mono p fun _ _ => AtK.mono k) (SqL.of a1) (by rw [← wl]; exact Nat.le_trans t.kids_le (by decide)) (fun _ => rfl) .nil ?_ ?_⟩
  · intro i x acc H2 hi hl' e2 p Qy hy Qn hn
    walk_at "rd"
    obtain ⟨u, hu1, hu2⟩ := pr_right hws hi
    refine new_ fun pn H3 hpn k3 a3 => hy _ _ k3 ?_
    show Paired _ (t.kids.take (i + 1)) _
    rw [List.take_succ, hu1]
    exact pr_append (pr_mono p fun _ _ => AtK.mono (same_kt k3)) (.cons ⟨pn, _, rfl, a3, hu2.mono (same_kt (k1.trans (e2.trans k3)))⟩ .nil)
  · intro D ys H2 hD e2 hD2 p
    rw [← wl, List.take_length] at p
    rw [hR]; clear hR
    have ha2 := (k1.trans e2) _ _ ha
    have hs2 := hs.mono (same_kd (k1.trans e2))
    refine ifq_ fun R A B hR hA hB => ?_
    walk_at "rd"
    have hend : (∀ x, (t.word = "fun" ∨ t.word = "let") → t.own = [.str x] → s0 (.inr x) = none) → B H2 := by
      intro h
      rw [hB]
      walk_at "rd"
      rw [hR]
      walk_at "rd"
      refine q D ys H2 (k1.free hD) (k1.trans e2) hD2 ?_
      rw [Sh.pars_same h]
      exact AtK.items hs2 p
    have hgo : (t.word = "fun" ∨ t.word = "let") → ∃ x : List V, SqT K H2 a x ∧ ∃ x_1, atI x 1 = some x_1 ∧ ∃ x_2, DGet H2 d x_1 x_2 ∧ if x_2.isSome = true then A H2 else B H2 := by
      intro hw
      obtain ⟨x, ho⟩ := Sh.bind_own hw
      obtain ⟨kvs, hd, hkl, hkv⟩ := hs2.look
      refine ⟨_, SqT.of ha2, _, by rw [ho]; exact at1 _ _ _, _, DGet.k (k := Sum.inr x) hd, ?_⟩
      rcases hkv (.inr x) with ⟨h1, h2⟩ | ⟨r, tt, h1, h2, h3⟩
      · rw [h1, if_neg (by simp)]
        exact hend fun y _ hy => by rw [ho] at hy; cases hy; exact h2
      · rw [h1, if_pos (by rfl), hA]
        refine seq_ fun R1 hR1 => ?_
        refine lock_set (lock_dc (fun k => decide (k ≠ .inr x)) hd (szLt (by omega)) (fun H' Q h => ⟨_, rfl, h⟩) (fun _ => rfl) ?_ ?_)
        · intro k o H' e
          have hdf : H' d = some (.frz o (.dK kvs)) := e _ _ upd_same
          have had : a ≠ d := ne_of ha2 hd (by intro z; cases z)
          have ha3 : H' a = some (.tup (.str t.word :: t.own ++ ws)) := e _ _ (by rw [upd_ne had]; exact ha2)
          refine ⟨fun Qt h => ?_, fun Q h => ⟨_, rfl, h⟩, fun v Q hv h => ⟨_, rfl, _, rfl, d, v, rfl, .inl ⟨kvs, k, .inr ⟨o, hdf⟩, rfl, hv.symm⟩, h⟩⟩
          walk_at "rd"
          refine ⟨_, SqT.of ha3, .str x, by rw [ho]; exact at1 _ _ _, ?_⟩
          cases k with
          | inl i =>
            refine ⟨rfl, ?_⟩
            exact h
          | inr y =>
            refine ⟨rfl, ?_⟩
            have e1 : decide ((Sum.inr y : Key) ≠ Sum.inr x) = !decide (kV (.inr y) = V.str x) := by
              by_cases e : y = x
              · subst e; simp [kV]
              · simp [e, kV]
            rw [e1] at h
            exact h
        intro D3 acc H3 hD3 e3 hD3' hal hav
        rw [hR1]
        have hs3 : DictS H3 D3 (s0.del x) := ⟨acc, hD3', by omega, fun k => by
          rw [hav k]
          unfold Ss.del
          by_cases e : k = .inr x
          · subst e; exact .inl ⟨by simp, by simp⟩
          · rw [if_pos (by simp [e]), if_neg e]
            rcases hkv k with h | ⟨r, t, h1, h2, h3⟩
            · exact .inl h
            · exact .inr ⟨r, t, h1, h2, h3.mono (same_kt e3)⟩⟩
        obtain ⟨us, b, ek, ep⟩ := Sh.pars_last (s := s0) hw ho
        have p3 := pr_mono p fun _ _ => AtK.mono (d := d) (same_kt e3)
        rw [ek] at p3
        obtain ⟨zs, z, rfl, p1, p2⟩ : ∃ zs z, ys = zs ++ [z] ∧ Paired (AtK d H3) us zs ∧ AtK d H3 b z := by
          rcases List.eq_nil_or_concat ys with e0 | ⟨zs, z, e0⟩
          · subst e0
            have := pr_len p3
            simp at this
          · rw [List.concat_eq_append] at e0
            subst e0
            obtain ⟨us', u', e1, h1, h2⟩ := pr_snoc p3
            obtain ⟨rfl, e3⟩ := List.append_inj' e1 rfl
            obtain rfl : b = u' := by simpa using e3
            exact ⟨zs, z, rfl, h1, h2⟩
        obtain ⟨cs, c, ew, hc⟩ : ∃ cs c, ws = cs ++ [c] ∧ AtS H3 b c := by
          have hw3 : Paired (AtS H3) t.kids ws := pr_mono hws fun _ _ h => h.mono (same_kt (k1.trans (e2.trans e3)))
          rw [ek] at hw3
          rcases List.eq_nil_or_concat ws with e0 | ⟨cs, c, e0⟩
          · subst e0
            have := pr_len hw3
            simp at this
          · rw [List.concat_eq_append] at e0
            subst e0
            obtain ⟨us', u', e1, h1, h2⟩ := pr_snoc hw3
            obtain ⟨rfl, e3⟩ := List.append_inj' e1 rfl
            obtain rfl : b = u' := by simpa using e3
            exact ⟨cs, c, rfl, h2⟩
        have ha3 := e3 _ _ ha2
        walk_at "rd"
        refine ⟨_, SqT.of ha3, c, ?_, new_ fun pn H4 hpn k4 a4 => ⟨_, k4 _ _ (e3 _ _ hD2), _, ixN_last _ _, ?_⟩⟩
        · rw [ew, ← List.append_assoc]; exact atI_last _ _
        rw [hR, set_last]
        walk_at "rd"
        have e4 := k1.trans (e2.trans (e3.trans k4))
        have hDn : H D = none := k1.free hD
        have kk : KD H4 (upd H4 D (.lst (zs ++ [.ref pn]))) := kd_lst (k4 _ _ (e3 _ _ hD2))
        refine q D _ _ hDn (same_mut e4 hDn) upd_same ?_
        rw [ep, itemsP, List.map_append]
        refine pr_append (AtK.items ((hs2.mono (same_kd (e3.trans k4))).mono kk) (pr_mono p1 fun _ _ h => (h.mono (same_kt k4)).mono kk.kt)) (.cons ⟨pn, c, D3, rfl, kk.1 _ _ a4, (hc.mono (same_kt k4)).mono kk.kt, (hs3.mono (same_kd k4)).mono kk⟩ .nil)
    refine ⟨_, SqT.of ha2, _, at0 _ _, rfl, ?_⟩
    by_cases wf : t.word = "fun"
    · rw [if_pos (by rw [wf])]
      exact hgo (.inl wf)
    · rw [if_neg (by simp [wf])]
      refine ⟨_, SqT.of ha2, _, at0 _ _, rfl, ?_⟩
      by_cases wl' : t.word = "let"
      · rw [if_pos (by rw [wl'])]
        exact hgo (.inr wl')
      · rw [if_neg (by simp [wl'])]
        exact hend fun x hw _ => (hw.elim wf wl').elim
theorem df_put_all (T : UTxt K w mg aS) (F : FunAt K mg "put_all" s_put_all) (D__putting : Df P w K mg base 2 "_putting" ["node", "here"] spPutting) : Df P w K mg base 3 "put_all" ["tree", "values"] spPutAll := by
  refine F.df sc_put_all bd_put_all (fun vs H Q E h => ?_) (fun f cdv A outer s H vs Q E hr h => ?_)
  · obtain ⟨_, _, _, _, rfl, _⟩ := h; rfl
  obtain ⟨t, s0, u, d, rfl, ht, hs, htd, q⟩ := h
  have nd := sc_put_all.nd
  have hu := hu_of hr
  refine ⟨_, (pss_cons (ps_set (i := 2) nd rfl (Or.inl rfl) (pe_lst pa_nil))
  (pss_cons (ps_set (i := 3) nd rfl (Or.inl rfl) (pe_lst (pa_cons (pe_tup (pa_cons (pv 0) (pa_cons (pv 1) (pa_cons pe_bl pa_nil)))) pa_nil)))
  (pss_cons (ps_while PassesOwn.never (pt_truth (pv 3) (by intro _; rfl))
    (pss_cons (ps_asg (pe_bm0 PySem.F.plainAttrs_list PySem.F.slot_list_pop PySem.F.type_list_pop mt_popL (pv 3)) (pg_tup rfl (pgs_cons (pg_name (i := 4) nd rfl (Or.inl rfl)) (pgs_cons (pg_name (i := 5) nd rfl (Or.inl rfl)) (pgs_cons (pg_name (i := 6) nd rfl (Or.inl rfl)) pgs_nil)))))
      (pss_one (ps_if (pt_val (pv 6))
        (pss_cons (ps_set (i := 7) nd rfl (Or.inl rfl) (pe_ix ix_kd (pe_gref (by rfl) T.STARTS) (pe_ix ix_tup (pv 4) pe_int (fun _ _ => rfl)) (fun _ _ => rfl)))
          (pss_cons (ps_set (i := 8) nd rfl (Or.inl rfl) (pe_op op_sub (pe_callB call_len_seq (by rfl) T.len PySem.boot_len (pa_cons (pv 4) pa_nil)) (pv 7)))
          (pss_one (ps_tail (pv 2) (pe_un un_neg (pv 8)) (pe_lst (pa_cons (pe_op op_catT (pe_slice sl_tup (pv 4) po_none (po_some (pv 7))) (pe_tupleOf (by rfl) T.tuple (pe_slice sl_list (pv 2) (po_some (pe_un un_neg (pv 8))) po_none))) pa_nil)) rfl))))
        (pss_one (ps_if (pt_cmpR op_eq (pe_ix ix_tup (pv 4) pe_int (fun _ _ => rfl)) pe_str (nomark _))
            (pss_one (ps_expr (pe_bm PySem.F.plainAttrs_list PySem.F.slot_list_append PySem.F.type_list_append mt_append (pv 2) (pa_cons (pe_dget2 hu (pv 5) (pe_ix ix_tup (pv 4) pe_int (fun _ _ => rfl)) (pv 4) ⟨rfl, rfl, rfl, rfl⟩) pa_nil))))
            (pss_one (ps_if (PW.pt (pw_or (pt_cmpR op_eq (pe_ix ix_tup (pv 4) pe_int (fun _ _ => rfl)) pe_str (nomark _)) (pw_or1 (pt_cmpR op_eq (pe_callB call_lenD (by rfl) T.len PySem.boot_len (pa_cons (pv 5) pa_nil)) pe_int (nomark _)))))
                (pss_one (ps_expr (pe_bm PySem.F.plainAttrs_list PySem.F.slot_list_append PySem.F.type_list_append mt_append (pv 2) (pa_cons (pv 4) pa_nil))))
                (pss_cons (ps_expr (pe_bm PySem.F.plainAttrs_list PySem.F.slot_list_append PySem.F.type_list_append mt_append (pv 3) (pa_cons (pe_tup (pa_cons (pv 4) (pa_cons (pv 5) (pa_cons pe_bl pa_nil)))) pa_nil)))
                  (pss_one (ps_expr (pe_bm PySem.F.plainAttrs_list PySem.F.slot_list_extend PySem.F.type_list_extend mt_extend (pv 3) (pa_cons (pe_revL (pe_callD D__putting hr (by decide) rfl (pa_cons (pv 4) (pa_cons (pv 5) pa_nil)))) pa_nil)))))))))))))
  (pss_one (ps_ret (pe_ix ix_list (pv 2) pe_int (fun _ _ => rfl))))))), ?_⟩
  rw [st_put_all]
  refine seq_ fun R hR => ?_
  walk_at "rd"
  refine new_ fun ld H1 hld k1 a1 => ?_
  rw [hR]; clear hR
  refine seq_ fun R hR => ?_
  walk_at "rd"
  refine new_ fun p2 H2 hp2 k2 a2 => new_ fun lw H3 hlw k3 a3 => ?_
  rw [hR]; clear hR
  refine seq_ fun R hR => ?_
  have hld0 : H ld = none := hld
  have hlw0 : H lw = none := (k1.trans k2).free hlw
  have ndw : ld ≠ lw := ne_of_none (k2 _ _ a1) hlw
  refine whileL_ (fun m σ H' => ∃ (vs ds : List V) (W : List PIt) (D : List Sh) (o4 o5 o6 o7 o8 : Option V), σ = [some u, some (.ref d), some (.ref ld), some (.ref lw), o4, o5, o6, o7, o8] ∧ Same H H' ∧
    H' lw = some (.lst vs) ∧ H' ld = some (.lst ds) ∧ Paired (AtP H') W vs ∧ Paired (AtS H') D ds ∧ finP W.reverse D = [t.sub s0] ∧ okP W.reverse D.length ∧ dpP (4 * t.dep) W.reverse ∧ m = wtP W) (2 * t.size) ?_ ?_
  · refine ⟨_, _, [⟨t, s0, false⟩], [], none, none, none, none, none, rfl, (k1.trans k2).trans k3, a3, k3 _ _ (k2 _ _ a1), .cons ⟨p2, u, d, rfl, k3 _ _ a2, ht.mono (same_kt ((k1.trans k2).trans k3)), hs.mono (same_kd ((k1.trans k2).trans k3))⟩ .nil, .nil, rfl, rfl, ?_, ?_⟩
    · exact ⟨by simp, trivial⟩
    · simp [wtP, PIt.wt]
  · rintro m σ H5 ⟨vs, ds, W, D, o4, o5, o6, o7, o8, rfl, e5, hW, hD, pW, pD, hfin, hok, hdp, rfl⟩
    refine ⟨lw, vs, rfl, hW, fun h0 => ?_, fun ys y hy N hN => ?_⟩
    · subst h0
      cases pW
      show R _ _
      rw [hR]
      walk_at "rd"
      obtain rfl : D = [t.sub s0] := hfin
      cases pD with
      | cons h1 h2 =>
        cases h2
        exact ⟨_, SqL.of hD, _, at0 _ _, q _ _ e5 h1⟩
    · subst hy
      obtain ⟨us, i, rfl, pW1, hi⟩ := pr_snoc pW
      refine seq_ fun R1 hR1 => ?_
      walk_at "rd"
      have kt1 := kd_lst (o := .lst ys) hW
      refine ⟨.inl ⟨rfl, _, SqL.of hW⟩, _, _, hW, ?_⟩
      have e6 : Same H (upd H5 lw (.lst ys)) := same_mut e5 hlw0
      have hW6 : upd H5 lw (.lst ys) lw = some (.lst ys) := upd_same
      have hD6 : upd H5 lw (.lst ys) ld = some (.lst ds) := by rw [upd_ne ndw]; exact hD
      have pW6 := pr_mono pW1 fun _ _ h => AtP.mono kt1 h
      have pD6 := pr_mono pD fun _ _ h => AtS.mono kt1.kt h
      have hi6 := hi.mono kt1
      generalize upd H5 lw (.lst ys) = H6 at *
      rw [List.reverse_append, List.reverse_singleton, List.singleton_append] at hfin hok hdp
      have hwl := hdp.len
      have hdl := hok.le
      rw [List.length_cons, List.length_reverse] at hwl hdl
      have lW := pr_len pW6
      have lD := pr_len pD6
      obtain ⟨tt, ss, rr⟩ := i
      obtain ⟨p, tv, d', rfl, hp, htt, hss⟩ := hi6
      dsimp only at hp htt hss
      obtain ⟨na, ws, rfl, hna, hws⟩ := htt.view
      have wl := pr_len hws
      refine ⟨_, rfl, _, SqT.of hp, rfl, _, _, rfl, _, _, rfl, _, _, rfl, rfl, ?_⟩
      rw [hR1]; clear hR1
      refine ifs_ fun A B hA hB => ?_
      walk_at "rd"
      cases rr with
      | true =>
        rw [if_pos rfl, hA]; clear hA hB
        obtain ⟨hk1, hk2, hok2⟩ := hok
        refine seq_ fun R1 hR1 => ?_
        walk_at "rd"
        refine ⟨_, SqT.of hna, _, at0 _ _, _, rfl, _, by rw [← Sh.wd_str]; exact T.starts tt.wd, ?_⟩
        rw [hR1]; clear hR1
        refine seq_ fun R1 hR1 => ?_
        walk_at "rd"
        refine ⟨_, .inr (SqT.of hna), ?_⟩
        have hmany : (((V.str tt.word :: tt.own ++ ws).length : Nat) : Int) - tt.wd.start = ((tt.kids.length : Nat) : Int) := by
          rw [← Sh.wd_start, wl]
          simp only [List.length_append, List.length_cons]
          omega
        rw [hmany, ← Sh.wd_start]
        rw [hR1]; clear hR1
        walk_at "rd"
        have hol : tt.own.length ≤ 1 := by cases tt <;> simp [Sh.own]
        have hxl : (V.str tt.word :: tt.own ++ ws).length = tt.own.length + 1 + ws.length := by simp only [List.length_append, List.length_cons]
        refine ⟨_, SqT.of hna, ?_, new_ fun p7 H7 hp7 e7 h7 => ⟨_, SqL.of (e7 _ _ hD6), new_ fun p8 H8 hp8 e8 h8 => .inl ⟨_, SqL.of h8, ?_⟩⟩⟩
        · rw [show ((tt.own.length : Nat) : Int) + 1 = ((tt.own.length + 1 : Nat) : Int) by omega, HT.sIx_none, HT.sIx_nat, hxl]
          omega
        have ec1 : cutV (V.str tt.word :: tt.own ++ ws) none (some (((tt.own.length : Nat) : Int) + 1)) = V.str tt.word :: tt.own := by
          rw [show ((tt.own.length : Nat) : Int) + 1 = ((tt.own.length + 1 : Nat) : Int) by omega, cut_hi]
          rw [show tt.own.length + 1 = (V.str tt.word :: tt.own).length by simp, List.take_left]
        have ec2 : cutV ds (some (-((tt.kids.length : Nat) : Int))) none = ds.drop (D.length - tt.kids.length) := by rw [cut_tail (by rw [← lD]; exact hk1) hk2, lD]
        rw [ec1] at h7
        rw [ec2] at h8 ⊢
        intro q9 hq9
        have e9 := same_new (o := .tup (ds.drop (D.length - tt.kids.length))) hq9
        have h9 := upd_same (H := H8) (a := q9) (o := .tup (ds.drop (D.length - tt.kids.length)))
        generalize upd H8 q9 (.tup (ds.drop (D.length - tt.kids.length))) = H9 at *
        have hdl' : (ds.drop (D.length - tt.kids.length)).length = tt.kids.length := by rw [List.length_drop, ← lD]; omega
        refine ⟨_, _, _, _, rfl, rfl, SqT.of (e9 _ _ (e8 _ _ h7)), SqT.of h9, by simp, ?_, fun h => ?_, fun _ p10 hp10 => ?_⟩
        · rw [hdl']; have := tt.kids_le; simp only [List.length_cons]; exact szL (by omega)
        · rw [h] at hdl'; simp at hdl'; omega
        have e10 := same_new (o := .tup (V.str tt.word :: tt.own ++ ds.drop (D.length - tt.kids.length))) hp10
        have h10 := upd_same (H := H9) (a := p10) (o := .tup (V.str tt.word :: tt.own ++ ds.drop (D.length - tt.kids.length)))
        generalize upd H9 p10 (.tup (V.str tt.word :: tt.own ++ ds.drop (D.length - tt.kids.length))) = H10 at *
        refine new_ fun p11 H11 hp11 e11 h11 => ?_
        have c11 : Same H6 H11 := e7.trans (e8.trans (e9.trans (e10.trans e11)))
        have hD11 := c11 _ _ hD6
        have hnp : ld ≠ p11 := ne_of_none ((e7.trans (e8.trans (e9.trans e10))) _ _ hD6) hp11
        refine ⟨ds, [.ref p10], tt.kids.length, rfl, hk2, by rw [← lD]; exact hk1, hnp, hD11, h11, by rw [← lD]; simp only [List.length_singleton]; rw [sizeLine_eq]; omega, ?_⟩
        rw [show ds.length = D.length from lD.symm]
        have kk := kd_lst (o := .lst (ds.take (D.length - tt.kids.length) ++ [.ref p10])) hD11
        have kt := (same_kd c11).trans kk
        refine hN _ _ _ ?_ ⟨ys, _, us, D.take (D.length - tt.kids.length) ++ [tt.build (D.drop (D.length - tt.kids.length))], _, _, _, _, _, rfl, same_mut (e6.trans c11) hld0, by rw [upd_ne (Ne.symm ndw)]; exact c11 _ _ hW6, upd_same,
          pr_mono pW6 fun _ _ h => AtP.mono kt h, ?_, hfin, ?_, hdp.2, rfl⟩
        · rw [wtP_r]; omega
        · refine pr_append (pr_mono (pr_take pD6 _) fun _ _ h => h.mono kt.kt) (.cons ?_ .nil)
          refine AtS.build (by rw [List.length_drop]; omega) (kk.1 _ _ (e11 _ _ h10)) (pr_mono (pr_drop pD6 _) fun _ _ h => h.mono kt.kt)
        · rw [List.length_append, List.length_take, List.length_singleton, Nat.min_eq_left (by omega)]
          exact hok2
      | false =>
        rw [if_neg (by decide), hB]; clear hA hB
        obtain ⟨kvs, hd6, hkl, hkv⟩ := hss.look
        have hput : ∀ (r : V) (o7 o8 : Option V), AtS H6 (tt.sub ss) r → N [some u, some (.ref d), some (.ref ld), some (.ref lw), some (.ref na), some (.ref d'), some (.bl false), o7, o8] (upd H6 ld (.lst (ds ++ [r]))) := by
          intro r o7 o8 hr'
          have kk := kd_lst (o := .lst (ds ++ [r])) hD6
          refine hN _ _ _ ?_ ⟨ys, _, us, D ++ [tt.sub ss], _, _, _, _, _, rfl, same_mut e6 hld0, by rw [upd_ne (Ne.symm ndw)]; exact hW6, upd_same, pr_mono pW6 fun _ _ h => AtP.mono kk h,
            pr_append (pr_mono pD6 fun _ _ h => h.mono kk.kt) (.cons (hr'.mono kk.kt) .nil), hfin, ?_, hdp.2, rfl⟩
          · have := tt.size_pos
            rw [wtP_f]; omega
          · rw [List.length_append, List.length_singleton]; exact hok
        refine ifs_ fun A B hA hB => ?_
        walk_at "rd"
        refine ⟨_, SqT.of hna, _, at0 _ _, rfl, ?_⟩
        by_cases wn : tt.word = "name"
        · rw [if_pos (by rw [wn]), hA]; clear hA hB
          obtain ⟨k, rfl⟩ : ∃ k, tt = .name k := by cases tt <;> first | exact ⟨_, rfl⟩ | (simp only [Sh.word] at wn; exact absurd wn (by decide +kernel))
          walk_at "rd"
          refine ⟨.inl ⟨rfl, _, SqL.of hD6⟩, .inl ⟨kvs, .inl hd6⟩, _, SqT.of hna, kV k, at1 _ _ _, _, DGet.k hd6, _, hD6, ?_, hput _ _ _ ?_⟩
          · rw [← lD, sizeLine_eq]; omega
          · rcases hkv k with ⟨h1, h2⟩ | ⟨r, tr, h1, h2, h3⟩
            · rw [h1]; simp only [Sh.sub, h2, Option.getD_none]; exact htt
            · rw [h1]; simp only [Sh.sub, h2, Option.getD_some]; exact h3
        · rw [if_neg (by simp [wn]), hB]; clear hA hB
          refine ifs_ fun A B hA hB => ?_
          walk_at "rd"
          refine ⟨_, SqT.of hna, _, at0 _ _, rfl, ?_⟩
          have hsame : tt.sub ss = tt → A H6 := fun e => by
            rw [hA]
            walk_at "rd"
            exact ⟨.inl ⟨rfl, _, SqL.of hD6⟩, _, hD6, by rw [← lD, sizeLine_eq]; omega, hput _ _ _ (by rw [e]; exact htt)⟩
          by_cases wm : tt.word = "num"
          · rw [if_pos (by rw [wm])]
            refine hsame ?_
            cases tt <;> first | rfl | (simp only [Sh.word] at wm; exact absurd wm (by decide +kernel))
          · rw [if_neg (by simp [wm])]
            refine ⟨kvs, hd6, ?_⟩
            by_cases h0 : kvs = []
            · subst h0
              rw [if_pos (by simp)]
              refine hsame ?_
              have : ss = Ss.none := by
                funext k
                rcases hkv k with ⟨_, h2⟩ | ⟨r, tr, h1, _⟩
                · exact h2
                · cases h1
              rw [this]
              exact tt.sub_none
            · have hkn : ¬ ((kvs.length : Nat) : Int) = 0 := fun h => h0 (List.length_eq_zero_iff.mp (by omega))
              rw [if_neg hkn, hB]; clear hA hB
              have hk1 : 1 ≤ tt.kids.length := by
                cases tt <;> first | exact absurd rfl wn | exact absurd rfl wm | simp [Sh.kids]
              refine seq_ fun R1 hR1 => ?_
              walk_at "rd"
              refine ⟨.inl ⟨rfl, _, SqL.of hW6⟩, new_ fun p7 H7 hp7 e7 h7 => ⟨_, e7 _ _ hW6, by rw [← lW, sizeLine_eq]; omega, ?_⟩⟩
              rw [hR1]; clear hR1
              have kk7 := (same_kd e7).trans (kd_lst (o := .lst (ys ++ [.ref p7])) (e7 _ _ hW6))
              have hW8 : upd H7 lw (.lst (ys ++ [.ref p7])) lw = some (.lst (ys ++ [.ref p7])) := upd_same
              have hD8 : upd H7 lw (.lst (ys ++ [.ref p7])) ld = some (.lst ds) := by rw [upd_ne ndw]; exact e7 _ _ hD6
              have e8 : Same H (upd H7 lw (.lst (ys ++ [.ref p7]))) := same_mut (e6.trans e7) hlw0
              have hp8 := (kd_lst (o := .lst (ys ++ [.ref p7])) (e7 _ _ hW6)).1 _ _ h7
              generalize upd H7 lw (.lst (ys ++ [.ref p7])) = H8 at *
              walk_at "rd"
              refine ⟨.inl ⟨rfl, _, SqL.of hW8⟩, tt, ss, .ref na, d', rfl, htt.mono kk7.kt, hss.mono kk7, fun l9 rs H9 hl9 e9 h9 hrs => ?_⟩
              walk_at "rd"
              have lrs := pr_len hrs
              rw [itemsP_len, Sh.pars_len] at lrs
              have hkl3 := tt.kids_le
              refine ⟨_, SqL.of h9, new_ fun l10 H10 hl10 e10 h10 => ⟨_, (e9.trans e10) _ _ hW8, _, h10, ?_, ?_⟩⟩
              · rw [List.length_reverse, List.length_append, List.length_singleton, ← lrs, ← lW, sizeLine_eq]; omega
              have hWa := (e9.trans e10) _ _ hW8
              have kk := kd_lst (o := .lst (ys ++ [.ref p7] ++ rs.reverse)) hWa
              have k69 := kk7.trans ((same_kd (e9.trans e10)).trans kk)
              refine hN _ _ _ ?_ ⟨_, ds, us ++ [⟨tt, ss, true⟩] ++ (itemsP (tt.pars ss)).reverse, D, _, _, _, _, _, rfl, same_mut (e8.trans (e9.trans e10)) hlw0, upd_same, by rw [upd_ne ndw]; exact (e9.trans e10) _ _ hD8, ?_,
                pr_mono pD6 fun _ _ h => h.mono k69.kt, ?_, ?_, ?_, rfl⟩
              · have := wtP_items ss tt
                rw [wtP_append, wtP_reverse, wtP_r, wtP_f]; omega
              · refine pr_append (pr_append (pr_mono pW6 fun _ _ h => AtP.mono k69 h) (.cons ⟨p7, .ref na, d', rfl, kk.1 _ _ ((e9.trans e10) _ _ hp8), htt.mono k69.kt, hss.mono k69⟩ .nil)) (pr_rev (pr_mono hrs fun _ _ h => AtP.mono ((same_kd e10).trans kk) h))
              all_goals rw [List.reverse_append, List.reverse_reverse, List.reverse_append, List.reverse_singleton, List.singleton_append]
              · rw [finP_ready wn]; exact hfin
              · exact (okP_ready hk1).mpr hok
              · exact dpP_ready hdp
theorem df_put (T : UTxt K w mg aS) (F : FunAt K mg "put" s_put) (D_put_all : Df P w K mg base 3 "put_all" ["tree", "values"] spPutAll) : Df P w K mg base 4 "put" ["tree", "name", "value"] spPutS := by
  refine F.df sc_put bd_put (fun vs H Q E h => ?_) (fun f cdv A outer s H vs Q E hr h => ?_)
  · obtain ⟨_, _, _, _, _, rfl, _⟩ := h; rfl
  obtain ⟨t, v, k, u, y, rfl, ht, hv, hd, q⟩ := h
  have nd := sc_put.nd
  refine ⟨_, (pss_one (ps_ret (pe_callD D_put_all hr (by decide) rfl (pa_cons (pv 0) (pa_cons (pe_disp (pps_cons (pv 1) (pv 2) pps_nil) (by rfl) (by rfl) (fun z => by cases z) (by decide)) pa_nil))))), ?_⟩
  rw [st_put]
  walk_at "rd"
  intro p hp
  refine ⟨upd_same, [(k, y)], rfl, by simp, ?_⟩
  have e1 : Same H (upd (upd H p (.dK [])) p (.dK [(k, y)])) := by rw [upd_upd]; exact same_new hp
  have h1 : upd (upd H p (.dK [])) p (.dK [(k, y)]) p = some (.dK [(k, y)]) := upd_same
  show spPutAll _ (upd (upd H p (.dK [])) p (.dK [(k, y)])) _ _
  generalize upd (upd H p (.dK [])) p (.dK [(k, y)]) = H1 at *
  exact ⟨t, Ss.one k v, u, p, rfl, ht.mono (same_kt e1), DictS.one h1 (hv.mono (same_kt e1)), hd, fun r H' e h => q r H' (e1.trans e) h⟩
end

end K03

namespace K03
open PySem L2 My
theorem all_mk {l : PySem.W.OpenLaw} {w : World} {K : PySem.W.Frag} {h : Heap} {mg : Str → Option Value} {fa : Addr} (X : K.In h) (G : h.Ns mainGlobals mg) (hfa : mg "law" = some (.ref fa))
    {aS : Addr} {es : Array DictEntry} {en : Nat} {us0 : Tok} {us1 : Tok} {us2 : Tok} {us3 : Tok} {us4 : Tok} {us5 : Tok} {us6 : Tok} {us7 : Tok}
    (z0 : PySem.W.nsIn K mainGlobals "len" = some none)
    (z1 : PySem.W.nsIn K mainGlobals "list" = some none)
    (z2 : PySem.W.nsIn K mainGlobals "range" = some none)
    (z3 : PySem.W.nsIn K mainGlobals "isinstance" = some none)
    (z4 : PySem.W.nsIn K mainGlobals "type" = some none)
    (z5 : PySem.W.nsIn K mainGlobals "all" = some none)
    (z6 : PySem.W.nsIn K mainGlobals "any" = some none)
    (z7 : PySem.W.nsIn K mainGlobals "str" = some none)
    (z8 : PySem.W.nsIn K mainGlobals "int" = some none)
    (z9 : PySem.W.nsIn K mainGlobals "bool" = some none)
    (z10 : PySem.W.nsIn K mainGlobals "tuple" = some none)
    (z11 : PySem.W.nsIn K mainGlobals "sorted" = some none)
    (z12 : PySem.W.nsIn K mainGlobals "reversed" = some none)
    (z13 : PySem.W.nsIn K mainGlobals "zip" = some none)
    (z14 : PySem.W.nsIn K mainGlobals "dict" = some none)
    (z15 : PySem.W.nsIn K mainGlobals "min" = some none)
    (z16 : PySem.W.nsIn K mainGlobals "max" = some none)
    (z17 : PySem.W.nsIn K mainGlobals "sum" = some none)
    (z18 : PySem.W.nsIn K mainGlobals "set" = some none)
    (z19 : PySem.W.nsIn K mainGlobals "repr" = some none)
    (z20 : PySem.W.nsIn K mainGlobals "abs" = some none)
    (z21 : PySem.W.nsIn K mainGlobals "enumerate" = some none)
    (z22 : PySem.W.nsIn K mainGlobals "ValueError" = some none)
    (gS : PySem.W.nsIn K mainGlobals "STARTS" = some (some (.ref aS)))
    (lS : K.lookup aS = some ⟨.type "dict", none, .dict es en, #[]⟩)
    (kS : PySem.W.KeysLit w.params es.toList)
    (ss0 : PySem.W.nsIn K aS "num" = some (some (.int 2 us0)))
    (ss1 : PySem.W.nsIn K aS "name" = some (some (.int 2 us1)))
    (ss2 : PySem.W.nsIn K aS "fun" = some (some (.int 2 us2)))
    (ss3 : PySem.W.nsIn K aS "call" = some (some (.int 1 us3)))
    (ss4 : PySem.W.nsIn K aS "plus" = some (some (.int 1 us4)))
    (ss5 : PySem.W.nsIn K aS "less" = some (some (.int 1 us5)))
    (ss6 : PySem.W.nsIn K aS "if" = some (some (.int 1 us6)))
    (ss7 : PySem.W.nsIn K aS "let" = some (some (.int 2 us7)))
    {od0 an0 : Option Addr} {sl0 : Array (Option Value)} {oc0 kV0 dc0 pm0 cd0 ct0 : Value} {f0 : Addr}
    {od1 an1 : Option Addr} {sl1 : Array (Option Value)} {oc1 kV1 dc1 pm1 cd1 ct1 : Value} {f1 : Addr}
    {od2 an2 : Option Addr} {sl2 : Array (Option Value)} {oc2 kV2 dc2 pm2 cd2 ct2 : Value} {f2 : Addr}
    {od3 an3 : Option Addr} {sl3 : Array (Option Value)} {oc3 kV3 dc3 pm3 cd3 ct3 : Value} {f3 : Addr}
    {od4 an4 : Option Addr} {sl4 : Array (Option Value)} {oc4 kV4 dc4 pm4 cd4 ct4 : Value} {f4 : Addr}
    {od5 an5 : Option Addr} {sl5 : Array (Option Value)} {oc5 kV5 dc5 pm5 cd5 ct5 : Value} {f5 : Addr}
    {od6 an6 : Option Addr} {sl6 : Array (Option Value)} {oc6 kV6 dc6 pm6 cd6 ct6 : Value} {f6 : Addr}
    {od7 an7 : Option Addr} {sl7 : Array (Option Value)} {oc7 kV7 dc7 pm7 cd7 ct7 : Value} {f7 : Addr}
    {od8 an8 : Option Addr} {sl8 : Array (Option Value)} {oc8 kV8 dc8 pm8 cd8 ct8 : Value} {f8 : Addr}
    {od9 an9 : Option Addr} {sl9 : Array (Option Value)} {oc9 kV9 dc9 pm9 cd9 ct9 : Value} {f9 : Addr}
    {od10 an10 : Option Addr} {sl10 : Array (Option Value)} {oc10 kV10 dc10 pm10 cd10 ct10 : Value} {f10 : Addr}
    {od11 an11 : Option Addr} {sl11 : Array (Option Value)} {oc11 kV11 dc11 pm11 cd11 ct11 : Value} {f11 : Addr}
    (a0 : PySem.W.nsIn K mainGlobals "parts" = some (some (.ref f0))) (l0 : K.lookup f0 = some ⟨oc0, od0, .func (PySem.W.fnOf "parts" "parts" (defArgs s_parts) (defBody s_parts) (defScope s_parts) .none kV0 dc0 pm0 an0 cd0 ct0), sl0⟩) (c0 : PySem.W.codeIn K cd0 "parts" = true) (k0 : PySem.W.keepIn K (.ref f0) = true)
    (a1 : PySem.W.nsIn K mainGlobals "put" = some (some (.ref f1))) (l1 : K.lookup f1 = some ⟨oc1, od1, .func (PySem.W.fnOf "put" "put" (defArgs s_put) (defBody s_put) (defScope s_put) .none kV1 dc1 pm1 an1 cd1 ct1), sl1⟩) (c1 : PySem.W.codeIn K cd1 "put" = true) (k1 : PySem.W.keepIn K (.ref f1) = true)
    (a2 : PySem.W.nsIn K mainGlobals "put_all" = some (some (.ref f2))) (l2 : K.lookup f2 = some ⟨oc2, od2, .func (PySem.W.fnOf "put_all" "put_all" (defArgs s_put_all) (defBody s_put_all) (defScope s_put_all) .none kV2 dc2 pm2 an2 cd2 ct2), sl2⟩) (c2 : PySem.W.codeIn K cd2 "put_all" = true) (k2 : PySem.W.keepIn K (.ref f2) = true)
    (a3 : PySem.W.nsIn K mainGlobals "_putting" = some (some (.ref f3))) (l3 : K.lookup f3 = some ⟨oc3, od3, .func (PySem.W.fnOf "_putting" "_putting" (defArgs s__putting) (defBody s__putting) (defScope s__putting) .none kV3 dc3 pm3 an3 cd3 ct3), sl3⟩) (c3 : PySem.W.codeIn K cd3 "_putting" = true) (k3 : PySem.W.keepIn K (.ref f3) = true)
    (a4 : PySem.W.nsIn K mainGlobals "_law_cell_at" = some (some (.ref f4))) (l4 : K.lookup f4 = some ⟨oc4, od4, .func (PySem.W.fnOf "_law_cell_at" "_law_cell_at" (defArgs s__law_cell_at) (defBody s__law_cell_at) (defScope s__law_cell_at) .none kV4 dc4 pm4 an4 cd4 ct4), sl4⟩) (c4 : PySem.W.codeIn K cd4 "_law_cell_at" = true) (k4 : PySem.W.keepIn K (.ref f4) = true)
    (a5 : PySem.W.nsIn K mainGlobals "_law_kin_by" = some (some (.ref f5))) (l5 : K.lookup f5 = some ⟨oc5, od5, .func (PySem.W.fnOf "_law_kin_by" "_law_kin_by" (defArgs s__law_kin_by) (defBody s__law_kin_by) (defScope s__law_kin_by) .none kV5 dc5 pm5 an5 cd5 ct5), sl5⟩) (c5 : PySem.W.codeIn K cd5 "_law_kin_by" = true) (k5 : PySem.W.keepIn K (.ref f5) = true)
    (a6 : PySem.W.nsIn K mainGlobals "_law_name_by" = some (some (.ref f6))) (l6 : K.lookup f6 = some ⟨oc6, od6, .func (PySem.W.fnOf "_law_name_by" "_law_name_by" (defArgs s__law_name_by) (defBody s__law_name_by) (defScope s__law_name_by) .none kV6 dc6 pm6 an6 cd6 ct6), sl6⟩) (c6 : PySem.W.codeIn K cd6 "_law_name_by" = true) (k6 : PySem.W.keepIn K (.ref f6) = true)
    (a7 : PySem.W.nsIn K mainGlobals "_law_joined" = some (some (.ref f7))) (l7 : K.lookup f7 = some ⟨oc7, od7, .func (PySem.W.fnOf "_law_joined" "_law_joined" (defArgs s__law_joined) (defBody s__law_joined) (defScope s__law_joined) .none kV7 dc7 pm7 an7 cd7 ct7), sl7⟩) (c7 : PySem.W.codeIn K cd7 "_law_joined" = true) (k7 : PySem.W.keepIn K (.ref f7) = true)
    (a8 : PySem.W.nsIn K mainGlobals "_law_tree_by" = some (some (.ref f8))) (l8 : K.lookup f8 = some ⟨oc8, od8, .func (PySem.W.fnOf "_law_tree_by" "_law_tree_by" (defArgs s__law_tree_by) (defBody s__law_tree_by) (defScope s__law_tree_by) .none kV8 dc8 pm8 an8 cd8 ct8), sl8⟩) (c8 : PySem.W.codeIn K cd8 "_law_tree_by" = true) (k8 : PySem.W.keepIn K (.ref f8) = true)
    (a9 : PySem.W.nsIn K mainGlobals "_law_leaf" = some (some (.ref f9))) (l9 : K.lookup f9 = some ⟨oc9, od9, .func (PySem.W.fnOf "_law_leaf" "_law_leaf" (defArgs s__law_leaf) (defBody s__law_leaf) (defScope s__law_leaf) .none kV9 dc9 pm9 an9 cd9 ct9), sl9⟩) (c9 : PySem.W.codeIn K cd9 "_law_leaf" = true) (k9 : PySem.W.keepIn K (.ref f9) = true)
    (a10 : PySem.W.nsIn K mainGlobals "_law_put_right" = some (some (.ref f10))) (l10 : K.lookup f10 = some ⟨oc10, od10, .func (PySem.W.fnOf "_law_put_right" "_law_put_right" (defArgs s__law_put_right) (defBody s__law_put_right) (defScope s__law_put_right) .none kV10 dc10 pm10 an10 cd10 ct10), sl10⟩) (c10 : PySem.W.codeIn K cd10 "_law_put_right" = true) (k10 : PySem.W.keepIn K (.ref f10) = true)
    (a11 : PySem.W.nsIn K mainGlobals "law" = some (some (.ref f11))) (l11 : K.lookup f11 = some ⟨oc11, od11, .func (PySem.W.fnOf "law" "law" (defArgs s_law) (defBody s_law) (defScope s_law) .none kV11 dc11 pm11 an11 cd11 ct11), sl11⟩) (c11 : PySem.W.codeIn K cd11 "law" = true) (k11 : PySem.W.keepIn K (.ref f11) = true) :
    ∃ fd : FuncData, (∀ (s : Shared) (v : Value), BindsTo s fd ⟨[v], []⟩ [("_law_script", v)]) ∧ ∀ base : Heap, K.In base → base.Ns mainGlobals mg → FnOk l.prog w K mg base CX0 7 fa fd ["_law_script"] (spLaw K) := by
  have hstarts : ∀ t : Wd, RdK K w aS t.str (.int t.start) := fun t => by
      cases t
      · exact ⟨es, en, _, lS, kS, ss0, ⟨_, rfl⟩⟩
      · exact ⟨es, en, _, lS, kS, ss1, ⟨_, rfl⟩⟩
      · exact ⟨es, en, _, lS, kS, ss2, ⟨_, rfl⟩⟩
      · exact ⟨es, en, _, lS, kS, ss3, ⟨_, rfl⟩⟩
      · exact ⟨es, en, _, lS, kS, ss4, ⟨_, rfl⟩⟩
      · exact ⟨es, en, _, lS, kS, ss5, ⟨_, rfl⟩⟩
      · exact ⟨es, en, _, lS, kS, ss6, ⟨_, rfl⟩⟩
      · exact ⟨es, en, _, lS, kS, ss7, ⟨_, rfl⟩⟩
  have B : Bt mg := { len := PySem.W.mg_none_of X G z0, list := PySem.W.mg_none_of X G z1, range := PySem.W.mg_none_of X G z2, isinstance := PySem.W.mg_none_of X G z3, type := PySem.W.mg_none_of X G z4, all := PySem.W.mg_none_of X G z5, any := PySem.W.mg_none_of X G z6, str := PySem.W.mg_none_of X G z7, int := PySem.W.mg_none_of X G z8, bool := PySem.W.mg_none_of X G z9, tuple := PySem.W.mg_none_of X G z10, sorted := PySem.W.mg_none_of X G z11, reversed := PySem.W.mg_none_of X G z12, zip := PySem.W.mg_none_of X G z13, dict := PySem.W.mg_none_of X G z14, min := PySem.W.mg_none_of X G z15, max := PySem.W.mg_none_of X G z16, sum := PySem.W.mg_none_of X G z17, set := PySem.W.mg_none_of X G z18, repr := PySem.W.mg_none_of X G z19, abs := PySem.W.mg_none_of X G z20, enumerate := PySem.W.mg_none_of X G z21, ValueError := PySem.W.mg_none_of X G z22 }
  have U : UTxt K w mg aS := { toBt := B, STARTS := PySem.W.mg_of X G gS, starts := hstarts }
  have F_parts : FunAt K mg "parts" s_parts := FunAt.mk X G a0 l0 c0 k0
  have F_put : FunAt K mg "put" s_put := FunAt.mk X G a1 l1 c1 k1
  have F_put_all : FunAt K mg "put_all" s_put_all := FunAt.mk X G a2 l2 c2 k2
  have F__putting : FunAt K mg "_putting" s__putting := FunAt.mk X G a3 l3 c3 k3
  have F__law_cell_at : FunAt K mg "_law_cell_at" s__law_cell_at := FunAt.mk X G a4 l4 c4 k4
  have F__law_kin_by : FunAt K mg "_law_kin_by" s__law_kin_by := FunAt.mk X G a5 l5 c5 k5
  have F__law_name_by : FunAt K mg "_law_name_by" s__law_name_by := FunAt.mk X G a6 l6 c6 k6
  have F__law_joined : FunAt K mg "_law_joined" s__law_joined := FunAt.mk X G a7 l7 c7 k7
  have F__law_tree_by : FunAt K mg "_law_tree_by" s__law_tree_by := FunAt.mk X G a8 l8 c8 k8
  have F__law_leaf : FunAt K mg "_law_leaf" s__law_leaf := FunAt.mk X G a9 l9 c9 k9
  have F__law_put_right : FunAt K mg "_law_put_right" s__law_put_right := FunAt.mk X G a10 l10 c10 k10
  have F_law : FunAt K mg "law" s_law := FunAt.mk X G a11 l11 c11 k11
  suffices z : ∀ fd : FuncData, Fun K "law" "law" s_law fa fd → ∀ base : Heap, K.In base ∧ base.Ns mainGlobals mg → FnOk l.prog w K mg base CX0 7 fa fd ["_law_script"] (spLaw K) from by
    obtain ⟨fd, hb, hok⟩ := law_of (y := "_law_script") F_law hfa (fun kV doc pm an cdv ct v => rfl) z
    exact ⟨fd, hb, fun base a b => hok base ⟨a, b⟩⟩
  intro fd F base _
  have D1 := df_parts (P := l.prog) (w := w) (base := base) U F_parts
  have D2 := df_putting (P := l.prog) (w := w) (base := base) U F__putting (parts_s D1)
  have D3 := df_put_all (P := l.prog) (w := w) (base := base) U F_put_all D2
  have D4 := put_t ((df_put (P := l.prog) (w := w) (base := base) U F_put D3).mono (by decide : 4 ≤ 6))
  have D5 := df_cell (P := l.prog) (w := w) (base := base) B F__law_cell_at
  have D6 := df_kin (P := l.prog) (w := w) (base := base) B F__law_kin_by
  have D7 := df_name (P := l.prog) (w := w) (base := base) B F__law_name_by
  have D8 := df_joined (P := l.prog) (w := w) (base := base) B F__law_joined
  have D9 := df_tree (P := l.prog) (w := w) (base := base) B F__law_tree_by D8
  have D10 := df_leaf (P := l.prog) (w := w) (base := base) B F__law_leaf
  have D11 := df_led (P := l.prog) (w := w) (base := base) B F__law_put_right D10
  exact df_law (P := l.prog) (w := w) (base := base) B F D5 D7 D6 D9 D4 D11
theorem walk {l : PySem.W.OpenLaw} {q : Program} {loose : List Str} {XP : (Str → Option Value) → Heap → Prop} {YP : World → Heap → Prop} {d : DefRec} {K : Params → PySem.W.Frag} (hn : l.most = some 63) (hdf : d.params.defaults = [])
    (hY : ∀ (w : World) (h : Heap), YP w h → (K w.params).In h)
    (F : ∀ (w : World) (mg : Str → Option Value) (fa : Addr) (h : Heap), (K w.params).In h → h.Ns mainGlobals mg → mg d.name = some (.ref fa) →
      ∃ fd : FuncData, (∀ (s : Shared) (u : Value), BindsTo s fd ⟨[u], []⟩ [("_law_script", u)]) ∧ ∀ base : Heap, (K w.params).In base → base.Ns mainGlobals mg → FnOk l.prog w (K w.params) mg base CX0 7 fa fd ["_law_script"] (spLaw (K w.params))) :
    PySem.W.WalkO q loose XP YP l.row.toRowW d [] (fun f vs => PySem.call f vs) :=
  L2.walk_of (n := 63) (k := 7) (x := "_law_script") (CX := fun _ => CX0) (sp := fun w => spLaw (K w.params)) hn (by decide) hdf ⟨rfl, by decide, by decide⟩ hY F (fun _ _ a ns hl _ hS => ⟨a, ns, rfl, hS, hl, fun _ => rfl⟩) fun _ _ _ _ _ z => z
end K03
open PySem PySem.W PyProof.Rows
set_option maxRecDepth 100000 in
set_option maxHeartbeats 0 in
theorem PySem.Challenge.cw_closuremill_k03_values_put_in_holds : PySem.Challenge.rw_closuremill_k03_values_put_in.Holds := by
  w_on; o_law; k_head; (case hw => w_witness2)
  k_fill
  refine K03.walk (l := PySem.Challenge.rw_closuremill_k03_values_put_in) rfl rfl (fun w h Y => PySem.W.kIn_of Y) ?F
  case F =>
    intro w mg fa h KX G hmg
    refine' K03.all_mk KX G hmg ?h_z0 ?h_z1 ?h_z2 ?h_z3 ?h_z4 ?h_z5 ?h_z6 ?h_z7 ?h_z8 ?h_z9 ?h_z10 ?h_z11 ?h_z12 ?h_z13 ?h_z14 ?h_z15 ?h_z16 ?h_z17 ?h_z18 ?h_z19 ?h_z20 ?h_z21 ?h_z22 ?h_gS ?h_lS ?h_kS ?h_ss0 ?h_ss1 ?h_ss2 ?h_ss3 ?h_ss4 ?h_ss5 ?h_ss6 ?h_ss7 ?a0 ?l0 ?c0 ?k0 ?a1 ?l1 ?c1 ?k1 ?a2 ?l2 ?c2 ?k2 ?a3 ?l3 ?c3 ?k3 ?a4 ?l4 ?c4 ?k4 ?a5 ?l5 ?c5 ?k5 ?a6 ?l6 ?c6 ?k6 ?a7 ?l7 ?c7 ?k7 ?a8 ?l8 ?c8 ?k8 ?a9 ?l9 ?c9 ?k9 ?a10 ?l10 ?c10 ?k10 ?a11 ?l11 ?c11 ?k11
    (case h_z0 => k_is)
    (case h_z1 => k_is)
    (case h_z2 => k_is)
    (case h_z3 => k_is)
    (case h_z4 => k_is)
    (case h_z5 => k_is)
    (case h_z6 => k_is)
    (case h_z7 => k_is)
    (case h_z8 => k_is)
    (case h_z9 => k_is)
    (case h_z10 => k_is)
    (case h_z11 => k_is)
    (case h_z12 => k_is)
    (case h_z13 => k_is)
    (case h_z14 => k_is)
    (case h_z15 => k_is)
    (case h_z16 => k_is)
    (case h_z17 => k_is)
    (case h_z18 => k_is)
    (case h_z19 => k_is)
    (case h_z20 => k_is)
    (case h_z21 => k_is)
    (case h_z22 => k_is)
    (case h_gS => k_is)
    (case h_lS => k_is)
    (case h_kS => k_keys)
    (case h_ss0 => k_is)
    (case h_ss1 => k_is)
    (case h_ss2 => k_is)
    (case h_ss3 => k_is)
    (case h_ss4 => k_is)
    (case h_ss5 => k_is)
    (case h_ss6 => k_is)
    (case h_ss7 => k_is)
    (case a0 => k_is); (case l0 => k_is); (case c0 => k_is); (case k0 => k_is)
    (case a1 => k_is); (case l1 => k_is); (case c1 => k_is); (case k1 => k_is)
    (case a2 => k_is); (case l2 => k_is); (case c2 => k_is); (case k2 => k_is)
    (case a3 => k_is); (case l3 => k_is); (case c3 => k_is); (case k3 => k_is)
    (case a4 => k_is); (case l4 => k_is); (case c4 => k_is); (case k4 => k_is)
    (case a5 => k_is); (case l5 => k_is); (case c5 => k_is); (case k5 => k_is)
    (case a6 => k_is); (case l6 => k_is); (case c6 => k_is); (case k6 => k_is)
    (case a7 => k_is); (case l7 => k_is); (case c7 => k_is); (case k7 => k_is)
    (case a8 => k_is); (case l8 => k_is); (case c8 => k_is); (case k8 => k_is)
    (case a9 => k_is); (case l9 => k_is); (case c9 => k_is); (case k9 => k_is)
    (case a10 => k_is); (case l10 => k_is); (case c10 => k_is); (case k10 => k_is)
    (case a11 => k_is); (case l11 => k_is); (case c11 => k_is); (case k11 => k_is)

