import PyProof.Rows.All
import Wide.All
import OpenK.AllK
import Wide.FinOn
import HandS.ForMost
import HandS.Exc
import HandS.TryOnly
import HandS.ExcOwn
import HandS.WordsExc
import HandS.IsInst
import HandS.Style
import HandS.Conv
import HandS.More
import KE.SortData
import HandS.ExcIs
import PySem.Challenge.RW_closuremill_k02_trees_refused
set_option Elab.async false
set_option maxRecDepth 100000
set_option linter.all false
namespace My
open PySem L2
open PyProof.Rows (envOfC)

/-! ### a def of the text, called by its name -/
structure Df (P : Program) (w : World) (K : PySem.W.Frag) (mg : Str → Option Value) (base : Heap) (k : Nat) (x : Str) (ps : List Str) (sp : Sp) : Prop where
  ex : ∃ (f : Addr) (fd : FuncData), FnOk P w K mg base CX0 k f fd ps sp ∧ mg x = some (.ref f) ∧ PySem.W.keepIn K (.ref f) = true ∧ Binds K fd ps []
/-- a def stands at the module's name -/
def FunAt (K : PySem.W.Frag) (mg : Str → Option Value) (x : Str) (st : Stmt) : Prop := ∃ (f : Addr) (fd : FuncData), Fun K x x st f fd ∧ mg x = some (.ref f)
/-- how a def's parameters bind -/
def BindAll (x : Str) (st : Stmt) (ps : List Str) : Prop := ∀ (kV doc pm : Value) (an : Option Addr) (cdv ct : Value) (us : List Value), us.length = ps.length → bindArgs (PySem.W.fnOf x x (defArgs st) (defBody st) (defScope st) .none kV doc pm an cdv ct) ⟨us, []⟩ = pure (ps.zip us)
section
variable {P : Program} {w : World} {K : PySem.W.Frag} {mg : Str → Option Value} {base : Heap}
theorem FunAt.df {x : Str} {st : Stmt} {N ps : List Str} {k : Nat} {sp : Sp} (F : FunAt K mg x st) (S : FnScope N ps (defScope st)) (hb : BindAll x st ps) (len : ∀ vs H Q E, sp vs H Q E → vs.length = ps.length)
    (hbody : ∀ (f : Addr) (cdv : Value) (A : Around) (outer : List Env) (s : Shared) (H : Hp) (vs : List V) (Q : VK) (E : XK), Room k (A.deeper (envOfC x (defScope st) s.heap.objs.size f cdv)) → sp vs H Q E →
      ∃ t, PSs (cxOf CX0 P w K mg base N x (defScope st) f cdv A outer s H E).nox (defBody st) t ∧ t { nx := fun _ H' => Q .non H', rt := Q } (start N vs) H) : Df P w K mg base (k + 1) x ps sp := by
  obtain ⟨f, fd, h, m⟩ := F
  exact ⟨f, fd, h.ok S len (hbody f), m, h.kp, h.binds hb⟩
theorem FunAt.mk {l : Heap} {x : Str} {st : Stmt} {f : Addr} {oc : Value} {od an : Option Addr} {osl : Array (Option Value)} {kV doc pm cdv ct : Value} (X : K.In l) (G : l.Ns mainGlobals mg) (a : PySem.W.nsIn K mainGlobals x = some (some (.ref f)))
    (lk : K.lookup f = some ⟨oc, od, .func (PySem.W.fnOf x x (defArgs st) (defBody st) (defScope st) .none kV doc pm an cdv ct), osl⟩) (c : PySem.W.codeIn K cdv x = true) (k : PySem.W.keepIn K (.ref f) = true) : FunAt K mg x st :=
  ⟨f, _, fun_mk (st := st) lk c k, PySem.W.mg_of X G a⟩
theorem Df.imp {k : Nat} {x : Str} {ps : List Str} {sp sp' : Sp} (D : Df P w K mg base k x ps sp) (h : ∀ vs H Q E, sp' vs H Q E → sp vs H Q E) : Df P w K mg base k x ps sp' := by
  obtain ⟨f, fd, F, m, kp, b⟩ := D.ex
  exact ⟨f, fd, F.imp h, m, kp, b⟩
end
def tCallD (sp : Sp) (t : TA) : TE := fun σ H Q => t σ H fun vs H1 => sp vs H1 Q E0
section
variable {X : Cx} {j k : Nat} {x : Str} {ps : List Str} {sp : Sp} {p pos : Pos} {e : Expr} {es : List Expr} {t : TA}
theorem pe_callD (D : Df X.prog X.w X.K X.mg X.base j x ps sp) (hr : Room k X.A) (hj : j ≤ k) (hg : Gl X x) (ha : PA X (e :: es) t) (hdb : (x == ("__debug__" : Str)) = false := by decide)
    (he : starEach (e :: es) X.env = (false, eval e X.env) :: starEach es X.env := by rfl) (hpl : (backTo pos (starEach es X.env)).any (·.1) = false := by rfl) :
    PE X (.Call (.Name x p) (e :: es) [] pos) (tCallD sp t) := by
  obtain ⟨f, fd, F, m, kp, b⟩ := D.ex
  have h : PE X (.Call (.Name x p) (e :: es) [] pos) (tCall sp [] E0 t) := pe_call F (hr.mono hj) hg m kp b .nil pass0 ha hdb he hpl
  refine ⟨fun pins s σ H Q I q => h.run pins s σ H Q I ?_⟩
  unfold tCall
  unfold tCallD at q
  simpa only [List.append_nil] using q
theorem pe_callD0 (D : Df X.prog X.w X.K X.mg X.base j x ps sp) (hr : Room k X.A) (hj : j ≤ k) (hg : Gl X x) (hdb : (x == ("__debug__" : Str)) = false := by decide) :
    PE X (.Call (.Name x p) [] [] pos) (tCallD sp tNil) := by
  obtain ⟨f, fd, F, m, kp, b⟩ := D.ex
  have h : PE X (.Call (.Name x p) [] [] pos) (tCall sp [] E0 tNil) := pe_call0 F (hr.mono hj) hg m kp b .nil pass0 hdb
  refine ⟨fun pins s σ H Q I q => h.run pins s σ H Q I ?_⟩
  unfold tCall
  unfold tCallD at q
  simpa only [List.append_nil] using q
end

/-! ### statements, one at a time -/
theorem seq_ {t u : TS} {D : Ends} {σ : St} {H : Hp} (h : ∀ R : St → Hp → Prop, R = u D → t { D with nx := R } σ H) : tSeq t u D σ H := h _ rfl
theorem while_ {c : TT} {tb : TS} {D : Ends} {σ : St} {H : Hp} (W : Nat → St → Hp → Prop) (m : Nat) (w0 : W m σ H)
    (h : ∀ m σ H, W m σ H → c σ H fun b H1 => if b = true then (∀ N : St → Hp → Prop, (∀ m' σ' H', m' < m → W m' σ' H' → N σ' H') → tb { D with nx := N, ct := N, bk := D.nx } σ H1) else D.nx σ H1)
    (mono : ∀ σ H (Q Q' : Bool → Hp → Prop), (∀ b H1, Q b H1 → Q' b H1) → c σ H Q → c σ H Q') : tWhile c tb D σ H := by
  refine ⟨W, ⟨m, w0⟩, fun m σ H w => mono σ H _ _ (fun b H1 q => ?_) (h m σ H w)⟩
  cases b with
  | true => exact ⟨fun σ' H' => ∃ m', m' < m ∧ W m' σ' H', fun _ _ n => n, q _ fun m' _ _ l w' => ⟨m', l, w'⟩⟩
  | false => exact q
theorem ife {c : Prop} [Decidable c] {A B : Prop} : (if (decide c) = true then A else B) ↔ (if c then A else B) := by by_cases h : c <;> simp [h]

/-! ### heaps -/
/-- tuples are kept -/
def KT (H H' : Hp) : Prop := ∀ a xs, H a = some (.tup xs) → H' a = some (.tup xs)
theorem KT.refl (H : Hp) : KT H H := fun _ _ h => h
theorem KT.trans {H H1 H2 : Hp} (a : KT H H1) (b : KT H1 H2) : KT H H2 := fun c o h => b c o (a c o h)
theorem same_kt {H H' : Hp} (e : Same H H') : KT H H' := fun a _ h => e a _ h
theorem same_new {H : Hp} {p : Addr} {o : HO} (h : H p = none) : Same H (upd H p o) := fun b u q => by rw [upd_ne (ne_of_none q h)]; exact q
theorem kt_new {H : Hp} {p : Addr} {o : HO} (h : H p = none) : KT H (upd H p o) := same_kt (same_new h)
theorem kt_lst {H : Hp} {l : Addr} {xs : List V} {o : HO} (h : H l = some (.lst xs)) : KT H (upd H l o) := fun b u q => by
  rw [upd_ne (ne_of q h (by intro z; cases z))]; exact q
/-- what H did not know may change -/
theorem same_mut {H H' : Hp} {p : Addr} {o : HO} (e : Same H H') (h : H p = none) : Same H (upd H' p o) := fun a u ha => by
  rw [upd_ne (ne_of_none ha h)]
  exact e a u ha
end My
namespace My
open PySem L2
open PyProof.Rows (envOfC)
/-! ### more for the readings -/
def GInt (mg : Str → Option Value) (x : Str) (n : Int) : Prop := ∃ t, mg x = some (.int n t)
theorem pe_gint {X : Cx} {x : Str} {n : Int} {pos : Pos} (hg : Gl X x) (h : GInt X.mg x n) (hd : (x == ("__debug__" : Str)) = false := by decide) : PE X (.Name x pos) (tC (.int n)) := by
  obtain ⟨t, h⟩ := h
  exact pe_glob hg h ⟨t, rfl⟩ hd
def GStr (mg : Str → Option Value) (x : Str) (z : Str) : Prop := ∃ t, mg x = some (.str z t)
theorem pe_gstr {X : Cx} {x z : Str} {pos : Pos} (hg : Gl X x) (h : GStr X.mg x z) (hd : (x == ("__debug__" : Str)) = false := by decide) : PE X (.Name x pos) (tC (.str z)) := by
  obtain ⟨t, h⟩ := h
  exact pe_glob hg h ⟨t, rfl⟩ hd
/-- d[z] of a written dict -/
def RdK (K : PySem.W.Frag) (w : World) (p : Addr) (z : Str) (r : V) : Prop := ∃ (es : Array DictEntry) (n : Nat) (u0 : Value), K.lookup p = some ⟨.type "dict", none, .dict es n, #[]⟩ ∧ PySem.W.KeysLit w.params es.toList ∧ PySem.W.nsIn K p z = some (some u0) ∧ RelV r u0
def rRdK (K : PySem.W.Frag) (w : World) : R2 := fun x y H Q => ∃ (p : Addr) (z : Str) (r : V), x = .ref p ∧ y = .str z ∧ RdK K w p z r ∧ Q r H
theorem ix_kd {X : Cx} : IxR X (rRdK X.K X.w) := ix_kdict
section
variable {CX : CXT} {P : Program} {w : World} {K : PySem.W.Frag} {mg : Str → Option Value} {base : Heap} {N : List Str} {qual : Str} {scope : Scope} {f : Addr} {cd : Value} {A : Around} {outer : List Env} {s : Shared} {H : Hp} {E : XK}
theorem cx_K : (cxOf CX P w K mg base N qual scope f cd A outer s H E).K = K := rfl
theorem cx_w : (cxOf CX P w K mg base N qual scope f cd A outer s H E).w = w := rfl
end

/-! ### trees -/
inductive Tr where
  | num (n : Int) | name (x : Str) | fn (x : Str) (b : Tr) | call (f a : Tr) | plus (a b : Tr) | less (a b : Tr) | ite (c a b : Tr) | lt (x : Str) (e b : Tr)
  deriving DecidableEq
def Tr.kids : Tr → List Tr
  | .num _ => [] | .name _ => [] | .fn _ b => [b] | .call f a => [f, a] | .plus a b => [a, b] | .less a b => [a, b] | .ite c a b => [c, a, b] | .lt _ e b => [e, b]
def Tr.word : Tr → Str
  | .num _ => "num" | .name _ => "name" | .fn _ _ => "fun" | .call _ _ => "call" | .plus _ _ => "plus" | .less _ _ => "less" | .ite _ _ _ => "if" | .lt _ _ _ => "let"
/-- what stands behind the word, ahead of the parts -/
def Tr.own : Tr → List V
  | .num n => [.int n] | .name x => [.str x] | .fn x _ => [.str x] | .lt x _ _ => [.str x] | _ => []
def Tr.size : Tr → Nat
  | .num _ => 1 | .name _ => 1 | .fn _ b => 1 + b.size | .call f a => 1 + f.size + a.size | .plus a b => 1 + a.size + b.size | .less a b => 1 + a.size + b.size
  | .ite c a b => 1 + c.size + a.size + b.size | .lt _ e b => 1 + e.size + b.size
theorem Tr.size_pos : ∀ t : Tr, 0 < t.size := fun t => by cases t <;> simp only [Tr.size] <;> omega
def sizes (ts : List Tr) : Nat := (ts.map Tr.size).sum
theorem sizes_nil : sizes [] = 0 := rfl
theorem sizes_cons (t : Tr) (ts : List Tr) : sizes (t :: ts) = t.size + sizes ts := by simp [sizes]
theorem sizes_append (ts us : List Tr) : sizes (ts ++ us) = sizes ts + sizes us := by simp [sizes]
theorem Tr.size_kids (t : Tr) : t.size = 1 + sizes t.kids := by
  cases t <;> simp only [Tr.size, Tr.kids, sizes_cons, sizes_nil] <;> omega
theorem le_sizes : ∀ ts : List Tr, ts.length ≤ sizes ts
  | [] => Nat.le_refl _
  | t :: ts => by
    have := le_sizes ts
    have := t.size_pos
    rw [sizes_cons, List.length_cons]
    omega
theorem kids_le (t : Tr) : t.kids.length ≤ 3 := by cases t <;> simp [Tr.kids]
/-- the tree stands in the heap at v -/
def At (H : Hp) : Tr → V → Prop
  | .num n, v => ∃ a, v = .ref a ∧ H a = some (.tup [.str "num", .int n])
  | .name x, v => ∃ a, v = .ref a ∧ H a = some (.tup [.str "name", .str x])
  | .fn x b, v => ∃ a u, v = .ref a ∧ H a = some (.tup [.str "fun", .str x, u]) ∧ At H b u
  | .call f g, v => ∃ a u u', v = .ref a ∧ H a = some (.tup [.str "call", u, u']) ∧ At H f u ∧ At H g u'
  | .plus f g, v => ∃ a u u', v = .ref a ∧ H a = some (.tup [.str "plus", u, u']) ∧ At H f u ∧ At H g u'
  | .less f g, v => ∃ a u u', v = .ref a ∧ H a = some (.tup [.str "less", u, u']) ∧ At H f u ∧ At H g u'
  | .ite c f g, v => ∃ a u u' u'', v = .ref a ∧ H a = some (.tup [.str "if", u, u', u'']) ∧ At H c u ∧ At H f u' ∧ At H g u''
  | .lt x f g, v => ∃ a u u', v = .ref a ∧ H a = some (.tup [.str "let", .str x, u, u']) ∧ At H f u ∧ At H g u'
theorem At.mono {H H' : Hp} (k : KT H H') : ∀ {t : Tr} {v : V}, At H t v → At H' t v
  | .num _, _, ⟨a, e, h⟩ => ⟨a, e, k _ _ h⟩
  | .name _, _, ⟨a, e, h⟩ => ⟨a, e, k _ _ h⟩
  | .fn _ _, _, ⟨a, u, e, h, h1⟩ => ⟨a, u, e, k _ _ h, At.mono k h1⟩
  | .call _ _, _, ⟨a, u, u', e, h, h1, h2⟩ => ⟨a, u, u', e, k _ _ h, At.mono k h1, At.mono k h2⟩
  | .plus _ _, _, ⟨a, u, u', e, h, h1, h2⟩ => ⟨a, u, u', e, k _ _ h, At.mono k h1, At.mono k h2⟩
  | .less _ _, _, ⟨a, u, u', e, h, h1, h2⟩ => ⟨a, u, u', e, k _ _ h, At.mono k h1, At.mono k h2⟩
  | .ite _ _ _, _, ⟨a, u, u', u'', e, h, h1, h2, h3⟩ => ⟨a, u, u', u'', e, k _ _ h, At.mono k h1, At.mono k h2, At.mono k h3⟩
  | .lt _ _ _, _, ⟨a, u, u', e, h, h1, h2⟩ => ⟨a, u, u', e, k _ _ h, At.mono k h1, At.mono k h2⟩
abbrev Ats (H : Hp) (ts : List Tr) (vs : List V) : Prop := Paired (At H) ts vs
theorem Ats.mono {H H' : Hp} (k : KT H H') {ts : List Tr} {vs : List V} (h : Ats H ts vs) : Ats H' ts vs := Paired.mapP h fun _ _ => At.mono k
theorem At.view {H : Hp} {t : Tr} {v : V} (h : At H t v) : ∃ a ws, v = .ref a ∧ H a = some (.tup (.str t.word :: t.own ++ ws)) ∧ Ats H t.kids ws := by
  cases t with
  | num n => obtain ⟨a, e, h⟩ := h; exact ⟨a, [], e, h, .nil⟩
  | name x => obtain ⟨a, e, h⟩ := h; exact ⟨a, [], e, h, .nil⟩
  | fn x b => obtain ⟨a, u, e, h, h1⟩ := h; exact ⟨a, [u], e, h, .cons h1 .nil⟩
  | call f g => obtain ⟨a, u, u', e, h, h1, h2⟩ := h; exact ⟨a, [u, u'], e, h, .cons h1 (.cons h2 .nil)⟩
  | plus f g => obtain ⟨a, u, u', e, h, h1, h2⟩ := h; exact ⟨a, [u, u'], e, h, .cons h1 (.cons h2 .nil)⟩
  | less f g => obtain ⟨a, u, u', e, h, h1, h2⟩ := h; exact ⟨a, [u, u'], e, h, .cons h1 (.cons h2 .nil)⟩
  | ite c f g => obtain ⟨a, u, u', u'', e, h, h1, h2, h3⟩ := h; exact ⟨a, [u, u', u''], e, h, .cons h1 (.cons h2 (.cons h3 .nil))⟩
  | lt x f g => obtain ⟨a, u, u', e, h, h1, h2⟩ := h; exact ⟨a, [u, u'], e, h, .cons h1 (.cons h2 .nil)⟩
theorem Ats.append {H : Hp} : ∀ {ts us : List Tr} {vs ws : List V}, Ats H ts vs → Ats H us ws → Ats H (ts ++ us) (vs ++ ws)
  | _, _, _, _, .nil, h => h
  | _, _, _, _, .cons r t, h => .cons r (Ats.append t h)
theorem Ats.snoc_inv {H : Hp} : ∀ {ts : List Tr} {vs : List V} {v : V}, Ats H ts (vs ++ [v]) → ∃ us t, ts = us ++ [t] ∧ Ats H us vs ∧ At H t v
  | _, [], v, .cons r .nil => ⟨[], _, rfl, .nil, r⟩
  | _, u :: vs, v, .cons r t => by
    obtain ⟨us, x, e, h1, h2⟩ := Ats.snoc_inv t
    exact ⟨_ :: us, x, by rw [e]; rfl, .cons r h1, h2⟩
end My
namespace My
open PySem L2
open PyProof.Rows (envOfC)
section
variable {X : Cx}
def rPopL : V → List V → Hp → VK → Prop := fun x vs H Q => ∃ (l : Addr) (ys : List V) (y : V), x = .ref l ∧ vs = [] ∧ H l = some (.lst (ys ++ [y])) ∧ Q y (upd H l (.lst ys))
theorem mt_popL : MtM X "list.pop" rPopL := by
  intro pins s σ H x vs v us Q I rx rv h
  obtain ⟨l, ys, y, e1, e2, hH, q⟩ := h
  refine mt_pop pins s σ H x vs v us Q I rx rv ⟨l, ys ++ [y], y, e1, e2, hH, by simp, ?_⟩
  rw [List.dropLast_concat]
  exact q
end
/-- a loop while a list at a name is not empty -/
theorem whileL_ {K : PySem.W.Frag} {i : Nat} {tb : TS} {D : Ends} {σ : L2.St} {H : Hp} (W : Nat → L2.St → Hp → Prop) (m : Nat) (w0 : W m σ H)
    (h : ∀ m σ H, W m σ H → ∃ (l : Addr) (xs : List V), σ[i]? = some (some (.ref l)) ∧ H l = some (.lst xs) ∧ (xs = [] → D.nx σ H) ∧
      (∀ ys v, xs = ys ++ [v] → ∀ N : L2.St → Hp → Prop, (∀ m' σ' H', m' < m → W m' σ' H' → N σ' H') → tb { D with nx := N, ct := N, bk := D.nx } σ H)) :
    tWhile (fun σ H Q => tVar i σ H fun x H' => ∃ k, TruV K x H' k ∧ Q k H') tb D σ H := by
  refine ⟨W, ⟨m, w0⟩, fun m σ H w => ?_⟩
  obtain ⟨l, xs, e, hl, h0, h1⟩ := h m σ H w
  refine ⟨_, e, !xs.isEmpty, .inl ⟨xs, SqL.of hl, rfl⟩, ?_⟩
  rcases List.eq_nil_or_concat xs with r | ⟨ys, v, r⟩
  · subst r
    exact h0 rfl
  · rw [List.concat_eq_append] at r
    have hne : (!xs.isEmpty) = true := by rw [r]; simp
    rw [hne]
    exact ⟨fun σ' H' => ∃ m', m' < m ∧ W m' σ' H', fun _ _ n => n, h1 ys v r _ fun m' _ _ l w' => ⟨m', l, w'⟩⟩
end My
namespace My
open PySem L2
theorem pe_gref {X : Cx} {x : Str} {a : Addr} {pos : Pos} (hg : Gl X x) (h : X.mg x = some (.ref a)) (hd : (x == ("__debug__" : Str)) = false := by decide) : PE X (.Name x pos) (tC (.ref a)) := pe_glob hg h rfl hd
end My
namespace My
open PySem L2
theorem szL {n : Nat} (h : n ≤ 100000) : n ≤ sizeLine := Nat.le_trans h (by decide)
theorem szLt {n : Nat} (h : n ≤ 100000) : n < sizeLine := Nat.lt_of_le_of_lt h (by decide)
theorem none_ne {H : Hp} {a b : Addr} {o : HO} (h : H a = none) (h' : H b = some o) : a ≠ b := fun e => by rw [e, h'] at h; cases h
end My
namespace My
open PySem L2
/-! ### comprehensions -/
def LcGo (J : It) (g : TG) (tt : TT) (te : TE) (vs : List Nat) (σ : L2.St) (H1 : Hp) (Q : VK) : Prop := ∀ D, H1 D = none → ∃ W : Nat → Nat → Hp → Prop, (∃ m, W 0 m (upd H1 D (.lst []))) ∧ ∀ i m H, W i m H →
  (J.stop i H ∧ Q (.ref D) H) ∨ (J.go i H ∧ ∃ Nx : Hp → Prop, (∀ H', Nx H' → ∃ m', m' < m ∧ W (i + 1) m' H') ∧ ∀ x H', J.yld i H x H' → g x (wipe σ vs) H' fun σ2 H2 => wipe σ2 vs = wipe σ vs ∧ tt σ2 H2 fun b H3 =>
    if b = true then te σ2 H3 fun y H4 => ∃ acc, H4 D = some (.lst acc) ∧ acc.length < sizeLine ∧ Nx (upd H4 D (.lst (acc ++ [y]))) else Nx H3)
theorem tLc_eq {wi : TI} {g : TG} {tt : TT} {te : TE} {vs : List Nat} {σ : L2.St} {H : Hp} {Q : VK} : tLc wi g tt te vs σ H Q = wi σ H fun J H1 => LcGo J g tt te vs σ H1 Q := rfl
section
variable {K : PySem.W.Frag} {a : Addr} {xs : List V} {j : Nat} {tt : TT} {te : TE} {vs : List Nat} {σ : L2.St} {H1 : Hp} {Q : VK}
/-- what a turn has to show -/
def LcTurn (tt : TT) (te : TE) (σ2 : L2.St) (P : Nat → List V → Hp → Prop) (i : Nat) (acc : List V) (H : Hp) : Prop :=
  ∀ Qy : VK, (∀ y H4, Same H H4 → P (i + 1) (acc ++ [y]) H4 → Qy y H4) → ∀ Qn : Hp → Prop, (∀ H3, Same H H3 → P (i + 1) acc H3 → Qn H3) → tt σ2 H fun b H3 => if b = true then te σ2 H3 Qy else Qn H3
/-- the invariant behind i items -/
def LcInv (H1 : Hp) (D : Addr) (P : Nat → List V → Hp → Prop) (i : Nat) (H : Hp) : Prop := ∃ acc, H D = some (.lst acc) ∧ acc.length ≤ i ∧ Same H1 H ∧ P i acc H
theorem lc_turn {D : Addr} {P : Nat → List V → Hp → Prop} (mono : ∀ i acc H H', KT H H' → P i acc H → P i acc H') {i : Nat} {H : Hp} {σ2 : L2.St} (hD : H1 D = none) (hi : i ≤ 100000)
    (hp : LcInv H1 D P i H) (hs : ∀ acc, acc.length ≤ i → Same H1 H → P i acc H → LcTurn tt te σ2 P i acc H) :
    tt σ2 H fun b H3 => if b = true then te σ2 H3 fun y H4 => ∃ acc, H4 D = some (.lst acc) ∧ acc.length < sizeLine ∧ LcInv H1 D P (i + 1) (upd H4 D (.lst (acc ++ [y]))) else LcInv H1 D P (i + 1) H3 := by
  obtain ⟨acc, h1, h2, h3, h4⟩ := hp
  refine hs acc h2 h3 h4 _ (fun y H4 e p => ⟨acc, e _ _ h1, szLt (by omega), acc ++ [y], upd_same, by simp; omega, same_mut (h3.trans e) hD, mono _ _ _ _ (kt_lst (e _ _ h1)) p⟩) _
    (fun H3 e p => ⟨acc, e _ _ h1, by omega, h3.trans e, p⟩)
theorem lcL (P : Nat → List V → Hp → Prop) (mono : ∀ i acc H H', KT H H' → P i acc H → P i acc H') (hx : SqL K H1 a xs) (hl : xs.length ≤ 100000) (hw : ∀ x, wipe ((wipe σ vs).set j (some x)) vs = wipe σ vs) (h0 : P 0 [] H1)
    (hs : ∀ i x acc H, xs[i]? = some x → acc.length ≤ i → Same H1 H → P i acc H → LcTurn tt te ((wipe σ vs).set j (some x)) P i acc H)
    (hq : ∀ D ys H', H1 D = none → Same H1 H' → H' D = some (.lst ys) → P xs.length ys H' → Q (.ref D) H') : LcGo (Itl K a) (gName j) tt te vs σ H1 Q := fun D hD =>
  lc_list (xs := xs) (LcInv H1 D P) ⟨[], upd_same, Nat.zero_le _, same_new hD, mono _ _ _ _ (kt_new hD) h0⟩ (fun i H _ ⟨_, _, _, e, _⟩ => e.seq hx)
    (fun i x H hi p => ⟨hw x, lc_turn mono hD (by have := (List.getElem?_eq_some_iff.mp hi).1; omega) p fun acc h2 h3 h4 => hs i x acc H hi h2 h3 h4⟩)
    (fun H ⟨acc, h1, h2, h3, h4⟩ => hq D acc H hD h3 h1 h4)
theorem Same_seqT {H H' : Hp} (e : Same H H') (h : SqT K H a xs) : SqT K H' a xs := by
  rcases h with (h | ⟨o, h⟩) | h
  · exact .inl (.inl (e _ _ h))
  · exact .inl (.inr ⟨o, e _ _ h⟩)
  · exact .inr h
theorem lcT (P : Nat → List V → Hp → Prop) (mono : ∀ i acc H H', KT H H' → P i acc H → P i acc H') (hx : SqT K H1 a xs) (hl : xs.length ≤ 100000) (hw : ∀ x, wipe ((wipe σ vs).set j (some x)) vs = wipe σ vs) (h0 : P 0 [] H1)
    (hs : ∀ i x acc H, xs[i]? = some x → acc.length ≤ i → Same H1 H → P i acc H → LcTurn tt te ((wipe σ vs).set j (some x)) P i acc H)
    (hq : ∀ D ys H', H1 D = none → Same H1 H' → H' D = some (.lst ys) → P xs.length ys H' → Q (.ref D) H') : LcGo (Itt K a) (gName j) tt te vs σ H1 Q := fun D hD =>
  lc_tup (xs := xs) (LcInv H1 D P) ⟨[], upd_same, Nat.zero_le _, same_new hD, mono _ _ _ _ (kt_new hD) h0⟩ (fun i H _ ⟨_, _, _, e, _⟩ => Same_seqT e hx)
    (fun i x H hi p => ⟨hw x, lc_turn mono hD (by have := (List.getElem?_eq_some_iff.mp hi).1; omega) p fun acc h2 h3 h4 => hs i x acc H hi h2 h3 h4⟩)
    (fun H ⟨acc, h1, h2, h3, h4⟩ => hq D acc H hD h3 h1 h4)
theorem lcR {lo : Int} {n : Nat} (P : Nat → List V → Hp → Prop) (mono : ∀ i acc H H', KT H H' → P i acc H → P i acc H') (hl : n ≤ 100000) (hw : ∀ x, wipe ((wipe σ vs).set j (some x)) vs = wipe σ vs) (h0 : P 0 [] H1)
    (hs : ∀ i acc H, i < n → acc.length ≤ i → Same H1 H → P i acc H → LcTurn tt te ((wipe σ vs).set j (some (.int (lo + i)))) P i acc H)
    (hq : ∀ D ys H', H1 D = none → Same H1 H' → H' D = some (.lst ys) → P n ys H' → Q (.ref D) H') : LcGo (Itr lo n) (gName j) tt te vs σ H1 Q := fun D hD =>
  lc_range (LcInv H1 D P) ⟨[], upd_same, Nat.zero_le _, same_new hD, mono _ _ _ _ (kt_new hD) h0⟩
    (fun i H hi p => ⟨hw _, lc_turn mono hD (by omega) p fun acc h2 h3 h4 => hs i acc H hi h2 h3 h4⟩)
    (fun H ⟨acc, h1, h2, h3, h4⟩ => hq D acc H hD h3 h1 h4)
/-- a copy -/
theorem lcT_copy (hx : SqT K H1 a xs) (hl : xs.length ≤ 100000) (hw : ∀ x, wipe ((wipe σ vs).set j (some x)) vs = wipe σ vs) (hj : ∀ x, ((wipe σ vs).set j (some x))[j]? = some (some x))
    (hq : ∀ D H', H1 D = none → Same H1 H' → H' D = some (.lst xs) → Q (.ref D) H') : LcGo (Itt K a) (gName j) tYes (tVar j) vs σ H1 Q := by
  refine lcT (fun i acc _ => acc = xs.take i) (fun _ _ _ _ _ h => h) hx hl hw rfl (fun i x acc H hi _ _ hp Qy hy Qn hn => ?_) (fun D ys H' hD e h p => hq D H' hD e (by rw [h, p, List.take_length]))
  show tVar j _ H Qy
  refine ⟨x, hj x, hy x H (Same.refl H) ?_⟩
  rw [hp]
  obtain ⟨h1, h2⟩ := List.getElem?_eq_some_iff.mp hi
  rw [List.take_succ, hi]
  rfl
end
end My
namespace My
open PySem L2
def Tr.leaf : Tr → Bool | .num _ => true | .name _ => true | _ => false
def Tr.binds : Tr → Bool | .fn _ _ => true | .lt _ _ _ => true | _ => false
theorem in_leaf (t : Tr) : inV (V.str t.word) [V.str "num", V.str "name"] = t.leaf := by cases t <;> simp only [Tr.word, Tr.leaf] <;> decide +kernel
theorem in_binds (t : Tr) : inV (V.str t.word) [V.str "fun", V.str "let"] = t.binds := by cases t <;> simp only [Tr.word, Tr.binds] <;> decide +kernel
end My
namespace My
open PySem L2
theorem ifs_ {c : TT} {t u : TS} {D : Ends} {σ : L2.St} {H : Hp} (h : ∀ A B : Hp → Prop, A = (fun H1 => t D σ H1) → B = (fun H1 => u D σ H1) → c σ H fun b H1 => if b = true then A H1 else B H1) : tIfS c t u D σ H := h _ _ rfl rfl
theorem ifq_ {c : TT} {t u r : TS} {D : Ends} {σ : L2.St} {H : Hp} (h : ∀ (R : L2.St → Hp → Prop) (A B : Hp → Prop), R = r D → A = (fun H1 => t { D with nx := R } σ H1) → B = (fun H1 => u { D with nx := R } σ H1) → c σ H fun b H1 => if b = true then A H1 else B H1) : tSeq (tIfS c t u) r D σ H := h _ _ _ rfl rfl rfl
/-- xs[m % n], n the length -/
theorem at_mod {α : Type} {xs : List α} (f : α → V) (h : 0 < xs.length) (m : Int) : ∃ x ∈ xs, atI (xs.map f) (m % (xs.length : Int)) = some (f x) := by
  have h0 : 0 ≤ m % (xs.length : Int) := Int.emod_nonneg _ (by omega)
  have h1 : m % (xs.length : Int) < xs.length := Int.emod_lt_of_pos _ (by omega)
  obtain ⟨k, hk⟩ : ∃ k : Nat, m % (xs.length : Int) = (k : Int) := ⟨(m % (xs.length : Int)).toNat, by omega⟩
  rw [hk] at h1 ⊢
  have hk' : k < xs.length := by omega
  refine ⟨xs[k], List.getElem_mem _, atI_nat ?_⟩
  rw [List.getElem?_map, List.getElem?_eq_getElem hk']
  rfl
theorem ixN_last {α : Type} (xs : List α) (v : α) : ixN (xs ++ [v]).length (-1) = some xs.length := by
  have hl : (xs ++ [v]).length = xs.length + 1 := by simp
  unfold ixN
  rw [hl, if_neg (by decide), if_pos (by omega)]
  congr 1
  omega
theorem set_last {α : Type} (xs : List α) (v w : α) : (xs ++ [v]).set xs.length w = xs ++ [w] := by simp
/-! ### what stands in a tree -/
def Tr.all (S : Str → Prop) (N : Int → Prop) : Tr → Prop
  | .num n => N n | .name x => S x | .fn x b => S x ∧ b.all S N | .call f a => f.all S N ∧ a.all S N | .plus a b => a.all S N ∧ b.all S N | .less a b => a.all S N ∧ b.all S N
  | .ite c a b => c.all S N ∧ a.all S N ∧ b.all S N | .lt x e b => S x ∧ e.all S N ∧ b.all S N
/-- a list of trees at l, over a heap H0 that did not know l -/
structure Stk (H0 : Hp) (l : Addr) (S : Str → Prop) (N : Int → Prop) (H : Hp) (vs : List V) (ts : List Tr) : Prop where
  same : Same H0 H
  at_ : H l = some (.lst vs)
  ats : Ats H ts vs
  all : ∀ t ∈ ts, t.all S N
section
variable {H0 H H' : Hp} {l : Addr} {S : Str → Prop} {N : Int → Prop} {vs : List V} {ts : List Tr} {t u : Tr} {r v : V}
theorem Stk.ext (s : Stk H0 l S N H vs ts) (e : Same H H') : Stk H0 l S N H' vs ts := ⟨s.same.trans e, e _ _ s.at_, s.ats.mono (same_kt e), s.all⟩
theorem Stk.len (s : Stk H0 l S N H vs ts) : ts.length = vs.length := Paired.length s.ats
theorem Stk.push (s : Stk H0 l S N H vs ts) (hl : H0 l = none) (h : At H t r) (ha : t.all S N) : Stk H0 l S N (upd H l (.lst (vs ++ [r]))) (vs ++ [r]) (ts ++ [t]) :=
  ⟨same_mut s.same hl, upd_same, (Ats.append s.ats (.cons h .nil)).mono (kt_lst s.at_), fun x hx => by
    rcases List.mem_append.mp hx with hx | hx
    · exact s.all x hx
    · rw [List.mem_singleton.mp hx]; exact ha⟩
theorem Stk.top (s : Stk H0 l S N H (vs ++ [v]) ts) : ∃ us t, ts = us ++ [t] ∧ At H t v ∧ t.all S N ∧ Ats H us vs ∧ ∀ x ∈ us, x.all S N := by
  obtain ⟨us, t, e, h1, h2⟩ := Ats.snoc_inv s.ats
  exact ⟨us, t, e, h2, s.all t (by rw [e]; simp), h1, fun x hx => s.all x (by rw [e]; simp [hx])⟩
theorem Stk.pop (s : Stk H0 l S N H (vs ++ [v]) (ts ++ [t])) (hl : H0 l = none) : Stk H0 l S N (upd H l (.lst vs)) vs ts ∧ At H t v ∧ t.all S N := by
  obtain ⟨us, u, e, h2, h3, h1, h4⟩ := s.top
  obtain ⟨rfl, e2⟩ := List.append_inj' e rfl
  obtain rfl : t = u := by simpa using e2
  exact ⟨⟨same_mut s.same hl, upd_same, h1.mono (kt_lst s.at_), h4⟩, h2, h3⟩
theorem Stk.put (s : Stk H0 l S N H (vs ++ [v]) (ts ++ [t])) (hl : H0 l = none) (h : At H u r) (ha : u.all S N) : Stk H0 l S N (upd H l (.lst (vs ++ [r]))) (vs ++ [r]) (ts ++ [u]) := by
  obtain ⟨us, u', e, h2, h3, h1, h4⟩ := s.top
  obtain ⟨rfl, e2⟩ := List.append_inj' e rfl
  refine ⟨same_mut s.same hl, upd_same, (Ats.append h1 (.cons h .nil)).mono (kt_lst s.at_), fun x hx => ?_⟩
  rcases List.mem_append.mp hx with hx | hx
  · exact h4 x hx
  · rw [List.mem_singleton.mp hx]; exact ha
end
end My
namespace My
open PySem L2
/-! ### a new object -/
def New (H : Hp) (o : HO) (G : Addr → Hp → Prop) : Prop := ∀ p, H p = none → G p (upd H p o)
theorem new_ {H : Hp} {o : HO} {G : Addr → Hp → Prop} (h : ∀ p H', H p = none → Same H H' → H' p = some o → G p H') : New H o G := fun p hp => h p _ hp (same_new hp) upd_same
theorem tTup_eq {t : TA} {σ : L2.St} {H : Hp} {Q : VK} : tTup t σ H Q = t σ H fun xs H1 => xs.length ≤ sizeLine ∧ New H1 (.tup xs) fun p H2 => Q (.ref p) H2 := rfl
theorem tLst_eq {t : TA} {σ : L2.St} {H : Hp} {Q : VK} : tLst t σ H Q = t σ H fun xs H1 => xs.length ≤ sizeLine ∧ New H1 (.lst xs) fun p H2 => Q (.ref p) H2 := rfl
theorem rSlT_eq {K : PySem.W.Frag} {x : V} {lo hi : Option Int} {H : Hp} {Q : VK} : rSlT K x lo hi H Q = ∃ a xs, x = .ref a ∧ SqT K H a xs ∧
  ¬ (HT.sIx xs.length 0 lo = 0 ∧ HT.sIx xs.length xs.length hi = xs.length) ∧ New H (.tup (cutV xs lo hi)) fun p H2 => Q (.ref p) H2 := rfl
theorem rSlL_eq {K : PySem.W.Frag} {x : V} {lo hi : Option Int} {H : Hp} {Q : VK} : rSlL K x lo hi H Q = ∃ a xs, x = .ref a ∧ SqL K H a xs ∧ New H (.lst (cutV xs lo hi)) fun p H2 => Q (.ref p) H2 := rfl
theorem tDNewK_eq {σ : L2.St} {H : Hp} {Q : VK} : tDNewK σ H Q = New H (.dK []) fun p H2 => Q (.ref p) H2 := rfl
theorem tRevL_eq {K : PySem.W.Frag} {te : TE} {σ : L2.St} {H : Hp} {Q : VK} : tRevL K te σ H Q = te σ H fun x H1 => ∃ a xs, x = .ref a ∧ SqL K H1 a xs ∧ New H1 (.lst xs.reverse) fun p H2 => Q (.ref p) H2 := rfl
/-- 1 ≤ the line, for written displays -/
theorem sz0 : ([] : List V).length ≤ sizeLine := szL (by simp)
theorem sz1 {a : V} : [a].length ≤ sizeLine := szL (by simp)
theorem sz2 {a b : V} : [a, b].length ≤ sizeLine := szL (by simp)
theorem sz3 {a b c : V} : [a, b, c].length ≤ sizeLine := szL (by simp)
theorem sz4 {a b c d : V} : [a, b, c, d].length ≤ sizeLine := szL (by simp)
theorem sz5 {a b c d e : V} : [a, b, c, d, e].length ≤ sizeLine := szL (by simp)
theorem sz8 {a b c d e f g h : V} : [a, b, c, d, e, f, g, h].length ≤ sizeLine := szL (by simp)
end My
namespace My
open PySem L2
theorem whileB_ {c : TT} {tb : TS} {D : Ends} {σ : L2.St} {H : Hp} (W : Nat → L2.St → Hp → Prop) (m : Nat) (w0 : W m σ H)
    (h : ∀ m σ H, W m σ H → ∀ A B : Hp → Prop, (∀ H1, (∀ N : L2.St → Hp → Prop, (∀ m' σ' H', m' < m → W m' σ' H' → N σ' H') → tb { D with nx := N, ct := N, bk := D.nx } σ H1) → A H1) → (∀ H1, D.nx σ H1 → B H1) →
      c σ H fun b H1 => if b = true then A H1 else B H1) : tWhile c tb D σ H :=
  ⟨W, ⟨m, w0⟩, fun m σ H w => h m σ H w (fun H1 => ∃ N : L2.St → Hp → Prop, (∀ σ' H', N σ' H' → ∃ m', m' < m ∧ W m' σ' H') ∧ tb { D with nx := N, ct := N, bk := D.nx } σ H1) (fun H1 => D.nx σ H1)
    (fun H1 a => ⟨fun σ' H' => ∃ m', m' < m ∧ W m' σ' H', fun _ _ n => n, a _ fun m' _ _ l w' => ⟨m', l, w'⟩⟩) fun _ b => b⟩
end My
namespace My
open PySem L2
theorem pr_append {α β : Type} {R : α → β → Prop} : ∀ {ts us : List α} {vs ws : List β}, Paired R ts vs → Paired R us ws → Paired R (ts ++ us) (vs ++ ws)
  | _, _, _, _, .nil, h => h
  | _, _, _, _, .cons r t, h => .cons r (pr_append t h)
theorem pr_snoc {α β : Type} {R : α → β → Prop} : ∀ {ts : List α} {vs : List β} {v : β}, Paired R ts (vs ++ [v]) → ∃ us t, ts = us ++ [t] ∧ Paired R us vs ∧ R t v
  | _, [], v, .cons r .nil => ⟨[], _, rfl, .nil, r⟩
  | _, u :: vs, v, .cons r t => by
    obtain ⟨us, x, e, h1, h2⟩ := pr_snoc t
    exact ⟨_ :: us, x, by rw [e]; rfl, .cons r h1, h2⟩
theorem pr_len {α β : Type} {R : α → β → Prop} {ts : List α} {vs : List β} (h : Paired R ts vs) : ts.length = vs.length := Paired.length h
theorem pr_mono {α β : Type} {R S : α → β → Prop} {ts : List α} {vs : List β} (h : Paired R ts vs) (f : ∀ a b, R a b → S a b) : Paired S ts vs := Paired.mapP h f
/-- a list, changed at its end alone; what H0 did not know -/
theorem same_put {H0 H : Hp} {l : Addr} {o : HO} (e : Same H0 H) (hl : H0 l = none) : Same H0 (upd H l o) := same_mut e hl
end My
namespace My
open PySem L2
theorem scal_ii {i j : Int} : scal (.int i) (.int j) = true := rfl
theorem scal_ss {i j : Str} : scal (.str i) (.str j) = true := rfl
theorem scal_bb {i j : Bool} : scal (.bl i) (.bl j) = true := rfl
theorem scal_is {i : Int} {j : Str} : scal (.int i) (.str j) = true := rfl
theorem scal_si {i : Str} {j : Int} : scal (.str i) (.int j) = true := rfl
theorem word_name {t : Tr} (h : t.word = "name") : ∃ y, t = .name y := by
  cases t <;> first
    | exact ⟨_, rfl⟩
    | exact absurd h (by simp only [Tr.word]; decide +kernel)
theorem word_fun {t : Tr} (h : t.word = "fun") : ∃ y b, t = .fn y b := by
  cases t <;> first
    | exact ⟨_, _, rfl⟩
    | exact absurd h (by simp only [Tr.word]; decide +kernel)
theorem word_let {t : Tr} (h : t.word = "let") : ∃ y e b, t = .lt y e b := by
  cases t <;> first
    | exact ⟨_, _, _, rfl⟩
    | exact absurd h (by simp only [Tr.word]; decide +kernel)
theorem at0 (x : V) (xs : List V) : atI (x :: xs) 0 = some x := atI_nat (j := 0) rfl
theorem at1 (x y : V) (xs : List V) : atI (x :: y :: xs) 1 = some y := atI_nat (j := 1) rfl
theorem at2 (x y z : V) (xs : List V) : atI (x :: y :: z :: xs) 2 = some z := atI_nat (j := 2) rfl
theorem at3 (x y z u : V) (xs : List V) : atI (x :: y :: z :: u :: xs) 3 = some u := atI_nat (j := 3) rfl
end My
namespace My
open PySem L2
/-! ### a tuple compared with itself -/
def rNeSelf (K : PySem.W.Frag) : R2 := fun x y H Q => ∃ (a : Addr) (xs : List V), x = .ref a ∧ y = .ref a ∧ SqT K H a xs ∧ Q (.bl false) H
theorem op_ne_self {X : Cx} (hu : X.A.units < cLine) : OpR X (compareOp .NotEq) (rNeSelf X.K) := by
  intro pins s σ H x y v u Q I rx ry h
  obtain ⟨a, xs, rfl, rfl, ha, q⟩ := h
  cases rx
  cases ry
  obtain ⟨its, r1, p1, _⟩ := I.tuple ha
  refine SeqAt.RcNeAt.tuples (e := fun _ => true) (show s.heap.IsTuple a its.toArray from p1) (show s.heap.IsTuple a its.toArray from p1) hu (fun j h1 h2 => SeqAt.EqAt.same _) X.prog X.w X.xe _ ?_
  refine ⟨.bl false, H, I, ?_, q⟩
  show Value.bool _ = Value.bool false
  congr 1
  simp
end My
namespace My
open PySem L2
section
variable {K : PySem.W.Frag} {H : Hp} {a : Addr} {xs : List V}
theorem isi_ll (h : H a = some (.lst xs)) : TyX K H (.ref a) (.type "list") ∧ PySem.W.kitOne K (.type "list") (.type "list") = some true := ⟨.base (.lst h), kit_ty (by decide +kernel)⟩
theorem isi_tt (h : H a = some (.tup xs)) : TyX K H (.ref a) (.type "tuple") ∧ PySem.W.kitOne K (.type "tuple") (.type "tuple") = some true := ⟨.base (.tup h), kit_ty (by decide +kernel)⟩
theorem isi_ss (x : Str) : TyX K H (.str x) (.type "str") ∧ PySem.W.kitOne K (.type "str") (.type "str") = some true := ⟨.base (.str x), kit_ty (by decide +kernel)⟩
theorem isi_ii (i : Int) : TyX K H (.int i) (.type "int") ∧ PySem.W.kitOne K (.type "int") (.type "int") = some true := ⟨.base (.int i), kit_ty (by decide +kernel)⟩
theorem isi_ib (i : Int) : TyX K H (.int i) (.type "int") ∧ PySem.W.kitOne K (.type "int") (.type "bool") = some false := ⟨.base (.int i), kit_ty (by decide +kernel)⟩
/-- what isinstance asks, answered -/
theorem isi_ {x : V} {T n : String} {b : Bool} {G : Bool → Prop} (h : TyX K H x (.type T) ∧ PySem.W.kitOne K (.type T) (.type n) = some b) (g : G b) :
    ∃ t u, ClsV (.ty n) u ∧ TyX K H x t ∧ ∃ b, PySem.W.kitOne K t u = some b ∧ G b := ⟨_, _, .ty _, h.1, b, h.2, g⟩
end
/-- a list of ints, of texts, by its places -/
theorem map_at {α : Type} {xs : List α} {f : α → V} {i : Nat} {y : V} (h : (xs.map f)[i]? = some y) : ∃ (hi : i < xs.length), y = f xs[i] := by
  obtain ⟨h1, h2⟩ := List.getElem?_eq_some_iff.mp h
  have h3 : i < xs.length := by rwa [List.length_map] at h1
  exact ⟨h3, by rw [← h2, List.getElem_map]⟩
end My
namespace My
open PySem L2
def ForGo (J : It) (g : TG) (tb : TS) (D : Ends) (σ : L2.St) (H1 : Hp) : Prop := ∃ W : Nat → Nat → L2.St → Hp → Prop, (∃ m, W 0 m σ H1) ∧ ∀ i m σ H, W i m σ H →
  (J.stop i H ∧ D.nx σ H) ∨ (J.go i H ∧ ∃ N : L2.St → Hp → Prop, (∀ σ' H', N σ' H' → ∃ m', m' < m ∧ W (i + 1) m' σ' H') ∧ ∀ x H', J.yld i H x H' → g x σ H' fun σ2 H2 => tb { D with nx := N, ct := N, bk := D.nx } σ2 H2)
theorem tFor_eq {wi : TI} {g : TG} {tb : TS} {D : Ends} {σ : L2.St} {H : Hp} : tFor wi g tb D σ H = wi σ H fun J H1 => ForGo J g tb D σ H1 := rfl
theorem forR {lo : Int} {n : Nat} {g : TG} {tb : TS} {D : Ends} {σ : L2.St} {H : Hp} (Pv : Nat → L2.St → Hp → Prop) (h0 : Pv 0 σ H)
    (hs : ∀ i σ H, i < n → Pv i σ H → ∀ N : L2.St → Hp → Prop, (∀ σ' H', Pv (i + 1) σ' H' → N σ' H') → g (.int (lo + i)) σ H fun σ2 H2 => tb { D with nx := N, ct := N, bk := D.nx } σ2 H2) (hd : ∀ σ H, Pv n σ H → D.nx σ H) : ForGo (Itr lo n) g tb D σ H :=
  for_range Pv h0 (fun i σ H hi p => hs i σ H hi p _ fun _ _ z => z) hd
theorem forL {K : PySem.W.Frag} {a : Addr} {xs : List V} {g : TG} {tb : TS} {D : Ends} {σ : L2.St} {H : Hp} (Pv : Nat → L2.St → Hp → Prop) (h0 : Pv 0 σ H) (hl : ∀ i σ H, i ≤ xs.length → Pv i σ H → SqL K H a xs)
    (hs : ∀ i x σ H, xs[i]? = some x → Pv i σ H → ∀ N : L2.St → Hp → Prop, (∀ σ' H', Pv (i + 1) σ' H' → N σ' H') → g x σ H fun σ2 H2 => tb { D with nx := N, ct := N, bk := D.nx } σ2 H2) (hd : ∀ σ H, Pv xs.length σ H → D.nx σ H) : ForGo (Itl K a) g tb D σ H :=
  for_list Pv h0 hl (fun i x σ H hi p => hs i x σ H hi p _ fun _ _ z => z) hd
theorem forT {K : PySem.W.Frag} {a : Addr} {xs : List V} {g : TG} {tb : TS} {D : Ends} {σ : L2.St} {H : Hp} (Pv : Nat → L2.St → Hp → Prop) (h0 : Pv 0 σ H) (hl : ∀ i σ H, i ≤ xs.length → Pv i σ H → SqT K H a xs)
    (hs : ∀ i x σ H, xs[i]? = some x → Pv i σ H → ∀ N : L2.St → Hp → Prop, (∀ σ' H', Pv (i + 1) σ' H' → N σ' H') → g x σ H fun σ2 H2 => tb { D with nx := N, ct := N, bk := D.nx } σ2 H2) (hd : ∀ σ H, Pv xs.length σ H → D.nx σ H) : ForGo (Itt K a) g tb D σ H :=
  for_tup Pv h0 hl (fun i x σ H hi p => hs i x σ H hi p _ fun _ _ z => z) hd
end My
namespace My
open PySem L2
theorem pr_right {α β : Type} {R : α → β → Prop} : ∀ {xs : List α} {ys : List β} {i : Nat} {y : β}, Paired R xs ys → ys[i]? = some y → ∃ x, xs[i]? = some x ∧ R x y
  | _, _, _, _, .nil, e => by simp at e
  | _, _, 0, _, .cons r _, e => by simp at e; subst e; exact ⟨_, rfl, r⟩
  | _, _, i + 1, y, .cons _ t, e => by
    obtain ⟨u, h1, h2⟩ := pr_right (i := i) (y := y) t (by simpa using e)
    exact ⟨u, by simpa using h1, h2⟩
theorem pr_left {α β : Type} {R : α → β → Prop} : ∀ {xs : List α} {ys : List β} {i : Nat} {x : α}, Paired R xs ys → xs[i]? = some x → ∃ y, ys[i]? = some y ∧ R x y
  | _, _, _, _, .nil, e => by simp at e
  | _, _, 0, _, .cons r _, e => by simp at e; subst e; exact ⟨_, rfl, r⟩
  | _, _, i + 1, y, .cons _ t, e => by
    obtain ⟨u, h1, h2⟩ := pr_left (i := i) (x := y) t (by simpa using e)
    exact ⟨u, by simpa using h1, h2⟩
end My
namespace My
open PySem L2
/-- xs[:-1] -/
theorem cut_butlast (xs : List V) (v : V) : cutV (xs ++ [v]) none (some (-1)) = xs := by
  unfold cutV
  have hl : (xs ++ [v]).length = xs.length + 1 := by simp
  have e : HT.sIx (xs ++ [v]).length (xs ++ [v]).length (some (-1)) = xs.length := by
    show (if (-1 : Int) < 0 then ((-1 : Int) + ((xs ++ [v]).length : Int)).toNat else min (-1 : Int).toNat (xs ++ [v]).length) = xs.length
    rw [if_pos (by decide), hl]
    omega
  rw [HT.sIx_none, e]
  simp
theorem new2 {H : Hp} {G : Addr → Hp → Prop} {o : Addr → HO} (h : ∀ p H', H p = none → Same H H' → H' p = some (o p) → G p H') : ∀ p, H p = none → G p (upd H p (o p)) := fun p hp => h p _ hp (same_new hp) upd_same
end My
namespace My
open PySem L2
/-! ### texts by their signs -/
def mkS (l : List Nat) : Str := ⟨l.toArray⟩
theorem mkS_of (z : Str) : z = mkS z.cps.toList := by cases z; rfl
theorem mkS_cps (l : List Nat) : (mkS l).cps.toList = l := rfl
theorem mkS_len (l : List Nat) : (mkS l).length = l.length := by show l.toArray.size = _; simp
theorem mkS_inj {a b : List Nat} (h : mkS a = mkS b) : a = b := by
  have := congrArg (fun z : Str => z.cps.toList) h
  exact this
theorem mkS_app (a b : List Nat) : mkS a ++ mkS b = mkS (a ++ b) := by
  show (⟨a.toArray ++ b.toArray⟩ : Str) = _
  simp [mkS]
theorem mkS_nil : mkS [] = Str.ofString "" := by decide +kernel
theorem mkS_hi (l : List Nat) (k : Nat) (h : k ≤ l.length) : cutS (mkS l) none (some (k : Int)) = mkS (l.take k) := by
  unfold cutS
  rw [mkS_len, HT.sIx_none, HT.sIx_nat, Nat.min_eq_left h, mkS_cps]
  simp [mkS]
theorem mkS_lo (l : List Nat) (k : Nat) (h : k ≤ l.length) : cutS (mkS l) (some (k : Int)) none = mkS (l.drop k) := by
  unfold cutS
  rw [mkS_len, HT.sIx_none, HT.sIx_nat, Nat.min_eq_left h, mkS_cps]
  have : (l.drop k).take (l.length - k) = l.drop k := List.take_of_length_le (by rw [List.length_drop]; exact Nat.le_refl _)
  rw [this]
  rfl
/-- the letters -/
def abc : List Nat := List.range' 97 26
theorem abc_eq : Str.ofString "abcdefghijklmnopqrstuvwxyz" = mkS abc := by decide +kernel
/-- the letter at a place -/
def lett (m : Int) : Nat := 97 + (m % 26).toNat
theorem lett_at (m : Int) : atI (mkS abc).cps.toList (m % 26) = some (lett m) := by
  have h0 : 0 ≤ m % 26 := Int.emod_nonneg _ (by decide)
  have h1 : m % 26 < 26 := Int.emod_lt_of_pos _ (by decide)
  obtain ⟨k, hk⟩ : ∃ k : Nat, m % 26 = (k : Int) := ⟨(m % 26).toNat, by omega⟩
  unfold lett
  rw [hk, Int.toNat_natCast, mkS_cps]
  refine atI_nat ?_
  rw [abc, List.getElem?_range' (by omega)]
  simp
theorem lett_lt (m : Int) : 97 ≤ lett m ∧ lett m < 123 := by
  have h0 : 0 ≤ m % 26 := Int.emod_nonneg _ (by decide)
  have h1 : m % 26 < 26 := Int.emod_lt_of_pos _ (by decide)
  unfold lett
  omega
theorem one_sign (c : Nat) : (⟨#[c]⟩ : Str) = mkS [c] := rfl
def reserved : List (List Nat) := [[110, 117, 109], [110, 97, 109, 101], [102, 117, 110], [99, 97, 108, 108], [112, 108, 117, 115], [108, 101, 115, 115], [105, 102], [108, 101, 116]]
theorem reserved_eq : [V.str "num", V.str "name", V.str "fun", V.str "call", V.str "plus", V.str "less", V.str "if", V.str "let"] = reserved.map fun l => V.str (mkS l) := by decide +kernel
theorem in_reserved (l : List Nat) : inV (V.str (mkS l)) [V.str "num", V.str "name", V.str "fun", V.str "call", V.str "plus", V.str "less", V.str "if", V.str "let"] = decide (l ∈ reserved) := by
  rw [reserved_eq]
  unfold inV
  rw [List.any_map, Bool.eq_iff_iff]
  simp only [List.any_eq_true, decide_eq_true_eq, Function.comp]
  constructor
  · rintro ⟨x, hx, h⟩
    have h : (mkS x == mkS l) = true := h
    rw [← mkS_inj (eq_of_beq h)]
    exact hx
  · intro h
    exact ⟨l, h, (show (mkS l == mkS l) = true from beq_self_eq_true _)⟩
/-- a word of a letter within others -/
def wordOf (o : List Nat) (k c : Nat) : List Nat := if o.take k ++ [c] ++ o.drop k ∈ reserved then [c] else o.take k ++ [c] ++ o.drop k
theorem wordOf_len (o : List Nat) (k c : Nat) : (wordOf o k c).length ≤ o.length + 1 ∧ 1 ≤ (wordOf o k c).length := by
  unfold wordOf
  split
  · simp
  · simp only [List.length_append, List.length_singleton, List.length_take, List.length_drop]
    omega
theorem wordOf_inj {o : List Nat} {k c c' : Nat} (h : wordOf o k c = wordOf o k c') : c = c' := by
  have key : ∀ {a b : Nat}, [a] = o.take k ++ [b] ++ o.drop k → a = b := by
    intro a b e
    have hl := congrArg List.length e
    simp only [List.length_append, List.length_singleton, List.length_take, List.length_drop] at hl
    have h0 : o = [] := List.length_eq_zero_iff.mp (by omega)
    subst h0
    simpa using e
  unfold wordOf at h
  split at h
  · split at h
    · simpa using h
    · exact key h
  · split at h
    · exact (key h.symm).symm
    · rw [List.append_assoc, List.append_assoc] at h
      have := List.append_cancel_left h
      simpa using this
/-- the names that the laws make of a cell; m is the law's own step -/
def othersOf (m : Int) (c : Int) : List Nat := (List.range (c / 26 % 8).toNat).map fun (t : Nat) => lett (c / 208 + m * (t : Int))
def nameBy (m : Int) (c : Int) : List Nat := wordOf (othersOf m c) (c / 208 % ((othersOf m c).length + 1 : Int)).toNat (lett c)
theorem othersOf_len (m c : Int) : (othersOf m c).length ≤ 7 := by
  have h0 : 0 ≤ c / 26 % 8 := Int.emod_nonneg _ (by decide)
  have h1 : c / 26 % 8 < 8 := Int.emod_lt_of_pos _ (by decide)
  simp only [othersOf, List.length_map, List.length_range]
  omega
end My
namespace My
open PySem L2
open PyProof.Rows
/-! ### s[::-1] -/
def tRevS (te : TE) : TE := fun σ H Q => te σ H fun x H1 => ∃ z : Str, x = .str z ∧ z.length ≤ sizeLine ∧ Q (.str (mkS z.cps.toList.reverse)) H1
theorem pe_revS {X : Cx} {e : Expr} {te : TE} {k : Nat} {p1 p2 p3 pos : Pos} (he : PE X e te) : PE X (.Subscript e (.Slice none none (some (.UnaryOp .USub (.Constant (.int 1) k p1) p2)) p3) pos) (tRevS te) := by
  refine ⟨fun pins s σ H Q I h => ?_⟩
  refine Subscript_ (thn (he.run pins s σ H _ I h) fun v s1 ⟨x, H1, I1, r1, q1⟩ => ?_)
  obtain ⟨z, ex, hx, q⟩ := q1
  subst ex
  obtain ⟨t, rfl⟩ := r1
  have hst : PO X (some (.UnaryOp .USub (.Constant (.int 1) k p1) p2)) (tPart (tUn (rU fun i => .int (-i)) (tC (.int 1)))) := po_some (pe_un un_neg pe_int)
  refine wpAny_Slice (thn (po_none.run pins s1 σ H1 (fun o H2 => o = none ∧ H2 = H1) I1 ⟨rfl, rfl⟩) fun vl s2 ⟨l, H2, I2, pl, el, e2⟩ => ?_)
  subst el e2
  refine thn (po_none.run pins s2 σ H2 (fun o H3 => o = none ∧ H3 = H2) I2 ⟨rfl, rfl⟩) fun vu s3 ⟨u, H3, I3, pu, eu, e3⟩ => ?_
  subst eu e3
  refine thn (hst.run pins s3 σ H3 (fun o H4 => o = some (-1) ∧ H4 = H3) I3 ⟨1, rfl, -1, rfl, rfl, rfl⟩) fun vs s4 ⟨o, H4, I4, ps, eo, e4⟩ => ?_
  subst eo e4
  cases pl
  cases pu
  cases ps with
  | int i uk =>
  show wpAny (model X.prog X.w) X.A (subscriptTail e (.Slice none none (some (.UnaryOp .USub (.Constant (.int 1) k p1) p2)) p3) (.str z t) (.ref s4.heap.objs.size)) (EP X pins σ Q) X.xe { s4 with heap := s4.heap.push { cls := .type "slice", data := .fields #[.none, .none, .int (-1) uk] } }
  have hrev : (Txt.sliceBy z none none (-1, uk)) = mkS z.cps.toList.reverse := by
    rw [mkS_of (Txt.sliceBy z none none (-1, uk)), step_rev_list]
    congr 1
    apply List.ext_getElem
    · simp [Str.length]
    · intro n h1 h2
      simp only [List.length_map, List.length_range] at h1
      simp only [List.getElem_map, List.getElem_range, List.getElem_reverse, Array.length_toList, Array.getElem_toList]
      have hz : z.length = z.cps.size := rfl
      rw [hz] at h1
      rw [Array.getD_eq_getD_getElem?, hz, Array.getElem?_eq_getElem (by omega)]
      rfl
  refine tail_any (ops := [.ref s4.heap.objs.size, .str z t]) (typeIs_str _ _ _) F.slot_str_getitem.lookup ?_ (by with_unfolding_all rfl)
  refine wpAny_getItem_str_slice (l := none) (u := none) (st := some (-1, uk)) ⟨_, Heap.get?_push_size _ rfl, rfl, rfl⟩ rfl (post_val_or_str ⟨Nat.le_trans (Txt.sliceBy_le z none none (-1, uk) (by show (-1 : Int) ≠ 0; decide)) hx, fun t' c => ?_⟩)
  show EP X pins σ Q (.str (Txt.sliceBy z none none (-1, uk)) t') _
  rw [hrev]
  exact ⟨.str _, H4, I4.kept (t' := c) fun b o e => Heap.get?_push_of_some _ e, ⟨t', rfl⟩, q⟩
end My
namespace My
open PySem L2
theorem mkS_app0 (a : List Nat) : mkS a ++ Str.ofString "" = mkS a := by rw [← mkS_nil, mkS_app, List.append_nil]
end My
namespace My
open PySem L2
theorem sjoin_nil : ∀ parts : List (List Nat), Str.join (Str.ofString "") (parts.map mkS) = mkS parts.flatten
  | [] => rfl
  | [x] => by show mkS x = mkS (x ++ []); rw [List.append_nil]
  | x :: y :: r => by
    show mkS x ++ Str.ofString "" ++ Str.join (Str.ofString "") ((y :: r).map mkS) = _
    rw [sjoin_nil (y :: r), mkS_app0, mkS_app]
    rfl
theorem join_nil (parts : List (List Nat)) : Txt.join (Str.ofString "") (parts.map mkS) = mkS parts.flatten := by rw [TL.join_eq, sjoin_nil]
theorem join_signs (l : List Nat) : Txt.join (Str.ofString "") (l.map fun c => mkS [c]) = mkS l := by
  have := join_nil (l.map fun c => [c])
  rw [List.map_map] at this
  rw [show (fun c => mkS [c]) = mkS ∘ (fun c => [c]) from rfl, this]
  have : ∀ l : List Nat, (l.map fun c => [c]).flatten = l := fun l => by
    induction l with
    | nil => rfl
    | cons c r ih => simpa using ih
  rw [this]
end My
namespace My
open PySem L2
theorem cut_hi (xs : List V) (k : Nat) : cutV xs none (some (k : Int)) = xs.take k := by
  unfold cutV
  rw [HT.sIx_none, HT.sIx_nat, List.drop_zero, Nat.sub_zero]
  by_cases h : k ≤ xs.length
  · rw [Nat.min_eq_left h]
  · rw [Nat.min_eq_right (by omega), List.take_length, List.take_of_length_le (by omega)]
theorem cut_lohi (xs : List V) (j k : Nat) : cutV xs (some (j : Int)) (some (k : Int)) = (xs.take k).drop j := by
  unfold cutV
  rw [HT.sIx_nat, HT.sIx_nat]
  apply List.ext_getElem?
  intro n
  simp only [List.getElem?_take, List.getElem?_drop]
  by_cases h1 : j ≤ xs.length <;> by_cases h2 : k ≤ xs.length
  · rw [Nat.min_eq_left h1, Nat.min_eq_left h2]
    by_cases h : n < k - j
    · rw [if_pos h, if_pos (by omega)]
    · rw [if_neg h, if_neg (by omega)]
  · rw [Nat.min_eq_left h1, Nat.min_eq_right (show xs.length ≤ k by omega)]
    by_cases h : n < xs.length - j
    · rw [if_pos h, if_pos (by omega)]
    · rw [if_neg h]
      split
      · rw [List.getElem?_eq_none (by omega)]
      · rfl
  · rw [Nat.min_eq_right (show xs.length ≤ j by omega), Nat.min_eq_left h2, if_neg (by omega)]
    split
    · rw [List.getElem?_eq_none (by omega)]
    · rfl
  · rw [Nat.min_eq_right (show xs.length ≤ j by omega), Nat.min_eq_right (show xs.length ≤ k by omega), if_neg (by omega)]
    split
    · rw [List.getElem?_eq_none (by omega)]
    · rfl
end My

namespace My
open PySem L2
open PySem.W
/-! ### sorted of pairs (int, text) -/
abbrev SRow := Addr × Int × Str
def encR (b : SRow) : PyData := .tuple [.int b.2.1, .str b.2.2]
def rSortIS (K : PySem.W.Frag) : List V → Hp → VK → Prop := fun vs H Q => ∃ (a : Addr) (bs : List SRow), vs = [.ref a] ∧ SqL K H a (bs.map fun b => .ref b.1) ∧ (∀ b ∈ bs, SqT K H b.1 [.int b.2.1, .str b.2.2]) ∧ bs.length ≤ 1000 ∧
  ∀ (cs : List SRow) (p : Addr), cs.Perm bs → cs.Pairwise (fun b c => b.2.1 ≤ c.2.1) → H p = none → Q (.ref p) (upd H p (.lst (cs.map fun c => .ref c.1)))
theorem encR_le {b c : SRow} (h : dataLe false encR b c = true) : b.2.1 ≤ c.2.1 := by
  have h1 : (!dataLt (encR c) (encR b)) = true := by rw [PySem.W.dataLe_eq] at h; exact h
  have h2 : dataLt (encR c) (encR b) = false := by simpa using h1
  unfold encR at h2
  rw [PySem.W.dataLt_pair (by simp [alike]) (by simp [alike]), PySem.W.dataLt_int] at h2
  by_cases e : PyData.eqv (.int c.2.1) (.int b.2.1) = true
  · simp only [PyData.eqv, beq_iff_eq] at e
    omega
  · rw [if_neg e] at h2
    have := of_decide_eq_false h2
    omega
theorem cr_sortedIS {X : Cx} (hu : X.A.units + 64 < cLine) : CallR X (.builtin "sorted") (rSortIS X.K) := by
  intro pins s σ H xs us Q I r h
  obtain ⟨a, bs, rfl, ha, hb, hl, q⟩ := h
  rw [Vals.ref1 r]
  obtain ⟨its, rv, p, hz⟩ := I.list ha
  have its_eq : its = bs.map fun b => Value.ref b.1 := by
    have : ∀ (bs : List SRow) (its : List Value), Vals (bs.map fun b => V.ref b.1) its → its = bs.map fun b => Value.ref b.1 := by
      intro bs
      induction bs with
      | nil => intro its h; cases h; rfl
      | cons b r ih =>
        intro its h
        cases h with
        | cons h1 h2 => rw [ih _ h2, show _ = Value.ref b.1 from h1]; rfl
    exact this bs its rv
  subst its_eq
  have e : ∀ (bs : List SRow), EachIs (fun v (b : SRow) => v = Value.ref b.1) (bs.map fun b => Value.ref b.1) bs := by
    intro bs
    induction bs with
    | nil => exact .nil
    | cons b r ih => exact .cons rfl ih
  have er : ∀ (cs : List SRow), (∀ b ∈ cs, b ∈ bs) → EachIs (fun v (b : SRow) => ∃ as, Reads s.heap v (encR b) as) (cs.map fun b => Value.ref b.1) cs := by
    intro cs
    induction cs with
    | nil => intro _; exact .nil
    | cons b r ih =>
      intro hm
      refine .cons ?_ (ih fun x hx => hm x (List.mem_cons_of_mem _ hx))
      obtain ⟨ts, rt, ⟨o, ho, hc, n, hd⟩, _⟩ := I.tuple (hb b (hm b (List.mem_cons_self)))
      cases rt with
      | cons r1 rt =>
        cases rt with
        | cons r2 rt =>
          cases rt
          obtain ⟨t1, rfl⟩ := r1
          obtain ⟨t2, rfl⟩ := r2
          exact ⟨_, Reads.tuple ho hc hd (.cons (.int _ _) (.cons (.str _ _) .nil))⟩
  refine sorted_data (R := fun v (b : SRow) => v = Value.ref b.1) (enc := encR) (bs := bs) p.isList (e bs) (er bs fun _ h => h) (AllAlike.of fun b c => by simp [encR, alike, PySem.W.alikeAll]) (Sortable.tuples fun b => ⟨_, _, rfl⟩) (szL (by omega)) (fun b _ => ?_) (fun out ho eo => ?_)
  · have : (encR b).depth ≤ 2 := by show PyData.depth (.tuple [.int b.2.1, .str b.2.2]) ≤ 2; simp [PyData.depth, PyData.depthAll]
    omega
  · obtain ⟨c, hc⟩ := PyProof.Rows.sortedAll_at s.heap (bs.map fun b => Value.ref b.1) out.toArray
    have hp : s.heap.objs.size ≤ s.heap.objs.size + 1 := Nat.le_succ _
    have hn : H (s.heap.objs.size + 1) = none := I.hok.fresh hp
    have hperm : (bs.mergeSort (dataLe false encR)).Perm bs := List.mergeSort_perm _ _
    have hpw : (bs.mergeSort (dataLe false encR)).Pairwise (fun b c => b.2.1 ≤ c.2.1) :=
      (PySem.W.sort_pairwise (PySem.W.sortLe_total _ false _) bs).imp fun h => encR_le h
    have hv : Vals ((bs.mergeSort (dataLe false encR)).map fun c => V.ref c.1) out := by
      clear hc ho hperm hpw
      generalize bs.mergeSort (dataLe false encR) = cs at eo
      induction eo with
      | nil => exact .nil
      | cons h1 h2 ih => exact .cons h1 ih
    refine ⟨.ref _, _, I.laid (a := s.heap.objs.size + 1) (o := .lst ((bs.mergeSort (dataLe false encR)).map fun c => V.ref c.1)) (t' := s.toks) (fun b o q => PyProof.Rows.sortedAll_old q) hp ⟨?_, out, c, hv, hc⟩, rfl, q _ _ hperm hpw hn⟩
    rw [List.length_map, hperm.length_eq]
    exact szL (by omega)
end My
namespace My
open PySem L2
/-! ### the rules within a comprehension's block: the written part told by name -/
section
variable {X : Cx} {K : PySem.W.Frag}
theorem ix_tupK (h : X.K = K := by rfl) : IxR X (rIxT K) := h ▸ ix_tup
theorem ix_listK (h : X.K = K := by rfl) : IxR X (rIxL K) := h ▸ ix_list
theorem sl_tupK (h : X.K = K := by rfl) : SlR X (rSlT K) := h ▸ sl_tup
theorem sl_listK (h : X.K = K := by rfl) : SlR X (rSlL K) := h ▸ sl_list
theorem op_in_seqK (h : X.K = K := by rfl) : OpR X (compareOp .In) (rIn K false) := h ▸ op_in_seq
theorem op_notIn_seqK (h : X.K = K := by rfl) : OpR X (compareOp .NotIn) (rIn K true) := h ▸ op_notIn_seq
end
end My
namespace My
open PySem L2
theorem pr_zip {α β : Type} {R : α → β → Prop} : ∀ {as : List α} {bs : List β}, Paired R as bs → ∀ p ∈ as.zip bs, R p.1 p.2
  | _, _, .nil, p, h => by simp at h
  | _, _, .cons r t, p, h => by
    rcases List.mem_cons.mp h with e | h
    · subst e; exact r
    · exact pr_zip t p h
end My
namespace My
open PySem L2
open PyProof.Rows (envOfC)
/-- the law's def, by its address -/
theorem law_of {P : Program} {w : World} {K : PySem.W.Frag} {mg : Str → Option Value} {st : Stmt} {fa : Addr} {x y : Str} {k : Nat} {sp : Sp} {CX : CXT} (F : FunAt K mg x st) (hfa : mg x = some (.ref fa))
    (hb : ∀ (kV doc pm : Value) (an : Option Addr) (cdv ct : Value) (v : Value), bindArgs (PySem.W.fnOf x x (defArgs st) (defBody st) (defScope st) .none kV doc pm an cdv ct) ⟨[v], []⟩ = pure [(y, v)])
    {H : Heap → Prop} (h : ∀ fd : FuncData, Fun K x x st fa fd → ∀ base : Heap, H base → FnOk P w K mg base CX k fa fd [y] sp) :
    ∃ fd : FuncData, (∀ (s : Shared) (v : Value), BindsTo s fd ⟨[v], []⟩ [(y, v)]) ∧ ∀ base : Heap, H base → FnOk P w K mg base CX k fa fd [y] sp := by
  obtain ⟨f, fd, Fn, m⟩ := F
  cases hfa.symm.trans m
  refine ⟨fd, fun s v => ?_, h fd Fn⟩
  obtain ⟨oc, od, kV, doc, pm, an, cdv, ct, osl, rfl, lk, hcd⟩ := Fn.ex
  exact .of_eq (hb kV doc pm an cdv ct v)
end My

namespace My
open PySem L2
open PyProof.Rows (envOfC)
/-! ### a def that may raise -/
structure DfX (P : Program) (w : World) (K : PySem.W.Frag) (mg : Str → Option Value) (base : Heap) (k : Nat) (x : Str) (ps : List Str) (sp : Sp) : Prop where
  ex : ∃ (f : Addr) (fd : FuncData), FnOk P w K mg base (L2.CX P w) k f fd ps sp ∧ mg x = some (.ref f) ∧ PySem.W.keepIn K (.ref f) = true ∧ Binds K fd ps []
section
variable {P : Program} {w : World} {K : PySem.W.Frag} {mg : Str → Option Value} {base : Heap}
theorem FunAt.dfX {x : Str} {st : Stmt} {N ps : List Str} {k : Nat} {sp : Sp} (F : FunAt K mg x st) (S : FnScope N ps (defScope st)) (hb : BindAll x st ps) (len : ∀ vs H Q E, sp vs H Q E → vs.length = ps.length)
    (hbody : ∀ (f : Addr) (cdv : Value) (A : Around) (outer : List Env) (s : Shared) (H : Hp) (vs : List V) (Q : VK) (E : XK), Room k (A.deeper (envOfC x (defScope st) s.heap.objs.size f cdv)) → sp vs H Q E →
      ∃ t, PSs (cxOf (L2.CX P w) P w K mg base N x (defScope st) f cdv A outer s H E) (defBody st) t ∧ t { nx := fun _ H' => Q .non H', rt := Q } (start N vs) H) : DfX P w K mg base (k + 1) x ps sp := by
  obtain ⟨f, fd, h, m⟩ := F
  exact ⟨f, fd, h.okX S len (hbody f), m, h.kp, h.binds hb⟩
end
section
variable {X : Cx} {j k : Nat} {x : Str} {ps : List Str} {sp : Sp} {p pos : Pos} {e : Expr} {es : List Expr} {t : TA} {E : St → XK}
/-- called where nothing is let out -/
theorem pe_callX (D : DfX X.prog X.w X.K X.mg X.base j x ps sp) (hr : Room k X.A) (hj : j ≤ k) (hg : Gl X x) (ha : PA X (e :: es) t) (hdb : (x == ("__debug__" : Str)) = false := by decide)
    (he : starEach (e :: es) X.env = (false, eval e X.env) :: starEach es X.env := by rfl) (hpl : (backTo pos (starEach es X.env)).any (·.1) = false := by rfl) :
    PE X (.Call (.Name x p) (e :: es) [] pos) (tCallD sp t) := by
  obtain ⟨f, fd, F, m, kp, b⟩ := D.ex
  have h : PE X (.Call (.Name x p) (e :: es) [] pos) (tCall sp [] E0 t) := pe_call F (hr.mono hj) hg m kp b .nil passL ha hdb he hpl
  refine ⟨fun pins s σ H Q I q => h.run pins s σ H Q I ?_⟩
  unfold tCall
  unfold tCallD at q
  simpa only [List.append_nil] using q
/-- called where what it lets out is taken -/
theorem pe_callXS (D : DfX X.prog X.w X.K X.mg X.base j x ps sp) (hr : Room k X.A) (hj : j ≤ k) (hg : Gl X x) (hx : ∀ σ, PassesAt (L2.CX X.prog X.w) X σ (E σ)) (ha : PA X (e :: es) t) (hdb : (x == ("__debug__" : Str)) = false := by decide)
    (he : starEach (e :: es) X.env = (false, eval e X.env) :: starEach es X.env := by rfl) (hpl : (backTo pos (starEach es X.env)).any (·.1) = false := by rfl) :
    PE X (.Call (.Name x p) (e :: es) [] pos) (tCallS sp E t) := by
  obtain ⟨f, fd, F, m, kp, b⟩ := D.ex
  exact pe_callS F (hr.mono hj) hg m kp b hx ha hdb he hpl
end
/-- isinstance of the error that a suite holds -/
def rIsEc (K : PySem.W.Frag) (D a : Addr) (cls : Value) (d : Option Addr) : List V → Hp → VK → Prop := fun xs H Q => cls = .ref D ∧ d = none ∧ ∃ (c : V) (b : Bool), xs = [.ref a, c] ∧ (∃ cv, (∀ u, RelV c u → u = cv) ∧ PySem.W.kitOne K (.ref D) cv = some b) ∧ Q (.bl b) H
theorem call_isEc {X : Cx} {a D : Addr} {cls : Value} {d : Option Addr} {oe : Obj} {pn : List (Addr × Obj)} (C : ExcC X.K D) (hz : Zc cls d oe) (hf : ∃ vs, oe.data = .fields vs) : CallR (X.suite a ((a, oe) :: pn)) (.builtin "isinstance") (rIsEc X.K D a cls d) := by
  intro pins s σ H xs us Q I r h
  obtain ⟨rfl, rfl, c, b, e, ⟨cv, h1, h2⟩, q⟩ := h
  exact call_isE C hz hf pins s σ H xs us Q I r ⟨c, cv, b, e, h1, h2, q⟩
/-! ### a text a number of times -/
def rMulS : R2 := fun x y H Q => ∃ (l : List Nat) (n : Nat), x = .str (mkS l) ∧ y = .int n ∧ 1 ≤ n ∧ n ≤ 1000 ∧ l.length ≤ 1000 ∧ Q (.str (mkS (List.replicate n l).flatten)) H
theorem foldl_app : ∀ (xs : List (Array Nat)) (a : Array Nat), (xs.foldl (· ++ ·) a).toList = a.toList ++ (xs.map Array.toList).flatten
  | [], a => by simp
  | x :: xs, a => by rw [List.foldl_cons, foldl_app xs (a ++ x)]; simp
theorem rep_len (l : List Nat) : ∀ n : Nat, (List.replicate n l).flatten.length = n * l.length
  | 0 => by simp
  | n + 1 => by rw [List.replicate_succ, List.flatten_cons, List.length_append, rep_len l n, Nat.succ_mul, Nat.add_comm]
theorem op_mul_str {X : Cx} : OpR X (binaryOp .Mult) rMulS := by
  intro pins s σ H x y v u Q I rx ry h
  obtain ⟨l, n, rfl, rfl, h1, h2, h3, q⟩ := h
  obtain ⟨t, rfl⟩ := rx
  obtain ⟨t', rfl⟩ := ry
  have hm : l.length * n ≤ 1000000 := Nat.mul_le_mul h3 h2
  have hlen : (mkS l).length = l.length := mkS_len l
  have hz : (⟨(List.replicate n (mkS l).cps).foldl (· ++ ·) #[]⟩ : Str) = mkS (List.replicate n l).flatten := by
    rw [mkS_of ⟨_⟩]
    show mkS ((List.replicate n (mkS l).cps).foldl (· ++ ·) #[]).toList = _
    rw [foldl_app, List.map_replicate]
    rfl
  refine PySem.P.mul_str ?_ ?_ ?_ ?_
  · simp; omega
  · intro _ _
    rw [hlen]
    have : (1000000 : Int) ≤ (2 ^ 63 - 1) / n := by
      rw [Int.le_ediv_iff_mul_le (by omega)]
      omega
    omega
  · intro _ _
    rw [hlen, Int.toNat_natCast]
    show decide (l.length * n > sizeLine) = false
    exact decide_eq_false (Nat.not_lt.mpr (Nat.le_trans hm (by decide)))
  · rw [if_neg (by omega), Int.toNat_natCast, hz]
    by_cases h : ((n : Int) == 1 || (mkS l).length == 0) = true
    · have e : mkS (List.replicate n l).flatten = mkS l := by
        simp only [Bool.or_eq_true, beq_iff_eq] at h
        rcases h with h | h
        · have : n = 1 := by omega
          subst this
          simp
        · rw [hlen] at h
          have : l = [] := List.length_eq_zero_iff.mp h
          subst this
          congr 1
          simp
      rw [if_pos h]
      rw [e] at q
      exact ⟨.str _, H, I, ⟨t, rfl⟩, q⟩
    · rw [if_neg h]
      refine ⟨?_, .str _, H, I.tok _, ⟨_, rfl⟩, q⟩
      rw [mkS_len, rep_len]
      have : n * l.length ≤ 1000000 := by rw [Nat.mul_comm]; exact hm
      exact Nat.le_trans this (by decide)
/-! ### a comprehension over a text -/
section
variable {z : Str} {j : Nat} {tt : TT} {te : TE} {vs : List Nat} {σ : L2.St} {H1 : Hp} {Q : VK}
theorem lcS (P : Nat → List V → Hp → Prop) (mono : ∀ i acc H H', KT H H' → P i acc H → P i acc H') (hl : z.cps.size ≤ 100000) (hw : ∀ x, wipe ((wipe σ vs).set j (some x)) vs = wipe σ vs) (h0 : P 0 [] H1)
    (hs : ∀ i c acc H, z.cps[i]? = some c → acc.length ≤ i → Same H1 H → P i acc H → LcTurn tt te ((wipe σ vs).set j (some (.str (mkS [c])))) P i acc H)
    (hq : ∀ D ys H', H1 D = none → Same H1 H' → H' D = some (.lst ys) → P z.cps.size ys H' → Q (.ref D) H') : LcGo (Its z) (gName j) tt te vs σ H1 Q := by
  intro D hD
  refine ⟨fun i m H => m = z.cps.size - i ∧ i ≤ z.cps.size ∧ LcInv H1 D P i H, ⟨z.cps.size, by simp, Nat.zero_le _, [], upd_same, Nat.zero_le _, same_new hD, mono _ _ _ _ (kt_new hD) h0⟩, ?_⟩
  rintro i m H ⟨rfl, hi, p⟩
  by_cases hlt : i < z.cps.size
  · refine .inr ⟨hlt, LcInv H1 D P (i + 1), fun H' p' => ⟨z.cps.size - (i + 1), by omega, rfl, hlt, p'⟩, ?_⟩
    rintro x H' ⟨rfl, c, hc, rfl⟩
    exact ⟨hw _, lc_turn mono hD (by omega) p fun acc h2 h3 h4 => hs i c acc _ hc h2 h3 h4⟩
  · have e : i = z.cps.size := by omega
    subst e
    obtain ⟨acc, h1, h2, h3, h4⟩ := p
    exact .inl ⟨Nat.le_refl _, hq D acc H hD h3 h1 h4⟩
end
/-! ### a written dict, also asked for what it does not hold -/
def rInK (K : PySem.W.Frag) (d : Addr) (neg : Bool) : R2 := fun x y H Q => ∃ (z : Str) (b : Bool), x = .str z ∧ y = .ref d ∧ (∃ r, PySem.W.nsIn K d z = some r ∧ r.isSome = b) ∧ Q (.bl (if neg = true then !b else b)) H
abbrev KDE (K : PySem.W.Frag) (w : World) (d : Addr) : Prop := ∃ es n, KDict K w d es n
theorem op_in_kde {X : Cx} {d : Addr} (D : KDE X.K X.w d) : OpR X (compareOp .In) (rInK X.K d false) := by
  obtain ⟨es, n, D⟩ := D
  intro pins s σ H x y v u Q I rx ry h
  obtain ⟨z, b, e1, e2, ⟨r, h1, rfl⟩, q⟩ := h
  exact op_in_kd D pins s σ H x y v u Q I rx ry ⟨z, r, e1, e2, h1, q⟩
theorem op_notIn_kde {X : Cx} {d : Addr} (D : KDE X.K X.w d) : OpR X (compareOp .NotIn) (rInK X.K d true) := by
  obtain ⟨es, n, D⟩ := D
  intro pins s σ H x y v u Q I rx ry h
  obtain ⟨z, b, e1, e2, ⟨r, h1, rfl⟩, q⟩ := h
  exact op_notIn_kd D pins s σ H x y v u Q I rx ry ⟨z, r, e1, e2, h1, q⟩
/-- what a written dict does not hold -/
theorem nsIn_none {K : PySem.W.Frag} {a : Addr} {c : Value} {od : Option Addr} {es : Array DictEntry} {n : Nat} {sl : Array (Option Value)} {ws : List Str} (h : K.lookup a = some ⟨c, od, .dict es n, sl⟩)
    (hk : es.toList.all (fun e => match e.key with | .str z _ => ws.contains z | _ => false) = true) {x : Str} (hx : ws.contains x = false) : PySem.W.nsIn K a x = some none := by
  unfold PySem.W.nsIn
  rw [h]
  have hk' := List.all_eq_true.mp hk
  have h1 : es.toList.find? (fun e => e.key.isStr x) = none := by
    rw [List.find?_eq_none]
    intro e he hs
    have := hk' e he
    split at this
    · rename_i z t ez
      rw [ez] at hs
      have hzx : z = x := by simpa [Value.isStr] using hs
      rw [hzx, hx] at this
      cases this
    · cases this
  have h2 : es.toList.any (fun e => e.refKey) = false := by
    rw [List.any_eq_false]
    intro e he hs
    have := hk' e he
    split at this
    · rename_i z t ez
      unfold DictEntry.refKey at hs
      rw [ez] at hs
      cases hs
    · cases this
  dsimp only
  rw [h1]
  dsimp only
  rw [h2]
  rfl
end My
namespace My
open PySem L2
theorem cut_from {xs : List V} {n : Nat} (h : n ≤ xs.length) : cutV xs (some (n : Int)) none = xs.drop n := by
  unfold cutV
  rw [HT.sIx_nat, HT.sIx_none, Nat.min_eq_left h]
  exact List.take_of_length_le (by rw [List.length_drop]; exact Nat.le_refl _)
theorem not_whole {n m : Nat} (h : 0 < n) (hm : n ≤ m) : ¬ (HT.sIx m 0 (some (n : Int)) = 0 ∧ HT.sIx m m none = m) := by
  rw [HT.sIx_nat]
  omega
/-- the script's number at a place, 0 behind its end -/
def cell (ns : List Int) (k : Nat) : Int := ns.getD k 0
theorem cell_at {ns : List Int} {k : Nat} (h : (k : Int) < ((ns.map V.int).length : Int)) : atI (ns.map V.int) (k : Int) = some (.int (cell ns k)) := by
  rw [List.length_map] at h
  have h' : k < ns.length := by omega
  refine atI_nat ?_
  rw [List.getElem?_map, List.getElem?_eq_getElem h']
  simp [cell, List.getD_eq_getElem?_getD, List.getElem?_eq_getElem h']
theorem cell_out {ns : List Int} {k : Nat} (h : ¬ (k : Int) < ((ns.map V.int).length : Int)) : cell ns k = 0 := by
  rw [List.length_map] at h
  have h' : ns.length ≤ k := by omega
  simp [cell, List.getD_eq_getElem?_getD, List.getElem?_eq_none h']
def spCellA (K : PySem.W.Frag) : Sp := fun vs H Q _ => ∃ (a : Addr) (ns : List Int) (k : Nat), vs = [.ref a, .int k] ∧ SqL K H a (ns.map V.int) ∧ Q (.int (cell ns k)) H
end My
namespace My
open PySem L2
section
variable {lo c : Int} {n : Nat} {j : Nat} {tt : TT} {te : TE} {vs : List Nat} {σ : L2.St} {H1 : Hp} {Q : VK}
theorem lcC (P : Nat → List V → Hp → Prop) (mono : ∀ i acc H H', KT H H' → P i acc H → P i acc H') (hl : n ≤ 100000) (hw : ∀ x, wipe ((wipe σ vs).set j (some x)) vs = wipe σ vs) (h0 : P 0 [] H1)
    (hs : ∀ i acc H, i < n → acc.length ≤ i → Same H1 H → P i acc H → LcTurn tt te ((wipe σ vs).set j (some (.int (lo + (i : Nat) * c)))) P i acc H)
    (hq : ∀ D ys H', H1 D = none → Same H1 H' → H' D = some (.lst ys) → P n ys H' → Q (.ref D) H') : LcGo (Itc lo c n) (gName j) tt te vs σ H1 Q := by
  intro D hD
  refine ⟨fun i m H => m = n - i ∧ i ≤ n ∧ LcInv H1 D P i H, ⟨n, by simp, Nat.zero_le _, [], upd_same, Nat.zero_le _, same_new hD, mono _ _ _ _ (kt_new hD) h0⟩, ?_⟩
  rintro i m H ⟨rfl, hi, p⟩
  by_cases hlt : i < n
  · refine .inr ⟨hlt, LcInv H1 D P (i + 1), fun H' p' => ⟨n - (i + 1), by omega, rfl, hlt, p'⟩, ?_⟩
    rintro x H' ⟨rfl, rfl⟩
    exact ⟨hw _, lc_turn mono hD (by omega) p fun acc h2 h3 h4 => hs i acc _ hlt h2 h3 h4⟩
  · have e : i = n := by omega
    subst e
    obtain ⟨acc, h1, h2, h3, h4⟩ := p
    exact .inl ⟨Nat.le_refl _, hq D acc H hD h3 h1 h4⟩
end
theorem RgC.two {m : Nat} (h0 : 0 < m) (h1 : m ≤ 100000) : RgC 0 ((m : Int) - 1) 2 (m / 2) := by
  refine ⟨by decide, by decide, ?_, ?_⟩
  · have hz : Builtin.Range.rangeSize 0 ((m : Int) - 1) 2 = ((m / 2 : Nat) : Int) := by
      unfold Builtin.Range.rangeSize
      rw [if_pos (by decide)]
      split <;> omega
    unfold Builtin.Range.small
    rw [hz]
    simp only [Builtin.Range.rangeFitsLong, Bool.and_eq_true, Bool.or_eq_true, decide_eq_true_eq, beq_iff_eq, show (2 : Int) > 0 by decide, if_true]
    omega
  · unfold Builtin.Range.rangeSize
    rw [if_pos (by decide)]
    split <;> omega
end My
namespace My
open PySem L2
theorem kit_own {K : PySem.W.Frag} {t : Value} {C : Addr} (h1 : PySem.W.isClsIn K C = true) (h2 : PySem.W.typeIn K (.ref C) = some (.type "type")) (h3 : PySem.W.subIn K t (.ref C) = some true) : PySem.W.kitOne K t (.ref C) = some true := by
  unfold PySem.W.kitOne
  split
  · rfl
  · have h1' : (PySem.W.clsIn K C).isSome = true := h1
    show (if ((PySem.W.clsIn K C).isSome && PySem.W.typeIn K (.ref C) == some (.type "type")) = true then PySem.W.subIn K t (.ref C) else none) = some true
    rw [h1', h2]
    exact (if_pos (by rfl)).trans h3
theorem kit_blt {K : PySem.W.Frag} {t : Value} {T : String} (h1 : PySem.W.kitMeta T = true) (h3 : PySem.W.subIn K t (.type T) = some true) : PySem.W.kitOne K t (.type T) = some true := by
  unfold PySem.W.kitOne
  split
  · rfl
  · show (if PySem.W.kitMeta T = true then PySem.W.subIn K t (.type T) else none) = some true
    rw [if_pos h1]
    exact h3
end My

namespace K02
open PySem L2 My
open PyProof.Rows (envOfC)
local macro_rules | `(tactic| walk_at "rd") => `(tactic| simp only [My.ife, My.tFor_eq, My.cx_K, My.cx_w, My.rRdK, My.rNeSelf, rIsi, tAsg, tDrop, tChain, tThenZ, kTyp, My.rInK, My.rMulS, iStr, V.ty.injEq, rAll, rU, tRet, tRetN, tIfS, tVar, tC, tOp, tUn, rI0, rI, rEq, rNe, CDiv, CMul, CPow, My.tTup_eq, My.tLst_eq, My.tDNewK_eq, My.tRevL_eq, My.tRevS, tM1, tM0, My.sz0, My.sz1, My.sz2, My.sz3, My.sz4, My.sz5, My.sz8, tCons, tNil, My.tCallD, tCB, gName, gTup, gCons, gNil, gSub, tTest, tB, tAnd, tOr, tNot, tIf, tAndV, tOrV, tNotV, rSetL, rSlS, rIxL, rIxT, rIxS, My.rSlT_eq, My.rSlL_eq, rIn, rCat, tLc_eq, iList, iTup, iRng1, iRng2, iRng3, wipe, List.map_cons, List.map_nil, tSl, tPart, tNoPart, tBM, tBM0, rAppend, My.rPopL, rExtend, tNext, tBreak, tCont, My.scal_ii, My.scal_ss, My.scal_bb, My.scal_is, My.scal_si, ipI, rListD, sDPut, tDGet, tDGet2, tAug, List.getElem?_cons_zero, List.getElem?_cons_succ, List.set_cons_zero, List.set_cons_succ, Option.some.injEq, exists_eq_left', exists_eq_left, V.int.injEq, V.ref.injEq, V.str.injEq, V.bl.injEq, exists_and_left, true_and, and_true, List.cons.injEq, exists_const, Bool.false_eq_true, ↓reduceIte, reduceCtorEq, false_and, and_assoc, decide_true, decide_false])
local macro_rules | `(tactic| walk_at "st") => `(tactic| (refine My.seq_ fun R hR => ?_))

def topS (i : Nat) : Stmt := PySem.Challenge.pw_closuremill_k02_trees_refused.main.body.getD i (.Pass ⟨0, 0, 0, 0⟩)
/-! ### the eight words -/
inductive Wd where
  | num | name | fn | call | plus | less | ite | lt
  deriving DecidableEq
def Wd.str : Wd → Str
  | .num => "num" | .name => "name" | .fn => "fun" | .call => "call" | .plus => "plus" | .less => "less" | .ite => "if" | .lt => "let"
def Wd.len : Wd → Int
  | .num => 2 | .name => 2 | .fn => 3 | .call => 3 | .plus => 3 | .less => 3 | .ite => 4 | .lt => 4
def Wd.start : Wd → Int
  | .num => 2 | .name => 2 | .fn => 2 | .lt => 2 | _ => 1
def wordsL : List Str := ["num", "name", "fun", "call", "plus", "less", "if", "let"]
def Wd.find (x : Str) : Option Wd :=
  if x = "num" then some .num else if x = "name" then some .name else if x = "fun" then some .fn else if x = "call" then some .call else if x = "plus" then some .plus else if x = "less" then some .less
  else if x = "if" then some .ite else if x = "let" then some .lt else none
theorem Wd.find_str (t : Wd) : Wd.find t.str = some t := by cases t <;> decide +kernel
theorem Wd.of_find {x : Str} {t : Wd} (h : Wd.find x = some t) : x = t.str := by
  unfold Wd.find at h
  repeat' split at h
  all_goals first
    | (cases h; assumption)
    | cases h
theorem Wd.find_none {x : Str} (h : Wd.find x = none) : wordsL.contains x = false := by
  unfold Wd.find at h
  repeat' split at h
  all_goals first
    | cases h
    | skip
  simp only [wordsL, List.contains_cons, List.contains_nil, Bool.or_false, Bool.or_eq_false_iff, beq_eq_false_iff_ne]
  exact ⟨by assumption, by assumption, by assumption, by assumption, by assumption, by assumption, by assumption, by assumption⟩
structure Txt (K : PySem.W.Frag) (w : World) (mg : Str → Option Value) (aL aS cM cN : Addr) : Prop where
  MOST_NODES : GInt mg "MOST_NODES" 400
  MOST_SIGNS : GInt mg "MOST_SIGNS" 8
  TOO_GREAT : GInt mg "TOO_GREAT" (10 ^ 60)
  SIGNS : GStr mg "SIGNS" "abcdefghijklmnopqrstuvwxyz"
  STARTS : mg "STARTS" = some (.ref aS)
  starts : ∀ t : Wd, RdK K w aS t.str (.int t.start)
  LENGTHS : mg "LENGTHS" = some (.ref aL)
  lengths : ∀ t : Wd, RdK K w aL t.str (.int t.len)
  nolen : ∀ x, Wd.find x = none → PySem.W.nsIn K aL x = some none
  KLENGTHS : KDE K w aL
  len : mg "len" = none
  list : mg "list" = none
  range : mg "range" = none
  isinstance : mg "isinstance" = none
  type : mg "type" = none
  all : mg "all" = none
  str : mg "str" = none
  int : mg "int" = none
  bool : mg "bool" = none
  tuple : mg "tuple" = none
  ValueError : mg "ValueError" = none
  cMillError : mg "MillError" = some (.ref cM)
  cNoTree : mg "NoTree" = some (.ref cN)
  kNoTree : PySem.W.keepIn K (.ref cN) = true
  inNoTree : PySem.W.excIn K cN [.type "ValueError", .type "Exception", .type "BaseException", .type "object"] "ValueError.__new__" = true
  exNoTree : PySem.W.subIn K (.ref cN) (.type "BaseException") = some true
  tyNoTree : PySem.W.typeIn K (.ref cN) = some (.type "type")
  meets : PySem.W.exmOne K (.ref cN) (.ref cN) = some true
  exc : ExcC K cN
  isM : PySem.W.kitOne K (.ref cN) (.ref cM) = some true
  isV : PySem.W.kitOne K (.ref cN) (.type "ValueError") = some true
section
variable {K : PySem.W.Frag} {w : World} {mg : Str → Option Value} {aL aS cM cN : Addr}
theorem Txt.has (T : Txt K w mg aL aS cM cN) (x : Str) : ∃ r, PySem.W.nsIn K aL x = some r ∧ r.isSome = (Wd.find x).isSome := by
  cases h : Wd.find x with
  | none => exact ⟨none, T.nolen x h, rfl⟩
  | some t =>
    obtain ⟨es, n, u0, h1, h2, h3, h4⟩ := T.lengths t
    rw [Wd.of_find h]
    exact ⟨_, h3, rfl⟩
end
abbrev s_need_tree : Stmt := topS 10
abbrev N_need_tree : List Str := ["tree", "count", "waiting", "node"]
theorem sc_need_tree : FnScope N_need_tree ["tree"] (defScope s_need_tree) := ⟨rfl, rfl, rfl, by decide +kernel, rfl, by decide +kernel, by decide +kernel⟩
theorem bd_need_tree : BindAll "need_tree" s_need_tree ["tree"] := fun _ _ _ _ _ _ us hl => match us, hl with | [_], _ => rfl
theorem st_need_tree (v0 : V) : start N_need_tree [v0] = [some v0, none, none, none] := rfl
abbrev s_parts : Stmt := topS 11
abbrev N_parts : List Str := ["tree"]
theorem sc_parts : FnScope N_parts ["tree"] (defScope s_parts) := ⟨rfl, rfl, rfl, by decide +kernel, rfl, by decide +kernel, by decide +kernel⟩
theorem bd_parts : BindAll "parts" s_parts ["tree"] := fun _ _ _ _ _ _ us hl => match us, hl with | [_], _ => rfl
theorem st_parts (v0 : V) : start N_parts [v0] = [some v0] := rfl
abbrev s__is_node : Stmt := topS 12
abbrev N__is_node : List Str := ["node", "word"]
theorem sc__is_node : FnScope N__is_node ["node"] (defScope s__is_node) := ⟨rfl, rfl, rfl, by decide +kernel, rfl, by decide +kernel, by decide +kernel⟩
theorem bd__is_node : BindAll "_is_node" s__is_node ["node"] := fun _ _ _ _ _ _ us hl => match us, hl with | [_], _ => rfl
theorem st__is_node (v0 : V) : start N__is_node [v0] = [some v0, none] := rfl
abbrev s__is_number : Stmt := topS 13
abbrev N__is_number : List Str := ["n"]
theorem sc__is_number : FnScope N__is_number ["n"] (defScope s__is_number) := ⟨rfl, rfl, rfl, by decide +kernel, rfl, by decide +kernel, by decide +kernel⟩
theorem bd__is_number : BindAll "_is_number" s__is_number ["n"] := fun _ _ _ _ _ _ us hl => match us, hl with | [_], _ => rfl
theorem st__is_number (v0 : V) : start N__is_number [v0] = [some v0] := rfl
abbrev s__is_name : Stmt := topS 14
abbrev N__is_name : List Str := ["x", "sign"]
theorem sc__is_name : FnScope N__is_name ["x"] (defScope s__is_name) := ⟨rfl, rfl, rfl, by decide +kernel, rfl, by decide +kernel, by decide +kernel⟩
theorem bd__is_name : BindAll "_is_name" s__is_name ["x"] := fun _ _ _ _ _ _ us hl => match us, hl with | [_], _ => rfl
theorem st__is_name (v0 : V) : start N__is_name [v0] = [some v0, none] := rfl
/-! ### what _is_node answers -/
def numV : V → Bool
  | .int n => decide (-(10 ^ 60) < n) && decide (n < 10 ^ 60)
  | _ => false
def isLet (c : Nat) : Bool := decide (97 ≤ c) && decide (c < 123)
theorem in_abc (c : Nat) : decide (c ∈ (Str.ofString "abcdefghijklmnopqrstuvwxyz").cps.toList) = isLet c := by
  rw [abc_eq, mkS_cps, Bool.eq_iff_iff]
  simp only [decide_eq_true_eq, isLet, Bool.and_eq_true, abc, List.mem_range'_1]
def isName (x : Str) : Bool := decide (1 ≤ x.length) && decide (x.length ≤ 8) && (Wd.find x).isNone && x.cps.toList.all isLet
def nameV : V → Bool
  | .str x => isName x
  | _ => false
def Wd.ownOk : Wd → List V → Bool
  | .num, v :: _ => numV v
  | .name, v :: _ => nameV v
  | .fn, v :: _ => nameV v
  | .lt, v :: _ => nameV v
  | _, _ => true
def nodeC : List V → Bool
  | .str w :: r => match Wd.find w with | none => false | some t => decide ((r.length : Int) + 1 = t.len) && t.ownOk r
  | _ => false
theorem nodeC_str (x : Str) (r : List V) : nodeC (.str x :: r) = (match Wd.find x with | none => false | some t => decide ((r.length : Int) + 1 = t.len) && t.ownOk r) := rfl
theorem nodeC_str_app (x : Str) (r s : List V) : nodeC (.str x :: r ++ s) = (match Wd.find x with | none => false | some t => decide (((r ++ s).length : Int) + 1 = t.len) && t.ownOk (r ++ s)) := rfl
def nodeV (H : Hp) (v : V) : Bool := match v with
  | .ref a => (match H a with | some (.tup xs) => nodeC xs | _ => false)
  | _ => false
/-- of a kind that type() tells -/
def Kd (H : Hp) (v : V) : Prop := ∃ n, zTyV v H = some n
/-- a value that need_tree may come to -/
def Kn (H : Hp) (v : V) : Prop := Kd H v ∧ ∀ a xs, v = .ref a → H a = some (.tup xs) → xs.length ≤ 100 ∧ ∀ x ∈ xs, Kd H x
theorem zTy_tup {H : Hp} {v : V} (h : zTyV v H = some "tuple") : ∃ a xs, v = .ref a ∧ H a = some (.tup xs) := by
  unfold zTyV at h
  split at h
  all_goals first
    | (cases h; done)
    | skip
  all_goals first
    | (exact absurd h (by decide))
    | skip
  rename_i p
  split at h
  · exact absurd h (by decide)
  · exact ⟨p, _, rfl, by assumption⟩
  · cases h
theorem zTy_int {H : Hp} {v : V} (h : zTyV v H = some "int") : ∃ i, v = .int i := by
  unfold zTyV at h
  split at h
  all_goals first
    | exact ⟨_, rfl⟩
    | (cases h; done)
    | (exact absurd h (by decide))
    | skip
  split at h
  all_goals first
    | (cases h; done)
    | (exact absurd h (by decide))
theorem zTy_str {H : Hp} {v : V} (h : zTyV v H = some "str") : ∃ i, v = .str i := by
  unfold zTyV at h
  split at h
  all_goals first
    | exact ⟨_, rfl⟩
    | (cases h; done)
    | (exact absurd h (by decide))
    | skip
  split at h
  all_goals first
    | (cases h; done)
    | (exact absurd h (by decide))
theorem num_no {H : Hp} {v : V} {n : String} (h : zTyV v H = some n) (hn : n ≠ "int") : numV v = false := by
  cases v with
  | int i => exact absurd (Option.some.inj h).symm hn
  | _ => rfl
theorem name_no {H : Hp} {v : V} {n : String} (h : zTyV v H = some n) (hn : n ≠ "str") : nameV v = false := by
  cases v with
  | str i => exact absurd (Option.some.inj h).symm hn
  | _ => rfl
theorem node_no {H : Hp} {v : V} (h : zTyV v H ≠ some "tuple") : nodeV H v = false := by
  unfold nodeV
  split
  · split
    · rename_i a _ xs e
      exact absurd (show (match H a with | some (.lst _) => some "list" | some (.tup _) => some "tuple" | _ => none) = some "tuple" by rw [e]) h
    · rfl
  · rfl
def spNum : Sp := fun vs H Q _ => ∃ v, vs = [v] ∧ Kd H v ∧ Q (.bl (numV v)) H
def spIsName : Sp := fun vs H Q _ => ∃ v, vs = [v] ∧ Kd H v ∧ (∀ x, v = .str x → x.length ≤ 10000) ∧ ∀ H', Same H H' → Q (.bl (nameV v)) H'
/-- a tuple of a node's form is given: its parts, in a new list -/
def spParts : Sp := fun vs H Q _ => ∃ (t : Wd) (a : Addr) (own ws : List V), vs = [.ref a] ∧ H a = some (.tup (.str t.str :: own ++ ws)) ∧ ((own.length : Int) + 1 = t.start) ∧ ws.length ≤ 3 ∧ ∀ (l : Addr) (H' : Hp), H l = none → Same H H' → H' l = some (.lst ws) → Q (.ref l) H'
def spIsNode : Sp := fun vs H Q _ => ∃ v, vs = [v] ∧ Kn H v ∧ (∀ a xs x, v = .ref a → H a = some (.tup xs) → V.str x ∈ xs → x.length ≤ 10000) ∧ ∀ H', Same H H' → Q (.bl (nodeV H v)) H'
section
variable {P : Program} {w : World} {K : PySem.W.Frag} {mg : Str → Option Value} {base : Heap} {aL aS cM cN : Addr}
theorem df_num (T : Txt K w mg aL aS cM cN) (F : FunAt K mg "_is_number" s__is_number) : Df P w K mg base 1 "_is_number" ["n"] spNum := by
  refine F.df sc__is_number bd__is_number (fun vs H Q E h => ?_) (fun f cdv A outer s H vs Q E hr h => ?_)
  · obtain ⟨_, rfl, _⟩ := h; rfl
  obtain ⟨v, rfl, ⟨n, hn⟩, q⟩ := h
  have nd := sc__is_number.nd
  refine ⟨_, (pss_one (ps_ret (pe_and (pe_cmpR op_isTy (pe_typeOf (by rfl) T.type (pv 0)) (pe_bltn (v := .ty "int") (by rfl) T.int (by decide +kernel) rfl) (nomark _)) (pe_one (pe_chain op_lt op_lt (pe_un un_neg (pe_gint (by rfl) T.TOO_GREAT)) (pv 0) (pe_gint (by rfl) T.TOO_GREAT)))))), ?_⟩
  rw [st__is_number]
  walk_at "rd"
  refine ⟨n, hn, ?_⟩
  refine ⟨n, rfl, ?_⟩
  by_cases hi : n = "int"
  · subst hi
    obtain ⟨i, rfl⟩ := zTy_int hn
    rw [if_pos rfl]
    refine ⟨i, rfl, ?_⟩
    have e : numV (.int i) = (decide (-10 ^ 60 < i) && decide (i < 10 ^ 60)) := rfl
    by_cases h1 : -10 ^ 60 < i
    · rw [if_pos h1]
      rw [e, decide_eq_true h1, Bool.true_and] at q
      exact ⟨i, rfl, q⟩
    · rw [if_neg h1]
      rw [e, decide_eq_false h1, Bool.false_and] at q
      exact q
  · rw [if_neg hi]
    rw [num_no hn hi] at q
    exact q
theorem df_isname (T : Txt K w mg aL aS cM cN) (F : FunAt K mg "_is_name" s__is_name) : Df P w K mg base 1 "_is_name" ["x"] spIsName := by
  refine F.df sc__is_name bd__is_name (fun vs H Q E h => ?_) (fun f cdv A outer s H vs Q E hr h => ?_)
  · obtain ⟨_, rfl, _⟩ := h; rfl
  obtain ⟨v, rfl, ⟨n, hn⟩, hx, q⟩ := h
  have nd := sc__is_name.nd
  refine ⟨_, (pss_cons (ps_if (PW.pt (pw_or (pt_cmpR op_isNotTy (pe_typeOf (by rfl) T.type (pv 0)) (pe_bltn (v := .ty "str") (by rfl) T.str (by decide +kernel) rfl) (nomark _)) (pw_or1 (pt_not (pt_chain op_le op_le pe_int (pe_callB call_len_str (by rfl) T.len PySem.boot_len (pa_cons (pv 0) pa_nil)) (pe_gint (by rfl) T.MOST_SIGNS))))))
    (pss_one (ps_ret pe_bl))
    pss_nil)
  (pss_one (ps_ret (pe_and (pe_cmpR (op_notIn_kde T.KLENGTHS) (pv 0) (pe_gref (by rfl) T.LENGTHS) rfl) (pe_one (pe_callB (cr_all rfl) (by rfl) T.all (by decide +kernel) (pa_cons (pe_lc (own := [("sign", 1)]) (g := gName 1) rfl nd (pi_str (pv 0)) (blkOk_by (N := N__is_name) (sc := defScope s__is_name) (by decide +kernel)) (fun _ _ _ _ _ => (pg_name (i := 1) nd rfl (Or.inl rfl))) (fun _ _ _ _ _ => pts_nil) (fun _ _ _ _ _ => (pe_cmpR op_in_sign (pv 1) (pe_gstr (by rfl) T.SIGNS) rfl))) pa_nil))))))), ?_⟩
  rw [st__is_name]
  refine seq_ fun R hR => ?_
  walk_at "rd"
  refine ⟨n, hn, n, rfl, ?_⟩
  by_cases hi : n = "str"
  · subst hi
    obtain ⟨x, rfl⟩ := zTy_str hn
    have hx := hx x rfl
    rw [if_neg (by decide)]
    refine ⟨x, rfl, szL (by omega), ?_⟩
    have e : nameV (.str x) = (decide (1 ≤ x.length) && decide (x.length ≤ 8) && (Wd.find x).isNone && x.cps.toList.all isLet) := rfl
    by_cases h1 : 1 ≤ x.length
    · rw [if_pos (by omega)]
      rw [e, decide_eq_true h1, Bool.true_and] at q
      by_cases h2 : x.length ≤ 8
      · rw [decide_eq_true h2, Bool.true_and] at q
        rw [decide_eq_true (by omega), if_neg (by decide), hR]
        clear hR
        walk_at "rd"
        obtain ⟨r, hr1, hr2⟩ := T.has x
        refine ⟨r.isSome, ⟨r, hr1, rfl⟩, ?_⟩
        rw [hr2]
        by_cases h3 : (Wd.find x).isSome = true
        · rw [h3, if_neg (by decide)]
          have : (Wd.find x).isNone = false := by
            cases h : Wd.find x with
            | none => rw [h] at h3; cases h3
            | some t => rfl
          rw [this, Bool.false_and] at q
          exact q _ (Same.refl _)
        · have h4 : (Wd.find x).isSome = false := by simpa using h3
          have : (Wd.find x).isNone = true := by
            cases h : Wd.find x with
            | none => rfl
            | some t => rw [h] at h4; cases h4
          rw [this, Bool.true_and] at q
          rw [h4, if_pos (by decide)]
          refine lcS (fun i acc _ => acc = ((x.cps.toList.take i).map isLet).map V.bl) (fun _ _ _ _ _ h => h) (by show x.length ≤ 100000; omega) (fun _ => rfl) rfl ?_ ?_
          · rintro i c acc H1 hc hi e1 rfl Qy hy Qn hn
            walk_at "rd"
            refine ⟨c, rfl, ?_⟩
            rw [in_abc]
            refine hy _ _ (Same.refl _) ?_
            have hc' : x.cps.toList[i]? = some c := by rw [Array.getElem?_toList]; exact hc
            show _ = ((x.cps.toList.take (i + 1)).map isLet).map V.bl
            rw [List.take_succ, hc', List.map_append, List.map_append]
            rfl
          · intro D ys H' hD e1 h1 h2
            rw [show x.cps.size = x.cps.toList.length from (Array.length_toList).symm, List.take_length] at h2
            subst h2
            refine ⟨D, rfl, _, SqL.of h1, ?_⟩
            rw [List.all_map]
            exact q _ e1
      · rw [decide_eq_false h2, Bool.false_and, Bool.false_and] at q
        rw [decide_eq_false (by omega), if_pos (by decide)]
        exact q _ (Same.refl _)
    · rw [if_neg (by omega), if_pos (by decide)]
      rw [e, decide_eq_false h1, Bool.false_and, Bool.false_and, Bool.false_and] at q
      exact q _ (Same.refl _)
  · rw [decide_eq_false hi, if_pos (by decide)]
    rw [name_no hn hi] at q
    exact q _ (Same.refl _)

theorem own_at {t : Wd} {own ws : List V} (h : (own.length : Int) + 1 = t.start) : ∃ n : Nat, t.start = (n : Int) ∧ 0 < n ∧ (V.str t.str :: own ++ ws).drop n = ws ∧ n ≤ (V.str t.str :: own ++ ws).length :=
  ⟨own.length + 1, by omega, by omega, by simp, by simp⟩
theorem df_parts (T : Txt K w mg aL aS cM cN) (F : FunAt K mg "parts" s_parts) : Df P w K mg base 1 "parts" ["tree"] spParts := by
  refine F.df sc_parts bd_parts (fun vs H Q E h => ?_) (fun f cdv A outer s H vs Q E hr h => ?_)
  · obtain ⟨_, _, _, _, rfl, _⟩ := h; rfl
  obtain ⟨t, a, own, ws, rfl, h1, h2, h3, q⟩ := h
  have nd := sc_parts.nd
  refine ⟨_, (pss_one (ps_ret (pe_callTy call_list_of (by rfl) T.list (by decide +kernel) (pa_cons (pe_slice sl_tup (pv 0) (po_some (pe_ix ix_kd (pe_gref (by rfl) T.STARTS) (pe_ix ix_tup (pv 0) pe_int (fun _ _ => rfl)) (fun _ _ => rfl))) po_none) pa_nil)))), ?_⟩
  rw [st_parts]
  walk_at "rd"
  refine ⟨_, SqT.of h1, _, at0 _ _, _, rfl, _, T.starts t, _, rfl, ?_⟩
  obtain ⟨n, e, h0, hd, hle⟩ := own_at (ws := ws) h2
  rw [e]
  refine ⟨_, SqT.of h1, not_whole h0 hle, fun p hp => ?_⟩
  rw [cut_from hle, hd]
  refine ⟨_, .inr (SqT.of upd_same), fun l hl => ?_⟩
  have hl0 : H l = none := Same.free (same_new hp) hl
  exact q l _ hl0 ((same_new hp).trans (same_new hl)) upd_same
theorem df_isnode (T : Txt K w mg aL aS cM cN) (F : FunAt K mg "_is_node" s__is_node) (D__is_number : Df P w K mg base 1 "_is_number" ["n"] spNum) (D__is_name : Df P w K mg base 1 "_is_name" ["x"] spIsName) :
    Df P w K mg base 2 "_is_node" ["node"] spIsNode := by
  refine F.df sc__is_node bd__is_node (fun vs H Q E h => ?_) (fun f cdv A outer s H vs Q E hr h => ?_)
  · obtain ⟨_, rfl, _⟩ := h; rfl
  obtain ⟨v, rfl, ⟨⟨n, hn⟩, hk⟩, hx, q⟩ := h
  have nd := sc__is_node.nd
  refine ⟨_, (pss_cons (ps_if (PW.pt (pw_or (pt_cmpR op_isNotTy (pe_typeOf (by rfl) T.type (pv 0)) (pe_bltn (v := .ty "tuple") (by rfl) T.tuple (by decide +kernel) rfl) (nomark _)) (pw_or1 (pt_cmpR op_eq (pe_callB call_len_seq (by rfl) T.len PySem.boot_len (pa_cons (pv 0) pa_nil)) pe_int (nomark _)))))
    (pss_one (ps_ret pe_bl))
    pss_nil)
  (pss_cons (ps_set (i := 1) nd rfl (Or.inl rfl) (pe_ix ix_tup (pv 0) pe_int (fun _ _ => rfl)))
  (pss_cons (ps_if (PW.pt (pw_or (pt_cmpR op_isNotTy (pe_typeOf (by rfl) T.type (pv 1)) (pe_bltn (v := .ty "str") (by rfl) T.str (by decide +kernel) rfl) (nomark _)) (pw_or1 (pt_cmpR (op_notIn_kde T.KLENGTHS) (pv 1) (pe_gref (by rfl) T.LENGTHS) rfl))))
    (pss_one (ps_ret pe_bl))
    pss_nil)
  (pss_cons (ps_if (pt_cmpR op_ne (pe_callB call_len_seq (by rfl) T.len PySem.boot_len (pa_cons (pv 0) pa_nil)) (pe_ix ix_kd (pe_gref (by rfl) T.LENGTHS) (pv 1) (fun _ _ => rfl)) (nomark _))
    (pss_one (ps_ret pe_bl))
    pss_nil)
  (pss_cons (ps_if (pt_cmpR op_eq (pv 1) pe_str (nomark _))
    (pss_one (ps_ret (pe_callD D__is_number hr (by decide) rfl (pa_cons (pe_ix ix_tup (pv 0) pe_int (fun _ _ => rfl)) pa_nil))))
    pss_nil)
  (pss_cons (ps_if (PW.pt (pw_or (pt_cmpR op_eq (pv 1) pe_str (nomark _)) (pw_or (pt_cmpR op_eq (pv 1) pe_str (nomark _)) (pw_or1 (pt_cmpR op_eq (pv 1) pe_str (nomark _))))))
    (pss_one (ps_ret (pe_callD D__is_name hr (by decide) rfl (pa_cons (pe_ix ix_tup (pv 0) pe_int (fun _ _ => rfl)) pa_nil))))
    pss_nil)
  (pss_one (ps_ret pe_bl)))))))), ?_⟩
  rw [st__is_node]
  refine seq_ fun R hR => ?_
  walk_at "rd"
  refine ⟨n, hn, n, rfl, ?_⟩
  by_cases hi : n = "tuple"
  · subst hi
    obtain ⟨a, xs, rfl, ha⟩ := zTy_tup hn
    obtain ⟨hl, hk⟩ := hk a xs rfl ha
    have hx := fun x => hx a xs x rfl ha
    have hq : nodeV H (.ref a) = nodeC xs := by show (match H a with | some (.tup xs) => nodeC xs | _ => false) = _; rw [ha]
    rw [hq] at q
    rw [if_neg (by decide)]
    refine ⟨a, rfl, xs, .inr (SqT.of ha), ?_⟩
    cases xs with
    | nil =>
      rw [if_pos (by simp)]
      exact q _ (Same.refl _)
    | cons z r =>
    have hl1 : (((z :: r).length : Nat) : Int) = (r.length : Int) + 1 := by simp
    rw [if_neg (by omega), hR]
    clear hR
    refine seq_ fun R hR => ?_
    walk_at "rd"
    refine ⟨_, SqT.of ha, z, at0 _ _, ?_⟩
    rw [hR]; clear hR
    refine seq_ fun R hR => ?_
    walk_at "rd"
    obtain ⟨n, hz⟩ := hk z (by simp)
    refine ⟨n, hz, n, rfl, ?_⟩
    by_cases hi : n = "str"
    · subst hi
      obtain ⟨x, rfl⟩ := zTy_str hz
      rw [if_neg (by decide)]
      obtain ⟨o, hr1, hr2⟩ := T.has x
      refine ⟨x, rfl, o.isSome, ⟨o, hr1, rfl⟩, ?_⟩
      rw [hr2]
      cases hf : Wd.find x with
      | none =>
        rw [if_pos (by decide)]
        have e : nodeC (.str x :: r) = false := by rw [nodeC_str, hf]
        rw [e] at q
        exact q _ (Same.refl _)
      | some t =>
        rw [if_neg (by simp), hR]
        clear hR
        obtain rfl := Wd.of_find hf
        have e : nodeC (.str t.str :: r) = (decide ((r.length : Int) + 1 = t.len) && t.ownOk r) := by
          rw [nodeC_str, hf]
        rw [e] at q
        clear e
        refine seq_ fun R hR => ?_
        walk_at "rd"
        refine ⟨_, .inr (SqT.of ha), _, T.lengths t, ?_⟩
        refine ⟨rfl, ?_⟩
        by_cases hlen : (r.length : Int) + 1 = t.len
        · rw [if_neg (by rw [hl1, hlen]; simp), hR]
          clear hR
          rw [decide_eq_true hlen, Bool.true_and] at q
          cases r with
          | nil => exact absurd hlen (by cases t <;> decide)
          | cons y r =>
          obtain ⟨m, hy⟩ := hk y (by simp)
          have hy2 : ∀ x, y = .str x → x.length ≤ 10000 := fun x e => hx x (by rw [e]; simp)
          refine seq_ fun R hR => ?_
          walk_at "rd"
          by_cases e1 : t = .num
          · subst e1
            rw [if_pos (by rfl)]
            exact ⟨_, SqT.of ha, y, at1 _ _ _, y, rfl, ⟨m, hy⟩, q _ (Same.refl _)⟩
          · rw [if_neg (by cases t <;> first | exact absurd rfl e1 | decide +kernel), hR]
            clear hR
            refine seq_ fun R hR => ?_
            walk_at "rd"
            have hN : t.ownOk (y :: r) = nameV y → ∃ xs, SqT K H a xs ∧ ∃ z, atI xs 1 = some z ∧ spIsName [z] H Q E0 := fun e => ⟨_, SqT.of ha, y, at1 _ _ _, y, rfl, ⟨m, hy⟩, hy2, fun H' e1 => by rw [← e]; exact q H' e1⟩
            cases t with
            | num => exact absurd rfl e1
            | name => rw [if_pos (by rfl)]; exact hN rfl
            | fn => rw [if_neg (by decide +kernel), if_pos (by rfl)]; exact hN rfl
            | lt => rw [if_neg (by decide +kernel), if_neg (by decide +kernel), if_pos (by rfl)]; exact hN rfl
            | _ => rw [if_neg (by decide +kernel), if_neg (by decide +kernel), if_neg (by decide +kernel), hR]; walk_at "rd"; exact q _ (Same.refl _)
        · rw [if_pos (by rw [hl1]; simp [hlen])]
          rw [decide_eq_false hlen, Bool.false_and] at q
          exact q _ (Same.refl _)
    · rw [decide_eq_false hi, if_pos (by decide)]
      have e : nodeC (z :: r) = false := by
        cases z with
        | str x => exact absurd (Option.some.inj hz).symm hi
        | _ => rfl
      rw [e] at q
      exact q _ (Same.refl _)
  · rw [decide_eq_false hi, if_pos (by decide)]
    rw [node_no (by rw [hn]; intro z; exact hi (Option.some.inj z))] at q
    exact q _ (Same.refl _)
end
end K02

namespace K02
open PySem L2 My
open PyProof.Rows (envOfC)
local macro_rules | `(tactic| walk_at "rd") => `(tactic| simp only [My.ife, My.tFor_eq, My.cx_K, My.cx_w, My.rRdK, My.rNeSelf, rIsi, tAsg, tDrop, tChain, tThenZ, kTyp, My.rInK, My.rMulS, iStr, V.ty.injEq, rAll, rU, tRet, tRetN, tIfS, tVar, tC, tOp, tUn, rI0, rI, rEq, rNe, CDiv, CMul, CPow, My.tTup_eq, My.tLst_eq, My.tDNewK_eq, My.tRevL_eq, My.tRevS, tM1, tM0, My.sz0, My.sz1, My.sz2, My.sz3, My.sz4, My.sz5, My.sz8, tCons, tNil, My.tCallD, tCB, gName, gTup, gCons, gNil, gSub, tTest, tB, tAnd, tOr, tNot, tIf, tAndV, tOrV, tNotV, rSetL, rSlS, rIxL, rIxT, rIxS, My.rSlT_eq, My.rSlL_eq, rIn, rCat, tLc_eq, iList, iTup, iRng1, iRng2, iRng3, wipe, List.map_cons, List.map_nil, tSl, tPart, tNoPart, tBM, tBM0, rAppend, My.rPopL, rExtend, tNext, tBreak, tCont, My.scal_ii, My.scal_ss, My.scal_bb, My.scal_is, My.scal_si, ipI, rListD, sDPut, tDGet, tDGet2, tAug, List.getElem?_cons_zero, List.getElem?_cons_succ, List.set_cons_zero, List.set_cons_succ, Option.some.injEq, exists_eq_left', exists_eq_left, V.int.injEq, V.ref.injEq, V.str.injEq, V.bl.injEq, exists_and_left, true_and, and_true, List.cons.injEq, exists_const, Bool.false_eq_true, ↓reduceIte, reduceCtorEq, false_and, and_assoc, decide_true, decide_false])
local macro_rules | `(tactic| walk_at "st") => `(tactic| (refine My.seq_ fun R hR => ?_))

/-! ### what need_tree walks over -/
structure Bad (H : Hp) (v : V) : Prop where
  kn : Kn H v
  st : ∀ x, v = .str x → x.length ≤ 10000
  sts : ∀ a xs x, v = .ref a → H a = some (.tup xs) → V.str x ∈ xs → x.length ≤ 10000
  no : nodeV H v = false
/-- a good node's own head -/
def OwnV (v : V) : Prop := (∃ n, v = .int n) ∨ ∃ x, v = .str x ∧ x.length ≤ 10000
/-- values, one behind another, that are nodes as they ought to be, all the way down, or (then b is true) things that are none; n nodes and things in all -/
inductive Wks (H : Hp) : List V → Nat → Bool → Prop
  | nil : Wks H [] 0 false
  | nd {a : Addr} {t : Wd} {own ws vs : List V} {m n : Nat} {b c : Bool} (h : H a = some (.tup (.str t.str :: own ++ ws))) (ho : (own.length : Int) + 1 = t.start) (hn : nodeC (.str t.str :: own ++ ws) = true) (hw : ∀ x ∈ own, OwnV x) (hl : ws.length ≤ 3)
      (h1 : Wks H ws m b) (h2 : Wks H vs n c) : Wks H (.ref a :: vs) (1 + m + n) (b || c)
  | odd {v : V} {vs : List V} {n : Nat} {c : Bool} (h : Bad H v) (h2 : Wks H vs n c) : Wks H (v :: vs) (1 + n) true
theorem Wks.append {H : Hp} {xs : List V} {m : Nat} {b : Bool} (h : Wks H xs m b) {ys : List V} {n : Nat} {c : Bool} (g : Wks H ys n c) : Wks H (xs ++ ys) (m + n) (b || c) := by
  induction h with
  | nil => simpa using g
  | nd h ho hn hw hl h1 h2 ih1 ih2 =>
    rw [List.cons_append, Nat.add_assoc, Bool.or_assoc]
    exact .nd h ho hn hw hl h1 ih2
  | odd h h2 ih =>
    rw [List.cons_append, Nat.add_assoc, Bool.true_or]
    exact .odd h ih
theorem Wks.snoc {H : Hp} {v : V} : ∀ {ys : List V} {n : Nat} {b : Bool}, Wks H (ys ++ [v]) n b → ∃ n1 b1 n2 b2, Wks H ys n1 b1 ∧ Wks H [v] n2 b2 ∧ n = n1 + n2 ∧ b = (b1 || b2)
  | [], n, b, h => ⟨0, false, n, b, .nil, h, by omega, by simp⟩
  | u :: ys, n, b, h => by
    cases h with
    | nd h ho hn hw hl h1 h2 =>
      obtain ⟨n1, b1, n2, b2, g1, g2, rfl, rfl⟩ := Wks.snoc h2
      exact ⟨_, _, n2, b2, .nd h ho hn hw hl h1 g1, g2, by omega, by rw [Bool.or_assoc]⟩
    | odd h h2 =>
      obtain ⟨n1, b1, n2, b2, g1, g2, rfl, rfl⟩ := Wks.snoc h2
      exact ⟨_, _, n2, b2, .odd h g1, g2, by omega, by rw [Bool.true_or]⟩
theorem zTy_same {H H' : Hp} (e : Same H H') {v : V} {n : String} (h : zTyV v H = some n) : zTyV v H' = some n := by
  cases v with
  | ref p =>
    have h' : (match H p with | some (.lst _) => some "list" | some (.tup _) => some "tuple" | _ => none) = some n := h
    show (match H' p with | some (.lst _) => some "list" | some (.tup _) => some "tuple" | _ => none) = some n
    cases q : H p with
    | none => rw [q] at h'; cases h'
    | some o => rw [e _ _ q]; rw [q] at h'; exact h'
  | _ => exact h
theorem Kd.same {H H' : Hp} (e : Same H H') {v : V} (h : Kd H v) : Kd H' v := ⟨h.choose, zTy_same e h.choose_spec⟩
theorem zTy_known {H : Hp} {a : Addr} (h : Kd H (.ref a)) : ∃ o, H a = some o := by
  obtain ⟨n, h⟩ := h
  have h' : (match H a with | some (.lst _) => some "list" | some (.tup _) => some "tuple" | _ => none) = some n := h
  cases q : H a with
  | none => rw [q] at h'; cases h'
  | some o => exact ⟨o, rfl⟩
theorem same_at {H H' : Hp} (e : Same H H') {a : Addr} (k : Kd H (.ref a)) : H' a = H a := by
  obtain ⟨o, h⟩ := zTy_known k
  rw [h]
  exact e _ _ h
theorem Bad.same {H H' : Hp} (e : Same H H') {v : V} (h : Bad H v) : Bad H' v where
  kn := ⟨h.kn.1.same e, fun a xs ev ha => by
    subst ev
    rw [same_at e h.kn.1] at ha
    obtain ⟨h1, h2⟩ := h.kn.2 a xs rfl ha
    exact ⟨h1, fun x hx => (h2 x hx).same e⟩⟩
  st := h.st
  sts := fun a xs x ev ha => by
    subst ev
    rw [same_at e h.kn.1] at ha
    exact h.sts a xs x rfl ha
  no := by
    cases v with
    | ref a =>
      show (match H' a with | some (.tup xs) => nodeC xs | _ => false) = false
      rw [same_at e h.kn.1]
      exact h.no
    | _ => rfl
theorem Wks.same {H H' : Hp} (e : Same H H') {vs : List V} {n : Nat} {b : Bool} (h : Wks H vs n b) : Wks H' vs n b := by
  induction h with
  | nil => exact .nil
  | nd h ho hn hw hl h1 h2 ih1 ih2 => exact .nd (e _ _ h) ho hn hw hl ih1 ih2
  | odd h h2 ih => exact .odd (h.same e) ih
theorem kd_tup {H : Hp} {a : Addr} {xs : List V} (h : H a = some (.tup xs)) : Kd H (.ref a) :=
  ⟨"tuple", show (match H a with | some (.lst _) => some "list" | some (.tup _) => some "tuple" | _ => none) = some "tuple" by rw [h]⟩
theorem Wks.kd {H : Hp} {vs : List V} {n : Nat} {b : Bool} (h : Wks H vs n b) : ∀ v ∈ vs, Kd H v ∧ ∀ x, v = .str x → x.length ≤ 10000 := by
  induction h with
  | nil => intro v hv; cases hv
  | nd h ho hn hw hl h1 h2 ih1 ih2 =>
    intro v hv
    rcases List.mem_cons.mp hv with e | hv
    · subst e
      exact ⟨kd_tup h, fun x e => by cases e⟩
    · exact ih2 v hv
  | odd h h2 ih =>
    intro v hv
    rcases List.mem_cons.mp hv with e | hv
    · subst e
      exact ⟨h.kn.1, h.st⟩
    · exact ih v hv
/-- one thing: a good node with its parts, or none -/
theorem Wks.one {H : Hp} {v : V} {n : Nat} {b : Bool} (h : Wks H [v] n b) : (Bad H v ∧ n = 1 ∧ b = true) ∨
    (∃ (a : Addr) (t : Wd) (own ws : List V) (m : Nat), v = .ref a ∧ H a = some (.tup (.str t.str :: own ++ ws)) ∧ (own.length : Int) + 1 = t.start ∧ nodeV H v = true ∧ Kn H v ∧ (∀ a xs x, v = .ref a → H a = some (.tup xs) → V.str x ∈ xs → x.length ≤ 10000) ∧ ws.length ≤ 3 ∧ Wks H ws m b ∧ n = 1 + m) := by
  cases h with
  | @nd a t own ws _ m _ b' _ h ho hn hw hl h1 h2 =>
    cases h2
    have hkd := h1.kd
    have key : ∀ x ∈ (V.str t.str :: own ++ ws), Kd H x ∧ ∀ z, x = .str z → z.length ≤ 10000 := by
      intro x hx
      rcases List.mem_append.mp hx with hx | hx
      · rcases List.mem_cons.mp hx with e | hx
        · subst e
          exact ⟨⟨"str", rfl⟩, fun z e => by cases e; cases t <;> decide +kernel⟩
        · rcases hw x hx with ⟨n, rfl⟩ | ⟨z, rfl, hz⟩
          · exact ⟨⟨"int", rfl⟩, fun z e => by cases e⟩
          · exact ⟨⟨"str", rfl⟩, fun z' e => by cases e; exact hz⟩
      · exact hkd x hx
    have hlen : (V.str t.str :: own ++ ws).length ≤ 100 := by
      have : t.start ≤ 2 := by cases t <;> decide
      simp only [List.length_append, List.length_cons]
      omega
    refine .inr ⟨a, t, own, ws, m, rfl, h, ho, ?_, ⟨kd_tup h, fun a' xs e ha => ?_⟩, fun a' xs x e ha hx => ?_, hl, ?_, by omega⟩
    · show (match H a with | some (.tup xs) => nodeC xs | _ => false) = true
      rw [h]
      exact hn
    · cases e
      rw [h] at ha
      cases ha
      exact ⟨hlen, fun x hx => (key x hx).1⟩
    · cases e
      rw [h] at ha
      cases ha
      exact (key _ hx).2 x rfl
    · simpa using h1
  | odd h h2 =>
    cases h2
    exact .inl ⟨h, rfl, rfl⟩
def spNeed (cN : Addr) : Sp := fun vs H Q E => ∃ (v : V) (n : Nat) (b : Bool), vs = [v] ∧ Wks H [v] n b ∧ (n ≤ 400 → b = false → ∀ H', Same H H' → Q v H') ∧ ((400 < n ∨ b = true) → ∀ H', Same H H' → E (.ref cN) none H')
section
variable {P : Program} {w : World} {K : PySem.W.Frag} {mg : Str → Option Value} {base : Heap} {aL aS cM cN : Addr}
theorem Txt.rNoTree (T : Txt K w mg aL aS cM cN) {X : Cx} (h : X.K = K := by rfl) : Raises X (.ref cN) := raises_own (by rw [h]; exact T.exNoTree) (by rw [h]; exact T.tyNoTree)
theorem df_need (T : Txt K w mg aL aS cM cN) (F : FunAt K mg "need_tree" s_need_tree) (D_parts : Df P w K mg base 1 "parts" ["tree"] spParts) (D__is_node : Df P w K mg base 2 "_is_node" ["node"] spIsNode) :
    DfX P w K mg base 3 "need_tree" ["tree"] (spNeed cN) := by
  refine F.dfX sc_need_tree bd_need_tree (fun vs H Q E h => ?_) (fun f cdv A outer s H vs Q E hr h => ?_)
  · obtain ⟨_, _, _, rfl, _⟩ := h; rfl
  obtain ⟨v, n, b, rfl, hw, q, e⟩ := h
  have nd := sc_need_tree.nd
  refine ⟨_, (pss_cons (ps_set (i := 1) nd rfl (Or.inl rfl) pe_int)
  (pss_cons (ps_set (i := 2) nd rfl (Or.inl rfl) (pe_lst (pa_cons (pv 0) pa_nil)))
  (pss_cons (ps_while (passes_of rfl) (pt_truth (pv 2) (by intro _; rfl))
    (pss_cons (ps_set (i := 3) nd rfl (Or.inl rfl) (pe_bm0 PySem.F.plainAttrs_list PySem.F.slot_list_pop PySem.F.type_list_pop mt_popL (pv 2)))
      (pss_cons (ps_aug (i := 1) nd rfl (Or.inl rfl) pe_int ip_add)
      (pss_cons (ps_if (pt_cmpR op_gt (pv 1) (pe_gint (by rfl) T.MOST_NODES) (nomark _))
        (pss_one (ps_raise rfl (takes_of rfl rfl rfl rfl) (pmk_own PySem.F.excBase_ValueError T.inNoTree T.cNoTree T.kNoTree T.rNoTree rfl)))
        pss_nil)
      (pss_cons (ps_if (pt_not (pt_val (pe_callD D__is_node hr (by decide) rfl (pa_cons (pv 3) pa_nil))))
        (pss_one (ps_raise rfl (takes_of rfl rfl rfl rfl) (pmk_own PySem.F.excBase_ValueError T.inNoTree T.cNoTree T.kNoTree T.rNoTree rfl)))
        pss_nil)
      (pss_one (ps_expr (pe_bm PySem.F.plainAttrs_list PySem.F.slot_list_extend PySem.F.type_list_extend mt_extend (pv 2) (pa_cons (pe_callD D_parts hr (by decide) rfl (pa_cons (pv 3) pa_nil)) pa_nil)))))))))
  (pss_one (ps_ret (pv 0)))))), ?_⟩
  rw [st_need_tree]
  refine seq_ fun R hR => ?_
  walk_at "rd"
  rw [hR]; clear hR
  refine seq_ fun R hR => ?_
  walk_at "rd"
  refine new_ fun l H1 hl e1 h1 => ?_
  rw [hR]; clear hR
  refine seq_ fun R hR => ?_
  refine whileL_ (K := K) (i := 2) (fun m σ H' => ∃ (c : Nat) (xs : List V) (m' : Nat) (o : Option V), σ = [some v, some (.int c), some (.ref l), o] ∧ Same H H' ∧ H' l = some (.lst xs) ∧ Wks H xs m b ∧ c + m = n ∧ xs.length ≤ 1 + 3 * c ∧ c ≤ 400) n
    ⟨0, [v], 0, none, rfl, e1, h1, hw, by omega, by simp, by omega⟩ ?_
  rintro m σ H' ⟨c, xs, _, o, rfl, e2, h2, hwx, hcm, hxl, hc⟩
  refine ⟨l, xs, rfl, h2, fun hx => ?_, fun ys u hx N hN => ?_⟩
  · subst hx
    show R _ _
    rw [hR]
    walk_at "rd"
    cases hwx
    exact q (by omega) rfl _ e2
  · clear hR
    subst hx
    obtain ⟨n1, b1, n2, b2, g1, g2, rfl, rfl⟩ := hwx.snoc
    have hn2 : 0 < n2 := by
      rcases g2.one with ⟨_, rfl, _⟩ | ⟨_, _, _, _, _, _, _, _, _, _, _, _, _, rfl⟩ <;> omega
    refine seq_ fun R hR => ?_
    walk_at "rd"
    refine ⟨.inl ⟨rfl, _, SqL.of h2⟩, _, _, h2, ?_⟩
    have e3 : Same H (upd H' l (.lst ys)) := same_mut e2 hl
    have h3 : upd H' l (.lst ys) l = some (.lst ys) := upd_same
    generalize upd H' l (.lst ys) = H3 at e3 h3
    rw [hR]; clear hR
    refine seq_ fun R hR => ?_
    walk_at "rd"
    rw [hR]; clear hR
    refine ifq_ fun R A B hR hA hB => ?_
    walk_at "rd"
    by_cases hc4 : 400 < (c : Int) + 1
    · rw [if_pos hc4, hA]
      exact e (.inl (by omega)) _ e3
    rw [if_neg hc4, hB]
    clear hA hB
    walk_at "rd"
    rw [hR]; clear hR
    refine ifq_ fun R A B hR hA hB => ?_
    walk_at "rd"
    rcases g2.one with ⟨hbad, rfl, rfl⟩ | ⟨a, t, own, ws, m, rfl, ha, ho, hno, hkn, hst, hwl, hws, rfl⟩
    · have hb3 := hbad.same e3
      refine ⟨u, rfl, hb3.kn, hb3.sts, fun H4 e4 => ?_⟩
      rw [hb3.no]
      refine ⟨false, rfl, ?_⟩
      rw [if_pos (by decide), hA]
      exact e (.inr (by simp)) _ (e3.trans e4)
    · have ha3 : Kd H3 (.ref a) := hkn.1.same e3
      have hat : H3 a = H a := same_at e3 hkn.1
      refine ⟨.ref a, rfl, ⟨ha3, fun a' xs ea h' => ?_⟩, fun a' xs x ea h' hx => ?_, fun H4 e4 => ?_⟩
      · cases ea
        rw [hat] at h'
        obtain ⟨k1, k2⟩ := hkn.2 a xs rfl h'
        exact ⟨k1, fun x hx => (k2 x hx).same e3⟩
      · cases ea
        rw [hat] at h'
        exact hst a xs x rfl h' hx
      have hno3 : nodeV H3 (.ref a) = true := by
        show (match H3 a with | some (.tup xs) => nodeC xs | _ => false) = true
        rw [hat]
        exact hno
      rw [hno3]
      refine ⟨true, rfl, ?_⟩
      rw [if_neg (by decide), hB]
      clear hA hB
      walk_at "rd"
      rw [hR]; clear hR
      walk_at "rd"
      have e4' := e3.trans e4
      have h4 := e4 _ _ h3
      refine ⟨.inl ⟨rfl, _, SqL.of h4⟩, t, a, own, ws, rfl, e4' _ _ ha, ho, hwl, fun p H5 hp e5 h5 => ?_⟩
      walk_at "rd"
      have hyl : (ys ++ ws).length ≤ 1 + 3 * (c + 1) := by
        rw [List.length_append] at hxl ⊢
        simp only [List.length_singleton] at hxl
        omega
      have hyl2 := hyl
      rw [List.length_append] at hyl2
      refine ⟨_, e5 _ _ h4, _, h5, szL (by omega), ?_⟩
      refine hN (n1 + m) _ _ (by omega) ⟨c + 1, ys ++ ws, 0, _, rfl, same_mut (e4'.trans e5) hl, upd_same, g1.append hws, by omega, hyl, by omega⟩
end
end K02

namespace K02
open PySem L2 My
open PyProof.Rows (envOfC)
local macro_rules | `(tactic| walk_at "rd") => `(tactic| simp only [My.ife, My.tFor_eq, My.cx_K, My.cx_w, My.rRdK, My.rNeSelf, rIsi, tAsg, tDrop, tChain, tThenZ, kTyp, My.rInK, My.rMulS, iStr, V.ty.injEq, rAll, rU, tRet, tRetN, tIfS, tVar, tC, tOp, tUn, rI0, rI, rEq, rNe, CDiv, CMul, CPow, My.tTup_eq, My.tLst_eq, My.tDNewK_eq, My.tRevL_eq, My.tRevS, tM1, tM0, My.sz0, My.sz1, My.sz2, My.sz3, My.sz4, My.sz5, My.sz8, tCons, tNil, My.tCallD, tCB, gName, gTup, gCons, gNil, gSub, tTest, tB, tAnd, tOr, tNot, tIf, tAndV, tOrV, tNotV, rSetL, rSlS, rIxL, rIxT, rIxS, My.rSlT_eq, My.rSlL_eq, rIn, rCat, tLc_eq, iList, iTup, iRng1, iRng2, iRng3, wipe, List.map_cons, List.map_nil, tSl, tPart, tNoPart, tBM, tBM0, rAppend, My.rPopL, rExtend, tNext, tBreak, tCont, My.scal_ii, My.scal_ss, My.scal_bb, My.scal_is, My.scal_si, ipI, rListD, sDPut, tDGet, tDGet2, tAug, List.getElem?_cons_zero, List.getElem?_cons_succ, List.set_cons_zero, List.set_cons_succ, Option.some.injEq, exists_eq_left', exists_eq_left, V.int.injEq, V.ref.injEq, V.str.injEq, V.bl.injEq, exists_and_left, true_and, and_true, List.cons.injEq, exists_const, Bool.false_eq_true, ↓reduceIte, reduceCtorEq, false_and, and_assoc, decide_true, decide_false])
local macro_rules | `(tactic| walk_at "st") => `(tactic| (refine My.seq_ fun R hR => ?_))

abbrev s__law_refused : Stmt := topS 20
abbrev N__law_refused : List Str := ["_law_tree", "e"]
theorem sc__law_refused : FnScope N__law_refused ["_law_tree"] (defScope s__law_refused) := ⟨rfl, rfl, rfl, by decide +kernel, rfl, by decide +kernel, by decide +kernel⟩
theorem bd__law_refused : BindAll "_law_refused" s__law_refused ["_law_tree"] := fun _ _ _ _ _ _ us hl => match us, hl with | [_], _ => rfl
theorem st__law_refused (v0 : V) : start N__law_refused [v0] = [some v0, none] := rfl
abbrev s__law_cell_at : Stmt := topS 16
abbrev N__law_cell_at : List Str := ["_law_script", "_law_k"]
theorem sc__law_cell_at : FnScope N__law_cell_at ["_law_script", "_law_k"] (defScope s__law_cell_at) := ⟨rfl, rfl, rfl, by decide +kernel, rfl, by decide +kernel, by decide +kernel⟩
theorem bd__law_cell_at : BindAll "_law_cell_at" s__law_cell_at ["_law_script", "_law_k"] := fun _ _ _ _ _ _ us hl => match us, hl with | [_, _], _ => rfl
theorem st__law_cell_at (v0 v1 : V) : start N__law_cell_at [v0, v1] = [some v0, some v1] := rfl
abbrev s__law_whole : Stmt := topS 19
abbrev N__law_whole : List Str := ["_law_things", "_law_one", "_law_other", "_law_third"]
theorem sc__law_whole : FnScope N__law_whole ["_law_things"] (defScope s__law_whole) := ⟨rfl, rfl, rfl, by decide +kernel, rfl, by decide +kernel, by decide +kernel⟩
theorem bd__law_whole : BindAll "_law_whole" s__law_whole ["_law_things"] := fun _ _ _ _ _ _ us hl => match us, hl with | [_], _ => rfl
theorem st__law_whole (v0 : V) : start N__law_whole [v0] = [some v0, none, none, none] := rfl
def spRef : Sp := fun vs H Q _ => ∃ (v : V) (n : Nat) (b : Bool), vs = [v] ∧ Wks H [v] n b ∧ (400 < n ∨ b = true) ∧ ∀ H', Same H H' → Q (.bl true) H'
/-- the tree round twelve things -/
structure Whole (H : Hp) (us : List V) (v : V) : Prop where
  ex : ∃ (u0 u1 u2 u3 u4 u5 u6 u7 u8 u9 u10 u11 : V) (p1 p2 p3 p4 p5 p6 p7 p8 p9 p10 : Addr), us = [u0, u1, u2, u3, u4, u5, u6, u7, u8, u9, u10, u11] ∧ v = .ref p10 ∧
    H p1 = some (.tup [.str "if", u1, u2, u3]) ∧ H p2 = some (.tup [.str "plus", u0, .ref p1]) ∧ H p3 = some (.tup [.str "call", u5, u6]) ∧ H p4 = some (.tup [.str "let", .str "abcdefgh", u4, .ref p3]) ∧
    H p5 = some (.tup [.str "less", u7, u8]) ∧ H p6 = some (.tup [.str "fun", .str "z", .ref p5]) ∧ H p7 = some (.tup [.str "plus", .ref p2, .ref p4]) ∧ H p8 = some (.tup [.str "plus", u10, u11]) ∧
    H p9 = some (.tup [.str "let", .str "fu", u9, .ref p8]) ∧ (∃ p11, H p11 = some (.tup [.str "call", .ref p6, .ref p9]) ∧ H p10 = some (.tup [.str "plus", .ref p7, .ref p11]))
def spWhole (K : PySem.W.Frag) : Sp := fun vs H Q _ => ∃ (a : Addr) (us : List V), vs = [.ref a] ∧ SqL K H a us ∧ us.length = 12 ∧ ∀ v H', Same H H' → Whole H' us v → Q v H'
section
variable {P : Program} {w : World} {K : PySem.W.Frag} {mg : Str → Option Value} {base : Heap} {aL aS cM cN : Addr}
theorem df_refused (T : Txt K w mg aL aS cM cN) (F : FunAt K mg "_law_refused" s__law_refused) (D_need_tree : DfX P w K mg base 3 "need_tree" ["tree"] (spNeed cN)) :
    Df P w K mg base 4 "_law_refused" ["_law_tree"] spRef := by
  refine F.df sc__law_refused bd__law_refused (fun vs H Q E h => ?_) (fun f cdv A outer s H vs Q E hr h => ?_)
  · obtain ⟨_, _, _, rfl, _⟩ := h; rfl
  obtain ⟨v, n, b, rfl, hw, hb, q⟩ := h
  have nd := sc__law_refused.nd
  refine ⟨_, (pss_cons (ps_try_as (i := 1) (tb := fun W => tDrop (tCallS (spNeed _) (WE W) (tCons (tVar 0) tNil))) (ts := fun a cls d => _) (Wout := fun _ _ _ _ => False) rfl rfl nd rfl rfl ⟨rfl, by decide, Or.inl T.cNoTree⟩ takes0
    (fun W pn xe tk _ => (pss_one (ps_expr (pe_callXS (E := WE W) D_need_tree hr (by decide) rfl (fun σ => passAt tk σ) (pa_cons (pv 0) pa_nil)))))
    (fun a oe cls d pn hz hf => (pss_one (ps_ret (pe_and (pe_callB (call_isEc T.exc hz hf) (by rfl) T.isinstance (by decide +kernel) (pa_cons (pv 1) (pa_cons (pe_gref (by rfl) T.cMillError) pa_nil))) (pe_one (pe_callB (call_isEc T.exc hz hf) (by rfl) T.isinstance (by decide +kernel) (pa_cons (pv 1) (pa_cons (pe_bltn (v := .ty "ValueError") (by rfl) T.ValueError (by decide +kernel) rfl) pa_nil)))))))))
  (pss_one (ps_ret pe_bl))), ?_⟩
  rw [st__law_refused]
  refine seq_ fun R hR => ?_
  walk_at "rd"
  unfold tCallS
  walk_at "rd"
  refine ⟨v, n, b, rfl, hw, fun h1 h2 => ?_, fun _ H' e1 => ?_⟩
  · subst h2
    rcases hb with hb | hb
    · omega
    · cases hb
  · refine ⟨true, T.meets, fun _ a ha => ?_, fun z => by cases z⟩
    walk_at "rd"
    refine ⟨rfl, rfl, .ref cM, true, rfl, ⟨.ref cM, fun u h => h, T.isM⟩, true, rfl, ?_⟩
    rw [if_pos rfl]
    exact ⟨rfl, rfl, .ty "ValueError", true, rfl, ⟨.type "ValueError", fun u h => h, T.isV⟩, q _ e1⟩
theorem df_cell (T : Txt K w mg aL aS cM cN) (F : FunAt K mg "_law_cell_at" s__law_cell_at) : Df P w K mg base 1 "_law_cell_at" ["_law_script", "_law_k"] (spCellA K) := by
  refine F.df sc__law_cell_at bd__law_cell_at (fun vs H Q E h => ?_) (fun f cdv A outer s H vs Q E hr h => ?_)
  · obtain ⟨_, _, _, rfl, _⟩ := h; rfl
  obtain ⟨a, ns, k, rfl, hS, q⟩ := h
  have nd := sc__law_cell_at.nd
  refine ⟨_, (pss_cons (ps_if (pt_cmpR op_lt (pv 1) (pe_callB call_len_seq (by rfl) T.len PySem.boot_len (pa_cons (pv 0) pa_nil)) (nomark _))
    (pss_one (ps_ret (pe_ix ix_list (pv 0) (pv 1) (fun _ _ => rfl))))
    pss_nil)
  (pss_one (ps_ret pe_int))), ?_⟩
  rw [st__law_cell_at]
  refine seq_ fun R hR => ?_
  walk_at "rd"
  refine ⟨_, .inl hS, ?_⟩
  split
  · exact ⟨_, hS, _, cell_at (by assumption), q⟩
  · rw [hR]
    walk_at "rd"
    rw [← cell_out (ns := ns) (k := k) (by assumption)]
    exact q
theorem df_whole (T : Txt K w mg aL aS cM cN) (F : FunAt K mg "_law_whole" s__law_whole) : Df P w K mg base 1 "_law_whole" ["_law_things"] (spWhole K) := by
  refine F.df sc__law_whole bd__law_whole (fun vs H Q E h => ?_) (fun f cdv A outer s H vs Q E hr h => ?_)
  · obtain ⟨_, _, rfl, _⟩ := h; rfl
  obtain ⟨a, us, rfl, ha, hl, q⟩ := h
  have nd := sc__law_whole.nd
  refine ⟨_, (pss_cons (ps_set (i := 1) nd rfl (Or.inl rfl) (pe_tup (pa_cons pe_str (pa_cons (pe_ix ix_list (pv 0) pe_int (fun _ _ => rfl)) (pa_cons (pe_tup (pa_cons pe_str (pa_cons (pe_ix ix_list (pv 0) pe_int (fun _ _ => rfl)) (pa_cons (pe_ix ix_list (pv 0) pe_int (fun _ _ => rfl)) (pa_cons (pe_ix ix_list (pv 0) pe_int (fun _ _ => rfl)) pa_nil))))) pa_nil)))))
  (pss_cons (ps_set (i := 2) nd rfl (Or.inl rfl) (pe_tup (pa_cons pe_str (pa_cons pe_str (pa_cons (pe_ix ix_list (pv 0) pe_int (fun _ _ => rfl)) (pa_cons (pe_tup (pa_cons pe_str (pa_cons (pe_ix ix_list (pv 0) pe_int (fun _ _ => rfl)) (pa_cons (pe_ix ix_list (pv 0) pe_int (fun _ _ => rfl)) pa_nil)))) pa_nil))))))
  (pss_cons (ps_set (i := 3) nd rfl (Or.inl rfl) (pe_tup (pa_cons pe_str (pa_cons pe_str (pa_cons (pe_tup (pa_cons pe_str (pa_cons (pe_ix ix_list (pv 0) pe_int (fun _ _ => rfl)) (pa_cons (pe_ix ix_list (pv 0) pe_int (fun _ _ => rfl)) pa_nil)))) pa_nil)))))
  (pss_one (ps_ret (pe_tup (pa_cons pe_str (pa_cons (pe_tup (pa_cons pe_str (pa_cons (pv 1) (pa_cons (pv 2) pa_nil)))) (pa_cons (pe_tup (pa_cons pe_str (pa_cons (pv 3) (pa_cons (pe_tup (pa_cons pe_str (pa_cons pe_str (pa_cons (pe_ix ix_list (pv 0) pe_int (fun _ _ => rfl)) (pa_cons (pe_tup (pa_cons pe_str (pa_cons (pe_ix ix_list (pv 0) pe_int (fun _ _ => rfl)) (pa_cons (pe_ix ix_list (pv 0) pe_int (fun _ _ => rfl)) pa_nil)))) pa_nil))))) pa_nil)))) pa_nil))))))))), ?_⟩
  rw [st__law_whole]
  obtain ⟨u0, u1, u2, u3, u4, u5, u6, u7, u8, u9, u10, u11, rfl⟩ : ∃ u0 u1 u2 u3 u4 u5 u6 u7 u8 u9 u10 u11, us = [u0, u1, u2, u3, u4, u5, u6, u7, u8, u9, u10, u11] := by
    match us, hl with
    | [u0, u1, u2, u3, u4, u5, u6, u7, u8, u9, u10, u11], _ => exact ⟨_, _, _, _, _, _, _, _, _, _, _, _, rfl⟩
  refine seq_ fun R hR => ?_
  walk_at "rd"
  have at' : ∀ (k : Nat) (u : V), [u0, u1, u2, u3, u4, u5, u6, u7, u8, u9, u10, u11][k]? = some u → atI [u0, u1, u2, u3, u4, u5, u6, u7, u8, u9, u10, u11] (k : Int) = some u := fun k u h => atI_nat h
  refine ⟨_, ha, u0, at' 0 _ rfl, _, ha, u1, at' 1 _ rfl, _, ha, u2, at' 2 _ rfl, _, ha, u3, at' 3 _ rfl, new_ fun p1 H1 hp1 e1 h1 => new_ fun p2 H2 hp2 e2 h2 => ?_⟩
  have ha := e2.seq (e1.seq ha)
  rw [hR]; clear hR
  refine seq_ fun R hR => ?_
  walk_at "rd"
  refine ⟨_, ha, u4, at' 4 _ rfl, _, ha, u5, at' 5 _ rfl, _, ha, u6, at' 6 _ rfl, new_ fun p3 H3 hp3 e3 h3 => new_ fun p4 H4 hp4 e4 h4 => ?_⟩
  have ha := e4.seq (e3.seq ha)
  rw [hR]; clear hR
  refine seq_ fun R hR => ?_
  walk_at "rd"
  refine ⟨_, ha, u7, at' 7 _ rfl, _, ha, u8, at' 8 _ rfl, new_ fun p5 H5 hp5 e5 h5 => new_ fun p6 H6 hp6 e6 h6 => ?_⟩
  have ha := e6.seq (e5.seq ha)
  rw [hR]; clear hR
  walk_at "rd"
  refine new_ fun p7 H7 hp7 e7 h7 => ?_
  have ha := e7.seq ha
  refine ⟨_, ha, u9, at' 9 _ rfl, _, ha, u10, at' 10 _ rfl, _, ha, u11, at' 11 _ rfl, new_ fun p8 H8 hp8 e8 h8 => new_ fun p9 H9 hp9 e9 h9 => new_ fun p11 H10 hp10 e10 h10 => new_ fun p10 H11 hp11 e11 h11 => ?_⟩
  have k10 := e11
  have k9 := e10.trans k10
  have k8 := e9.trans k9
  have k7 := e8.trans k8
  have k6 := e7.trans k7
  have k5 := e6.trans k6
  have k4 := e5.trans k5
  have k3 := e4.trans k4
  have k2 := e3.trans k3
  have k1 := e2.trans k2
  exact q _ _ (e1.trans k1) ⟨_, _, _, _, _, _, _, _, _, _, _, _, p1, p2, p3, p4, p5, p6, p7, p8, p9, p10, rfl, rfl, k1 _ _ h1, k2 _ _ h2, k3 _ _ h3, k4 _ _ h4, k5 _ _ h5, k6 _ _ h6, k7 _ _ h7, k8 _ _ h8, k9 _ _ h9, p11, k10 _ _ h10, h11⟩
end
end K02

namespace K02
open PySem L2 My
open PyProof.Rows (envOfC)
local macro_rules | `(tactic| walk_at "rd") => `(tactic| simp only [My.ife, My.tFor_eq, My.cx_K, My.cx_w, My.rRdK, My.rNeSelf, rIsi, tAsg, tDrop, tChain, tThenZ, kTyp, My.rInK, My.rMulS, iStr, V.ty.injEq, rAll, rU, tRet, tRetN, tIfS, tVar, tC, tOp, tUn, rI0, rI, rEq, rNe, CDiv, CMul, CPow, My.tTup_eq, My.tLst_eq, My.tDNewK_eq, My.tRevL_eq, My.tRevS, tM1, tM0, My.sz0, My.sz1, My.sz2, My.sz3, My.sz4, My.sz5, My.sz8, tCons, tNil, My.tCallD, tCB, gName, gTup, gCons, gNil, gSub, tTest, tB, tAnd, tOr, tNot, tIf, tAndV, tOrV, tNotV, rSetL, rSlS, rIxL, rIxT, rIxS, My.rSlT_eq, My.rSlL_eq, rIn, rCat, tLc_eq, iList, iTup, iRng1, iRng2, iRng3, wipe, List.map_cons, List.map_nil, tSl, tPart, tNoPart, tBM, tBM0, rAppend, My.rPopL, rExtend, tNext, tBreak, tCont, My.scal_ii, My.scal_ss, My.scal_bb, My.scal_is, My.scal_si, ipI, rListD, sDPut, tDGet, tDGet2, tAug, List.getElem?_cons_zero, List.getElem?_cons_succ, List.set_cons_zero, List.set_cons_succ, Option.some.injEq, exists_eq_left', exists_eq_left, V.int.injEq, V.ref.injEq, V.str.injEq, V.bl.injEq, exists_and_left, true_and, and_true, List.cons.injEq, exists_const, Bool.false_eq_true, ↓reduceIte, reduceCtorEq, false_and, and_assoc, decide_true, decide_false])
local macro_rules | `(tactic| walk_at "st") => `(tactic| (refine My.seq_ fun R hR => ?_))

abbrev s__law_deep : Stmt := topS 21
abbrev N__law_deep : List Str := ["_law_many", "_law_tree", "_law_k"]
theorem sc__law_deep : FnScope N__law_deep ["_law_many"] (defScope s__law_deep) := ⟨rfl, rfl, rfl, by decide +kernel, rfl, by decide +kernel, by decide +kernel⟩
theorem bd__law_deep : BindAll "_law_deep" s__law_deep ["_law_many"] := fun _ _ _ _ _ _ us hl => match us, hl with | [_], _ => rfl
theorem st__law_deep (v0 : V) : start N__law_deep [v0] = [some v0, none, none] := rfl
abbrev s__law_two : Stmt := topS 22
abbrev N__law_two : List Str := ["_law_kind", "_law_one", "_law_other"]
theorem sc__law_two : FnScope N__law_two ["_law_kind", "_law_one", "_law_other"] (defScope s__law_two) := ⟨rfl, rfl, rfl, by decide +kernel, rfl, by decide +kernel, by decide +kernel⟩
theorem bd__law_two : BindAll "_law_two" s__law_two ["_law_kind", "_law_one", "_law_other"] := fun _ _ _ _ _ _ us hl => match us, hl with | [_, _, _], _ => rfl
theorem st__law_two (v0 v1 v2 : V) : start N__law_two [v0, v1, v2] = [some v0, some v1, some v2] := rfl
abbrev s__law_same : Stmt := topS 24
abbrev N__law_same : List Str := ["_law_one", "_law_other", "_law_todo", "_law_pair", "_law_k"]
theorem sc__law_same : FnScope N__law_same ["_law_one", "_law_other"] (defScope s__law_same) := ⟨rfl, rfl, rfl, by decide +kernel, rfl, by decide +kernel, by decide +kernel⟩
theorem bd__law_same : BindAll "_law_same" s__law_same ["_law_one", "_law_other"] := fun _ _ _ _ _ _ us hl => match us, hl with | [_, _], _ => rfl
theorem st__law_same (v0 v1 : V) : start N__law_same [v0, v1] = [some v0, some v1, none, none, none] := rfl
abbrev s__law_fine : Stmt := topS 18
abbrev N__law_fine : List Str := ["_law_cell", "_law_letters", "_law_n"]
theorem sc__law_fine : FnScope N__law_fine ["_law_cell"] (defScope s__law_fine) := ⟨rfl, rfl, rfl, by decide +kernel, rfl, by decide +kernel, by decide +kernel⟩
theorem bd__law_fine : BindAll "_law_fine" s__law_fine ["_law_cell"] := fun _ _ _ _ _ _ us hl => match us, hl with | [_], _ => rfl
theorem st__law_fine (v0 : V) : start N__law_fine [v0] = [some v0, none, none] := rfl
def N60 (n : Int) : Prop := -(10 ^ 60) < n ∧ n < 10 ^ 60
def Good (t : Tr) : Prop := t.all (fun x => isName x = true) N60
theorem n60a (m : Int) : N60 (m % (2 * 10 ^ (60 : Int).toNat - 1) - 10 ^ (60 : Int).toNat + 1) := by
  show -(10 ^ 60) < m % (2 * 10 ^ 60 - 1) - 10 ^ 60 + 1 ∧ m % (2 * 10 ^ 60 - 1) - 10 ^ 60 + 1 < 10 ^ 60
  omega
theorem Wd.two (t : Wd) : ∃ (a b : Nat) (r : List Nat), t.str = mkS (a :: b :: r) ∧ a ≠ b := by
  cases t
  · exact ⟨110, 117, [109], by decide +kernel, by decide⟩
  · exact ⟨110, 97, [109, 101], by decide +kernel, by decide⟩
  · exact ⟨102, 117, [110], by decide +kernel, by decide⟩
  · exact ⟨99, 97, [108, 108], by decide +kernel, by decide⟩
  · exact ⟨112, 108, [117, 115], by decide +kernel, by decide⟩
  · exact ⟨108, 101, [115, 115], by decide +kernel, by decide⟩
  · exact ⟨105, 102, [], by decide +kernel, by decide⟩
  · exact ⟨108, 101, [116], by decide +kernel, by decide⟩
theorem isName_rep {j : Nat} {c : Int} (h1 : 1 ≤ j) (h8 : j ≤ 8) : isName (mkS (List.replicate j (lett c))) = true := by
  have hf : Wd.find (mkS (List.replicate j (lett c))) = none := by
    cases hf : Wd.find (mkS (List.replicate j (lett c))) with
    | none => rfl
    | some t =>
      obtain ⟨a, b, r, e, ne⟩ := t.two
      have e2 := mkS_inj ((Wd.of_find hf).trans e)
      have ma : a = lett c := List.eq_of_mem_replicate (n := j) (by rw [e2]; simp)
      have mb : b = lett c := List.eq_of_mem_replicate (n := j) (by rw [e2]; simp)
      exact absurd (ma.trans mb.symm) ne
  unfold isName
  rw [hf, mkS_len, mkS_cps, List.length_replicate, decide_eq_true h1, decide_eq_true h8]
  simp only [Option.isNone_none, Bool.and_true, Bool.true_and, List.all_eq_true]
  intro x hx
  rw [List.eq_of_mem_replicate hx]
  have := lett_lt c
  unfold isLet
  rw [decide_eq_true this.1, decide_eq_true this.2]
  rfl
def deepT (n : Int) : Nat → Tr
  | 0 => .num n
  | k + 1 => .fn "f" (deepT n k)
theorem deepT_size (n : Int) : ∀ k, (deepT n k).size = k + 1
  | 0 => rfl
  | k + 1 => by show 1 + (deepT n k).size = _; rw [deepT_size n k]; omega
theorem deepT_good {n : Int} (h : N60 n) : ∀ k, Good (deepT n k)
  | 0 => h
  | k + 1 => ⟨by decide +kernel, deepT_good h k⟩
/-! ### what is compared with itself -/
inductive Sm (H : Hp) : List V → Nat → Prop
  | nil : Sm H [] 0
  | int {i : Int} {vs : List V} {n : Nat} (h : Sm H vs n) : Sm H (.int i :: vs) (1 + n)
  | str {x : Str} {vs : List V} {n : Nat} (h : Sm H vs n) : Sm H (.str x :: vs) (1 + n)
  | tup {a : Addr} {xs vs : List V} {m n : Nat} (h : H a = some (.tup xs)) (hl : xs.length ≤ 4) (h1 : Sm H xs m) (h2 : Sm H vs n) : Sm H (.ref a :: vs) (1 + m + n)
theorem Sm.append {H : Hp} {xs : List V} {m : Nat} (h : Sm H xs m) {ys : List V} {n : Nat} (g : Sm H ys n) : Sm H (xs ++ ys) (m + n) := by
  induction h with
  | nil => simpa using g
  | int h ih => rw [List.cons_append, Nat.add_assoc]; exact .int ih
  | str h ih => rw [List.cons_append, Nat.add_assoc]; exact .str ih
  | tup h hl h1 h2 ih1 ih2 => rw [List.cons_append, Nat.add_assoc]; exact .tup h hl h1 ih2
theorem Sm.snoc {H : Hp} {v : V} : ∀ {ys : List V} {n : Nat}, Sm H (ys ++ [v]) n → ∃ n1 n2, Sm H ys n1 ∧ Sm H [v] n2 ∧ n = n1 + n2
  | [], n, h => ⟨0, n, .nil, h, by omega⟩
  | u :: ys, n, h => by
    cases h with
    | int h => obtain ⟨n1, n2, g1, g2, rfl⟩ := Sm.snoc h; exact ⟨_, _, .int g1, g2, by omega⟩
    | str h => obtain ⟨n1, n2, g1, g2, rfl⟩ := Sm.snoc h; exact ⟨_, _, .str g1, g2, by omega⟩
    | tup h hl h1 h2 => obtain ⟨n1, n2, g1, g2, rfl⟩ := Sm.snoc h2; exact ⟨_, _, .tup h hl h1 g1, g2, by omega⟩
theorem Sm.len {H : Hp} {vs : List V} {n : Nat} (h : Sm H vs n) : vs.length ≤ n := by
  induction h with
  | nil => simp
  | int h ih => simp only [List.length_cons]; omega
  | str h ih => simp only [List.length_cons]; omega
  | tup h hl h1 h2 ih1 ih2 => simp only [List.length_cons]; omega
theorem sm_of {H : Hp} : ∀ {t : Tr} {v : V}, At H t v → ∃ n, Sm H [v] n ∧ n ≤ 4 * t.size
  | .num n, _, ⟨a, rfl, h⟩ => ⟨_, Sm.tup h (by simp) (.str (.int .nil)) .nil, by simp [Tr.size]⟩
  | .name n, _, ⟨a, rfl, h⟩ => ⟨_, Sm.tup h (by simp) (.str (.str .nil)) .nil, by simp [Tr.size]⟩
  | .fn x b, _, ⟨a, u, rfl, h, h1⟩ => by
    obtain ⟨n, g, hn⟩ := sm_of h1
    exact ⟨_, Sm.tup h (by simp) (.str (.str g)) .nil, by simp only [Tr.size]; omega⟩
  | .call f b, _, ⟨a, u, u', rfl, h, h1, h2⟩ => by
    obtain ⟨n, g, hn⟩ := sm_of h1
    obtain ⟨m, g', hm⟩ := sm_of h2
    exact ⟨_, Sm.tup h (by simp) (.str (g.append g')) .nil, by simp only [Tr.size]; omega⟩
  | .plus f b, _, ⟨a, u, u', rfl, h, h1, h2⟩ => by
    obtain ⟨n, g, hn⟩ := sm_of h1
    obtain ⟨m, g', hm⟩ := sm_of h2
    exact ⟨_, Sm.tup h (by simp) (.str (g.append g')) .nil, by simp only [Tr.size]; omega⟩
  | .less f b, _, ⟨a, u, u', rfl, h, h1, h2⟩ => by
    obtain ⟨n, g, hn⟩ := sm_of h1
    obtain ⟨m, g', hm⟩ := sm_of h2
    exact ⟨_, Sm.tup h (by simp) (.str (g.append g')) .nil, by simp only [Tr.size]; omega⟩
  | .ite c f b, _, ⟨a, u, u', u'', rfl, h, h1, h2, h3⟩ => by
    obtain ⟨n, g, hn⟩ := sm_of h1
    obtain ⟨m, g', hm⟩ := sm_of h2
    obtain ⟨k, g'', hk⟩ := sm_of h3
    exact ⟨_, Sm.tup h (by simp) (.str (g.append (g'.append g''))) .nil, by simp only [Tr.size]; omega⟩
  | .lt x f b, _, ⟨a, u, u', rfl, h, h1, h2⟩ => by
    obtain ⟨n, g, hn⟩ := sm_of h1
    obtain ⟨m, g', hm⟩ := sm_of h2
    exact ⟨_, Sm.tup h (by simp) (.str (.str (g.append g'))) .nil, by simp only [Tr.size]; omega⟩
theorem map_snoc {α : Type} {f : α → V} {xs : List α} {ys : List V} {y : V} (h : xs.map f = ys ++ [y]) : ∃ zs z, xs = zs ++ [z] ∧ ys = zs.map f ∧ y = f z := by
  rcases List.eq_nil_or_concat xs with r | ⟨zs, z, r⟩
  · subst r
    simp at h
  · rw [List.concat_eq_append] at r
    subst r
    rw [List.map_append] at h
    obtain ⟨h1, h2⟩ := List.append_inj' h rfl
    exact ⟨zs, z, rfl, h1.symm, by simpa using h2.symm⟩
theorem isi_it {K : PySem.W.Frag} {H : Hp} (i : Int) : TyX K H (.int i) (.type "int") ∧ PySem.W.kitOne K (.type "int") (.type "tuple") = some false := ⟨.base (.int i), kit_ty (by decide +kernel)⟩
theorem isi_st {K : PySem.W.Frag} {H : Hp} (i : Str) : TyX K H (.str i) (.type "str") ∧ PySem.W.kitOne K (.type "str") (.type "tuple") = some false := ⟨.base (.str i), kit_ty (by decide +kernel)⟩
theorem isi_sb {K : PySem.W.Frag} {H : Hp} (i : Str) : TyX K H (.str i) (.type "str") ∧ PySem.W.kitOne K (.type "str") (.type "bool") = some false := ⟨.base (.str i), kit_ty (by decide +kernel)⟩
theorem isi_is {K : PySem.W.Frag} {H : Hp} (i : Int) : TyX K H (.int i) (.type "int") ∧ PySem.W.kitOne K (.type "int") (.type "str") = some false := ⟨.base (.int i), kit_ty (by decide +kernel)⟩
def spMade (C : Int → Prop) : Sp := fun vs H Q _ => ∃ n : Int, vs = [.int n] ∧ C n ∧ ∀ (t : Tr) (v : V) (H' : Hp), Same H H' → At H' t v → Good t → (t.size : Int) = n → Q v H'
def spTwo : Sp := fun vs H Q _ => ∃ (k : Int) (a b : Tr) (u v : V), vs = [.int k, u, v] ∧ 0 ≤ k ∧ k ≤ 3 ∧ At H a u ∧ At H b v ∧ Good a ∧ Good b ∧ ∀ (t : Tr) (r : V) (H' : Hp), Same H H' → At H' t r → Good t → t.size = 1 + a.size + b.size → Q r H'
def spSame : Sp := fun vs H Q _ => ∃ (t : Tr) (v : V), vs = [v, v] ∧ At H t v ∧ t.size ≤ 1000 ∧ ∀ H', Same H H' → Q (.bl true) H'
def spFine : Sp := fun vs H Q _ => ∃ (c : Int), vs = [.int c] ∧ ∀ (t : Tr) (v : V) (H' : Hp), Same H H' → At H' t v → Good t → t.size ≤ 3 → Q v H'
section
variable {P : Program} {w : World} {K : PySem.W.Frag} {mg : Str → Option Value} {base : Heap} {aL aS cM cN : Addr}
theorem df_deep (T : Txt K w mg aL aS cM cN) (F : FunAt K mg "_law_deep" s__law_deep) : Df P w K mg base 1 "_law_deep" ["_law_many"] (spMade fun n => 1 ≤ n ∧ n ≤ 1000) := by
  refine F.df sc__law_deep bd__law_deep (fun vs H Q E h => ?_) (fun f cdv A outer s H vs Q E hr h => ?_)
  · obtain ⟨_, rfl, _⟩ := h; rfl
  obtain ⟨n, rfl, ⟨h1, h2⟩, q⟩ := h
  have nd := sc__law_deep.nd
  refine ⟨_, (pss_cons (ps_set (i := 1) nd rfl (Or.inl rfl) (pe_tup (pa_cons pe_str (pa_cons (pv 0) pa_nil))))
  (pss_cons (ps_for PassesOwn.never rfl (pi_range1 rfl T.range (pa_cons (pe_op op_sub (pv 0) pe_int) pa_nil)) (pg_name (i := 2) nd rfl (Or.inl rfl))
    (pss_one (ps_set (i := 1) nd rfl (Or.inl rfl) (pe_tup (pa_cons pe_str (pa_cons pe_str (pa_cons (pv 1) pa_nil)))))))
  (pss_one (ps_ret (pv 1))))), ?_⟩
  rw [st__law_deep]
  refine seq_ fun R hR => ?_
  walk_at "rd"
  refine new_ fun p H1 hp e1 h1' => ?_
  rw [hR]; clear hR
  refine seq_ fun R hR => ?_
  walk_at "rd"
  refine ⟨by omega, by omega, forR (fun i σ H' => ∃ v o, σ = [some (.int n), some v, o] ∧ Same H H' ∧ At H' (deepT n i) v) ⟨_, _, rfl, e1, p, rfl, h1'⟩ ?_ ?_⟩
  · rintro i σ H2 hi ⟨v, o, rfl, e2, hv⟩ N hN
    walk_at "rd"
    exact new_ fun p3 H3 hp3 e3 h3 => hN _ _ ⟨_, _, rfl, e2.trans e3, p3, v, rfl, h3, hv.mono (same_kt e3)⟩
  · rintro σ H2 ⟨v, o, rfl, e2, hv⟩
    show R _ _
    rw [hR]
    walk_at "rd"
    refine q _ _ _ e2 hv (deepT_good ⟨by omega, by omega⟩ _) ?_
    rw [deepT_size]
    omega
theorem df_two (T : Txt K w mg aL aS cM cN) (F : FunAt K mg "_law_two" s__law_two) : Df P w K mg base 1 "_law_two" ["_law_kind", "_law_one", "_law_other"] spTwo := by
  refine F.df sc__law_two bd__law_two (fun vs H Q E h => ?_) (fun f cdv A outer s H vs Q E hr h => ?_)
  · obtain ⟨_, _, _, _, _, rfl, _⟩ := h; rfl
  obtain ⟨k, a, b, u, v, rfl, k0, k3, ha, hb, ga, gb, q⟩ := h
  have nd := sc__law_two.nd
  refine ⟨_, (pss_cons (ps_if (pt_cmpR op_eq (pv 0) pe_int (nomark _))
    (pss_one (ps_ret (pe_tup (pa_cons pe_str (pa_cons pe_str (pa_cons (pv 1) (pa_cons (pv 2) pa_nil)))))))
    pss_nil)
  (pss_one (ps_ret (pe_tup (pa_cons (pe_ix ix_list (pe_lst (pa_cons pe_str (pa_cons pe_str (pa_cons pe_str pa_nil)))) (pv 0) (fun _ _ => rfl)) (pa_cons (pv 1) (pa_cons (pv 2) pa_nil))))))), ?_⟩
  rw [st__law_two]
  refine seq_ fun R hR => ?_
  walk_at "rd"
  by_cases hk : k = 3
  · rw [if_pos hk]
    exact new_ fun p H1 hp e1 h1 => q (.lt "v" a b) _ _ e1 ⟨p, u, v, rfl, h1, ha.mono (same_kt e1), hb.mono (same_kt e1)⟩ ⟨by decide +kernel, ga, gb⟩ rfl
  · rw [if_neg hk, hR]
    clear hR
    walk_at "rd"
    refine new_ fun p H1 hp e1 h1 => ⟨_, SqL.of h1, ?_⟩
    obtain ⟨j, rfl⟩ : ∃ j : Nat, k = (j : Int) := ⟨k.toNat, by omega⟩
    have ha1 := ha.mono (same_kt e1)
    have hb1 := hb.mono (same_kt e1)
    match j, k3, hk with
    | 0, _, _ => exact ⟨_, at0 _ _, new_ fun p2 H2 hp2 e2 h2 => q (.plus a b) _ _ (e1.trans e2) ⟨p2, u, v, rfl, h2, ha1.mono (same_kt e2), hb1.mono (same_kt e2)⟩ ⟨ga, gb⟩ rfl⟩
    | 1, _, _ => exact ⟨_, at1 _ _ _, new_ fun p2 H2 hp2 e2 h2 => q (.call a b) _ _ (e1.trans e2) ⟨p2, u, v, rfl, h2, ha1.mono (same_kt e2), hb1.mono (same_kt e2)⟩ ⟨ga, gb⟩ rfl⟩
    | 2, _, _ => exact ⟨_, at2 _ _ _ _, new_ fun p2 H2 hp2 e2 h2 => q (.less a b) _ _ (e1.trans e2) ⟨p2, u, v, rfl, h2, ha1.mono (same_kt e2), hb1.mono (same_kt e2)⟩ ⟨ga, gb⟩ rfl⟩
    | 3, _, hk => exact absurd rfl hk
    | j + 4, k3, _ => exact absurd k3 (by omega)
theorem df_same (T : Txt K w mg aL aS cM cN) (F : FunAt K mg "_law_same" s__law_same) : Df P w K mg base 1 "_law_same" ["_law_one", "_law_other"] spSame := by
  refine F.df sc__law_same bd__law_same (fun vs H Q E h => ?_) (fun f cdv A outer s H vs Q E hr h => ?_)
  · obtain ⟨_, _, rfl, _⟩ := h; rfl
  obtain ⟨t, v, rfl, ht, hs, q⟩ := h
  have nd := sc__law_same.nd
  refine ⟨_, (pss_cons (ps_set (i := 2) nd rfl (Or.inl rfl) (pe_lst (pa_cons (pe_tup (pa_cons (pv 0) (pa_cons (pv 1) pa_nil))) pa_nil)))
  (pss_cons (ps_while PassesOwn.never (pt_truth (pv 2) (by intro _; rfl))
    (pss_cons (ps_set (i := 3) nd rfl (Or.inl rfl) (pe_bm0 PySem.F.plainAttrs_list PySem.F.slot_list_pop PySem.F.type_list_pop mt_popL (pv 2)))
      (pss_one (ps_if (pt_val (pe_callB call_isi (by rfl) T.isinstance (by decide +kernel) (pa_cons (pe_ix ix_tup (pv 3) pe_int (fun _ _ => rfl)) (pa_cons (pe_bltn (v := .ty "tuple") (by rfl) T.tuple (by decide +kernel) rfl) pa_nil))))
        (pss_cons (ps_if (PW.pt (pw_or (pt_not (pt_val (pe_callB call_isi (by rfl) T.isinstance (by decide +kernel) (pa_cons (pe_ix ix_tup (pv 3) pe_int (fun _ _ => rfl)) (pa_cons (pe_bltn (v := .ty "tuple") (by rfl) T.tuple (by decide +kernel) rfl) pa_nil))))) (pw_or1 (pt_cmpR op_ne (pe_callB call_len_seq (by rfl) T.len PySem.boot_len (pa_cons (pe_ix ix_tup (pv 3) pe_int (fun _ _ => rfl)) pa_nil)) (pe_callB call_len_seq (by rfl) T.len PySem.boot_len (pa_cons (pe_ix ix_tup (pv 3) pe_int (fun _ _ => rfl)) pa_nil)) (nomark _)))))
            (pss_one (ps_ret pe_bl))
            pss_nil)
          (pss_one (ps_for PassesOwn.never rfl (pi_range1 rfl T.range (pa_cons (pe_callB call_len_seq (by rfl) T.len PySem.boot_len (pa_cons (pe_ix ix_tup (pv 3) pe_int (fun _ _ => rfl)) pa_nil)) pa_nil)) (pg_name (i := 4) nd rfl (Or.inl rfl))
            (pss_one (ps_expr (pe_bm PySem.F.plainAttrs_list PySem.F.slot_list_append PySem.F.type_list_append mt_append (pv 2) (pa_cons (pe_tup (pa_cons (pe_ix ix_tup (pe_ix ix_tup (pv 3) pe_int (fun _ _ => rfl)) (pv 4) (fun _ _ => rfl)) (pa_cons (pe_ix ix_tup (pe_ix ix_tup (pv 3) pe_int (fun _ _ => rfl)) (pv 4) (fun _ _ => rfl)) pa_nil))) pa_nil)))))))
        (pss_one (ps_if (PW.pt (pw_or (pt_val (pe_callB call_isi (by rfl) T.isinstance (by decide +kernel) (pa_cons (pe_ix ix_tup (pv 3) pe_int (fun _ _ => rfl)) (pa_cons (pe_bltn (v := .ty "bool") (by rfl) T.bool (by decide +kernel) rfl) pa_nil)))) (pw_or (pt_cmpR op_ne (pe_callB call_isi (by rfl) T.isinstance (by decide +kernel) (pa_cons (pe_ix ix_tup (pv 3) pe_int (fun _ _ => rfl)) (pa_cons (pe_bltn (v := .ty "str") (by rfl) T.str (by decide +kernel) rfl) pa_nil))) (pe_callB call_isi (by rfl) T.isinstance (by decide +kernel) (pa_cons (pe_ix ix_tup (pv 3) pe_int (fun _ _ => rfl)) (pa_cons (pe_bltn (v := .ty "str") (by rfl) T.str (by decide +kernel) rfl) pa_nil))) (nomark _)) (pw_or1 (pt_cmpR op_ne (pe_ix ix_tup (pv 3) pe_int (fun _ _ => rfl)) (pe_ix ix_tup (pv 3) pe_int (fun _ _ => rfl)) (nomark _))))))
            (pss_one (ps_ret pe_bl))
            pss_nil))))))
  (pss_one (ps_ret pe_bl)))), ?_⟩
  rw [st__law_same]
  refine seq_ fun R hR => ?_
  walk_at "rd"
  refine new_ fun p0 H1 hp0 e1 h1 => new_ fun l H2 hl e2 h2 => ?_
  have hl : H l = none := Same.free e1 hl
  obtain ⟨m, hm, hmb⟩ := sm_of ht
  rw [hR]; clear hR
  refine seq_ fun R hR => ?_
  refine whileL_ (K := K) (i := 2) (fun m σ H' => ∃ (ps : List Addr) (us : List V) (o1 o2 : Option V), σ = [some v, some v, some (.ref l), o1, o2] ∧ Same H H' ∧ H' l = some (.lst (ps.map V.ref)) ∧ Paired (fun u p => H' p = some (.tup [u, u])) us ps ∧ Sm H us m ∧ m ≤ 4000) m
    ⟨[p0], [v], none, none, rfl, e1.trans e2, h2, .cons (e2 _ _ h1) .nil, hm, by omega⟩ ?_
  rintro m σ H' ⟨ps, us, o1, o2, rfl, e3, h3, hp, hm, hmb⟩
  refine ⟨l, _, rfl, h3, fun hx => ?_, fun ys y hx N hN => ?_⟩
  · show R _ _
    rw [hR]
    walk_at "rd"
    exact q _ e3
  · clear hR
    obtain ⟨qs, p, rfl, rfl, rfl⟩ := map_snoc hx
    obtain ⟨ws, u, rfl, hp1, hp2⟩ := pr_snoc hp
    obtain ⟨m1, m2, g1, g2, rfl⟩ := hm.snoc
    refine seq_ fun R hR => ?_
    walk_at "rd"
    refine ⟨.inl ⟨rfl, _, SqL.of h3⟩, _, _, by rw [h3, List.map_append]; rfl, ?_⟩
    have k4 := kt_lst (o := .lst (qs.map V.ref)) h3
    have e4 : Same H (upd H' l (.lst (qs.map V.ref))) := same_mut e3 hl
    have h4 : upd H' l (.lst (qs.map V.ref)) l = some (.lst (qs.map V.ref)) := upd_same
    have hp1 := pr_mono hp1 fun a b h => k4 _ _ h
    have hp2 := k4 _ _ hp2
    generalize upd H' l (.lst (qs.map V.ref)) = H4 at e4 h4 hp1 hp2
    rw [hR]; clear hR
    refine ifs_ fun A B hA hB => ?_
    walk_at "rd"
    refine ⟨_, SqT.of hp2, u, at0 _ _, ?_⟩
    cases g2 with
    | @tup a xs _ k _ h hxl g3 g4 =>
      cases g4
      have ha := e4 _ _ h
      refine isi_ (isi_tt ha) ?_
      rw [if_pos rfl, hA]
      clear hA hB
      refine ifq_ fun R A B hR hA hB => ?_
      walk_at "rd"
      refine ⟨_, SqT.of hp2, _, at1 _ _ _, isi_ (isi_tt ha) ?_⟩
      rw [if_neg (by decide)]
      refine ⟨_, SqT.of hp2, _, at0 _ _, a, rfl, _, .inr (SqT.of ha), _, SqT.of hp2, _, at1 _ _ _, a, rfl, _, .inr (SqT.of ha), ?_⟩
      rw [if_neg (by simp), hB]
      clear hA hB
      walk_at "rd"
      rw [hR]; clear hR
      walk_at "rd"
      refine ⟨_, SqT.of hp2, _, at0 _ _, a, rfl, _, .inr (SqT.of ha), by omega, by omega, ?_⟩
      rw [Int.toNat_natCast]
      have hxlen := g3.len
      have hwl := g1.len
      refine forR (fun i σ H' => ∃ (rs : List Addr) (o : Option V), σ = [some v, some v, some (.ref l), some (.ref p), o] ∧ Same H H' ∧ H' l = some (.lst (rs.map V.ref)) ∧ Paired (fun u p => H' p = some (.tup [u, u])) (ws ++ xs.take i) rs ∧ H' p = some (.tup [.ref a, .ref a]))
        ⟨qs, _, rfl, e4, h4, by simpa using hp1, hp2⟩ ?_ ?_
      · rintro i σ H5 hi ⟨rs, o, rfl, e5, h5, hp5, hpp⟩ N2 hN2
        have ha5 := e5 _ _ h
        have hat : atI xs (0 + (i : Int)) = some xs[i] := by
          rw [Int.zero_add]
          exact atI_nat (by rw [List.getElem?_eq_getElem hi])
        walk_at "rd"
        refine ⟨.inl ⟨rfl, _, SqL.of h5⟩, _, SqT.of hpp, _, at0 _ _, a, rfl, _, SqT.of ha5, _, hat, _, SqT.of hpp, _, at1 _ _ _, a, rfl, _, SqT.of ha5, _, hat, new_ fun p6 H6 hp6 e6 h6 => ?_⟩
        have h7 := e6 _ _ h5
        have k7 := kt_lst (o := .lst (rs.map V.ref ++ [V.ref p6])) h7
        have hrl : rs.length ≤ 5000 := by
          rw [← pr_len hp5, List.length_append, List.length_take]
          omega
        refine ⟨_, h7, szLt (by rw [List.length_map]; omega), ?_⟩
        refine hN2 _ _ ⟨rs ++ [p6], _, rfl, same_mut (e5.trans e6) hl, by rw [upd_same, List.map_append]; rfl, ?_, k7 _ _ (e6 _ _ hpp)⟩
        rw [List.take_succ, List.getElem?_eq_getElem hi, ← List.append_assoc]
        exact pr_append (pr_mono hp5 fun _ _ h => k7 _ _ (e6 _ _ h)) (.cons (k7 _ _ h6) .nil)
      · rintro σ H5 ⟨rs, o, rfl, e5, h5, hp5, hpp⟩
        rw [List.take_length] at hp5
        exact hN (m1 + k) _ _ (by omega) ⟨rs, ws ++ xs, _, _, rfl, e5, h5, hp5, g1.append g3, by omega⟩
    | @int i _ k g3 =>
      cases g3
      refine isi_ (isi_it i) ?_
      rw [if_neg (by decide), hB]
      clear hA hB
      refine ifs_ fun A B hA hB => ?_
      walk_at "rd"
      refine ⟨_, SqT.of hp2, _, at1 _ _ _, isi_ (isi_ib i) ?_⟩
      rw [if_neg (by decide)]
      refine ⟨_, SqT.of hp2, _, at0 _ _, isi_ (isi_is i) ⟨_, SqT.of hp2, _, at1 _ _ _, isi_ (isi_is i) ?_⟩⟩
      rw [if_neg (by decide)]
      refine ⟨_, SqT.of hp2, _, at0 _ _, _, SqT.of hp2, _, at1 _ _ _, rfl, ?_⟩
      rw [if_neg (by simp), hB]
      walk_at "rd"
      exact hN m1 _ _ (by omega) ⟨qs, ws, _, _, rfl, e4, h4, hp1, g1, by omega⟩
    | @str x _ k g3 =>
      cases g3
      refine isi_ (isi_st x) ?_
      rw [if_neg (by decide), hB]
      clear hA hB
      refine ifs_ fun A B hA hB => ?_
      walk_at "rd"
      refine ⟨_, SqT.of hp2, _, at1 _ _ _, isi_ (isi_sb x) ?_⟩
      rw [if_neg (by decide)]
      refine ⟨_, SqT.of hp2, _, at0 _ _, isi_ (isi_ss x) ⟨_, SqT.of hp2, _, at1 _ _ _, isi_ (isi_ss x) ?_⟩⟩
      rw [if_neg (by decide)]
      refine ⟨_, SqT.of hp2, _, at0 _ _, _, SqT.of hp2, _, at1 _ _ _, rfl, ?_⟩
      rw [if_neg (by simp), hB]
      walk_at "rd"
      exact hN m1 _ _ (by omega) ⟨qs, ws, _, _, rfl, e4, h4, hp1, g1, by omega⟩
theorem df_fine (T : Txt K w mg aL aS cM cN) (F : FunAt K mg "_law_fine" s__law_fine) : Df P w K mg base 1 "_law_fine" ["_law_cell"] spFine := by
  refine F.df sc__law_fine bd__law_fine (fun vs H Q E h => ?_) (fun f cdv A outer s H vs Q E hr h => ?_)
  · obtain ⟨_, rfl, _⟩ := h; rfl
  obtain ⟨c, rfl, q⟩ := h
  have nd := sc__law_fine.nd
  refine ⟨_, (pss_cons (ps_set (i := 1) nd rfl (Or.inl rfl) pe_str)
  (pss_cons (ps_set (i := 2) nd rfl (Or.inl rfl) (pe_tup (pa_cons pe_str (pa_cons (pe_op op_add (pe_op op_sub (pe_op op_mod (pv 0) (pe_op op_sub (pe_op op_mul pe_int (pe_op op_pow pe_int pe_int)) pe_int)) (pe_op op_pow pe_int pe_int)) pe_int) pa_nil))))
  (pss_one (ps_ret (pe_ix ix_list (pe_lst (pa_cons (pv 2) (pa_cons (pe_tup (pa_cons pe_str (pa_cons (pe_op op_mul_str (pe_ix ix_str (pv 1) (pe_op op_mod (pv 0) pe_int) (fun _ _ => rfl)) (pe_op op_add pe_int (pe_op op_mod (pe_op op_fdiv (pv 0) pe_int) pe_int))) pa_nil))) (pa_cons (pe_tup (pa_cons pe_str (pa_cons pe_str (pa_cons (pv 2) pa_nil)))) (pa_cons (pe_tup (pa_cons pe_str (pa_cons (pv 2) (pa_cons (pv 2) pa_nil)))) pa_nil))))) (pe_op op_mod (pe_op op_fdiv (pv 0) pe_int) pe_int) (fun _ _ => rfl)))))), ?_⟩
  rw [st__law_fine]
  refine seq_ fun R hR => ?_
  walk_at "rd"
  rw [hR]; clear hR
  refine seq_ fun R hR => ?_
  walk_at "rd"
  refine ⟨by decide, by decide, by decide, .inl ⟨by decide, by decide⟩, by decide, by decide, by decide, by decide, new_ fun p H1 hp e1 h1 => ?_⟩
  have hg := n60a c
  generalize hn : c % (2 * 10 ^ Int.toNat 60 - 1) - 10 ^ Int.toNat 60 + 1 = n at h1 hg
  clear hn
  rw [hR]; clear hR
  walk_at "rd"
  obtain ⟨j, hj, hj1, hj8⟩ : ∃ j : Nat, 1 + c / 26 % 8 = (j : Int) ∧ 1 ≤ j ∧ j ≤ 8 := ⟨(1 + c / 26 % 8).toNat, by omega, by omega, by omega⟩
  have hj' : (List.replicate j [lett c]).flatten = List.replicate j (lett c) := by
    clear hj hj1 hj8
    induction j with
    | zero => rfl
    | succ j ih => rw [List.replicate_succ, List.flatten_cons, ih]; rfl
  refine ⟨by decide, szL (by decide), lett c, by rw [abc_eq]; exact lett_at c, by decide, by decide, by decide, [lett c], rfl, j, hj, hj1, by omega, by simp, ?_⟩
  rw [hj']
  have hname := isName_rep (j := j) (c := c) hj1 hj8
  generalize mkS (List.replicate j (lett c)) = z at hname
  refine new_ fun p2 H2 hp2 e2 h2 => new_ fun p3 H3 hp3 e3 h3 => new_ fun p4 H4 hp4 e4 h4 => new_ fun p5 H5 hp5 e5 h5 => ⟨by decide, by decide, by decide, _, SqL.of h5, ?_⟩
  obtain ⟨i, hi⟩ : ∃ i : Nat, c / 5 % 4 = (i : Int) := ⟨(c / 5 % 4).toNat, by omega⟩
  have hi4 : i < 4 := by omega
  rw [hi]
  have k1 := e2.trans (e3.trans (e4.trans e5))
  have en := k1 _ _ h1
  match i, hi4 with
  | 0, _ => exact ⟨_, at0 _ _, q (.num n) _ _ (e1.trans k1) ⟨p, rfl, en⟩ hg (by simp [Tr.size])⟩
  | 1, _ => exact ⟨_, at1 _ _ _, q (.name z) _ _ (e1.trans k1) ⟨p2, rfl, e5 _ _ (e4 _ _ (e3 _ _ h2))⟩ hname (by simp [Tr.size])⟩
  | 2, _ => exact ⟨_, at2 _ _ _ _, q (.fn "q" (.num n)) _ _ (e1.trans k1) ⟨p3, _, rfl, e5 _ _ (e4 _ _ h3), p, rfl, en⟩ ⟨by decide +kernel, hg⟩ (by simp [Tr.size])⟩
  | 3, _ => exact ⟨_, at3 _ _ _ _ _, q (.less (.num n) (.num n)) _ _ (e1.trans k1) ⟨p4, _, _, rfl, e5 _ _ h4, ⟨p, rfl, en⟩, p, rfl, en⟩ ⟨hg, hg⟩ (by simp [Tr.size])⟩
end
end K02

namespace K02
open PySem L2 My
open PyProof.Rows (envOfC)
local macro_rules | `(tactic| walk_at "rd") => `(tactic| simp only [My.ife, My.tFor_eq, My.cx_K, My.cx_w, My.rRdK, My.rNeSelf, rIsi, tAsg, tDrop, tChain, tThenZ, kTyp, My.rInK, My.rMulS, iStr, V.ty.injEq, rAll, rU, tRet, tRetN, tIfS, tVar, tC, tOp, tUn, rI0, rI, rEq, rNe, CDiv, CMul, CPow, My.tTup_eq, My.tLst_eq, My.tDNewK_eq, My.tRevL_eq, My.tRevS, tM1, tM0, My.sz0, My.sz1, My.sz2, My.sz3, My.sz4, My.sz5, My.sz8, tCons, tNil, My.tCallD, tCB, gName, gTup, gCons, gNil, gSub, tTest, tB, tAnd, tOr, tNot, tIf, tAndV, tOrV, tNotV, rSetL, rSlS, rIxL, rIxT, rIxS, My.rSlT_eq, My.rSlL_eq, rIn, rCat, tLc_eq, iList, iTup, iRng1, iRng2, iRng3, wipe, List.map_cons, List.map_nil, tSl, tPart, tNoPart, tBM, tBM0, rAppend, My.rPopL, rExtend, tNext, tBreak, tCont, My.scal_ii, My.scal_ss, My.scal_bb, My.scal_is, My.scal_si, ipI, rListD, sDPut, tDGet, tDGet2, tAug, List.getElem?_cons_zero, List.getElem?_cons_succ, List.set_cons_zero, List.set_cons_succ, Option.some.injEq, exists_eq_left', exists_eq_left, V.int.injEq, V.ref.injEq, V.str.injEq, V.bl.injEq, exists_and_left, true_and, and_true, List.cons.injEq, exists_const, Bool.false_eq_true, ↓reduceIte, reduceCtorEq, false_and, and_assoc, decide_true, decide_false])
local macro_rules | `(tactic| walk_at "st") => `(tactic| (refine My.seq_ fun R hR => ?_))

abbrev s__law_wide : Stmt := topS 23
abbrev N__law_wide : List Str := ["_law_many", "_law_row", "_law_joined", "_law_k"]
theorem sc__law_wide : FnScope N__law_wide ["_law_many"] (defScope s__law_wide) := ⟨rfl, rfl, rfl, by decide +kernel, rfl, by decide +kernel, by decide +kernel⟩
theorem bd__law_wide : BindAll "_law_wide" s__law_wide ["_law_many"] := fun _ _ _ _ _ _ us hl => match us, hl with | [_], _ => rfl
theorem st__law_wide (v0 : V) : start N__law_wide [v0] = [some v0, none, none, none] := rfl
/-- the sizes, each and one more -/
def wsum (ts : List Tr) : Nat := sizes ts + ts.length
theorem wsum_append (a b : List Tr) : wsum (a ++ b) = wsum a + wsum b := by simp only [wsum, sizes_append, List.length_append]; omega
section
variable {P : Program} {w : World} {K : PySem.W.Frag} {mg : Str → Option Value} {base : Heap} {aL aS cM cN : Addr}
theorem df_wide (T : Txt K w mg aL aS cM cN) (F : FunAt K mg "_law_wide" s__law_wide) (D__law_two : Df P w K mg base 1 "_law_two" ["_law_kind", "_law_one", "_law_other"] spTwo) : Df P w K mg base 2 "_law_wide" ["_law_many"] (spMade fun n => 1 ≤ n ∧ n ≤ 1000) := by
  refine F.df sc__law_wide bd__law_wide (fun vs H Q E h => ?_) (fun f cdv A outer s H vs Q E hr h => ?_)
  · obtain ⟨_, rfl, _⟩ := h; rfl
  obtain ⟨n, rfl, ⟨h1, h2⟩, q⟩ := h
  have nd := sc__law_wide.nd
  refine ⟨_, (pss_cons (ps_set (i := 1) nd rfl (Or.inr rfl) (pe_lc (own := [("_law_k", 3)]) (g := gName 3) rfl nd (pi_range1 rfl T.range (pa_cons (pe_op op_fdiv (pe_op op_add (pv 0) (pe_op op_mod (pv 0) pe_int)) pe_int) pa_nil)) (blkOk_by (N := N__law_wide) (sc := defScope s__law_wide) (by decide +kernel)) (fun _ _ _ _ _ => (pg_name (i := 3) nd rfl (Or.inl rfl))) (fun _ _ _ _ _ => pts_nil) (fun _ _ _ _ _ => (pe_tup (pa_cons pe_str (pa_cons (pe_op op_mod (pv 3) pe_int) pa_nil))))))
  (pss_cons (ps_while PassesOwn.never (pt_cmpR op_gt (pe_callB call_len_seq (by rfl) T.len PySem.boot_len (pa_cons (pv 1) pa_nil)) pe_int (nomark _))
    (pss_cons (ps_setLc (i := 2) (own := [("_law_k", 3)]) (g := gName 3) rfl nd rfl rfl (sw_true rfl rfl rfl (by decide +kernel)) (pi_range3 rfl T.range (pa_cons pe_int (pa_cons (pe_op op_sub (pe_callB call_len_seq (by rfl) T.len PySem.boot_len (pa_cons (pv 1) pa_nil)) pe_int) (pa_cons pe_int pa_nil)))) (blkOk_by (N := N__law_wide) (sc := defScope s__law_wide) (by decide +kernel)) (fun _ _ _ _ _ => (pg_name (i := 3) nd rfl (Or.inl rfl))) (fun _ _ _ _ _ => pts_nil) (fun _ _ _ _ _ => (pe_callD D__law_two hr (by decide) rfl (pa_cons (pe_op op_mod (pe_op op_fdiv (pv 3) pe_int) pe_int) (pa_cons (pe_ix (ix_listK (K := K)) (pv 1) (pv 3) (fun _ _ => rfl)) (pa_cons (pe_ix (ix_listK (K := K)) (pv 1) (pe_op op_add (pv 3) pe_int) (fun _ _ => rfl)) pa_nil))))))
      (pss_cons (ps_if (pt_cmpR op_eq (pe_op op_mod (pe_callB call_len_seq (by rfl) T.len PySem.boot_len (pa_cons (pv 1) pa_nil)) pe_int) pe_int (nomark _))
        (pss_one (ps_expr (pe_bm PySem.F.plainAttrs_list PySem.F.slot_list_append PySem.F.type_list_append mt_append (pv 2) (pa_cons (pe_ix ix_list (pv 1) (pe_un un_neg pe_int) (fun _ _ => rfl)) pa_nil))))
        pss_nil)
      (pss_one (ps_set (i := 1) nd rfl (Or.inr rfl) (pv 2))))))
  (pss_cons (ps_if (pt_cmpR op_eq (pe_op op_mod (pv 0) pe_int) pe_int (nomark _))
    (pss_one (ps_ret (pe_tup (pa_cons pe_str (pa_cons pe_str (pa_cons (pe_ix ix_list (pv 1) pe_int (fun _ _ => rfl)) pa_nil))))))
    pss_nil)
  (pss_one (ps_ret (pe_ix ix_list (pv 1) pe_int (fun _ _ => rfl))))))), ?_⟩
  rw [st__law_wide]
  refine seq_ fun R hR => ?_
  walk_at "rd"
  obtain ⟨L, hL, hL0⟩ : ∃ L : Nat, (n + n % 2) / 2 = (L : Int) ∧ 1 ≤ L := ⟨((n + n % 2) / 2).toNat, by omega, by omega⟩
  rw [hL, Int.toNat_natCast]
  have hL1 : L ≤ 500 := by omega
  refine ⟨by decide, by decide, by decide, by omega, by omega, lcR (fun i acc H' => ∃ ts : List Tr, Ats H' ts acc ∧ (∀ t ∈ ts, Good t) ∧ wsum ts = 2 * i ∧ ts.length = i) (fun i acc H H' k ⟨ts, h1, h2, h3, h4⟩ => ⟨ts, h1.mono k, h2, h3, h4⟩) (by omega) (fun _ => rfl)
    ⟨[], .nil, (by intro t ht; cases ht), rfl, rfl⟩ ?_ ?_⟩
  · rintro i acc H1 hi hal e1 ⟨ts, g1, g2, g3, g4⟩ Qy hy Qn hn
    walk_at "rd"
    refine ⟨by decide, new_ fun p H2 hp e2 h2 => hy _ _ e2 ⟨ts ++ [.num ((0 + (i : Int)) % 3)], Ats.append (g1.mono (same_kt e2)) (.cons (show At H2 (.num ((0 + (i : Int)) % 3)) (.ref p) from ⟨p, rfl, h2⟩) .nil), fun t ht => ?_, ?_, by simp [g4]⟩⟩
    · rcases List.mem_append.mp ht with ht | ht
      · exact g2 t ht
      · rw [List.mem_singleton.mp ht]
        show -(10 ^ 60) < (0 + (i : Int)) % 3 ∧ (0 + (i : Int)) % 3 < 10 ^ 60
        omega
    · rw [wsum_append, g3]
      simp only [wsum, sizes_cons, sizes_nil, Tr.size, List.length_singleton]
      omega
  intro r0 vs0 H1 hr0 e1 h1 ⟨ts0, g1, g2, g3, g4⟩
  rw [hR]; clear hR
  refine seq_ fun R hR => ?_
  refine whileB_ (fun m σ H' => ∃ (r : Addr) (vs : List V) (ts : List Tr) (o1 o2 : Option V), σ = [some (.int n), some (.ref r), o1, o2] ∧ Same H H' ∧ H' r = some (.lst vs) ∧ H r = none ∧ Ats H' ts vs ∧ (∀ t ∈ ts, Good t) ∧ wsum ts = 2 * L ∧ ts.length = m ∧ 1 ≤ m ∧ m ≤ 500) L
    ⟨r0, vs0, ts0, _, _, rfl, e1, h1, hr0, g1, g2, g3, g4, hL0, hL1⟩ ?_
  rintro m σ H2 ⟨r, vs, ts, o1, o2, rfl, e2, h2, hr2, g1, g2, g3, rfl, hm1, hm5⟩ A B hA hB
  have hvl := pr_len g1
  walk_at "rd"
  refine ⟨_, .inl (SqL.of h2), ?_⟩
  rw [← hvl]
  by_cases hlt : 1 < (ts.length : Int)
  · rw [if_pos hlt]
    refine hA _ fun N hN => ?_
    clear hA hB hR
    refine seq_ fun R hR => ?_
    walk_at "rd"
    refine ⟨_, .inl (SqL.of h2), ?_⟩
    rw [← hvl]
    refine ⟨ts.length / 2, RgC.two (by omega) (by omega), ?_⟩
    refine lcC (fun i acc H' => ∃ us : List Tr, Ats H' us acc ∧ (∀ t ∈ us, Good t) ∧ wsum us = wsum (ts.take (2 * i)) ∧ us.length = i) (fun i acc H H' k ⟨ts, h1, h2, h3, h4⟩ => ⟨ts, h1.mono k, h2, h3, h4⟩) (by omega) (fun _ => rfl)
      ⟨[], .nil, (by intro t ht; cases ht), rfl, rfl⟩ ?_ ?_
    · rintro i acc H3 hi hal e3 ⟨us, k1, k2, k3, k4⟩ Qy hy Qn hn
      walk_at "rd"
      show _ ∧ _
      have i0 : 2 * i < ts.length := by omega
      have i1 : 2 * i + 1 < ts.length := by omega
      obtain ⟨u, hu, hau⟩ := pr_left g1 (List.getElem?_eq_getElem i0)
      obtain ⟨v, hv, hav⟩ := pr_left g1 (List.getElem?_eq_getElem i1)
      have z0 : (0 + (i : Int) * 2) = ((2 * i : Nat) : Int) := by omega
      have z1 : (((2 * i : Nat) : Int) + 1) = ((2 * i + 1 : Nat) : Int) := by omega
      rw [z0, z1]
      refine ⟨by decide, by decide, by decide, _, SqL.of (e3 _ _ h2), u, atI_nat hu, _, SqL.of (e3 _ _ h2), v, atI_nat hv, _, ts[2 * i], ts[2 * i + 1], u, v, rfl, by omega, by omega, hau.mono (same_kt e3), hav.mono (same_kt e3), g2 _ (List.getElem_mem _), g2 _ (List.getElem_mem _), fun t x H4 e4 ht hg hz => ?_⟩
      refine hy _ _ e4 ⟨us ++ [t], Ats.append (k1.mono (same_kt e4)) (.cons ht .nil), fun t' ht' => ?_, ?_, by simp [k4]⟩
      · rcases List.mem_append.mp ht' with ht' | ht'
        · exact k2 t' ht'
        · rw [List.mem_singleton.mp ht']; exact hg
      · rw [wsum_append, k3, show 2 * (i + 1) = 2 * i + 1 + 1 by omega, List.take_succ, List.take_succ, List.getElem?_eq_getElem i0, List.getElem?_eq_getElem i1, wsum_append, wsum_append]
        simp only [wsum, sizes_cons, sizes_nil, List.length_singleton, Option.toList_some, hz]
        omega
    intro r3 vs3 H3 hr3 e3 h3 ⟨us, k1, k2, k3, k4⟩
    have hr3' : H r3 = none := Same.free e2 hr3
    have h23 := e3 _ _ h2
    rw [hR]; clear hR
    refine ifq_ fun R A B hR hA hB => ?_
    walk_at "rd"
    refine ⟨_, .inl (SqL.of h23), by decide, ?_⟩
    rw [← hvl]
    by_cases ho : (ts.length : Int) % 2 = 1
    · rw [if_pos ho, hA]
      clear hA hB
      walk_at "rd"
      rcases List.eq_nil_or_concat vs with hv | ⟨vs', v, hv⟩
      · subst hv
        rw [List.length_nil] at hvl
        omega
      rw [List.concat_eq_append] at hv
      subst hv
      obtain ⟨ts', t, rfl, g1a, htv⟩ := pr_snoc g1
      have hl' : ts'.length = 2 * (ts'.length / 2) := by
        rw [List.length_append, List.length_singleton] at ho
        omega
      have hl2 : (ts' ++ [t]).length / 2 = ts'.length / 2 := by
        rw [List.length_append, List.length_singleton]
        omega
      rw [hl2] at k3 k4
      rw [← hl', List.take_left] at k3
      have hul : us.length = vs3.length := pr_len k1
      have hsl := List.length_append (as := ts') (bs := [t])
      rw [List.length_singleton] at hsl
      refine ⟨.inl ⟨rfl, _, SqL.of h3⟩, _, SqL.of h23, v, atI_last _ _, _, h3, szLt (by omega), ?_⟩
      have k5 := kt_lst (o := .lst (vs3 ++ [v])) h3
      have e5 : Same H (upd H3 r3 (.lst (vs3 ++ [v]))) := same_mut (e2.trans e3) hr3'
      rw [hR]; clear hR
      walk_at "rd"
      refine hN (us.length + 1) _ _ (by omega) ⟨r3, vs3 ++ [v], us ++ [t], _, _, rfl, e5, upd_same, hr3', (Ats.append k1 (.cons (htv.mono (same_kt e3)) .nil)).mono k5, fun t' ht' => ?_, ?_, by simp, by omega, by omega⟩
      · rcases List.mem_append.mp ht' with ht' | ht'
        · exact k2 t' ht'
        · rw [List.mem_singleton.mp ht']; exact g2 t (by simp)
      · rw [wsum_append, k3, ← wsum_append, g3]
    · rw [if_neg ho, hB]
      clear hA hB
      walk_at "rd"
      rw [hR]; clear hR
      walk_at "rd"
      have hh : 2 * (ts.length / 2) = ts.length := by omega
      rw [hh, List.take_length] at k3
      exact hN (ts.length / 2) _ _ (by omega) ⟨r3, vs3, us, _, _, rfl, e2.trans e3, h3, hr3', k1, k2, by rw [k3, g3], k4, by omega, by omega⟩
  · rw [if_neg hlt]
    refine hB _ ?_
    clear hA hB
    show R _ _
    rw [hR]; clear hR
    obtain ⟨t, v, rfl, rfl⟩ : ∃ t v, ts = [t] ∧ vs = [v] := by
      match ts, vs, hlt, hm1, hvl with
      | [t], [v], _, _, _ => exact ⟨t, v, rfl, rfl⟩
      | t :: t' :: ts, _, hlt, _, _ => exact absurd (by simp only [List.length_cons]; omega) hlt
    have ht : At H2 t v := by cases g1 with | cons h _ => exact h
    have hg := g2 t (by simp)
    have hsz : t.size + 1 = 2 * L := by
      simp only [wsum, sizes_cons, sizes_nil, List.length_singleton] at g3
      omega
    refine seq_ fun R hR => ?_
    walk_at "rd"
    refine ⟨by decide, ?_⟩
    by_cases he : n % 2 = 0
    · rw [if_pos he]
      refine ⟨_, SqL.of h2, v, at0 _ _, new_ fun p H3 hp e3 h3 => q (.fn "f" t) _ _ (e2.trans e3) ⟨p, v, rfl, h3, ht.mono (same_kt e3)⟩ ⟨by decide +kernel, hg⟩ ?_⟩
      simp only [Tr.size]
      omega
    · rw [if_neg he, hR]
      walk_at "rd"
      exact ⟨_, SqL.of h2, v, at0 _ _, q t _ _ e2 ht hg (by omega)⟩
end
end K02

namespace K02
open PySem L2 My
open PyProof.Rows (envOfC)
local macro_rules | `(tactic| walk_at "rd") => `(tactic| simp only [My.ife, My.tFor_eq, My.cx_K, My.cx_w, My.rRdK, My.rNeSelf, rIsi, tAsg, tDrop, tChain, tThenZ, kTyp, My.rInK, My.rMulS, iStr, V.ty.injEq, rAll, rU, tRet, tRetN, tIfS, tVar, tC, tOp, tUn, rI0, rI, rEq, rNe, CDiv, CMul, CPow, My.tTup_eq, My.tLst_eq, My.tDNewK_eq, My.tRevL_eq, My.tRevS, tM1, tM0, My.sz0, My.sz1, My.sz2, My.sz3, My.sz4, My.sz5, My.sz8, tCons, tNil, My.tCallD, tCB, gName, gTup, gCons, gNil, gSub, tTest, tB, tAnd, tOr, tNot, tIf, tAndV, tOrV, tNotV, rSetL, rSlS, rIxL, rIxT, rIxS, My.rSlT_eq, My.rSlL_eq, rIn, rCat, tLc_eq, iList, iTup, iRng1, iRng2, iRng3, wipe, List.map_cons, List.map_nil, tSl, tPart, tNoPart, tBM, tBM0, rAppend, My.rPopL, rExtend, tNext, tBreak, tCont, My.scal_ii, My.scal_ss, My.scal_bb, My.scal_is, My.scal_si, ipI, rListD, sDPut, tDGet, tDGet2, tAug, List.getElem?_cons_zero, List.getElem?_cons_succ, List.set_cons_zero, List.set_cons_succ, Option.some.injEq, exists_eq_left', exists_eq_left, V.int.injEq, V.ref.injEq, V.str.injEq, V.bl.injEq, exists_and_left, true_and, and_true, List.cons.injEq, exists_const, Bool.false_eq_true, ↓reduceIte, reduceCtorEq, false_and, and_assoc, decide_true, decide_false])
local macro_rules | `(tactic| walk_at "st") => `(tactic| (refine My.seq_ fun R hR => ?_))

abbrev s__law_odd : Stmt := topS 17
abbrev N__law_odd : List Str := ["_law_cell", "_law_n", "_law_word", "_law_some", "_law_signs", "_law_sign"]
theorem sc__law_odd : FnScope N__law_odd ["_law_cell"] (defScope s__law_odd) := ⟨rfl, rfl, rfl, by decide +kernel, rfl, by decide +kernel, by decide +kernel⟩
theorem bd__law_odd : BindAll "_law_odd" s__law_odd ["_law_cell"] := fun _ _ _ _ _ _ us hl => match us, hl with | [_], _ => rfl
theorem st__law_odd (v0 : V) : start N__law_odd [v0] = [some v0, none, none, none, none, none] := rfl
def okV (n : Addr) : V → Bool
  | .int _ => true
  | .str z => decide (z.length ≤ 10000)
  | .bl _ => true
  | .non => true
  | .ref a => a == n
  | _ => false
theorem okV_kd {H : Hp} {n : Addr} {xs : List V} (h : H n = some (.tup xs)) {x : V} (hx : okV n x = true) : Kd H x := by
  cases x with
  | ref a =>
    have : a = n := by simpa [okV] using hx
    subst this
    exact kd_tup h
  | int i => exact ⟨_, rfl⟩
  | str i => exact ⟨_, rfl⟩
  | bl i => exact ⟨_, rfl⟩
  | non => exact ⟨_, rfl⟩
  | _ => cases hx
/-- over the heap H0: n is («num», 1), l is a list of k things that are none, and vs are more of them -/
structure OL (H0 H : Hp) (n l : Addr) (k : Nat) (vs : List V) : Prop where
  same : Same H0 H
  num : H n = some (.tup [.str "num", .int 1])
  lst : ∃ xs, H l = some (.lst xs) ∧ (∀ v ∈ xs, Bad H v) ∧ xs.length = k
  bad : ∀ v ∈ vs, Bad H v
theorem bad_tup {H : Hp} {n p : Addr} {xs ys : List V} (hn : H n = some (.tup ys)) (hp : H p = some (.tup xs)) (ok : xs.all (okV n) = true) (hl : xs.length ≤ 100) (no : nodeC xs = false) : Bad H (.ref p) where
  kn := ⟨kd_tup hp, fun a zs e h => by
    cases e
    rw [hp] at h
    cases h
    exact ⟨hl, fun x hx => okV_kd hn (List.all_eq_true.mp ok x hx)⟩⟩
  st := fun x e => by cases e
  sts := fun a zs x e h hx => by
    cases e
    rw [hp] at h
    cases h
    have := List.all_eq_true.mp ok _ hx
    exact of_decide_eq_true this
  no := by
    show (match H p with | some (.tup xs) => nodeC xs | _ => false) = false
    rw [hp]
    exact no
section
variable {H0 H H' : Hp} {n l : Addr} {k : Nat} {vs : List V}
theorem OL.ext (o : OL H0 H n l k vs) (e : Same H H') : OL H0 H' n l k vs := ⟨o.same.trans e, e _ _ o.num, by obtain ⟨xs, h1, h2, h3⟩ := o.lst; exact ⟨xs, e _ _ h1, fun v hv => (h2 v hv).same e, h3⟩, fun v hv => (o.bad v hv).same e⟩
theorem OL.push {v : V} (o : OL H0 H n l k vs) (h : Bad H v) : OL H0 H n l k (vs ++ [v]) := ⟨o.same, o.num, o.lst, fun u hu => by
  rcases List.mem_append.mp hu with hu | hu
  · exact o.bad u hu
  · rw [List.mem_singleton.mp hu]; exact h⟩
theorem newB {ys : List V} {G : Addr → Hp → Prop} (o : OL H0 H n l k vs) (ok : ys.all (okV n) = true) (hl : ys.length ≤ 100) (no : nodeC ys = false) (g : ∀ p H', OL H0 H' n l k (vs ++ [.ref p]) → G p H') : New H (.tup ys) G :=
  new_ fun p H' hp e h => g p H' ((o.ext e).push (bad_tup (e _ _ o.num) h ok hl no))
theorem newBL {ys : List V} {G : Addr → Hp → Prop} (o : OL H0 H n l k vs) (g : ∀ p H', OL H0 H' n l k (vs ++ [.ref p]) → G p H') : New H (.lst ys) G :=
  new_ fun p H' hp e h => g p H' ((o.ext e).push {
    kn := ⟨⟨"list", show (match H' p with | some (.lst _) => some "list" | some (.tup _) => some "tuple" | _ => none) = some "list" by rw [h]⟩, fun a zs e h' => by cases e; rw [h] at h'; cases h'⟩
    st := fun x e => by cases e
    sts := fun a zs x e h' hx => by cases e; rw [h] at h'; cases h'
    no := by
      show (match H' p with | some (.tup xs) => nodeC xs | _ => false) = false
      rw [h] })
/-- the first list -/
theorem newL {ys : List V} {G : Addr → Hp → Prop} (o : OL H0 H n l k vs) (e : vs = ys) (g : ∀ p H', OL H0 H' n p ys.length [] → G p H') : New H (.lst ys) G := by
  subst e
  exact new_ fun p H' hp e h => g p H' ⟨o.same.trans e, e _ _ o.num, ⟨_, h, fun v hv => (o.bad v hv).same e, rfl⟩, fun v hv => by cases hv⟩
/-- a list more -/
theorem catL {ys : List V} {R : Addr → Hp → Prop} (o : OL H0 H n l k vs) (e : vs = ys) (hk : k + ys.length ≤ 1000) (g : ∀ p H', OL H0 H' n p (k + ys.length) [] → R p H') :
    New H (.lst ys) fun p H2 => ∃ x, H2 l = some (.lst x) ∧ ∃ y, H2 p = some (.lst y) ∧ x.length + y.length ≤ sizeLine ∧ ∀ p, H2 p = none → R p (upd H2 p (.lst (x ++ y))) := by
  subst e
  refine new_ fun p H' hp e h => ?_
  obtain ⟨xs, h1, h2, h3⟩ := o.lst
  refine ⟨xs, e _ _ h1, vs, h, szL (by omega), new_ fun p2 H2 hp2 e2 h5 => g p2 H2 ⟨(o.same.trans e).trans e2, e2 _ _ (e _ _ o.num), ⟨_, h5, fun v hv => ?_, by simp [h3]⟩, fun v hv => by cases hv⟩⟩
  rcases List.mem_append.mp hv with hv | hv
  · exact ((h2 v hv).same e).same e2
  · exact ((o.bad v hv).same e).same e2
end
theorem bad_str {H : Hp} {x : Str} (h : x.length ≤ 10000) : Bad H (.str x) := ⟨⟨⟨"str", rfl⟩, fun a xs e => by cases e⟩, (fun z e => by cases e; exact h), (fun a xs z e => by cases e), rfl⟩
theorem bad_int {H : Hp} {i : Int} : Bad H (.int i) := ⟨⟨⟨"int", rfl⟩, fun a xs e => by cases e⟩, (fun z e => by cases e), (fun a xs z e => by cases e), rfl⟩
theorem bad_non {H : Hp} : Bad H .non := ⟨⟨⟨"NoneType", rfl⟩, fun a xs e => by cases e⟩, (fun z e => by cases e), (fun a xs z e => by cases e), rfl⟩
theorem nodeC_name {t : Wd} (ht : t = .name ∨ t = .fn ∨ t = .lt) {w : Str} {r : List V} (h : isName w = false) : nodeC (.str t.str :: .str w :: r) = false := by
  rw [nodeC_str, Wd.find_str]
  rcases ht with rfl | rfl | rfl <;> simp [Wd.ownOk, nameV, h]
theorem words_bad (x : Str) (h : x ∈ wordsL) : isName x = false ∧ x.length ≤ 10000 := by
  have : ∀ x ∈ wordsL, isName x = false ∧ x.length ≤ 10000 := by decide +kernel
  exact this x h
theorem nodeC_n1 {w : Str} {r : List V} (h : isName w = false) : nodeC (.str "name" :: .str w :: r) = false := nodeC_name (t := .name) (by simp) h
theorem nodeC_n2 {w : Str} {r : List V} (h : isName w = false) : nodeC (.str "fun" :: .str w :: r) = false := nodeC_name (t := .fn) (by simp) h
theorem nodeC_n3 {w : Str} {r : List V} (h : isName w = false) : nodeC (.str "let" :: .str w :: r) = false := nodeC_name (t := .lt) (by simp) h
local macro_rules | `(tactic| walk_at "nb_ok") => `(tactic| (simp only [List.all_cons, List.all_nil, Bool.and_true, okV, beq_self_eq_true, Bool.true_and, Bool.and_eq_true, decide_eq_true_eq]; repeat' (first | done | assumption | decide +kernel | apply And.intro)))
local macro_rules | `(tactic| walk_at "nb_no") => `(tactic| first | with_reducible exact nodeC_n1 (by assumption) | with_reducible exact nodeC_n2 (by assumption) | with_reducible exact nodeC_n3 (by assumption) | kernel_rfl)
local macro_rules | `(tactic| walk_at "nb") => `(tactic| refine newB (by assumption) (by walk_at "nb_ok") (by simp) (by walk_at "nb_no") fun _ _ _ => ?_)
theorem words_bad2 {H : Hp} (v : V) (h : v ∈ wordsL.map V.str) : Bad H v := by
  obtain ⟨x, hx, rfl⟩ := List.mem_map.mp h
  exact bad_str (words_bad x hx).2
theorem at_modN {α : Type} {xs : List α} (h : 0 < xs.length) (m : Int) : ∃ x ∈ xs, atI xs (m % (xs.length : Int)) = some x := by
  have h0 : 0 ≤ m % (xs.length : Int) := Int.emod_nonneg _ (by omega)
  have h1 : m % (xs.length : Int) < xs.length := Int.emod_lt_of_pos _ (by omega)
  obtain ⟨k, hk⟩ : ∃ k : Nat, m % (xs.length : Int) = (k : Int) := ⟨(m % (xs.length : Int)).toNat, by omega⟩
  rw [hk] at h1 ⊢
  have hk' : k < xs.length := by omega
  exact ⟨xs[k], List.getElem_mem _, atI_nat (List.getElem?_eq_getElem hk')⟩
theorem isName_bad {z : Str} {c : Nat} (h : c ∈ z.cps.toList) (hc : isLet c = false) : isName z = false := by
  unfold isName
  have : z.cps.toList.all isLet = false := by
    rw [List.all_eq_false]
    exact ⟨c, h, by rw [hc]; simp⟩
  rw [this, Bool.and_false]
theorem signs_at (m : Int) : ∃ x, isLet x = false ∧ atI (Str.ofString "_-'0123456789ABCDEFGHIJKLMNOPQRSTUVWXYZ!?.,:;\"`~|+*/\\=<>()[]{}#$&@^ \t\n").cps.toList (m % ((Str.ofString "_-'0123456789ABCDEFGHIJKLMNOPQRSTUVWXYZ!?.,:;\"`~|+*/\\=<>()[]{}#$&@^ \t\n").length : Int)) = some x := by
  have hall : ∀ x ∈ (Str.ofString "_-'0123456789ABCDEFGHIJKLMNOPQRSTUVWXYZ!?.,:;\"`~|+*/\\=<>()[]{}#$&@^ \t\n").cps.toList, isLet x = false := by decide +kernel
  have hl : 0 < (Str.ofString "_-'0123456789ABCDEFGHIJKLMNOPQRSTUVWXYZ!?.,:;\"`~|+*/\\=<>()[]{}#$&@^ \t\n").cps.toList.length := by decide +kernel
  obtain ⟨x, h1, h2⟩ := at_modN hl m
  rw [Array.length_toList] at h2
  exact ⟨x, hall x h1, h2⟩
def spOdd : Sp := fun vs H Q _ => ∃ (c : Int), vs = [.int c] ∧ ∀ (v : V) (H' : Hp), Same H H' → Bad H' v → Q v H'
section
variable {P : Program} {w : World} {K : PySem.W.Frag} {mg : Str → Option Value} {base : Heap} {aL aS cM cN : Addr}
theorem df_odd (T : Txt K w mg aL aS cM cN) (F : FunAt K mg "_law_odd" s__law_odd) : Df P w K mg base 1 "_law_odd" ["_law_cell"] spOdd := by
  refine F.df sc__law_odd bd__law_odd (fun vs H Q E h => ?_) (fun f cdv A outer s H vs Q E hr h => ?_)
  · obtain ⟨_, rfl, _⟩ := h; rfl
  obtain ⟨c, rfl, q⟩ := h
  have nd := sc__law_odd.nd
  refine ⟨_, (pss_cons (ps_set (i := 1) nd rfl (Or.inl rfl) (pe_tup (pa_cons pe_str (pa_cons pe_int pa_nil))))
  (pss_cons (ps_set (i := 2) nd rfl (Or.inl rfl) (pe_ix ix_list (pe_lst (pa_cons pe_str (pa_cons pe_str (pa_cons pe_str (pa_cons pe_str (pa_cons pe_str (pa_cons pe_str (pa_cons pe_str (pa_cons pe_str pa_nil))))))))) (pe_op op_mod (pe_op op_fdiv (pv 0) pe_int) pe_int) (fun _ _ => rfl)))
  (pss_cons (ps_set (i := 3) nd rfl (Or.inl rfl) (pe_lst (pa_cons (pe_tup (pa_cons pe_str (pa_cons pe_bl pa_nil))) (pa_cons (pe_tup (pa_cons pe_str (pa_cons pe_bl pa_nil))) (pa_cons (pe_tup (pa_cons pe_str (pa_cons (pe_op op_pow pe_int pe_int) pa_nil))) (pa_cons (pe_tup (pa_cons pe_str (pa_cons (pe_un un_neg (pe_op op_pow pe_int pe_int)) pa_nil))) (pa_cons (pe_tup (pa_cons pe_str (pa_cons pe_str pa_nil))) (pa_cons (pe_tup (pa_cons pe_str pa_nil)) pa_nil))))))))
  (pss_cons (ps_set (i := 3) nd rfl (Or.inl rfl) (pe_op op_cat (pv 3) (pe_lst (pa_cons (pe_tup (pa_cons pe_str (pa_cons pe_int (pa_cons pe_int pa_nil)))) (pa_cons (pe_tup (pa_cons pe_str (pa_cons pe_non pa_nil))) (pa_cons (pe_tup (pa_cons pe_str (pa_cons (pv 2) pa_nil))) (pa_cons (pe_tup (pa_cons pe_str (pa_cons (pv 2) pa_nil))) (pa_cons (pe_tup (pa_cons pe_str (pa_cons (pv 2) pa_nil))) (pa_cons (pe_tup (pa_cons pe_str (pa_cons (pv 2) pa_nil))) pa_nil)))))))))
  (pss_cons (ps_set (i := 3) nd rfl (Or.inl rfl) (pe_op op_cat (pv 3) (pe_lst (pa_cons (pe_tup (pa_cons pe_str (pa_cons pe_str pa_nil))) (pa_cons (pe_tup (pa_cons pe_str (pa_cons pe_str pa_nil))) (pa_cons (pe_tup (pa_cons pe_str (pa_cons pe_str pa_nil))) (pa_cons (pe_tup (pa_cons pe_str (pa_cons pe_int pa_nil))) pa_nil)))))))
  (pss_cons (ps_set (i := 3) nd rfl (Or.inl rfl) (pe_op op_cat (pv 3) (pe_lst (pa_cons (pe_tup (pa_cons pe_str (pa_cons pe_str pa_nil))) (pa_cons (pe_tup (pa_cons pe_str (pa_cons pe_str pa_nil))) (pa_cons (pe_tup (pa_cons pe_str (pa_cons pe_str pa_nil))) (pa_cons (pe_tup (pa_cons pe_str (pa_cons (pv 2) (pa_cons (pv 1) pa_nil)))) (pa_cons (pe_tup (pa_cons pe_str (pa_cons (pv 1) (pa_cons (pv 1) pa_nil)))) (pa_cons (pe_tup (pa_cons pe_str (pa_cons (pv 1) pa_nil))) pa_nil)))))))))
  (pss_cons (ps_set (i := 3) nd rfl (Or.inl rfl) (pe_op op_cat (pv 3) (pe_lst (pa_cons (pe_tup (pa_cons pe_str (pa_cons (pv 1) (pa_cons (pv 1) (pa_cons (pv 1) pa_nil))))) (pa_cons (pe_tup (pa_cons pe_str (pa_cons (pv 1) (pa_cons (pv 1) pa_nil)))) (pa_cons (pe_tup (pa_cons pe_str (pa_cons pe_str (pa_cons (pv 1) pa_nil)))) (pa_cons (pe_tup (pa_cons pe_str (pa_cons (pv 2) (pa_cons (pv 1) (pa_cons (pv 1) pa_nil))))) (pa_cons (pe_lst (pa_cons pe_str (pa_cons pe_int pa_nil))) (pa_cons pe_str (pa_cons pe_int (pa_cons pe_non pa_nil)))))))))))
  (pss_cons (ps_set (i := 3) nd rfl (Or.inl rfl) (pe_op op_cat (pv 3) (pe_lst (pa_cons (pe_tup pa_nil) (pa_cons (pe_tup (pa_cons pe_str (pa_cons (pv 1) (pa_cons (pv 1) pa_nil)))) (pa_cons (pe_tup (pa_cons (pv 1) (pa_cons (pv 1) pa_nil))) (pa_cons (pe_tup (pa_cons pe_str (pa_cons pe_str (pa_cons (pv 1) (pa_cons (pv 1) pa_nil))))) (pa_cons (pe_tup (pa_cons pe_str (pa_cons pe_str (pa_cons (pv 1) (pa_cons (pv 1) (pa_cons (pv 1) pa_nil)))))) (pa_cons (pe_tup (pa_cons pe_str (pa_cons (pv 1) (pa_cons (pv 1) (pa_cons (pv 1) (pa_cons (pv 1) pa_nil)))))) pa_nil)))))))))
  (pss_cons (ps_set (i := 3) nd rfl (Or.inl rfl) (pe_op op_cat (pv 3) (pe_lst (pa_cons (pe_tup (pa_cons pe_str (pa_cons (pv 1) (pa_cons (pv 1) (pa_cons (pv 1) pa_nil))))) (pa_cons (pe_tup (pa_cons pe_str (pa_cons (pv 1) (pa_cons (pv 1) (pa_cons (pv 1) pa_nil))))) (pa_cons (pe_tup (pa_cons pe_str (pa_cons pe_str (pa_cons pe_str pa_nil)))) pa_nil))))))
  (pss_cons (ps_set (i := 4) nd rfl (Or.inl rfl) pe_str)
  (pss_cons (ps_set (i := 5) nd rfl (Or.inl rfl) (pe_ix ix_str (pv 4) (pe_op op_mod (pe_op op_fdiv (pv 0) pe_int) (pe_callB call_len_str (by rfl) T.len PySem.boot_len (pa_cons (pv 4) pa_nil))) (fun _ _ => rfl)))
  (pss_cons (ps_set (i := 3) nd rfl (Or.inl rfl) (pe_op op_cat (pv 3) (pe_lst (pa_cons (pe_tup (pa_cons pe_str (pa_cons (pe_op op_add_str pe_str (pv 5)) pa_nil))) (pa_cons (pe_tup (pa_cons pe_str (pa_cons (pe_op op_add_str (pv 5) pe_str) (pa_cons (pv 1) pa_nil)))) (pa_cons (pe_tup (pa_cons pe_str (pa_cons pe_str (pa_cons (pv 1) pa_nil)))) (pa_cons (pe_tup (pa_cons pe_str (pa_cons pe_str (pa_cons (pv 1) pa_nil)))) pa_nil)))))))
  (pss_cons (ps_set (i := 3) nd rfl (Or.inl rfl) (pe_op op_cat (pv 3) (pe_lst (pa_cons (pe_tup (pa_cons pe_str (pa_cons pe_str (pa_cons (pv 1) (pa_cons (pv 1) pa_nil))))) (pa_cons (pe_tup (pa_cons pe_str (pa_cons pe_str (pa_cons (pv 1) (pa_cons (pv 1) pa_nil))))) (pa_cons (pe_tup (pa_cons pe_str (pa_cons pe_str (pa_cons (pv 1) pa_nil)))) (pa_cons (pe_tup (pa_cons pe_str (pa_cons pe_str (pa_cons (pv 1) (pa_cons (pv 1) pa_nil))))) pa_nil)))))))
  (pss_one (ps_ret (pe_ix ix_list (pv 3) (pe_op op_mod (pv 0) pe_int) (fun _ _ => rfl))))))))))))))))), ?_⟩
  rw [st__law_odd]
  refine seq_ fun R hR => ?_
  walk_at "rd"
  refine new_ fun n H1 hn e1 h1 => ?_
  rw [hR]; clear hR
  refine seq_ fun R hR => ?_
  walk_at "rd"
  refine new_ fun p2 H2 hp2 e2 h2 => ?_
  obtain ⟨wd, hw1, hw2⟩ := at_mod (xs := wordsL) V.str (by decide) (c / 47)
  obtain ⟨hw3, hw4⟩ := words_bad wd hw1
  refine ⟨by decide, by decide, by decide, _, SqL.of h2, .str wd, hw2, ?_⟩
  have ol : OL H H2 n p2 8 [] := ⟨e1.trans e2, e2 _ _ h1, ⟨_, h2, fun v hv => words_bad2 v hv, rfl⟩, fun v hv => by cases hv⟩
  clear hw2 h2 h1
  rw [hR]; clear hR
  refine seq_ fun R hR => ?_
  walk_at "rd"
  walk_at "nb"
  walk_at "nb"
  refine ⟨by decide, by decide, by decide, ?_⟩
  walk_at "nb"
  refine ⟨by decide, by decide, by decide, ?_⟩
  walk_at "nb"
  walk_at "nb"
  walk_at "nb"
  refine ⟨szL (by simp), newL (by assumption) (by rfl) fun _ _ _ => ?_⟩
  rw [hR]; clear hR
  refine seq_ fun R hR => ?_
  walk_at "rd"
  walk_at "nb"
  walk_at "nb"
  walk_at "nb"
  walk_at "nb"
  walk_at "nb"
  walk_at "nb"
  refine ⟨szL (by simp), catL (by assumption) (by rfl) (by simp) fun _ _ _ => ?_⟩
  rw [hR]; clear hR
  refine seq_ fun R hR => ?_
  walk_at "rd"
  walk_at "nb"
  walk_at "nb"
  walk_at "nb"
  walk_at "nb"
  refine catL (by assumption) (by rfl) (by simp) fun _ _ _ => ?_
  rw [hR]; clear hR
  refine seq_ fun R hR => ?_
  walk_at "rd"
  walk_at "nb"
  walk_at "nb"
  walk_at "nb"
  walk_at "nb"
  walk_at "nb"
  walk_at "nb"
  refine ⟨szL (by simp), catL (by assumption) (by rfl) (by simp) fun _ _ _ => ?_⟩
  rw [hR]; clear hR
  refine seq_ fun R hR => ?_
  walk_at "rd"
  walk_at "nb"
  walk_at "nb"
  walk_at "nb"
  walk_at "nb"
  refine newBL (by assumption) fun _ _ o5 => ?_
  have o5 := ((o5.push (bad_str (x := "num") (by decide +kernel))).push (bad_int (i := 5))).push bad_non
  refine catL o5 (by rfl) (by simp) fun _ _ _ => ?_
  clear o5
  rw [hR]; clear hR
  refine seq_ fun R hR => ?_
  walk_at "rd"
  walk_at "nb"
  walk_at "nb"
  walk_at "nb"
  walk_at "nb"
  walk_at "nb"
  walk_at "nb"
  refine ⟨szL (by simp), catL (by assumption) (by rfl) (by simp) fun _ _ _ => ?_⟩
  rw [hR]; clear hR
  refine seq_ fun R hR => ?_
  walk_at "rd"
  walk_at "nb"
  walk_at "nb"
  walk_at "nb"
  refine catL (by assumption) (by rfl) (by simp) fun _ _ _ => ?_
  rw [hR]; clear hR
  refine seq_ fun R hR => ?_
  walk_at "rd"
  rw [hR]; clear hR
  refine seq_ fun R hR => ?_
  walk_at "rd"
  obtain ⟨ch, hc1, hc2⟩ := signs_at (c / 47)
  refine ⟨by decide, by decide, szL (by decide +kernel), by decide +kernel, szL (by decide +kernel), ch, hc2, ?_⟩
  clear hc2
  rw [hR]; clear hR
  refine seq_ fun R hR => ?_
  walk_at "rd"
  have ha1 : isName (Str.ofString "ab" ++ ⟨#[ch]⟩) = false := isName_bad (c := ch) (by show ch ∈ ((Str.ofString "ab").cps ++ #[ch]).toList; simp) hc1
  have ha2 : (Str.ofString "ab" ++ ⟨#[ch]⟩).length ≤ 10000 := by
    have : (Str.ofString "ab" ++ ⟨#[ch]⟩).length = 3 := by kernel_rfl
    omega
  have hb1 : isName (⟨#[ch]⟩ ++ Str.ofString "b") = false := isName_bad (c := ch) (by show ch ∈ (#[ch] ++ (Str.ofString "b").cps).toList; simp) hc1
  have hb2 : (⟨#[ch]⟩ ++ Str.ofString "b").length ≤ 10000 := by
    have : (⟨#[ch]⟩ ++ Str.ofString "b").length = 2 := by kernel_rfl
    omega
  refine ⟨szL (by show (Str.ofString "ab").length + 1 ≤ 100000; decide +kernel), ?_⟩
  walk_at "nb"
  refine ⟨szL (by show 1 + (Str.ofString "b").length ≤ 100000; decide +kernel), ?_⟩
  walk_at "nb"
  walk_at "nb"
  walk_at "nb"
  refine catL (by assumption) (by rfl) (by simp) fun _ _ _ => ?_
  rw [hR]; clear hR
  refine seq_ fun R hR => ?_
  walk_at "rd"
  walk_at "nb"
  walk_at "nb"
  walk_at "nb"
  walk_at "nb"
  refine catL (by assumption) (by rfl) (by simp) fun _ _ oe => ?_
  rw [hR]; clear hR
  walk_at "rd"
  obtain ⟨xs, k1, k2, k3⟩ := oe.lst
  obtain ⟨x, hx1, hx2⟩ := at_modN (xs := xs) (by rw [k3]; simp) c
  have k47 : (xs.length : Int) = 47 := by rw [k3]; rfl
  rw [k47] at hx2
  exact ⟨by decide, _, SqL.of k1, x, hx2, q x _ oe.same (k2 x hx1)⟩
end
end K02

namespace K02
open PySem L2 My
open PyProof.Rows (envOfC)
local macro_rules | `(tactic| walk_at "rd") => `(tactic| simp only [My.ife, My.tFor_eq, My.cx_K, My.cx_w, My.rRdK, My.rNeSelf, rIsi, tAsg, tDrop, tChain, tThenZ, kTyp, My.rInK, My.rMulS, iStr, V.ty.injEq, rAll, rU, tRet, tRetN, tIfS, tVar, tC, tOp, tUn, rI0, rI, rEq, rNe, CDiv, CMul, CPow, My.tTup_eq, My.tLst_eq, My.tDNewK_eq, My.tRevL_eq, My.tRevS, tM1, tM0, My.sz0, My.sz1, My.sz2, My.sz3, My.sz4, My.sz5, My.sz8, tCons, tNil, My.tCallD, tCB, gName, gTup, gCons, gNil, gSub, tTest, tB, tAnd, tOr, tNot, tIf, tAndV, tOrV, tNotV, rSetL, rSlS, rIxL, rIxT, rIxS, My.rSlT_eq, My.rSlL_eq, rIn, rCat, tLc_eq, iList, iTup, iRng1, iRng2, iRng3, wipe, List.map_cons, List.map_nil, tSl, tPart, tNoPart, tBM, tBM0, rAppend, My.rPopL, rExtend, tNext, tBreak, tCont, My.scal_ii, My.scal_ss, My.scal_bb, My.scal_is, My.scal_si, ipI, rListD, sDPut, tDGet, tDGet2, tAug, List.getElem?_cons_zero, List.getElem?_cons_succ, List.set_cons_zero, List.set_cons_succ, Option.some.injEq, exists_eq_left', exists_eq_left, V.int.injEq, V.ref.injEq, V.str.injEq, V.bl.injEq, exists_and_left, true_and, and_true, List.cons.injEq, exists_const, Bool.false_eq_true, ↓reduceIte, reduceCtorEq, false_and, and_assoc, decide_true, decide_false])
local macro_rules | `(tactic| walk_at "st") => `(tactic| (refine My.seq_ fun R hR => ?_))

abbrev s_law : Stmt := topS 25
abbrev N_law : List Str := ["_law_script", "_law_way", "_law_many", "_law_tree", "_law_things", "_law_found", "_law_odd_here", "_law_k"]
theorem sc_law : FnScope N_law ["_law_script"] (defScope s_law) := ⟨rfl, rfl, rfl, by decide +kernel, rfl, by decide +kernel, by decide +kernel⟩
theorem bd_law : BindAll "law" s_law ["_law_script"] := fun _ _ _ _ _ _ us hl => match us, hl with | [_], _ => rfl
theorem st_law (v0 : V) : start N_law [v0] = [some v0, none, none, none, none, none, none, none] := rfl
/-! ### one thing, with whether it holds something that is none -/
def W1 (H : Hp) (v : V) (b : Bool) : Prop := ∃ n, Wks H [v] n b
theorem nodeW {H : Hp} {a : Addr} (t : Wd) (own ws : List V) {n : Nat} {b : Bool} (h : H a = some (.tup (.str t.str :: own ++ ws))) (ho : (own.length : Int) + 1 = t.start) (hn : nodeC (.str t.str :: own ++ ws) = true) (hw : ∀ x ∈ own, OwnV x) (hl : ws.length ≤ 3)
    (h1 : Wks H ws n b) : Wks H [.ref a] (1 + n) b := by
  have := Wks.nd h ho hn hw hl h1 .nil
  simpa using this
theorem wks2 {H : Hp} {u v : V} {m n : Nat} {b c : Bool} (h1 : Wks H [u] m b) (h2 : Wks H [v] n c) : Wks H [u, v] (m + n) (b || c) := h1.append h2
theorem wks3 {H : Hp} {u v x : V} {m n k : Nat} {b c d : Bool} (h1 : Wks H [u] m b) (h2 : Wks H [v] n c) (h3 : Wks H [x] k d) : Wks H [u, v, x] (m + n + k) (b || c || d) := (wks2 h1 h2).append h3
theorem name_own {x : Str} (h : isName x = true) : ∀ v ∈ [V.str x], OwnV v := fun v hv => by
  rw [List.mem_singleton.mp hv]
  refine .inr ⟨x, rfl, ?_⟩
  unfold isName at h
  simp only [Bool.and_eq_true, decide_eq_true_eq] at h
  omega
theorem wks_of {H : Hp} : ∀ {t : Tr} {v : V}, At H t v → Good t → Wks H [v] t.size false
  | .num n, _, ⟨a, rfl, h⟩, g => nodeW .num [.int n] [] h rfl (by rw [nodeC_str_app, Wd.find_str]; show (true && (decide (-(10 ^ 60) < n) && decide (n < 10 ^ 60))) = true; rw [decide_eq_true g.1, decide_eq_true g.2]; rfl) (fun v hv => by rw [List.mem_singleton.mp hv]; exact .inl ⟨n, rfl⟩) (by simp) .nil
  | .name x, _, ⟨a, rfl, h⟩, g => nodeW .name [.str x] [] h rfl (by rw [nodeC_str_app, Wd.find_str]; show (true && isName x) = true; rw [show isName x = true from g]; rfl) (name_own g) (by simp) .nil
  | .fn x b, _, ⟨a, u, rfl, h, h1⟩, g => by
    have := nodeW .fn [.str x] [u] h rfl (by rw [nodeC_str_app, Wd.find_str]; show (true && isName x) = true; rw [g.1]; rfl) (name_own g.1) (by simp) (wks_of h1 g.2)
    exact this
  | .call f b, _, ⟨a, u, u', rfl, h, h1, h2⟩, g => by
    have := nodeW .call [] [u, u'] h rfl rfl (fun v hv => by cases hv) (by simp) (wks2 (wks_of h1 g.1) (wks_of h2 g.2))
    rw [show (Tr.call f b).size = 1 + (f.size + b.size) by simp only [Tr.size]; omega]; exact this
  | .plus f b, _, ⟨a, u, u', rfl, h, h1, h2⟩, g => by
    have := nodeW .plus [] [u, u'] h rfl rfl (fun v hv => by cases hv) (by simp) (wks2 (wks_of h1 g.1) (wks_of h2 g.2))
    rw [show (Tr.plus f b).size = 1 + (f.size + b.size) by simp only [Tr.size]; omega]; exact this
  | .less f b, _, ⟨a, u, u', rfl, h, h1, h2⟩, g => by
    have := nodeW .less [] [u, u'] h rfl rfl (fun v hv => by cases hv) (by simp) (wks2 (wks_of h1 g.1) (wks_of h2 g.2))
    rw [show (Tr.less f b).size = 1 + (f.size + b.size) by simp only [Tr.size]; omega]; exact this
  | .ite c f b, _, ⟨a, u, u', u'', rfl, h, h1, h2, h3⟩, g => by
    have := nodeW .ite [] [u, u', u''] h rfl rfl (fun v hv => by cases hv) (by simp) (wks3 (wks_of h1 g.1) (wks_of h2 g.2.1) (wks_of h3 g.2.2))
    rw [show (Tr.ite c f b).size = 1 + (c.size + f.size + b.size) by simp only [Tr.size]; omega]; exact this
  | .lt x f b, _, ⟨a, u, u', rfl, h, h1, h2⟩, g => by
    have := nodeW .lt [.str x] [u, u'] h rfl (by rw [nodeC_str_app, Wd.find_str]; show (true && isName x) = true; rw [g.1]; rfl) (name_own g.1) (by simp) (wks2 (wks_of h1 g.2.1) (wks_of h2 g.2.2))
    rw [show (Tr.lt x f b).size = 1 + (f.size + b.size) by simp only [Tr.size]; omega]; exact this
/-! ### trees as data, compared -/
def dataOf : Tr → PyData
  | .num n => .tuple [.str "num", .int n]
  | .name x => .tuple [.str "name", .str x]
  | .fn x b => .tuple [.str "fun", .str x, dataOf b]
  | .call f b => .tuple [.str "call", dataOf f, dataOf b]
  | .plus f b => .tuple [.str "plus", dataOf f, dataOf b]
  | .less f b => .tuple [.str "less", dataOf f, dataOf b]
  | .ite c f b => .tuple [.str "if", dataOf c, dataOf f, dataOf b]
  | .lt x f b => .tuple [.str "let", .str x, dataOf f, dataOf b]
theorem dp_of {K : PySem.W.Frag} {H : Hp} : ∀ {t : Tr} {v : V}, At H t v → Dp K H v (dataOf t)
  | .num n, _, ⟨a, rfl, h⟩ => .tup (SqT.of h) (.cons (.str _) (.cons (.int _) .nil))
  | .name x, _, ⟨a, rfl, h⟩ => .tup (SqT.of h) (.cons (.str _) (.cons (.str _) .nil))
  | .fn x b, _, ⟨a, u, rfl, h, h1⟩ => .tup (SqT.of h) (.cons (.str _) (.cons (.str _) (.cons (dp_of h1) .nil)))
  | .call f b, _, ⟨a, u, u', rfl, h, h1, h2⟩ => .tup (SqT.of h) (.cons (.str _) (.cons (dp_of h1) (.cons (dp_of h2) .nil)))
  | .plus f b, _, ⟨a, u, u', rfl, h, h1, h2⟩ => .tup (SqT.of h) (.cons (.str _) (.cons (dp_of h1) (.cons (dp_of h2) .nil)))
  | .less f b, _, ⟨a, u, u', rfl, h, h1, h2⟩ => .tup (SqT.of h) (.cons (.str _) (.cons (dp_of h1) (.cons (dp_of h2) .nil)))
  | .ite c f b, _, ⟨a, u, u', u'', rfl, h, h1, h2, h3⟩ => .tup (SqT.of h) (.cons (.str _) (.cons (dp_of h1) (.cons (dp_of h2) (.cons (dp_of h3) .nil))))
  | .lt x f b, _, ⟨a, u, u', rfl, h, h1, h2⟩ => .tup (SqT.of h) (.cons (.str _) (.cons (.str _) (.cons (dp_of h1) (.cons (dp_of h2) .nil))))
theorem strOk_name {x : Str} (h : isName x = true) : PyData.strOk x = true := by
  unfold isName at h
  simp only [Bool.and_eq_true, List.all_eq_true] at h
  show x.cps.all (· < 0x110000) = true
  rw [← Array.all_toList, List.all_eq_true]
  intro c hc
  have := h.2 c hc
  unfold isLet at this
  simp only [Bool.and_eq_true, decide_eq_true_eq] at this
  exact decide_eq_true (by omega)
theorem lay_of : ∀ {t : Tr}, Good t → (dataOf t).canLay0 = true
  | .num n, g => by show (PyData.strOk "num" && (true && true)) = true; decide +kernel
  | .name x, g => by show (PyData.strOk "name" && (PyData.strOk x && true)) = true; rw [strOk_name g]; decide +kernel
  | .fn x b, g => by show (PyData.strOk "fun" && (PyData.strOk x && ((dataOf b).canLay0 && true))) = true; rw [strOk_name g.1, lay_of g.2]; decide +kernel
  | .call f b, g => by show (PyData.strOk "call" && ((dataOf f).canLay0 && ((dataOf b).canLay0 && true))) = true; rw [lay_of g.1, lay_of g.2]; decide +kernel
  | .plus f b, g => by show (PyData.strOk "plus" && ((dataOf f).canLay0 && ((dataOf b).canLay0 && true))) = true; rw [lay_of g.1, lay_of g.2]; decide +kernel
  | .less f b, g => by show (PyData.strOk "less" && ((dataOf f).canLay0 && ((dataOf b).canLay0 && true))) = true; rw [lay_of g.1, lay_of g.2]; decide +kernel
  | .ite c f b, g => by show (PyData.strOk "if" && ((dataOf c).canLay0 && ((dataOf f).canLay0 && ((dataOf b).canLay0 && true)))) = true; rw [lay_of g.1, lay_of g.2.1, lay_of g.2.2]; decide +kernel
  | .lt x f b, g => by show (PyData.strOk "let" && (PyData.strOk x && ((dataOf f).canLay0 && ((dataOf b).canLay0 && true)))) = true; rw [strOk_name g.1, lay_of g.2.1, lay_of g.2.2]; decide +kernel
theorem depth_of : ∀ t : Tr, (dataOf t).depth ≤ t.size
  | .num n => by simp [dataOf, PyData.depth, PyData.depthAll, Tr.size]
  | .name x => by simp [dataOf, PyData.depth, PyData.depthAll, Tr.size]
  | .fn x b => by have := depth_of b; simp [dataOf, PyData.depth, PyData.depthAll, Tr.size]; omega
  | .call f b => by have := depth_of f; have := depth_of b; simp [dataOf, PyData.depth, PyData.depthAll, Tr.size]; omega
  | .plus f b => by have := depth_of f; have := depth_of b; simp [dataOf, PyData.depth, PyData.depthAll, Tr.size]; omega
  | .less f b => by have := depth_of f; have := depth_of b; simp [dataOf, PyData.depth, PyData.depthAll, Tr.size]; omega
  | .ite c f b => by have := depth_of c; have := depth_of f; have := depth_of b; simp [dataOf, PyData.depth, PyData.depthAll, Tr.size]; omega
  | .lt x f b => by have := depth_of f; have := depth_of b; simp [dataOf, PyData.depth, PyData.depthAll, Tr.size]; omega
/-! ### the tree round twelve -/
def wholeT (t0 t1 t2 t3 t4 t5 t6 t7 t8 t9 t10 t11 : Tr) : Tr :=
  .plus (.plus (.plus t0 (.ite t1 t2 t3)) (.lt "abcdefgh" t4 (.call t5 t6))) (.call (.fn "z" (.less t7 t8)) (.lt "fu" t9 (.plus t10 t11)))
theorem whole_at {H : Hp} {us : List V} {v : V} (h : Whole H us v) {ts : List Tr} (ha : Ats H ts us) (hg : ∀ t ∈ ts, Good t ∧ t.size ≤ 3) : ∃ t, (∀ H' v', Whole H' us v' → Ats H' ts us → At H' t v') ∧ At H t v ∧ Good t ∧ t.size ≤ 60 := by
  obtain ⟨u0, u1, u2, u3, u4, u5, u6, u7, u8, u9, u10, u11, _, _, _, _, _, _, _, _, _, _, rfl, _⟩ := h.ex
  obtain ⟨t0, t1, t2, t3, t4, t5, t6, t7, t8, t9, t10, t11, rfl⟩ : ∃ t0 t1 t2 t3 t4 t5 t6 t7 t8 t9 t10 t11, ts = [t0, t1, t2, t3, t4, t5, t6, t7, t8, t9, t10, t11] := by
    have hl := pr_len ha
    match ts, hl with
    | [t0, t1, t2, t3, t4, t5, t6, t7, t8, t9, t10, t11], _ => exact ⟨_, _, _, _, _, _, _, _, _, _, _, _, rfl⟩
  have key : ∀ H' v', Whole H' [u0, u1, u2, u3, u4, u5, u6, u7, u8, u9, u10, u11] v' → Ats H' [t0, t1, t2, t3, t4, t5, t6, t7, t8, t9, t10, t11] [u0, u1, u2, u3, u4, u5, u6, u7, u8, u9, u10, u11] → At H' (wholeT t0 t1 t2 t3 t4 t5 t6 t7 t8 t9 t10 t11) v' := by
    intro H' v' h ha
    obtain ⟨_, _, _, _, _, _, _, _, _, _, _, _, p1, p2, p3, p4, p5, p6, p7, p8, p9, p10, e, rfl, h1, h2, h3, h4, h5, h6, h7, h8, h9, p11, h10, h11⟩ := h.ex
    cases e
    cases ha with | cons a0 ha => cases ha with | cons a1 ha => cases ha with | cons a2 ha => cases ha with | cons a3 ha => cases ha with | cons a4 ha => cases ha with | cons a5 ha => cases ha with | cons a6 ha => cases ha with | cons a7 ha => cases ha with | cons a8 ha => cases ha with | cons a9 ha => cases ha with | cons a10 ha => cases ha with | cons a11 ha =>
    exact ⟨p10, _, _, rfl, h11, ⟨p7, _, _, rfl, h7, ⟨p2, _, _, rfl, h2, a0, ⟨p1, _, _, _, rfl, h1, a1, a2, a3⟩⟩, ⟨p4, _, _, rfl, h4, a4, ⟨p3, _, _, rfl, h3, a5, a6⟩⟩⟩, ⟨p11, _, _, rfl, h10, ⟨p6, _, rfl, h6, ⟨p5, _, _, rfl, h5, a7, a8⟩⟩, ⟨p9, _, _, rfl, h9, a9, ⟨p8, _, _, rfl, h8, a10, a11⟩⟩⟩⟩
  have g := fun i (hi : i < [t0, t1, t2, t3, t4, t5, t6, t7, t8, t9, t10, t11].length) => hg _ (List.getElem_mem hi)
  refine ⟨_, key, key H v h ha, ⟨⟨⟨(g 0 (by simp)).1, (g 1 (by simp)).1, (g 2 (by simp)).1, (g 3 (by simp)).1⟩, by decide +kernel, (g 4 (by simp)).1, (g 5 (by simp)).1, (g 6 (by simp)).1⟩, ⟨by decide +kernel, (g 7 (by simp)).1, (g 8 (by simp)).1⟩, by decide +kernel, (g 9 (by simp)).1, (g 10 (by simp)).1, (g 11 (by simp)).1⟩, ?_⟩
  have z0 := (g 0 (by simp)).2; have z1 := (g 1 (by simp)).2; have z2 := (g 2 (by simp)).2; have z3 := (g 3 (by simp)).2; have z4 := (g 4 (by simp)).2; have z5 := (g 5 (by simp)).2
  have z6 := (g 6 (by simp)).2; have z7 := (g 7 (by simp)).2; have z8 := (g 8 (by simp)).2; have z9 := (g 9 (by simp)).2; have z10 := (g 10 (by simp)).2; have z11 := (g 11 (by simp)).2
  simp only [List.getElem_cons_zero, List.getElem_cons_succ] at z0 z1 z2 z3 z4 z5 z6 z7 z8 z9 z10 z11
  simp only [wholeT, Tr.size]
  omega
theorem whole_wks {H : Hp} {us : List V} {v : V} (h : Whole H us v) {i : Nat} (hi : i < 12) (hu : ∀ j u, us[j]? = some u → W1 H u (decide (j = i))) : W1 H v true := by
  obtain ⟨u0, u1, u2, u3, u4, u5, u6, u7, u8, u9, u10, u11, p1, p2, p3, p4, p5, p6, p7, p8, p9, p10, rfl, rfl, h1, h2, h3, h4, h5, h6, h7, h8, h9, p11, h10, h11⟩ := h.ex
  obtain ⟨n0, a0⟩ := hu 0 u0 rfl
  obtain ⟨n1, a1⟩ := hu 1 u1 rfl
  obtain ⟨n2, a2⟩ := hu 2 u2 rfl
  obtain ⟨n3, a3⟩ := hu 3 u3 rfl
  obtain ⟨n4, a4⟩ := hu 4 u4 rfl
  obtain ⟨n5, a5⟩ := hu 5 u5 rfl
  obtain ⟨n6, a6⟩ := hu 6 u6 rfl
  obtain ⟨n7, a7⟩ := hu 7 u7 rfl
  obtain ⟨n8, a8⟩ := hu 8 u8 rfl
  obtain ⟨n9, a9⟩ := hu 9 u9 rfl
  obtain ⟨n10, a10⟩ := hu 10 u10 rfl
  obtain ⟨n11, a11⟩ := hu 11 u11 rfl
  have e : ∀ v : V, v ∈ ([] : List V) → OwnV v := fun v hv => by cases hv
  have w1 := nodeW .ite [] [u1, u2, u3] h1 rfl rfl e (by simp) (wks3 a1 a2 a3)
  have w2 := nodeW .plus [] [u0, .ref p1] h2 rfl rfl e (by simp) (wks2 a0 w1)
  have w3 := nodeW .call [] [u5, u6] h3 rfl rfl e (by simp) (wks2 a5 a6)
  have w4 := nodeW .lt [.str "abcdefgh"] [u4, .ref p3] h4 rfl (by kernel_rfl) (name_own (by decide +kernel)) (by simp) (wks2 a4 w3)
  have w5 := nodeW .less [] [u7, u8] h5 rfl rfl e (by simp) (wks2 a7 a8)
  have w6 := nodeW .fn [.str "z"] [.ref p5] h6 rfl (by kernel_rfl) (name_own (by decide +kernel)) (by simp) w5
  have w7 := nodeW .plus [] [.ref p2, .ref p4] h7 rfl rfl e (by simp) (wks2 w2 w4)
  have w8 := nodeW .plus [] [u10, u11] h8 rfl rfl e (by simp) (wks2 a10 a11)
  have w9 := nodeW .lt [.str "fu"] [u9, .ref p8] h9 rfl (by kernel_rfl) (name_own (by decide +kernel)) (by simp) (wks2 a9 w8)
  have w10 := nodeW .call [] [.ref p6, .ref p9] h10 rfl rfl e (by simp) (wks2 w6 w9)
  have w11 := nodeW .plus [] [.ref p7, .ref p11] h11 rfl rfl e (by simp) (wks2 w7 w10)
  have z : ∀ {m : Nat} {b : Bool}, Wks H [.ref p10] m b → b = true → W1 H (.ref p10) true := fun {m b} h e => ⟨m, e ▸ h⟩
  refine z w11 ?_
  have : i = 0 ∨ i = 1 ∨ i = 2 ∨ i = 3 ∨ i = 4 ∨ i = 5 ∨ i = 6 ∨ i = 7 ∨ i = 8 ∨ i = 9 ∨ i = 10 ∨ i = 11 := by omega
  rcases this with rfl | rfl | rfl | rfl | rfl | rfl | rfl | rfl | rfl | rfl | rfl | rfl <;> rfl
theorem zTy_lst {H : Hp} {l : Addr} {xs ys : List V} (h : H l = some (.lst xs)) (v : V) : zTyV v (upd H l (.lst ys)) = zTyV v H := by
  cases v with
  | ref p =>
    show (match upd H l (.lst ys) p with | some (.lst _) => some "list" | some (.tup _) => some "tuple" | _ => none) = (match H p with | some (.lst _) => some "list" | some (.tup _) => some "tuple" | _ => none)
    by_cases e : p = l
    · subst e
      rw [upd_same, h]
    · rw [upd_ne e]
  | _ => rfl
theorem upd_tup {H : Hp} {l a : Addr} {ys zs : List V} (h : upd H l (.lst ys) a = some (.tup zs)) : H a = some (.tup zs) := by
  by_cases e : a = l
  · subst e
    rw [upd_same] at h
    cases h
  · rw [upd_ne e] at h
    exact h
theorem bad_lst {H : Hp} {l : Addr} {xs ys : List V} (h : H l = some (.lst xs)) {v : V} (b : Bad H v) : Bad (upd H l (.lst ys)) v where
  kn := ⟨by unfold Kd; rw [zTy_lst h]; exact b.kn.1, fun a zs e ha => by
    obtain ⟨h1, h2⟩ := b.kn.2 a zs e (upd_tup ha)
    exact ⟨h1, fun x hx => by unfold Kd; rw [zTy_lst h]; exact h2 x hx⟩⟩
  st := b.st
  sts := fun a zs x e ha => b.sts a zs x e (upd_tup ha)
  no := by
    cases v with
    | ref a =>
      show (match upd H l (.lst ys) a with | some (.tup xs) => nodeC xs | _ => false) = false
      by_cases e : a = l
      · subst e
        rw [upd_same]
      · rw [upd_ne e]
        exact b.no
    | _ => rfl
def spLaw (K : PySem.W.Frag) : Sp := fun vs H Q _ => ∃ (a : Addr) (ns : List Int), vs = [.ref a] ∧ SqL K H a (ns.map V.int) ∧ ns.length ≤ 63 ∧ ∀ H', Q (.bl true) H'
section
variable {P : Program} {w : World} {K : PySem.W.Frag} {mg : Str → Option Value} {base : Heap} {aL aS cM cN : Addr}
theorem df_law {fa : Addr} {fd : FuncData} (T : Txt K w mg aL aS cM cN) (F : Fun K "law" "law" s_law fa fd) (D__law_cell_at : Df P w K mg base 1 "_law_cell_at" ["_law_script", "_law_k"] (spCellA K))
    (D_need_tree : DfX P w K mg base 3 "need_tree" ["tree"] (spNeed cN)) (D__law_refused : Df P w K mg base 4 "_law_refused" ["_law_tree"] spRef) (D__law_deep : Df P w K mg base 1 "_law_deep" ["_law_many"] (spMade fun n => 1 ≤ n ∧ n ≤ 1000))
    (D__law_wide : Df P w K mg base 2 "_law_wide" ["_law_many"] (spMade fun n => 1 ≤ n ∧ n ≤ 1000)) (D__law_same : Df P w K mg base 1 "_law_same" ["_law_one", "_law_other"] spSame) (D__law_fine : Df P w K mg base 1 "_law_fine" ["_law_cell"] spFine)
    (D__law_whole : Df P w K mg base 1 "_law_whole" ["_law_things"] (spWhole K)) (D__law_odd : Df P w K mg base 1 "_law_odd" ["_law_cell"] spOdd) : FnOk P w K mg base CX0 5 fa fd ["_law_script"] (spLaw K) := by
  refine F.ok sc_law (fun vs H Q E h => ?_) (fun cdv A outer s H vs Q E hr h => ?_)
  · obtain ⟨_, _, rfl, _⟩ := h; rfl
  obtain ⟨a, ns, rfl, ha, hns, q⟩ := h
  have nd := sc_law.nd
  refine ⟨_, (pss_cons (ps_set (i := 1) nd rfl (Or.inl rfl) (pe_op op_mod (pe_callD D__law_cell_at hr (by decide) rfl (pa_cons (pv 0) (pa_cons pe_int pa_nil))) pe_int))
  (pss_cons (ps_if (pt_cmpR op_eq (pv 1) pe_int (nomark _))
    (pss_cons (ps_set (i := 2) nd rfl (Or.inl rfl) (pe_op op_add pe_int (pe_op op_mod (pe_callD D__law_cell_at hr (by decide) rfl (pa_cons (pv 0) (pa_cons pe_int pa_nil))) pe_int)))
      (pss_cons (ps_set (i := 3) nd rfl (Or.inl rfl) (pe_ix ix_list (pe_lst (pa_cons (pe_callD D__law_deep hr (by decide) rfl (pa_cons (pv 2) pa_nil)) (pa_cons (pe_callD D__law_wide hr (by decide) rfl (pa_cons (pv 2) pa_nil)) pa_nil))) (pe_op op_mod (pe_op op_fdiv (pe_callD D__law_cell_at hr (by decide) rfl (pa_cons (pv 0) (pa_cons pe_int pa_nil))) pe_int) pe_int) (fun _ _ => rfl)))
      (pss_cons (ps_if (pt_cmpR op_gt (pv 2) pe_int (nomark _))
        (pss_one (ps_ret (pe_callD D__law_refused hr (by decide) rfl (pa_cons (pv 3) pa_nil))))
        pss_nil)
      (pss_one (ps_ret (pe_callD D__law_same hr (by decide) rfl (pa_cons (pv 3) (pa_cons (pe_callX D_need_tree hr (by decide) rfl (pa_cons (pv 3) pa_nil)) pa_nil))))))))
    pss_nil)
  (pss_cons (ps_setLc (i := 4) (own := [("_law_k", 7)]) (g := gName 7) rfl nd rfl rfl (sw_true rfl rfl rfl (by decide +kernel)) (pi_range1 rfl T.range (pa_cons pe_int pa_nil)) (blkOk_by (N := N_law) (sc := defScope s_law) (by decide +kernel)) (fun _ _ _ _ _ => (pg_name (i := 7) nd rfl (Or.inl rfl))) (fun _ _ _ _ _ => pts_nil) (fun _ _ _ _ _ => (pe_callD D__law_fine hr (by decide) rfl (pa_cons (pe_op op_add (pe_callD D__law_cell_at hr (by decide) rfl (pa_cons (pv 0) (pa_cons (pe_op op_add pe_int (pv 7)) pa_nil))) (pv 7)) pa_nil))))
  (pss_cons (ps_if (pt_cmpR op_eq (pv 1) pe_int (nomark _))
    (pss_cons (ps_set (i := 5) nd rfl (Or.inl rfl) (pe_callX D_need_tree hr (by decide) rfl (pa_cons (pe_callD D__law_whole hr (by decide) rfl (pa_cons (pv 4) pa_nil)) pa_nil)))
      (pss_one (ps_ret (pe_and (pe_callB call_isi (by rfl) T.isinstance (by decide +kernel) (pa_cons (pv 5) (pa_cons (pe_bltn (v := .ty "tuple") (by rfl) T.tuple (by decide +kernel) rfl) pa_nil))) (pe_one (pe_cmpR (op_eqD hr.units) (pv 5) (pe_callD D__law_whole hr (by decide) rfl (pa_cons (pv 4) pa_nil)) (nomark _)))))))
    pss_nil)
  (pss_cons (ps_set (i := 6) nd rfl (Or.inl rfl) (pe_callD D__law_odd hr (by decide) rfl (pa_cons (pe_callD D__law_cell_at hr (by decide) rfl (pa_cons (pv 0) (pa_cons pe_int pa_nil))) pa_nil)))
  (pss_cons (ps_if (pt_cmpR op_eq (pv 1) pe_int (nomark _))
    (pss_one (ps_ret (pe_callD D__law_refused hr (by decide) rfl (pa_cons (pv 6) pa_nil))))
    pss_nil)
  (pss_cons (ps_asg (pv 6) (pg_sub (pv 4) (pe_op op_mod (pe_callD D__law_cell_at hr (by decide) rfl (pa_cons (pv 0) (pa_cons pe_int pa_nil))) pe_int) set_list))
  (pss_one (ps_ret (pe_callD D__law_refused hr (by decide) rfl (pa_cons (pe_callD D__law_whole hr (by decide) rfl (pa_cons (pv 4) pa_nil)) pa_nil))))))))))), ?_⟩
  rw [st_law]
  refine seq_ fun R hR => ?_
  walk_at "rd"
  refine ⟨a, ns, 0, rfl, ha, _, rfl, by decide, ?_⟩
  rw [hR]; clear hR
  refine ifq_ fun R A B hR hA hB => ?_
  walk_at "rd"
  by_cases hw0 : cell ns 0 % 8 = 0
  · rw [if_pos hw0, hA]
    clear hA hB hR
    refine seq_ fun R hR => ?_
    walk_at "rd"
    refine ⟨a, ns, 1, rfl, ha, _, rfl, by decide, ?_⟩
    have hm1 : 395 ≤ 395 + cell ns 1 % 10 := by omega
    have hm2 : 395 + cell ns 1 % 10 ≤ 404 := by omega
    generalize 395 + cell ns 1 % 10 = m at hm1 hm2
    rw [hR]; clear hR
    refine seq_ fun R hR => ?_
    walk_at "rd"
    refine ⟨m, rfl, ⟨by omega, by omega⟩, fun t1 v1 H1 e1 a1 g1 z1 => ?_⟩
    refine ⟨m, rfl, ⟨by omega, by omega⟩, fun t2 v2 H2 e2 a2 g2 z2 => ?_⟩
    walk_at "rd"
    refine new_ fun p H3 hp e3 h3 => ⟨a, ns, 1, rfl, (e1.trans (e2.trans e3)).seq ha, ?_⟩
    refine ⟨_, rfl, by decide, by decide, by decide, _, SqL.of h3, ?_⟩
    obtain ⟨t, v, hat, at', gt, zt⟩ : ∃ (t : Tr) (v : V), atI [v1, v2] (cell ns 1 / 10 % 2) = some v ∧ At H3 t v ∧ Good t ∧ (t.size : Int) = m := by
      obtain ⟨j, hj⟩ : ∃ j : Nat, cell ns 1 / 10 % 2 = (j : Int) := ⟨(cell ns 1 / 10 % 2).toNat, by omega⟩
      have hj2 : j < 2 := by omega
      rw [hj]
      match j, hj2 with
      | 0, _ => exact ⟨t1, v1, at0 _ _, a1.mono (same_kt (e2.trans e3)), g1, z1⟩
      | 1, _ => exact ⟨t2, v2, at1 _ _ _, a2.mono (same_kt e3), g2, z2⟩
    refine ⟨v, hat, ?_⟩
    rw [hR]; clear hR
    refine seq_ fun R hR => ?_
    walk_at "rd"
    have hwk := wks_of at' gt
    by_cases h4 : 400 < m
    · rw [if_pos h4]
      exact ⟨v, _, _, rfl, hwk, .inl (by omega), fun H' _ => q H'⟩
    · rw [if_neg h4, hR]
      clear hR
      walk_at "rd"
      refine ⟨v, _, _, rfl, hwk, fun _ _ H4 e4 => ?_, fun h => ?_⟩
      · exact ⟨t, v, rfl, at'.mono (same_kt e4), by omega, fun H' _ => q H'⟩
      · rcases h with h | h
        · omega
        · cases h
  · rw [if_neg hw0, hB]
    clear hA hB
    walk_at "rd"
    rw [hR]; clear hR
    refine seq_ fun R hR => ?_
    walk_at "rd"
    refine ⟨by decide, by decide, lcR (fun i acc H' => ∃ ts : List Tr, Ats H' ts acc ∧ (∀ t ∈ ts, Good t ∧ t.size ≤ 3) ∧ ts.length = i) (fun i acc H H' k ⟨ts, h1, h2, h3⟩ => ⟨ts, h1.mono k, h2, h3⟩) (by decide) (fun _ => rfl)
      ⟨[], .nil, (by intro t ht; cases ht), rfl⟩ ?_ ?_⟩
    · rintro i acc H1 hi hal e1 ⟨ts, g1, g2, g3⟩ Qy hy Qn hn
      walk_at "rd"
      refine ⟨a, ns, 3 + i, by simp, e1.seq ha, ?_⟩
      refine ⟨_, rfl, _, rfl, fun t v H2 e2 ht hg hz => hy _ _ e2 ⟨ts ++ [t], Ats.append (g1.mono (same_kt e2)) (.cons ht .nil), fun t' ht' => ?_, by simp [g3]⟩⟩
      rcases List.mem_append.mp ht' with ht' | ht'
      · exact g2 t' ht'
      · rw [List.mem_singleton.mp ht']; exact ⟨hg, hz⟩
    intro l us H1 hl e1 h1 ⟨ts, g1, g2, g3⟩
    have hul : us.length = 12 := by rw [← pr_len g1, g3]; rfl
    rw [hR]; clear hR
    refine seq_ fun R hR => ?_
    walk_at "rd"
    by_cases hw1 : cell ns 0 % 8 = 1
    · rw [if_pos hw1]
      clear hR
      refine seq_ fun R hR => ?_
      walk_at "rd"
      refine ⟨l, us, rfl, SqL.of h1, hul, fun v H2 e2 hwh => ?_⟩
      obtain ⟨t, key, ht, hgt, hzt⟩ := whole_at hwh (g1.mono (same_kt e2)) g2
      refine ⟨v, _, _, rfl, wks_of ht hgt, fun _ _ H3 e3 => ?_, fun h => ?_⟩
      · rw [hR]; clear hR
        walk_at "rd"
        have ht3 := ht.mono (same_kt e3)
        obtain ⟨p, ws, rfl, hp, _⟩ := ht3.view
        refine isi_ (isi_tt hp) ?_
        rw [if_pos rfl]
        refine ⟨l, us, rfl, SqL.of (e3 _ _ (e2 _ _ h1)), hul, fun v' H4 e4 hwh' => ?_⟩
        have ht4 := key H4 v' hwh' ((g1.mono (same_kt e2)).mono (same_kt (e3.trans e4)))
        have lay := lay_of hgt
        have dep := depth_of t
        have shp : SeqAt.shaped (dataOf t) = true := by
          unfold SeqAt.shaped
          rw [lay, decide_eq_true (by omega)]
          rfl
        have eqv : PyData.eqv (dataOf t) (dataOf t) = true := SeqAt.eqv_refl _ lay
        exact ⟨dataOf t, dataOf t, dp_of (ht3.mono (same_kt e4)), dp_of ht4, shp, shp, by rw [eqv]; exact q _⟩
      · rcases h with h | h
        · omega
        · cases h
    · rw [if_neg hw1, hR]
      clear hR
      refine seq_ fun R hR => ?_
      walk_at "rd"
      refine ⟨a, ns, 1, rfl, e1.seq ha, ?_⟩
      refine ⟨_, rfl, fun o H2 e2 ho => ?_⟩
      have hwo : Wks H2 [o] 1 true := .odd ho .nil
      rw [hR]; clear hR
      refine seq_ fun R hR => ?_
      walk_at "rd"
      by_cases hw2 : cell ns 0 % 8 = 2
      · rw [if_pos hw2]
        exact ⟨o, _, _, rfl, hwo, .inr rfl, fun H' _ => q H'⟩
      · rw [if_neg hw2, hR]
        clear hR
        refine seq_ fun R hR => ?_
        walk_at "rd"
        obtain ⟨i, hi⟩ : ∃ i : Nat, cell ns 2 % 12 = (i : Int) := ⟨(cell ns 2 % 12).toNat, by omega⟩
        have hi12 : i < 12 := by omega
        have hix : ixN us.length (cell ns 2 % 12) = some i := by
          rw [hi]
          unfold ixN
          rw [if_pos (by omega), if_pos (by omega), Int.toNat_natCast]
        have h2 := e2 _ _ h1
        refine ⟨a, ns, 2, rfl, (e1.trans e2).seq ha, _, rfl, by decide, us, h2, i, hix, ?_⟩
        have k3 := kt_lst (o := .lst (us.set i o)) h2
        have h3 : upd H2 l (.lst (us.set i o)) l = some (.lst (us.set i o)) := upd_same
        have ho3 := bad_lst (ys := us.set i o) h2 ho
        have g3' : Ats (upd H2 l (.lst (us.set i o))) ts us := (g1.mono (same_kt e2)).mono k3
        generalize upd H2 l (.lst (us.set i o)) = H3 at h3 ho3 g3' k3
        rw [hR]; clear hR
        walk_at "rd"
        refine ⟨l, _, rfl, SqL.of h3, by rw [List.length_set]; exact hul, fun v H4 e4 hwh => ?_⟩
        have hz : ∀ j u, (us.set i o)[j]? = some u → W1 H4 u (decide (j = i)) := by
          intro j u hu
          rw [List.getElem?_set] at hu
          by_cases hji : i = j
          · subst hji
            rw [if_pos rfl, if_pos (by omega)] at hu
            cases hu
            rw [decide_eq_true rfl]
            exact ⟨_, .odd (ho3.same e4) .nil⟩
          · rw [if_neg hji] at hu
            rw [decide_eq_false (fun e => hji e.symm)]
            obtain ⟨t, ht1, ht2⟩ := pr_right g3' hu
            have hm := List.mem_of_getElem? ht1
            exact ⟨_, wks_of (ht2.mono (same_kt e4)) (g2 t hm).1⟩
        obtain ⟨n, hwk⟩ := whole_wks hwh hi12 hz
        exact ⟨v, n, true, rfl, hwk, .inr rfl, fun H' _ => q H'⟩
end
end K02

namespace K02
open PySem L2 My
theorem all_mk {l : PySem.W.OpenLaw} {w : World} {K : PySem.W.Frag} {h : Heap} {mg : Str → Option Value} {fa aS aL cM cN : Addr} (X : K.In h) (G : h.Ns mainGlobals mg) (hfa : mg "law" = some (.ref fa))
    {es fs : Array DictEntry} {en fn : Nat} {t0 t1 t2 t3 u0 u1 u2 u3 u4 u5 u6 u7 v0 v1 v2 v3 v4 v5 v6 v7 : Tok}
    (gS : PySem.W.nsIn K mainGlobals "STARTS" = some (some (.ref aS))) (lS : K.lookup aS = some ⟨.type "dict", none, .dict es en, #[]⟩) (kS : PySem.W.KeysLit w.params es.toList)
    (gL : PySem.W.nsIn K mainGlobals "LENGTHS" = some (some (.ref aL))) (lL : K.lookup aL = some ⟨.type "dict", none, .dict fs fn, #[]⟩) (kL : PySem.W.KeysLit w.params fs.toList)
    (s0 : PySem.W.nsIn K aS "num" = some (some (.int 2 u0))) (m0 : PySem.W.nsIn K aL "num" = some (some (.int 2 v0)))
    (s1 : PySem.W.nsIn K aS "name" = some (some (.int 2 u1))) (m1 : PySem.W.nsIn K aL "name" = some (some (.int 2 v1)))
    (s2 : PySem.W.nsIn K aS "fun" = some (some (.int 2 u2))) (m2 : PySem.W.nsIn K aL "fun" = some (some (.int 3 v2)))
    (s3 : PySem.W.nsIn K aS "call" = some (some (.int 1 u3))) (m3 : PySem.W.nsIn K aL "call" = some (some (.int 3 v3)))
    (s4 : PySem.W.nsIn K aS "plus" = some (some (.int 1 u4))) (m4 : PySem.W.nsIn K aL "plus" = some (some (.int 3 v4)))
    (s5 : PySem.W.nsIn K aS "less" = some (some (.int 1 u5))) (m5 : PySem.W.nsIn K aL "less" = some (some (.int 3 v5)))
    (s6 : PySem.W.nsIn K aS "if" = some (some (.int 1 u6))) (m6 : PySem.W.nsIn K aL "if" = some (some (.int 4 v6)))
    (s7 : PySem.W.nsIn K aS "let" = some (some (.int 2 u7))) (m7 : PySem.W.nsIn K aL "let" = some (some (.int 4 v7)))
    (hk : fs.toList.all (fun e => match e.key with | .str z _ => wordsL.contains z | _ => false) = true)
    (g0 : PySem.W.nsIn K mainGlobals "MOST_NODES" = some (some (.int 400 t0))) (g1 : PySem.W.nsIn K mainGlobals "MOST_SIGNS" = some (some (.int 8 t1))) (g2 : PySem.W.nsIn K mainGlobals "TOO_GREAT" = some (some (.int 1000000000000000000000000000000000000000000000000000000000000 t2))) (g3 : PySem.W.nsIn K mainGlobals "SIGNS" = some (some (.str "abcdefghijklmnopqrstuvwxyz" t3))) (low : (aL == sysModules) = false)
    (z0 : PySem.W.nsIn K mainGlobals "len" = some none)
    (z1 : PySem.W.nsIn K mainGlobals "list" = some none)
    (z2 : PySem.W.nsIn K mainGlobals "range" = some none)
    (z3 : PySem.W.nsIn K mainGlobals "isinstance" = some none)
    (z4 : PySem.W.nsIn K mainGlobals "type" = some none)
    (z5 : PySem.W.nsIn K mainGlobals "all" = some none)
    (z6 : PySem.W.nsIn K mainGlobals "str" = some none)
    (z7 : PySem.W.nsIn K mainGlobals "int" = some none)
    (z8 : PySem.W.nsIn K mainGlobals "bool" = some none)
    (z9 : PySem.W.nsIn K mainGlobals "tuple" = some none)
    (z10 : PySem.W.nsIn K mainGlobals "ValueError" = some none)
    (nM : PySem.W.nsIn K mainGlobals "MillError" = some (some (.ref cM)))
    (nN : PySem.W.nsIn K mainGlobals "NoTree" = some (some (.ref cN)))
    (kN : PySem.W.keepIn K (.ref cN) = true)
    (xN : PySem.W.excIn K cN [.type "ValueError", .type "Exception", .type "BaseException", .type "object"] "ValueError.__new__" = true)
    (eN : PySem.W.subIn K (.ref cN) (.type "BaseException") = some true)
    (tN : PySem.W.typeIn K (.ref cN) = some (.type "type"))
    (pN : PySem.W.subIn K (.ref cN) (.ref cN) = some true)
    (dN : PySem.W.hasDictIn K cN = true)
    (y1 : PySem.W.findIn K (.ref cN) "__getattribute__" = some (some (.builtin "BaseException.__getattribute__")))
    (y2 : PySem.W.findIn K (.ref cN) "__getattr__" = some none)
    (y3 : PySem.W.findIn K (.ref cN) "__class__" = some (some (.builtin "object.__class__")))
    (y4 : PySem.W.specialIn K (.builtin "object.__class__") "__get__" = some (some (.builtin "getset_descriptor.__get__")))
    (y5 : PySem.W.takesIn K (.builtin "object.__class__") = some true)
    (y6 : PySem.W.mroIn K cN (.type "object") = some true)
    (iM : PySem.W.isClsIn K cM = true)
    (tM : PySem.W.typeIn K (.ref cM) = some (.type "type"))
    (sM : PySem.W.subIn K (.ref cN) (.ref cM) = some true)
    (sV : PySem.W.subIn K (.ref cN) (.type "ValueError") = some true)
    {od0 an0 : Option Addr} {sl0 : Array (Option Value)} {oc0 kV0 dc0 pm0 cd0 ct0 : Value} {f0 : Addr}
    {od1 an1 : Option Addr} {sl1 : Array (Option Value)} {oc1 kV1 dc1 pm1 cd1 ct1 : Value} {f1 : Addr}
    {od2 an2 : Option Addr} {sl2 : Array (Option Value)} {oc2 kV2 dc2 pm2 cd2 ct2 : Value} {f2 : Addr}
    {od3 an3 : Option Addr} {sl3 : Array (Option Value)} {oc3 kV3 dc3 pm3 cd3 ct3 : Value} {f3 : Addr}
    {od4 an4 : Option Addr} {sl4 : Array (Option Value)} {oc4 kV4 dc4 pm4 cd4 ct4 : Value} {f4 : Addr}
    {od5 an5 : Option Addr} {sl5 : Array (Option Value)} {oc5 kV5 dc5 pm5 cd5 ct5 : Value} {f5 : Addr}
    {od6 an6 : Option Addr} {sl6 : Array (Option Value)} {oc6 kV6 dc6 pm6 cd6 ct6 : Value} {f6 : Addr}
    {od7 an7 : Option Addr} {sl7 : Array (Option Value)} {oc7 kV7 dc7 pm7 cd7 ct7 : Value} {f7 : Addr}
    {od8 an8 : Option Addr} {sl8 : Array (Option Value)} {oc8 kV8 dc8 pm8 cd8 ct8 : Value} {f8 : Addr}
    {od9 an9 : Option Addr} {sl9 : Array (Option Value)} {oc9 kV9 dc9 pm9 cd9 ct9 : Value} {f9 : Addr}
    {od10 an10 : Option Addr} {sl10 : Array (Option Value)} {oc10 kV10 dc10 pm10 cd10 ct10 : Value} {f10 : Addr}
    {od11 an11 : Option Addr} {sl11 : Array (Option Value)} {oc11 kV11 dc11 pm11 cd11 ct11 : Value} {f11 : Addr}
    {od12 an12 : Option Addr} {sl12 : Array (Option Value)} {oc12 kV12 dc12 pm12 cd12 ct12 : Value} {f12 : Addr}
    {od13 an13 : Option Addr} {sl13 : Array (Option Value)} {oc13 kV13 dc13 pm13 cd13 ct13 : Value} {f13 : Addr}
    {od14 an14 : Option Addr} {sl14 : Array (Option Value)} {oc14 kV14 dc14 pm14 cd14 ct14 : Value} {f14 : Addr}
    (a0 : PySem.W.nsIn K mainGlobals "need_tree" = some (some (.ref f0))) (l0 : K.lookup f0 = some ⟨oc0, od0, .func (PySem.W.fnOf "need_tree" "need_tree" (defArgs s_need_tree) (defBody s_need_tree) (defScope s_need_tree) .none kV0 dc0 pm0 an0 cd0 ct0), sl0⟩) (c0 : PySem.W.codeIn K cd0 "need_tree" = true) (k0 : PySem.W.keepIn K (.ref f0) = true)
    (a1 : PySem.W.nsIn K mainGlobals "parts" = some (some (.ref f1))) (l1 : K.lookup f1 = some ⟨oc1, od1, .func (PySem.W.fnOf "parts" "parts" (defArgs s_parts) (defBody s_parts) (defScope s_parts) .none kV1 dc1 pm1 an1 cd1 ct1), sl1⟩) (c1 : PySem.W.codeIn K cd1 "parts" = true) (k1 : PySem.W.keepIn K (.ref f1) = true)
    (a2 : PySem.W.nsIn K mainGlobals "_is_node" = some (some (.ref f2))) (l2 : K.lookup f2 = some ⟨oc2, od2, .func (PySem.W.fnOf "_is_node" "_is_node" (defArgs s__is_node) (defBody s__is_node) (defScope s__is_node) .none kV2 dc2 pm2 an2 cd2 ct2), sl2⟩) (c2 : PySem.W.codeIn K cd2 "_is_node" = true) (k2 : PySem.W.keepIn K (.ref f2) = true)
    (a3 : PySem.W.nsIn K mainGlobals "_is_number" = some (some (.ref f3))) (l3 : K.lookup f3 = some ⟨oc3, od3, .func (PySem.W.fnOf "_is_number" "_is_number" (defArgs s__is_number) (defBody s__is_number) (defScope s__is_number) .none kV3 dc3 pm3 an3 cd3 ct3), sl3⟩) (c3 : PySem.W.codeIn K cd3 "_is_number" = true) (k3 : PySem.W.keepIn K (.ref f3) = true)
    (a4 : PySem.W.nsIn K mainGlobals "_is_name" = some (some (.ref f4))) (l4 : K.lookup f4 = some ⟨oc4, od4, .func (PySem.W.fnOf "_is_name" "_is_name" (defArgs s__is_name) (defBody s__is_name) (defScope s__is_name) .none kV4 dc4 pm4 an4 cd4 ct4), sl4⟩) (c4 : PySem.W.codeIn K cd4 "_is_name" = true) (k4 : PySem.W.keepIn K (.ref f4) = true)
    (a5 : PySem.W.nsIn K mainGlobals "_law_cell_at" = some (some (.ref f5))) (l5 : K.lookup f5 = some ⟨oc5, od5, .func (PySem.W.fnOf "_law_cell_at" "_law_cell_at" (defArgs s__law_cell_at) (defBody s__law_cell_at) (defScope s__law_cell_at) .none kV5 dc5 pm5 an5 cd5 ct5), sl5⟩) (c5 : PySem.W.codeIn K cd5 "_law_cell_at" = true) (k5 : PySem.W.keepIn K (.ref f5) = true)
    (a6 : PySem.W.nsIn K mainGlobals "_law_odd" = some (some (.ref f6))) (l6 : K.lookup f6 = some ⟨oc6, od6, .func (PySem.W.fnOf "_law_odd" "_law_odd" (defArgs s__law_odd) (defBody s__law_odd) (defScope s__law_odd) .none kV6 dc6 pm6 an6 cd6 ct6), sl6⟩) (c6 : PySem.W.codeIn K cd6 "_law_odd" = true) (k6 : PySem.W.keepIn K (.ref f6) = true)
    (a7 : PySem.W.nsIn K mainGlobals "_law_fine" = some (some (.ref f7))) (l7 : K.lookup f7 = some ⟨oc7, od7, .func (PySem.W.fnOf "_law_fine" "_law_fine" (defArgs s__law_fine) (defBody s__law_fine) (defScope s__law_fine) .none kV7 dc7 pm7 an7 cd7 ct7), sl7⟩) (c7 : PySem.W.codeIn K cd7 "_law_fine" = true) (k7 : PySem.W.keepIn K (.ref f7) = true)
    (a8 : PySem.W.nsIn K mainGlobals "_law_whole" = some (some (.ref f8))) (l8 : K.lookup f8 = some ⟨oc8, od8, .func (PySem.W.fnOf "_law_whole" "_law_whole" (defArgs s__law_whole) (defBody s__law_whole) (defScope s__law_whole) .none kV8 dc8 pm8 an8 cd8 ct8), sl8⟩) (c8 : PySem.W.codeIn K cd8 "_law_whole" = true) (k8 : PySem.W.keepIn K (.ref f8) = true)
    (a9 : PySem.W.nsIn K mainGlobals "_law_refused" = some (some (.ref f9))) (l9 : K.lookup f9 = some ⟨oc9, od9, .func (PySem.W.fnOf "_law_refused" "_law_refused" (defArgs s__law_refused) (defBody s__law_refused) (defScope s__law_refused) .none kV9 dc9 pm9 an9 cd9 ct9), sl9⟩) (c9 : PySem.W.codeIn K cd9 "_law_refused" = true) (k9 : PySem.W.keepIn K (.ref f9) = true)
    (a10 : PySem.W.nsIn K mainGlobals "_law_deep" = some (some (.ref f10))) (l10 : K.lookup f10 = some ⟨oc10, od10, .func (PySem.W.fnOf "_law_deep" "_law_deep" (defArgs s__law_deep) (defBody s__law_deep) (defScope s__law_deep) .none kV10 dc10 pm10 an10 cd10 ct10), sl10⟩) (c10 : PySem.W.codeIn K cd10 "_law_deep" = true) (k10 : PySem.W.keepIn K (.ref f10) = true)
    (a11 : PySem.W.nsIn K mainGlobals "_law_two" = some (some (.ref f11))) (l11 : K.lookup f11 = some ⟨oc11, od11, .func (PySem.W.fnOf "_law_two" "_law_two" (defArgs s__law_two) (defBody s__law_two) (defScope s__law_two) .none kV11 dc11 pm11 an11 cd11 ct11), sl11⟩) (c11 : PySem.W.codeIn K cd11 "_law_two" = true) (k11 : PySem.W.keepIn K (.ref f11) = true)
    (a12 : PySem.W.nsIn K mainGlobals "_law_wide" = some (some (.ref f12))) (l12 : K.lookup f12 = some ⟨oc12, od12, .func (PySem.W.fnOf "_law_wide" "_law_wide" (defArgs s__law_wide) (defBody s__law_wide) (defScope s__law_wide) .none kV12 dc12 pm12 an12 cd12 ct12), sl12⟩) (c12 : PySem.W.codeIn K cd12 "_law_wide" = true) (k12 : PySem.W.keepIn K (.ref f12) = true)
    (a13 : PySem.W.nsIn K mainGlobals "_law_same" = some (some (.ref f13))) (l13 : K.lookup f13 = some ⟨oc13, od13, .func (PySem.W.fnOf "_law_same" "_law_same" (defArgs s__law_same) (defBody s__law_same) (defScope s__law_same) .none kV13 dc13 pm13 an13 cd13 ct13), sl13⟩) (c13 : PySem.W.codeIn K cd13 "_law_same" = true) (k13 : PySem.W.keepIn K (.ref f13) = true)
    (a14 : PySem.W.nsIn K mainGlobals "law" = some (some (.ref f14))) (l14 : K.lookup f14 = some ⟨oc14, od14, .func (PySem.W.fnOf "law" "law" (defArgs s_law) (defBody s_law) (defScope s_law) .none kV14 dc14 pm14 an14 cd14 ct14), sl14⟩) (c14 : PySem.W.codeIn K cd14 "law" = true) (k14 : PySem.W.keepIn K (.ref f14) = true) :
    ∃ fd : FuncData, (∀ (s : Shared) (v : Value), BindsTo s fd ⟨[v], []⟩ [("_law_script", v)]) ∧ ∀ base : Heap, K.In base → base.Ns mainGlobals mg → FnOk l.prog w K mg base CX0 5 fa fd ["_law_script"] (spLaw K) := by
  have T : Txt K w mg aL aS cM cN := {
    MOST_NODES := ⟨_, PySem.W.mg_of X G g0⟩, MOST_SIGNS := ⟨_, PySem.W.mg_of X G g1⟩, TOO_GREAT := ⟨t2, by rw [show (10 ^ 60 : Int) = 1000000000000000000000000000000000000000000000000000000000000 by decide +kernel]; exact PySem.W.mg_of X G g2⟩, SIGNS := ⟨_, PySem.W.mg_of X G g3⟩, STARTS := PySem.W.mg_of X G gS, LENGTHS := PySem.W.mg_of X G gL,
    starts := fun t => by
      cases t
      · exact ⟨es, en, _, lS, kS, s0, ⟨_, rfl⟩⟩
      · exact ⟨es, en, _, lS, kS, s1, ⟨_, rfl⟩⟩
      · exact ⟨es, en, _, lS, kS, s2, ⟨_, rfl⟩⟩
      · exact ⟨es, en, _, lS, kS, s3, ⟨_, rfl⟩⟩
      · exact ⟨es, en, _, lS, kS, s4, ⟨_, rfl⟩⟩
      · exact ⟨es, en, _, lS, kS, s5, ⟨_, rfl⟩⟩
      · exact ⟨es, en, _, lS, kS, s6, ⟨_, rfl⟩⟩
      · exact ⟨es, en, _, lS, kS, s7, ⟨_, rfl⟩⟩
    lengths := fun t => by
      cases t
      · exact ⟨fs, fn, _, lL, kL, m0, ⟨_, rfl⟩⟩
      · exact ⟨fs, fn, _, lL, kL, m1, ⟨_, rfl⟩⟩
      · exact ⟨fs, fn, _, lL, kL, m2, ⟨_, rfl⟩⟩
      · exact ⟨fs, fn, _, lL, kL, m3, ⟨_, rfl⟩⟩
      · exact ⟨fs, fn, _, lL, kL, m4, ⟨_, rfl⟩⟩
      · exact ⟨fs, fn, _, lL, kL, m5, ⟨_, rfl⟩⟩
      · exact ⟨fs, fn, _, lL, kL, m6, ⟨_, rfl⟩⟩
      · exact ⟨fs, fn, _, lL, kL, m7, ⟨_, rfl⟩⟩
    nolen := fun x hx => nsIn_none lL hk (Wd.find_none hx)
    KLENGTHS := ⟨fs, fn, lL, kL, low⟩
    len := PySem.W.mg_none_of X G z0
    list := PySem.W.mg_none_of X G z1
    range := PySem.W.mg_none_of X G z2
    isinstance := PySem.W.mg_none_of X G z3
    type := PySem.W.mg_none_of X G z4
    all := PySem.W.mg_none_of X G z5
    str := PySem.W.mg_none_of X G z6
    int := PySem.W.mg_none_of X G z7
    bool := PySem.W.mg_none_of X G z8
    tuple := PySem.W.mg_none_of X G z9
    ValueError := PySem.W.mg_none_of X G z10
    cMillError := PySem.W.mg_of X G nM, cNoTree := PySem.W.mg_of X G nN, kNoTree := kN, inNoTree := xN, exNoTree := eN, tyNoTree := tN, meets := PySem.W.exm_ref eN dN tN pN
    exc := ⟨y1, y2, eN, dN, y3, y4, y5, y6⟩, isM := kit_own iM tM sM, isV := kit_blt (by decide +kernel) sV }
  have F_need_tree : FunAt K mg "need_tree" s_need_tree := FunAt.mk X G a0 l0 c0 k0
  have F_parts : FunAt K mg "parts" s_parts := FunAt.mk X G a1 l1 c1 k1
  have F__is_node : FunAt K mg "_is_node" s__is_node := FunAt.mk X G a2 l2 c2 k2
  have F__is_number : FunAt K mg "_is_number" s__is_number := FunAt.mk X G a3 l3 c3 k3
  have F__is_name : FunAt K mg "_is_name" s__is_name := FunAt.mk X G a4 l4 c4 k4
  have F__law_cell_at : FunAt K mg "_law_cell_at" s__law_cell_at := FunAt.mk X G a5 l5 c5 k5
  have F__law_odd : FunAt K mg "_law_odd" s__law_odd := FunAt.mk X G a6 l6 c6 k6
  have F__law_fine : FunAt K mg "_law_fine" s__law_fine := FunAt.mk X G a7 l7 c7 k7
  have F__law_whole : FunAt K mg "_law_whole" s__law_whole := FunAt.mk X G a8 l8 c8 k8
  have F__law_refused : FunAt K mg "_law_refused" s__law_refused := FunAt.mk X G a9 l9 c9 k9
  have F__law_deep : FunAt K mg "_law_deep" s__law_deep := FunAt.mk X G a10 l10 c10 k10
  have F__law_two : FunAt K mg "_law_two" s__law_two := FunAt.mk X G a11 l11 c11 k11
  have F__law_wide : FunAt K mg "_law_wide" s__law_wide := FunAt.mk X G a12 l12 c12 k12
  have F__law_same : FunAt K mg "_law_same" s__law_same := FunAt.mk X G a13 l13 c13 k13
  have F_law : FunAt K mg "law" s_law := FunAt.mk X G a14 l14 c14 k14
  suffices z : ∀ fd : FuncData, Fun K "law" "law" s_law fa fd → ∀ base : Heap, K.In base ∧ base.Ns mainGlobals mg → FnOk l.prog w K mg base CX0 5 fa fd ["_law_script"] (spLaw K) from by
    obtain ⟨fd, hb, hok⟩ := law_of (y := "_law_script") F_law hfa (fun kV doc pm an cdv ct v => rfl) z
    exact ⟨fd, hb, fun base a b => hok base ⟨a, b⟩⟩
  intro fd F base _
  have D1 := df_cell (P := l.prog) (base := base) T F__law_cell_at
  have D2 := df_parts (P := l.prog) (base := base) T F_parts
  have D3 := df_num (P := l.prog) (base := base) T F__is_number
  have D4 := df_isname (P := l.prog) (base := base) T F__is_name
  have D5 := df_isnode (P := l.prog) (base := base) T F__is_node D3 D4
  have D6 := df_need (P := l.prog) (base := base) T F_need_tree D2 D5
  have D7 := df_refused (P := l.prog) (base := base) T F__law_refused D6
  have D8 := df_deep (P := l.prog) (base := base) T F__law_deep
  have D9 := df_two (P := l.prog) (base := base) T F__law_two
  have D10 := df_wide (P := l.prog) (base := base) T F__law_wide D9
  have D11 := df_same (P := l.prog) (base := base) T F__law_same
  have D12 := df_fine (P := l.prog) (base := base) T F__law_fine
  have D13 := df_whole (P := l.prog) (base := base) T F__law_whole
  have D14 := df_odd (P := l.prog) (base := base) T F__law_odd
  exact df_law (P := l.prog) (base := base) T F D1 D6 D7 D8 D10 D11 D12 D13 D14
theorem walk {l : PySem.W.OpenLaw} {q : Program} {loose : List Str} {XP : (Str → Option Value) → Heap → Prop} {YP : World → Heap → Prop} {d : DefRec} {K : Params → PySem.W.Frag} (hn : l.most = some 63) (hdf : d.params.defaults = [])
    (hY : ∀ (w : World) (h : Heap), YP w h → (K w.params).In h)
    (F : ∀ (w : World) (mg : Str → Option Value) (fa : Addr) (h : Heap), (K w.params).In h → h.Ns mainGlobals mg → mg d.name = some (.ref fa) →
      ∃ fd : FuncData, (∀ (s : Shared) (u : Value), BindsTo s fd ⟨[u], []⟩ [("_law_script", u)]) ∧ ∀ base : Heap, (K w.params).In base → base.Ns mainGlobals mg → FnOk l.prog w (K w.params) mg base CX0 5 fa fd ["_law_script"] (spLaw (K w.params))) :
    PySem.W.WalkO q loose XP YP l.row.toRowW d [] (fun f vs => PySem.call f vs) :=
  L2.walk_of (n := 63) (k := 5) (x := "_law_script") (CX := fun _ => CX0) (sp := fun w => spLaw (K w.params)) hn (by decide) hdf ⟨rfl, by decide, by decide⟩ hY F (fun _ _ a ns hl _ hS => ⟨a, ns, rfl, hS, hl, fun _ => rfl⟩) fun _ _ _ _ _ z => z
end K02
open PySem PySem.W PyProof.Rows
set_option maxRecDepth 100000 in
set_option maxHeartbeats 0 in
theorem PySem.Challenge.cw_closuremill_k02_trees_refused_holds : PySem.Challenge.rw_closuremill_k02_trees_refused.Holds := by
  w_on; o_law; k_head; (case hw => w_witness2)
  k_fill
  refine K02.walk (l := PySem.Challenge.rw_closuremill_k02_trees_refused) rfl rfl (fun w h Y => PySem.W.kIn_of Y) ?F
  case F =>
    intro w mg fa h KX G hmg
    refine' K02.all_mk KX G hmg ?h_gS ?h_lS ?h_kS ?h_gL ?h_lL ?h_kL ?h_s0 ?h_m0 ?h_s1 ?h_m1 ?h_s2 ?h_m2 ?h_s3 ?h_m3 ?h_s4 ?h_m4 ?h_s5 ?h_m5 ?h_s6 ?h_m6 ?h_s7 ?h_m7 ?h_hk ?h_g0 ?h_g1 ?h_g2 ?h_g3 ?h_low ?h_z0 ?h_z1 ?h_z2 ?h_z3 ?h_z4 ?h_z5 ?h_z6 ?h_z7 ?h_z8 ?h_z9 ?h_z10 ?h_nM ?h_nN ?h_kN ?h_xN ?h_eN ?h_tN ?h_pN ?h_dN ?h_y1 ?h_y2 ?h_y3 ?h_y4 ?h_y5 ?h_y6 ?h_iM ?h_tM ?h_sM ?h_sV ?a0 ?l0 ?c0 ?k0 ?a1 ?l1 ?c1 ?k1 ?a2 ?l2 ?c2 ?k2 ?a3 ?l3 ?c3 ?k3 ?a4 ?l4 ?c4 ?k4 ?a5 ?l5 ?c5 ?k5 ?a6 ?l6 ?c6 ?k6 ?a7 ?l7 ?c7 ?k7 ?a8 ?l8 ?c8 ?k8 ?a9 ?l9 ?c9 ?k9 ?a10 ?l10 ?c10 ?k10 ?a11 ?l11 ?c11 ?k11 ?a12 ?l12 ?c12 ?k12 ?a13 ?l13 ?c13 ?k13 ?a14 ?l14 ?c14 ?k14
    (case h_gS => k_is)
    (case h_lS => k_is)
    (case h_kS => k_keys)
    (case h_gL => k_is)
    (case h_lL => k_is)
    (case h_kL => k_keys)
    (case h_s0 => k_is)
    (case h_m0 => k_is)
    (case h_s1 => k_is)
    (case h_m1 => k_is)
    (case h_s2 => k_is)
    (case h_m2 => k_is)
    (case h_s3 => k_is)
    (case h_m3 => k_is)
    (case h_s4 => k_is)
    (case h_m4 => k_is)
    (case h_s5 => k_is)
    (case h_m5 => k_is)
    (case h_s6 => k_is)
    (case h_m6 => k_is)
    (case h_s7 => k_is)
    (case h_m7 => k_is)
    (case h_hk => kernel_rfl)
    (case h_g0 => k_is)
    (case h_g1 => k_is)
    (case h_g2 => k_is)
    (case h_g3 => k_is)
    (case h_low => rfl)
    (case h_z0 => k_is)
    (case h_z1 => k_is)
    (case h_z2 => k_is)
    (case h_z3 => k_is)
    (case h_z4 => k_is)
    (case h_z5 => k_is)
    (case h_z6 => k_is)
    (case h_z7 => k_is)
    (case h_z8 => k_is)
    (case h_z9 => k_is)
    (case h_z10 => k_is)
    (case h_nM => k_is)
    (case h_nN => k_is)
    (case h_kN => k_is)
    (case h_xN => first | k_exc | k_is)
    (case h_eN => k_is)
    (case h_tN => k_is)
    (case h_pN => k_is)
    (case h_dN => k_is)
    (case h_y1 => k_is)
    (case h_y2 => k_is)
    (case h_y3 => k_is)
    (case h_y4 => k_is)
    (case h_y5 => k_is)
    (case h_y6 => k_is)
    (case h_iM => k_is)
    (case h_tM => k_is)
    (case h_sM => k_is)
    (case h_sV => k_is)
    (case a0 => k_is); (case l0 => k_is); (case c0 => k_is); (case k0 => k_is)
    (case a1 => k_is); (case l1 => k_is); (case c1 => k_is); (case k1 => k_is)
    (case a2 => k_is); (case l2 => k_is); (case c2 => k_is); (case k2 => k_is)
    (case a3 => k_is); (case l3 => k_is); (case c3 => k_is); (case k3 => k_is)
    (case a4 => k_is); (case l4 => k_is); (case c4 => k_is); (case k4 => k_is)
    (case a5 => k_is); (case l5 => k_is); (case c5 => k_is); (case k5 => k_is)
    (case a6 => k_is); (case l6 => k_is); (case c6 => k_is); (case k6 => k_is)
    (case a7 => k_is); (case l7 => k_is); (case c7 => k_is); (case k7 => k_is)
    (case a8 => k_is); (case l8 => k_is); (case c8 => k_is); (case k8 => k_is)
    (case a9 => k_is); (case l9 => k_is); (case c9 => k_is); (case k9 => k_is)
    (case a10 => k_is); (case l10 => k_is); (case c10 => k_is); (case k10 => k_is)
    (case a11 => k_is); (case l11 => k_is); (case c11 => k_is); (case k11 => k_is)
    (case a12 => k_is); (case l12 => k_is); (case c12 => k_is); (case k12 => k_is)
    (case a13 => k_is); (case l13 => k_is); (case c13 => k_is); (case k13 => k_is)
    (case a14 => k_is); (case l14 => k_is); (case c14 => k_is); (case k14 => k_is)

