import PyProof.Rows.All
import Wide.All
import OpenK.AllK
import Wide.FinOn
import HandS.ForMost
import HandS.Exc
import HandS.TryOnly
import HandS.ExcOwn
import HandS.WordsExc
import HandS.IsInst
import HandS.Style
import HandS.Conv
import HandS.More
import KE.SortData
import HandS.Steps
import HandS.WordsDict
import PySem.Challenge.RW_closuremill_k01_free_names
set_option Elab.async false
set_option maxRecDepth 100000
set_option linter.all false
namespace My
open PySem L2
open PyProof.Rows (envOfC)

/-! ### a def of the text, called by its name -/
structure Df (P : Program) (w : World) (K : PySem.W.Frag) (mg : Str → Option Value) (base : Heap) (k : Nat) (x : Str) (ps : List Str) (sp : Sp) : Prop where
  ex : ∃ (f : Addr) (fd : FuncData), FnOk P w K mg base CX0 k f fd ps sp ∧ mg x = some (.ref f) ∧ PySem.W.keepIn K (.ref f) = true ∧ Binds K fd ps []
/-- a def stands at the module's name -/
def FunAt (K : PySem.W.Frag) (mg : Str → Option Value) (x : Str) (st : Stmt) : Prop := ∃ (f : Addr) (fd : FuncData), Fun K x x st f fd ∧ mg x = some (.ref f)
/-- how a def's parameters bind -/
def BindAll (x : Str) (st : Stmt) (ps : List Str) : Prop := ∀ (kV doc pm : Value) (an : Option Addr) (cdv ct : Value) (us : List Value), us.length = ps.length → bindArgs (PySem.W.fnOf x x (defArgs st) (defBody st) (defScope st) .none kV doc pm an cdv ct) ⟨us, []⟩ = pure (ps.zip us)
section
variable {P : Program} {w : World} {K : PySem.W.Frag} {mg : Str → Option Value} {base : Heap}
theorem FunAt.df {x : Str} {st : Stmt} {N ps : List Str} {k : Nat} {sp : Sp} (F : FunAt K mg x st) (S : FnScope N ps (defScope st)) (hb : BindAll x st ps) (len : ∀ vs H Q E, sp vs H Q E → vs.length = ps.length)
    (hbody : ∀ (f : Addr) (cdv : Value) (A : Around) (outer : List Env) (s : Shared) (H : Hp) (vs : List V) (Q : VK) (E : XK), Room k (A.deeper (envOfC x (defScope st) s.heap.objs.size f cdv)) → sp vs H Q E →
      ∃ t, PSs (cxOf CX0 P w K mg base N x (defScope st) f cdv A outer s H E).nox (defBody st) t ∧ t { nx := fun _ H' => Q .non H', rt := Q } (start N vs) H) : Df P w K mg base (k + 1) x ps sp := by
  obtain ⟨f, fd, h, m⟩ := F
  exact ⟨f, fd, h.ok S len (hbody f), m, h.kp, h.binds hb⟩
theorem FunAt.mk {l : Heap} {x : Str} {st : Stmt} {f : Addr} {oc : Value} {od an : Option Addr} {osl : Array (Option Value)} {kV doc pm cdv ct : Value} (X : K.In l) (G : l.Ns mainGlobals mg) (a : PySem.W.nsIn K mainGlobals x = some (some (.ref f)))
    (lk : K.lookup f = some ⟨oc, od, .func (PySem.W.fnOf x x (defArgs st) (defBody st) (defScope st) .none kV doc pm an cdv ct), osl⟩) (c : PySem.W.codeIn K cdv x = true) (k : PySem.W.keepIn K (.ref f) = true) : FunAt K mg x st :=
  ⟨f, _, fun_mk (st := st) lk c k, PySem.W.mg_of X G a⟩
theorem Df.imp {k : Nat} {x : Str} {ps : List Str} {sp sp' : Sp} (D : Df P w K mg base k x ps sp) (h : ∀ vs H Q E, sp' vs H Q E → sp vs H Q E) : Df P w K mg base k x ps sp' := by
  obtain ⟨f, fd, F, m, kp, b⟩ := D.ex
  exact ⟨f, fd, F.imp h, m, kp, b⟩
end
def tCallD (sp : Sp) (t : TA) : TE := fun σ H Q => t σ H fun vs H1 => sp vs H1 Q E0
section
variable {X : Cx} {j k : Nat} {x : Str} {ps : List Str} {sp : Sp} {p pos : Pos} {e : Expr} {es : List Expr} {t : TA}
theorem pe_callD (D : Df X.prog X.w X.K X.mg X.base j x ps sp) (hr : Room k X.A) (hj : j ≤ k) (hg : Gl X x) (ha : PA X (e :: es) t) (hdb : (x == ("__debug__" : Str)) = false := by decide)
    (he : starEach (e :: es) X.env = (false, eval e X.env) :: starEach es X.env := by rfl) (hpl : (backTo pos (starEach es X.env)).any (·.1) = false := by rfl) :
    PE X (.Call (.Name x p) (e :: es) [] pos) (tCallD sp t) := by
  obtain ⟨f, fd, F, m, kp, b⟩ := D.ex
  have h : PE X (.Call (.Name x p) (e :: es) [] pos) (tCall sp [] E0 t) := pe_call F (hr.mono hj) hg m kp b .nil pass0 ha hdb he hpl
  refine ⟨fun pins s σ H Q I q => h.run pins s σ H Q I ?_⟩
  unfold tCall
  unfold tCallD at q
  simpa only [List.append_nil] using q
theorem pe_callD0 (D : Df X.prog X.w X.K X.mg X.base j x ps sp) (hr : Room k X.A) (hj : j ≤ k) (hg : Gl X x) (hdb : (x == ("__debug__" : Str)) = false := by decide) :
    PE X (.Call (.Name x p) [] [] pos) (tCallD sp tNil) := by
  obtain ⟨f, fd, F, m, kp, b⟩ := D.ex
  have h : PE X (.Call (.Name x p) [] [] pos) (tCall sp [] E0 tNil) := pe_call0 F (hr.mono hj) hg m kp b .nil pass0 hdb
  refine ⟨fun pins s σ H Q I q => h.run pins s σ H Q I ?_⟩
  unfold tCall
  unfold tCallD at q
  simpa only [List.append_nil] using q
end

/-! ### statements, one at a time -/
theorem seq_ {t u : TS} {D : Ends} {σ : St} {H : Hp} (h : ∀ R : St → Hp → Prop, R = u D → t { D with nx := R } σ H) : tSeq t u D σ H := h _ rfl
theorem while_ {c : TT} {tb : TS} {D : Ends} {σ : St} {H : Hp} (W : Nat → St → Hp → Prop) (m : Nat) (w0 : W m σ H)
    (h : ∀ m σ H, W m σ H → c σ H fun b H1 => if b = true then (∀ N : St → Hp → Prop, (∀ m' σ' H', m' < m → W m' σ' H' → N σ' H') → tb { D with nx := N, ct := N, bk := D.nx } σ H1) else D.nx σ H1)
    (mono : ∀ σ H (Q Q' : Bool → Hp → Prop), (∀ b H1, Q b H1 → Q' b H1) → c σ H Q → c σ H Q') : tWhile c tb D σ H := by
  refine ⟨W, ⟨m, w0⟩, fun m σ H w => mono σ H _ _ (fun b H1 q => ?_) (h m σ H w)⟩
  cases b with
  | true => exact ⟨fun σ' H' => ∃ m', m' < m ∧ W m' σ' H', fun _ _ n => n, q _ fun m' _ _ l w' => ⟨m', l, w'⟩⟩
  | false => exact q
theorem ife {c : Prop} [Decidable c] {A B : Prop} : (if (decide c) = true then A else B) ↔ (if c then A else B) := by by_cases h : c <;> simp [h]

/-! ### heaps -/
/-- tuples are kept -/
def KT (H H' : Hp) : Prop := ∀ a xs, H a = some (.tup xs) → H' a = some (.tup xs)
theorem KT.refl (H : Hp) : KT H H := fun _ _ h => h
theorem KT.trans {H H1 H2 : Hp} (a : KT H H1) (b : KT H1 H2) : KT H H2 := fun c o h => b c o (a c o h)
theorem same_kt {H H' : Hp} (e : Same H H') : KT H H' := fun a _ h => e a _ h
theorem same_new {H : Hp} {p : Addr} {o : HO} (h : H p = none) : Same H (upd H p o) := fun b u q => by rw [upd_ne (ne_of_none q h)]; exact q
theorem kt_new {H : Hp} {p : Addr} {o : HO} (h : H p = none) : KT H (upd H p o) := same_kt (same_new h)
theorem kt_lst {H : Hp} {l : Addr} {xs : List V} {o : HO} (h : H l = some (.lst xs)) : KT H (upd H l o) := fun b u q => by
  rw [upd_ne (ne_of q h (by intro z; cases z))]; exact q
/-- what H did not know may change -/
theorem same_mut {H H' : Hp} {p : Addr} {o : HO} (e : Same H H') (h : H p = none) : Same H (upd H' p o) := fun a u ha => by
  rw [upd_ne (ne_of_none ha h)]
  exact e a u ha
end My
namespace My
open PySem L2
open PyProof.Rows (envOfC)
/-! ### more for the readings -/
def GInt (mg : Str → Option Value) (x : Str) (n : Int) : Prop := ∃ t, mg x = some (.int n t)
theorem pe_gint {X : Cx} {x : Str} {n : Int} {pos : Pos} (hg : Gl X x) (h : GInt X.mg x n) (hd : (x == ("__debug__" : Str)) = false := by decide) : PE X (.Name x pos) (tC (.int n)) := by
  obtain ⟨t, h⟩ := h
  exact pe_glob hg h ⟨t, rfl⟩ hd
def GStr (mg : Str → Option Value) (x : Str) (z : Str) : Prop := ∃ t, mg x = some (.str z t)
theorem pe_gstr {X : Cx} {x z : Str} {pos : Pos} (hg : Gl X x) (h : GStr X.mg x z) (hd : (x == ("__debug__" : Str)) = false := by decide) : PE X (.Name x pos) (tC (.str z)) := by
  obtain ⟨t, h⟩ := h
  exact pe_glob hg h ⟨t, rfl⟩ hd
/-- d[z] of a written dict -/
def RdK (K : PySem.W.Frag) (w : World) (p : Addr) (z : Str) (r : V) : Prop := ∃ (es : Array DictEntry) (n : Nat) (u0 : Value), K.lookup p = some ⟨.type "dict", none, .dict es n, #[]⟩ ∧ PySem.W.KeysLit w.params es.toList ∧ PySem.W.nsIn K p z = some (some u0) ∧ RelV r u0
def rRdK (K : PySem.W.Frag) (w : World) : R2 := fun x y H Q => ∃ (p : Addr) (z : Str) (r : V), x = .ref p ∧ y = .str z ∧ RdK K w p z r ∧ Q r H
theorem ix_kd {X : Cx} : IxR X (rRdK X.K X.w) := ix_kdict
section
variable {CX : CXT} {P : Program} {w : World} {K : PySem.W.Frag} {mg : Str → Option Value} {base : Heap} {N : List Str} {qual : Str} {scope : Scope} {f : Addr} {cd : Value} {A : Around} {outer : List Env} {s : Shared} {H : Hp} {E : XK}
theorem cx_K : (cxOf CX P w K mg base N qual scope f cd A outer s H E).K = K := rfl
theorem cx_w : (cxOf CX P w K mg base N qual scope f cd A outer s H E).w = w := rfl
end

/-! ### trees -/
inductive Tr where
  | num (n : Int) | name (x : Str) | fn (x : Str) (b : Tr) | call (f a : Tr) | plus (a b : Tr) | less (a b : Tr) | ite (c a b : Tr) | lt (x : Str) (e b : Tr)
  deriving DecidableEq
def Tr.kids : Tr → List Tr
  | .num _ => [] | .name _ => [] | .fn _ b => [b] | .call f a => [f, a] | .plus a b => [a, b] | .less a b => [a, b] | .ite c a b => [c, a, b] | .lt _ e b => [e, b]
def Tr.word : Tr → Str
  | .num _ => "num" | .name _ => "name" | .fn _ _ => "fun" | .call _ _ => "call" | .plus _ _ => "plus" | .less _ _ => "less" | .ite _ _ _ => "if" | .lt _ _ _ => "let"
/-- what stands behind the word, ahead of the parts -/
def Tr.own : Tr → List V
  | .num n => [.int n] | .name x => [.str x] | .fn x _ => [.str x] | .lt x _ _ => [.str x] | _ => []
def Tr.size : Tr → Nat
  | .num _ => 1 | .name _ => 1 | .fn _ b => 1 + b.size | .call f a => 1 + f.size + a.size | .plus a b => 1 + a.size + b.size | .less a b => 1 + a.size + b.size
  | .ite c a b => 1 + c.size + a.size + b.size | .lt _ e b => 1 + e.size + b.size
theorem Tr.size_pos : ∀ t : Tr, 0 < t.size := fun t => by cases t <;> simp only [Tr.size] <;> omega
def sizes (ts : List Tr) : Nat := (ts.map Tr.size).sum
theorem sizes_nil : sizes [] = 0 := rfl
theorem sizes_cons (t : Tr) (ts : List Tr) : sizes (t :: ts) = t.size + sizes ts := by simp [sizes]
theorem sizes_append (ts us : List Tr) : sizes (ts ++ us) = sizes ts + sizes us := by simp [sizes]
theorem Tr.size_kids (t : Tr) : t.size = 1 + sizes t.kids := by
  cases t <;> simp only [Tr.size, Tr.kids, sizes_cons, sizes_nil] <;> omega
theorem le_sizes : ∀ ts : List Tr, ts.length ≤ sizes ts
  | [] => Nat.le_refl _
  | t :: ts => by
    have := le_sizes ts
    have := t.size_pos
    rw [sizes_cons, List.length_cons]
    omega
theorem kids_le (t : Tr) : t.kids.length ≤ 3 := by cases t <;> simp [Tr.kids]
/-- the tree stands in the heap at v -/
def At (H : Hp) : Tr → V → Prop
  | .num n, v => ∃ a, v = .ref a ∧ H a = some (.tup [.str "num", .int n])
  | .name x, v => ∃ a, v = .ref a ∧ H a = some (.tup [.str "name", .str x])
  | .fn x b, v => ∃ a u, v = .ref a ∧ H a = some (.tup [.str "fun", .str x, u]) ∧ At H b u
  | .call f g, v => ∃ a u u', v = .ref a ∧ H a = some (.tup [.str "call", u, u']) ∧ At H f u ∧ At H g u'
  | .plus f g, v => ∃ a u u', v = .ref a ∧ H a = some (.tup [.str "plus", u, u']) ∧ At H f u ∧ At H g u'
  | .less f g, v => ∃ a u u', v = .ref a ∧ H a = some (.tup [.str "less", u, u']) ∧ At H f u ∧ At H g u'
  | .ite c f g, v => ∃ a u u' u'', v = .ref a ∧ H a = some (.tup [.str "if", u, u', u'']) ∧ At H c u ∧ At H f u' ∧ At H g u''
  | .lt x f g, v => ∃ a u u', v = .ref a ∧ H a = some (.tup [.str "let", .str x, u, u']) ∧ At H f u ∧ At H g u'
theorem At.mono {H H' : Hp} (k : KT H H') : ∀ {t : Tr} {v : V}, At H t v → At H' t v
  | .num _, _, ⟨a, e, h⟩ => ⟨a, e, k _ _ h⟩
  | .name _, _, ⟨a, e, h⟩ => ⟨a, e, k _ _ h⟩
  | .fn _ _, _, ⟨a, u, e, h, h1⟩ => ⟨a, u, e, k _ _ h, At.mono k h1⟩
  | .call _ _, _, ⟨a, u, u', e, h, h1, h2⟩ => ⟨a, u, u', e, k _ _ h, At.mono k h1, At.mono k h2⟩
  | .plus _ _, _, ⟨a, u, u', e, h, h1, h2⟩ => ⟨a, u, u', e, k _ _ h, At.mono k h1, At.mono k h2⟩
  | .less _ _, _, ⟨a, u, u', e, h, h1, h2⟩ => ⟨a, u, u', e, k _ _ h, At.mono k h1, At.mono k h2⟩
  | .ite _ _ _, _, ⟨a, u, u', u'', e, h, h1, h2, h3⟩ => ⟨a, u, u', u'', e, k _ _ h, At.mono k h1, At.mono k h2, At.mono k h3⟩
  | .lt _ _ _, _, ⟨a, u, u', e, h, h1, h2⟩ => ⟨a, u, u', e, k _ _ h, At.mono k h1, At.mono k h2⟩
abbrev Ats (H : Hp) (ts : List Tr) (vs : List V) : Prop := Paired (At H) ts vs
theorem Ats.mono {H H' : Hp} (k : KT H H') {ts : List Tr} {vs : List V} (h : Ats H ts vs) : Ats H' ts vs := Paired.mapP h fun _ _ => At.mono k
theorem At.view {H : Hp} {t : Tr} {v : V} (h : At H t v) : ∃ a ws, v = .ref a ∧ H a = some (.tup (.str t.word :: t.own ++ ws)) ∧ Ats H t.kids ws := by
  cases t with
  | num n => obtain ⟨a, e, h⟩ := h; exact ⟨a, [], e, h, .nil⟩
  | name x => obtain ⟨a, e, h⟩ := h; exact ⟨a, [], e, h, .nil⟩
  | fn x b => obtain ⟨a, u, e, h, h1⟩ := h; exact ⟨a, [u], e, h, .cons h1 .nil⟩
  | call f g => obtain ⟨a, u, u', e, h, h1, h2⟩ := h; exact ⟨a, [u, u'], e, h, .cons h1 (.cons h2 .nil)⟩
  | plus f g => obtain ⟨a, u, u', e, h, h1, h2⟩ := h; exact ⟨a, [u, u'], e, h, .cons h1 (.cons h2 .nil)⟩
  | less f g => obtain ⟨a, u, u', e, h, h1, h2⟩ := h; exact ⟨a, [u, u'], e, h, .cons h1 (.cons h2 .nil)⟩
  | ite c f g => obtain ⟨a, u, u', u'', e, h, h1, h2, h3⟩ := h; exact ⟨a, [u, u', u''], e, h, .cons h1 (.cons h2 (.cons h3 .nil))⟩
  | lt x f g => obtain ⟨a, u, u', e, h, h1, h2⟩ := h; exact ⟨a, [u, u'], e, h, .cons h1 (.cons h2 .nil)⟩
theorem Ats.append {H : Hp} : ∀ {ts us : List Tr} {vs ws : List V}, Ats H ts vs → Ats H us ws → Ats H (ts ++ us) (vs ++ ws)
  | _, _, _, _, .nil, h => h
  | _, _, _, _, .cons r t, h => .cons r (Ats.append t h)
theorem Ats.snoc_inv {H : Hp} : ∀ {ts : List Tr} {vs : List V} {v : V}, Ats H ts (vs ++ [v]) → ∃ us t, ts = us ++ [t] ∧ Ats H us vs ∧ At H t v
  | _, [], v, .cons r .nil => ⟨[], _, rfl, .nil, r⟩
  | _, u :: vs, v, .cons r t => by
    obtain ⟨us, x, e, h1, h2⟩ := Ats.snoc_inv t
    exact ⟨_ :: us, x, by rw [e]; rfl, .cons r h1, h2⟩
end My
namespace My
open PySem L2
open PyProof.Rows (envOfC)
section
variable {X : Cx}
def rPopL : V → List V → Hp → VK → Prop := fun x vs H Q => ∃ (l : Addr) (ys : List V) (y : V), x = .ref l ∧ vs = [] ∧ H l = some (.lst (ys ++ [y])) ∧ Q y (upd H l (.lst ys))
theorem mt_popL : MtM X "list.pop" rPopL := by
  intro pins s σ H x vs v us Q I rx rv h
  obtain ⟨l, ys, y, e1, e2, hH, q⟩ := h
  refine mt_pop pins s σ H x vs v us Q I rx rv ⟨l, ys ++ [y], y, e1, e2, hH, by simp, ?_⟩
  rw [List.dropLast_concat]
  exact q
end
/-- a loop while a list at a name is not empty -/
theorem whileL_ {K : PySem.W.Frag} {i : Nat} {tb : TS} {D : Ends} {σ : L2.St} {H : Hp} (W : Nat → L2.St → Hp → Prop) (m : Nat) (w0 : W m σ H)
    (h : ∀ m σ H, W m σ H → ∃ (l : Addr) (xs : List V), σ[i]? = some (some (.ref l)) ∧ H l = some (.lst xs) ∧ (xs = [] → D.nx σ H) ∧
      (∀ ys v, xs = ys ++ [v] → ∀ N : L2.St → Hp → Prop, (∀ m' σ' H', m' < m → W m' σ' H' → N σ' H') → tb { D with nx := N, ct := N, bk := D.nx } σ H)) :
    tWhile (fun σ H Q => tVar i σ H fun x H' => ∃ k, TruV K x H' k ∧ Q k H') tb D σ H := by
  refine ⟨W, ⟨m, w0⟩, fun m σ H w => ?_⟩
  obtain ⟨l, xs, e, hl, h0, h1⟩ := h m σ H w
  refine ⟨_, e, !xs.isEmpty, .inl ⟨xs, SqL.of hl, rfl⟩, ?_⟩
  rcases List.eq_nil_or_concat xs with r | ⟨ys, v, r⟩
  · subst r
    exact h0 rfl
  · rw [List.concat_eq_append] at r
    have hne : (!xs.isEmpty) = true := by rw [r]; simp
    rw [hne]
    exact ⟨fun σ' H' => ∃ m', m' < m ∧ W m' σ' H', fun _ _ n => n, h1 ys v r _ fun m' _ _ l w' => ⟨m', l, w'⟩⟩
end My
namespace My
open PySem L2
theorem pe_gref {X : Cx} {x : Str} {a : Addr} {pos : Pos} (hg : Gl X x) (h : X.mg x = some (.ref a)) (hd : (x == ("__debug__" : Str)) = false := by decide) : PE X (.Name x pos) (tC (.ref a)) := pe_glob hg h rfl hd
end My
namespace My
open PySem L2
theorem szL {n : Nat} (h : n ≤ 100000) : n ≤ sizeLine := Nat.le_trans h (by decide)
theorem szLt {n : Nat} (h : n ≤ 100000) : n < sizeLine := Nat.lt_of_le_of_lt h (by decide)
theorem none_ne {H : Hp} {a b : Addr} {o : HO} (h : H a = none) (h' : H b = some o) : a ≠ b := fun e => by rw [e, h'] at h; cases h
end My
namespace My
open PySem L2
/-! ### comprehensions -/
def LcGo (J : It) (g : TG) (tt : TT) (te : TE) (vs : List Nat) (σ : L2.St) (H1 : Hp) (Q : VK) : Prop := ∀ D, H1 D = none → ∃ W : Nat → Nat → Hp → Prop, (∃ m, W 0 m (upd H1 D (.lst []))) ∧ ∀ i m H, W i m H →
  (J.stop i H ∧ Q (.ref D) H) ∨ (J.go i H ∧ ∃ Nx : Hp → Prop, (∀ H', Nx H' → ∃ m', m' < m ∧ W (i + 1) m' H') ∧ ∀ x H', J.yld i H x H' → g x (wipe σ vs) H' fun σ2 H2 => wipe σ2 vs = wipe σ vs ∧ tt σ2 H2 fun b H3 =>
    if b = true then te σ2 H3 fun y H4 => ∃ acc, H4 D = some (.lst acc) ∧ acc.length < sizeLine ∧ Nx (upd H4 D (.lst (acc ++ [y]))) else Nx H3)
theorem tLc_eq {wi : TI} {g : TG} {tt : TT} {te : TE} {vs : List Nat} {σ : L2.St} {H : Hp} {Q : VK} : tLc wi g tt te vs σ H Q = wi σ H fun J H1 => LcGo J g tt te vs σ H1 Q := rfl
section
variable {K : PySem.W.Frag} {a : Addr} {xs : List V} {j : Nat} {tt : TT} {te : TE} {vs : List Nat} {σ : L2.St} {H1 : Hp} {Q : VK}
/-- what a turn has to show -/
def LcTurn (tt : TT) (te : TE) (σ2 : L2.St) (P : Nat → List V → Hp → Prop) (i : Nat) (acc : List V) (H : Hp) : Prop :=
  ∀ Qy : VK, (∀ y H4, Same H H4 → P (i + 1) (acc ++ [y]) H4 → Qy y H4) → ∀ Qn : Hp → Prop, (∀ H3, Same H H3 → P (i + 1) acc H3 → Qn H3) → tt σ2 H fun b H3 => if b = true then te σ2 H3 Qy else Qn H3
/-- the invariant behind i items -/
def LcInv (H1 : Hp) (D : Addr) (P : Nat → List V → Hp → Prop) (i : Nat) (H : Hp) : Prop := ∃ acc, H D = some (.lst acc) ∧ acc.length ≤ i ∧ Same H1 H ∧ P i acc H
theorem lc_turn {D : Addr} {P : Nat → List V → Hp → Prop} (mono : ∀ i acc H H', KT H H' → P i acc H → P i acc H') {i : Nat} {H : Hp} {σ2 : L2.St} (hD : H1 D = none) (hi : i ≤ 100000)
    (hp : LcInv H1 D P i H) (hs : ∀ acc, acc.length ≤ i → Same H1 H → P i acc H → LcTurn tt te σ2 P i acc H) :
    tt σ2 H fun b H3 => if b = true then te σ2 H3 fun y H4 => ∃ acc, H4 D = some (.lst acc) ∧ acc.length < sizeLine ∧ LcInv H1 D P (i + 1) (upd H4 D (.lst (acc ++ [y]))) else LcInv H1 D P (i + 1) H3 := by
  obtain ⟨acc, h1, h2, h3, h4⟩ := hp
  refine hs acc h2 h3 h4 _ (fun y H4 e p => ⟨acc, e _ _ h1, szLt (by omega), acc ++ [y], upd_same, by simp; omega, same_mut (h3.trans e) hD, mono _ _ _ _ (kt_lst (e _ _ h1)) p⟩) _
    (fun H3 e p => ⟨acc, e _ _ h1, by omega, h3.trans e, p⟩)
theorem lcL (P : Nat → List V → Hp → Prop) (mono : ∀ i acc H H', KT H H' → P i acc H → P i acc H') (hx : SqL K H1 a xs) (hl : xs.length ≤ 100000) (hw : ∀ x, wipe ((wipe σ vs).set j (some x)) vs = wipe σ vs) (h0 : P 0 [] H1)
    (hs : ∀ i x acc H, xs[i]? = some x → acc.length ≤ i → Same H1 H → P i acc H → LcTurn tt te ((wipe σ vs).set j (some x)) P i acc H)
    (hq : ∀ D ys H', H1 D = none → Same H1 H' → H' D = some (.lst ys) → P xs.length ys H' → Q (.ref D) H') : LcGo (Itl K a) (gName j) tt te vs σ H1 Q := fun D hD =>
  lc_list (xs := xs) (LcInv H1 D P) ⟨[], upd_same, Nat.zero_le _, same_new hD, mono _ _ _ _ (kt_new hD) h0⟩ (fun i H _ ⟨_, _, _, e, _⟩ => e.seq hx)
    (fun i x H hi p => ⟨hw x, lc_turn mono hD (by have := (List.getElem?_eq_some_iff.mp hi).1; omega) p fun acc h2 h3 h4 => hs i x acc H hi h2 h3 h4⟩)
    (fun H ⟨acc, h1, h2, h3, h4⟩ => hq D acc H hD h3 h1 h4)
theorem Same_seqT {H H' : Hp} (e : Same H H') (h : SqT K H a xs) : SqT K H' a xs := by
  rcases h with (h | ⟨o, h⟩) | h
  · exact .inl (.inl (e _ _ h))
  · exact .inl (.inr ⟨o, e _ _ h⟩)
  · exact .inr h
theorem lcT (P : Nat → List V → Hp → Prop) (mono : ∀ i acc H H', KT H H' → P i acc H → P i acc H') (hx : SqT K H1 a xs) (hl : xs.length ≤ 100000) (hw : ∀ x, wipe ((wipe σ vs).set j (some x)) vs = wipe σ vs) (h0 : P 0 [] H1)
    (hs : ∀ i x acc H, xs[i]? = some x → acc.length ≤ i → Same H1 H → P i acc H → LcTurn tt te ((wipe σ vs).set j (some x)) P i acc H)
    (hq : ∀ D ys H', H1 D = none → Same H1 H' → H' D = some (.lst ys) → P xs.length ys H' → Q (.ref D) H') : LcGo (Itt K a) (gName j) tt te vs σ H1 Q := fun D hD =>
  lc_tup (xs := xs) (LcInv H1 D P) ⟨[], upd_same, Nat.zero_le _, same_new hD, mono _ _ _ _ (kt_new hD) h0⟩ (fun i H _ ⟨_, _, _, e, _⟩ => Same_seqT e hx)
    (fun i x H hi p => ⟨hw x, lc_turn mono hD (by have := (List.getElem?_eq_some_iff.mp hi).1; omega) p fun acc h2 h3 h4 => hs i x acc H hi h2 h3 h4⟩)
    (fun H ⟨acc, h1, h2, h3, h4⟩ => hq D acc H hD h3 h1 h4)
theorem lcR {lo : Int} {n : Nat} (P : Nat → List V → Hp → Prop) (mono : ∀ i acc H H', KT H H' → P i acc H → P i acc H') (hl : n ≤ 100000) (hw : ∀ x, wipe ((wipe σ vs).set j (some x)) vs = wipe σ vs) (h0 : P 0 [] H1)
    (hs : ∀ i acc H, i < n → acc.length ≤ i → Same H1 H → P i acc H → LcTurn tt te ((wipe σ vs).set j (some (.int (lo + i)))) P i acc H)
    (hq : ∀ D ys H', H1 D = none → Same H1 H' → H' D = some (.lst ys) → P n ys H' → Q (.ref D) H') : LcGo (Itr lo n) (gName j) tt te vs σ H1 Q := fun D hD =>
  lc_range (LcInv H1 D P) ⟨[], upd_same, Nat.zero_le _, same_new hD, mono _ _ _ _ (kt_new hD) h0⟩
    (fun i H hi p => ⟨hw _, lc_turn mono hD (by omega) p fun acc h2 h3 h4 => hs i acc H hi h2 h3 h4⟩)
    (fun H ⟨acc, h1, h2, h3, h4⟩ => hq D acc H hD h3 h1 h4)
/-- a copy -/
theorem lcT_copy (hx : SqT K H1 a xs) (hl : xs.length ≤ 100000) (hw : ∀ x, wipe ((wipe σ vs).set j (some x)) vs = wipe σ vs) (hj : ∀ x, ((wipe σ vs).set j (some x))[j]? = some (some x))
    (hq : ∀ D H', H1 D = none → Same H1 H' → H' D = some (.lst xs) → Q (.ref D) H') : LcGo (Itt K a) (gName j) tYes (tVar j) vs σ H1 Q := by
  refine lcT (fun i acc _ => acc = xs.take i) (fun _ _ _ _ _ h => h) hx hl hw rfl (fun i x acc H hi _ _ hp Qy hy Qn hn => ?_) (fun D ys H' hD e h p => hq D H' hD e (by rw [h, p, List.take_length]))
  show tVar j _ H Qy
  refine ⟨x, hj x, hy x H (Same.refl H) ?_⟩
  rw [hp]
  obtain ⟨h1, h2⟩ := List.getElem?_eq_some_iff.mp hi
  rw [List.take_succ, hi]
  rfl
end
end My
namespace My
open PySem L2
def Tr.leaf : Tr → Bool | .num _ => true | .name _ => true | _ => false
def Tr.binds : Tr → Bool | .fn _ _ => true | .lt _ _ _ => true | _ => false
theorem in_leaf (t : Tr) : inV (V.str t.word) [V.str "num", V.str "name"] = t.leaf := by cases t <;> simp only [Tr.word, Tr.leaf] <;> decide +kernel
theorem in_binds (t : Tr) : inV (V.str t.word) [V.str "fun", V.str "let"] = t.binds := by cases t <;> simp only [Tr.word, Tr.binds] <;> decide +kernel
end My
namespace My
open PySem L2
theorem ifs_ {c : TT} {t u : TS} {D : Ends} {σ : L2.St} {H : Hp} (h : ∀ A B : Hp → Prop, A = (fun H1 => t D σ H1) → B = (fun H1 => u D σ H1) → c σ H fun b H1 => if b = true then A H1 else B H1) : tIfS c t u D σ H := h _ _ rfl rfl
theorem ifq_ {c : TT} {t u r : TS} {D : Ends} {σ : L2.St} {H : Hp} (h : ∀ (R : L2.St → Hp → Prop) (A B : Hp → Prop), R = r D → A = (fun H1 => t { D with nx := R } σ H1) → B = (fun H1 => u { D with nx := R } σ H1) → c σ H fun b H1 => if b = true then A H1 else B H1) : tSeq (tIfS c t u) r D σ H := h _ _ _ rfl rfl rfl
/-- xs[m % n], n the length -/
theorem at_mod {α : Type} {xs : List α} (f : α → V) (h : 0 < xs.length) (m : Int) : ∃ x ∈ xs, atI (xs.map f) (m % (xs.length : Int)) = some (f x) := by
  have h0 : 0 ≤ m % (xs.length : Int) := Int.emod_nonneg _ (by omega)
  have h1 : m % (xs.length : Int) < xs.length := Int.emod_lt_of_pos _ (by omega)
  obtain ⟨k, hk⟩ : ∃ k : Nat, m % (xs.length : Int) = (k : Int) := ⟨(m % (xs.length : Int)).toNat, by omega⟩
  rw [hk] at h1 ⊢
  have hk' : k < xs.length := by omega
  refine ⟨xs[k], List.getElem_mem _, atI_nat ?_⟩
  rw [List.getElem?_map, List.getElem?_eq_getElem hk']
  rfl
theorem ixN_last {α : Type} (xs : List α) (v : α) : ixN (xs ++ [v]).length (-1) = some xs.length := by
  have hl : (xs ++ [v]).length = xs.length + 1 := by simp
  unfold ixN
  rw [hl, if_neg (by decide), if_pos (by omega)]
  congr 1
  omega
theorem set_last {α : Type} (xs : List α) (v w : α) : (xs ++ [v]).set xs.length w = xs ++ [w] := by simp
/-! ### what stands in a tree -/
def Tr.all (S : Str → Prop) (N : Int → Prop) : Tr → Prop
  | .num n => N n | .name x => S x | .fn x b => S x ∧ b.all S N | .call f a => f.all S N ∧ a.all S N | .plus a b => a.all S N ∧ b.all S N | .less a b => a.all S N ∧ b.all S N
  | .ite c a b => c.all S N ∧ a.all S N ∧ b.all S N | .lt x e b => S x ∧ e.all S N ∧ b.all S N
/-- a list of trees at l, over a heap H0 that did not know l -/
structure Stk (H0 : Hp) (l : Addr) (S : Str → Prop) (N : Int → Prop) (H : Hp) (vs : List V) (ts : List Tr) : Prop where
  same : Same H0 H
  at_ : H l = some (.lst vs)
  ats : Ats H ts vs
  all : ∀ t ∈ ts, t.all S N
section
variable {H0 H H' : Hp} {l : Addr} {S : Str → Prop} {N : Int → Prop} {vs : List V} {ts : List Tr} {t u : Tr} {r v : V}
theorem Stk.ext (s : Stk H0 l S N H vs ts) (e : Same H H') : Stk H0 l S N H' vs ts := ⟨s.same.trans e, e _ _ s.at_, s.ats.mono (same_kt e), s.all⟩
theorem Stk.len (s : Stk H0 l S N H vs ts) : ts.length = vs.length := Paired.length s.ats
theorem Stk.push (s : Stk H0 l S N H vs ts) (hl : H0 l = none) (h : At H t r) (ha : t.all S N) : Stk H0 l S N (upd H l (.lst (vs ++ [r]))) (vs ++ [r]) (ts ++ [t]) :=
  ⟨same_mut s.same hl, upd_same, (Ats.append s.ats (.cons h .nil)).mono (kt_lst s.at_), fun x hx => by
    rcases List.mem_append.mp hx with hx | hx
    · exact s.all x hx
    · rw [List.mem_singleton.mp hx]; exact ha⟩
theorem Stk.top (s : Stk H0 l S N H (vs ++ [v]) ts) : ∃ us t, ts = us ++ [t] ∧ At H t v ∧ t.all S N ∧ Ats H us vs ∧ ∀ x ∈ us, x.all S N := by
  obtain ⟨us, t, e, h1, h2⟩ := Ats.snoc_inv s.ats
  exact ⟨us, t, e, h2, s.all t (by rw [e]; simp), h1, fun x hx => s.all x (by rw [e]; simp [hx])⟩
theorem Stk.pop (s : Stk H0 l S N H (vs ++ [v]) (ts ++ [t])) (hl : H0 l = none) : Stk H0 l S N (upd H l (.lst vs)) vs ts ∧ At H t v ∧ t.all S N := by
  obtain ⟨us, u, e, h2, h3, h1, h4⟩ := s.top
  obtain ⟨rfl, e2⟩ := List.append_inj' e rfl
  obtain rfl : t = u := by simpa using e2
  exact ⟨⟨same_mut s.same hl, upd_same, h1.mono (kt_lst s.at_), h4⟩, h2, h3⟩
theorem Stk.put (s : Stk H0 l S N H (vs ++ [v]) (ts ++ [t])) (hl : H0 l = none) (h : At H u r) (ha : u.all S N) : Stk H0 l S N (upd H l (.lst (vs ++ [r]))) (vs ++ [r]) (ts ++ [u]) := by
  obtain ⟨us, u', e, h2, h3, h1, h4⟩ := s.top
  obtain ⟨rfl, e2⟩ := List.append_inj' e rfl
  refine ⟨same_mut s.same hl, upd_same, (Ats.append h1 (.cons h .nil)).mono (kt_lst s.at_), fun x hx => ?_⟩
  rcases List.mem_append.mp hx with hx | hx
  · exact h4 x hx
  · rw [List.mem_singleton.mp hx]; exact ha
end
end My
namespace My
open PySem L2
/-! ### a new object -/
def New (H : Hp) (o : HO) (G : Addr → Hp → Prop) : Prop := ∀ p, H p = none → G p (upd H p o)
theorem new_ {H : Hp} {o : HO} {G : Addr → Hp → Prop} (h : ∀ p H', H p = none → Same H H' → H' p = some o → G p H') : New H o G := fun p hp => h p _ hp (same_new hp) upd_same
theorem tTup_eq {t : TA} {σ : L2.St} {H : Hp} {Q : VK} : tTup t σ H Q = t σ H fun xs H1 => xs.length ≤ sizeLine ∧ New H1 (.tup xs) fun p H2 => Q (.ref p) H2 := rfl
theorem tLst_eq {t : TA} {σ : L2.St} {H : Hp} {Q : VK} : tLst t σ H Q = t σ H fun xs H1 => xs.length ≤ sizeLine ∧ New H1 (.lst xs) fun p H2 => Q (.ref p) H2 := rfl
theorem rSlT_eq {K : PySem.W.Frag} {x : V} {lo hi : Option Int} {H : Hp} {Q : VK} : rSlT K x lo hi H Q = ∃ a xs, x = .ref a ∧ SqT K H a xs ∧
  ¬ (HT.sIx xs.length 0 lo = 0 ∧ HT.sIx xs.length xs.length hi = xs.length) ∧ New H (.tup (cutV xs lo hi)) fun p H2 => Q (.ref p) H2 := rfl
theorem rSlL_eq {K : PySem.W.Frag} {x : V} {lo hi : Option Int} {H : Hp} {Q : VK} : rSlL K x lo hi H Q = ∃ a xs, x = .ref a ∧ SqL K H a xs ∧ New H (.lst (cutV xs lo hi)) fun p H2 => Q (.ref p) H2 := rfl
theorem tDNewK_eq {σ : L2.St} {H : Hp} {Q : VK} : tDNewK σ H Q = New H (.dK []) fun p H2 => Q (.ref p) H2 := rfl
theorem tRevL_eq {K : PySem.W.Frag} {te : TE} {σ : L2.St} {H : Hp} {Q : VK} : tRevL K te σ H Q = te σ H fun x H1 => ∃ a xs, x = .ref a ∧ SqL K H1 a xs ∧ New H1 (.lst xs.reverse) fun p H2 => Q (.ref p) H2 := rfl
/-- 1 ≤ the line, for written displays -/
theorem sz0 : ([] : List V).length ≤ sizeLine := szL (by simp)
theorem sz1 {a : V} : [a].length ≤ sizeLine := szL (by simp)
theorem sz2 {a b : V} : [a, b].length ≤ sizeLine := szL (by simp)
theorem sz3 {a b c : V} : [a, b, c].length ≤ sizeLine := szL (by simp)
theorem sz4 {a b c d : V} : [a, b, c, d].length ≤ sizeLine := szL (by simp)
theorem sz5 {a b c d e : V} : [a, b, c, d, e].length ≤ sizeLine := szL (by simp)
theorem sz8 {a b c d e f g h : V} : [a, b, c, d, e, f, g, h].length ≤ sizeLine := szL (by simp)
end My
namespace My
open PySem L2
theorem whileB_ {c : TT} {tb : TS} {D : Ends} {σ : L2.St} {H : Hp} (W : Nat → L2.St → Hp → Prop) (m : Nat) (w0 : W m σ H)
    (h : ∀ m σ H, W m σ H → ∀ A B : Hp → Prop, (∀ H1, (∀ N : L2.St → Hp → Prop, (∀ m' σ' H', m' < m → W m' σ' H' → N σ' H') → tb { D with nx := N, ct := N, bk := D.nx } σ H1) → A H1) → (∀ H1, D.nx σ H1 → B H1) →
      c σ H fun b H1 => if b = true then A H1 else B H1) : tWhile c tb D σ H :=
  ⟨W, ⟨m, w0⟩, fun m σ H w => h m σ H w (fun H1 => ∃ N : L2.St → Hp → Prop, (∀ σ' H', N σ' H' → ∃ m', m' < m ∧ W m' σ' H') ∧ tb { D with nx := N, ct := N, bk := D.nx } σ H1) (fun H1 => D.nx σ H1)
    (fun H1 a => ⟨fun σ' H' => ∃ m', m' < m ∧ W m' σ' H', fun _ _ n => n, a _ fun m' _ _ l w' => ⟨m', l, w'⟩⟩) fun _ b => b⟩
end My
namespace My
open PySem L2
theorem pr_append {α β : Type} {R : α → β → Prop} : ∀ {ts us : List α} {vs ws : List β}, Paired R ts vs → Paired R us ws → Paired R (ts ++ us) (vs ++ ws)
  | _, _, _, _, .nil, h => h
  | _, _, _, _, .cons r t, h => .cons r (pr_append t h)
theorem pr_snoc {α β : Type} {R : α → β → Prop} : ∀ {ts : List α} {vs : List β} {v : β}, Paired R ts (vs ++ [v]) → ∃ us t, ts = us ++ [t] ∧ Paired R us vs ∧ R t v
  | _, [], v, .cons r .nil => ⟨[], _, rfl, .nil, r⟩
  | _, u :: vs, v, .cons r t => by
    obtain ⟨us, x, e, h1, h2⟩ := pr_snoc t
    exact ⟨_ :: us, x, by rw [e]; rfl, .cons r h1, h2⟩
theorem pr_len {α β : Type} {R : α → β → Prop} {ts : List α} {vs : List β} (h : Paired R ts vs) : ts.length = vs.length := Paired.length h
theorem pr_mono {α β : Type} {R S : α → β → Prop} {ts : List α} {vs : List β} (h : Paired R ts vs) (f : ∀ a b, R a b → S a b) : Paired S ts vs := Paired.mapP h f
/-- a list, changed at its end alone; what H0 did not know -/
theorem same_put {H0 H : Hp} {l : Addr} {o : HO} (e : Same H0 H) (hl : H0 l = none) : Same H0 (upd H l o) := same_mut e hl
end My
namespace My
open PySem L2
theorem scal_ii {i j : Int} : scal (.int i) (.int j) = true := rfl
theorem scal_ss {i j : Str} : scal (.str i) (.str j) = true := rfl
theorem scal_bb {i j : Bool} : scal (.bl i) (.bl j) = true := rfl
theorem scal_is {i : Int} {j : Str} : scal (.int i) (.str j) = true := rfl
theorem scal_si {i : Str} {j : Int} : scal (.str i) (.int j) = true := rfl
theorem word_name {t : Tr} (h : t.word = "name") : ∃ y, t = .name y := by
  cases t <;> first
    | exact ⟨_, rfl⟩
    | exact absurd h (by simp only [Tr.word]; decide +kernel)
theorem word_fun {t : Tr} (h : t.word = "fun") : ∃ y b, t = .fn y b := by
  cases t <;> first
    | exact ⟨_, _, rfl⟩
    | exact absurd h (by simp only [Tr.word]; decide +kernel)
theorem word_let {t : Tr} (h : t.word = "let") : ∃ y e b, t = .lt y e b := by
  cases t <;> first
    | exact ⟨_, _, _, rfl⟩
    | exact absurd h (by simp only [Tr.word]; decide +kernel)
theorem at0 (x : V) (xs : List V) : atI (x :: xs) 0 = some x := atI_nat (j := 0) rfl
theorem at1 (x y : V) (xs : List V) : atI (x :: y :: xs) 1 = some y := atI_nat (j := 1) rfl
theorem at2 (x y z : V) (xs : List V) : atI (x :: y :: z :: xs) 2 = some z := atI_nat (j := 2) rfl
theorem at3 (x y z u : V) (xs : List V) : atI (x :: y :: z :: u :: xs) 3 = some u := atI_nat (j := 3) rfl
end My
namespace My
open PySem L2
/-! ### a tuple compared with itself -/
def rNeSelf (K : PySem.W.Frag) : R2 := fun x y H Q => ∃ (a : Addr) (xs : List V), x = .ref a ∧ y = .ref a ∧ SqT K H a xs ∧ Q (.bl false) H
theorem op_ne_self {X : Cx} (hu : X.A.units < cLine) : OpR X (compareOp .NotEq) (rNeSelf X.K) := by
  intro pins s σ H x y v u Q I rx ry h
  obtain ⟨a, xs, rfl, rfl, ha, q⟩ := h
  cases rx
  cases ry
  obtain ⟨its, r1, p1, _⟩ := I.tuple ha
  refine SeqAt.RcNeAt.tuples (e := fun _ => true) (show s.heap.IsTuple a its.toArray from p1) (show s.heap.IsTuple a its.toArray from p1) hu (fun j h1 h2 => SeqAt.EqAt.same _) X.prog X.w X.xe _ ?_
  refine ⟨.bl false, H, I, ?_, q⟩
  show Value.bool _ = Value.bool false
  congr 1
  simp
end My
namespace My
open PySem L2
section
variable {K : PySem.W.Frag} {H : Hp} {a : Addr} {xs : List V}
theorem isi_ll (h : H a = some (.lst xs)) : TyX K H (.ref a) (.type "list") ∧ PySem.W.kitOne K (.type "list") (.type "list") = some true := ⟨.base (.lst h), kit_ty (by decide +kernel)⟩
theorem isi_tt (h : H a = some (.tup xs)) : TyX K H (.ref a) (.type "tuple") ∧ PySem.W.kitOne K (.type "tuple") (.type "tuple") = some true := ⟨.base (.tup h), kit_ty (by decide +kernel)⟩
theorem isi_ss (x : Str) : TyX K H (.str x) (.type "str") ∧ PySem.W.kitOne K (.type "str") (.type "str") = some true := ⟨.base (.str x), kit_ty (by decide +kernel)⟩
theorem isi_ii (i : Int) : TyX K H (.int i) (.type "int") ∧ PySem.W.kitOne K (.type "int") (.type "int") = some true := ⟨.base (.int i), kit_ty (by decide +kernel)⟩
theorem isi_ib (i : Int) : TyX K H (.int i) (.type "int") ∧ PySem.W.kitOne K (.type "int") (.type "bool") = some false := ⟨.base (.int i), kit_ty (by decide +kernel)⟩
/-- what isinstance asks, answered -/
theorem isi_ {x : V} {T n : String} {b : Bool} {G : Bool → Prop} (h : TyX K H x (.type T) ∧ PySem.W.kitOne K (.type T) (.type n) = some b) (g : G b) :
    ∃ t u, ClsV (.ty n) u ∧ TyX K H x t ∧ ∃ b, PySem.W.kitOne K t u = some b ∧ G b := ⟨_, _, .ty _, h.1, b, h.2, g⟩
end
/-- a list of ints, of texts, by its places -/
theorem map_at {α : Type} {xs : List α} {f : α → V} {i : Nat} {y : V} (h : (xs.map f)[i]? = some y) : ∃ (hi : i < xs.length), y = f xs[i] := by
  obtain ⟨h1, h2⟩ := List.getElem?_eq_some_iff.mp h
  have h3 : i < xs.length := by rwa [List.length_map] at h1
  exact ⟨h3, by rw [← h2, List.getElem_map]⟩
end My
namespace My
open PySem L2
def ForGo (J : It) (g : TG) (tb : TS) (D : Ends) (σ : L2.St) (H1 : Hp) : Prop := ∃ W : Nat → Nat → L2.St → Hp → Prop, (∃ m, W 0 m σ H1) ∧ ∀ i m σ H, W i m σ H →
  (J.stop i H ∧ D.nx σ H) ∨ (J.go i H ∧ ∃ N : L2.St → Hp → Prop, (∀ σ' H', N σ' H' → ∃ m', m' < m ∧ W (i + 1) m' σ' H') ∧ ∀ x H', J.yld i H x H' → g x σ H' fun σ2 H2 => tb { D with nx := N, ct := N, bk := D.nx } σ2 H2)
theorem tFor_eq {wi : TI} {g : TG} {tb : TS} {D : Ends} {σ : L2.St} {H : Hp} : tFor wi g tb D σ H = wi σ H fun J H1 => ForGo J g tb D σ H1 := rfl
theorem forR {lo : Int} {n : Nat} {g : TG} {tb : TS} {D : Ends} {σ : L2.St} {H : Hp} (Pv : Nat → L2.St → Hp → Prop) (h0 : Pv 0 σ H)
    (hs : ∀ i σ H, i < n → Pv i σ H → ∀ N : L2.St → Hp → Prop, (∀ σ' H', Pv (i + 1) σ' H' → N σ' H') → g (.int (lo + i)) σ H fun σ2 H2 => tb { D with nx := N, ct := N, bk := D.nx } σ2 H2) (hd : ∀ σ H, Pv n σ H → D.nx σ H) : ForGo (Itr lo n) g tb D σ H :=
  for_range Pv h0 (fun i σ H hi p => hs i σ H hi p _ fun _ _ z => z) hd
theorem forL {K : PySem.W.Frag} {a : Addr} {xs : List V} {g : TG} {tb : TS} {D : Ends} {σ : L2.St} {H : Hp} (Pv : Nat → L2.St → Hp → Prop) (h0 : Pv 0 σ H) (hl : ∀ i σ H, i ≤ xs.length → Pv i σ H → SqL K H a xs)
    (hs : ∀ i x σ H, xs[i]? = some x → Pv i σ H → ∀ N : L2.St → Hp → Prop, (∀ σ' H', Pv (i + 1) σ' H' → N σ' H') → g x σ H fun σ2 H2 => tb { D with nx := N, ct := N, bk := D.nx } σ2 H2) (hd : ∀ σ H, Pv xs.length σ H → D.nx σ H) : ForGo (Itl K a) g tb D σ H :=
  for_list Pv h0 hl (fun i x σ H hi p => hs i x σ H hi p _ fun _ _ z => z) hd
theorem forT {K : PySem.W.Frag} {a : Addr} {xs : List V} {g : TG} {tb : TS} {D : Ends} {σ : L2.St} {H : Hp} (Pv : Nat → L2.St → Hp → Prop) (h0 : Pv 0 σ H) (hl : ∀ i σ H, i ≤ xs.length → Pv i σ H → SqT K H a xs)
    (hs : ∀ i x σ H, xs[i]? = some x → Pv i σ H → ∀ N : L2.St → Hp → Prop, (∀ σ' H', Pv (i + 1) σ' H' → N σ' H') → g x σ H fun σ2 H2 => tb { D with nx := N, ct := N, bk := D.nx } σ2 H2) (hd : ∀ σ H, Pv xs.length σ H → D.nx σ H) : ForGo (Itt K a) g tb D σ H :=
  for_tup Pv h0 hl (fun i x σ H hi p => hs i x σ H hi p _ fun _ _ z => z) hd
end My
namespace My
open PySem L2
theorem pr_right {α β : Type} {R : α → β → Prop} : ∀ {xs : List α} {ys : List β} {i : Nat} {y : β}, Paired R xs ys → ys[i]? = some y → ∃ x, xs[i]? = some x ∧ R x y
  | _, _, _, _, .nil, e => by simp at e
  | _, _, 0, _, .cons r _, e => by simp at e; subst e; exact ⟨_, rfl, r⟩
  | _, _, i + 1, y, .cons _ t, e => by
    obtain ⟨u, h1, h2⟩ := pr_right (i := i) (y := y) t (by simpa using e)
    exact ⟨u, by simpa using h1, h2⟩
theorem pr_left {α β : Type} {R : α → β → Prop} : ∀ {xs : List α} {ys : List β} {i : Nat} {x : α}, Paired R xs ys → xs[i]? = some x → ∃ y, ys[i]? = some y ∧ R x y
  | _, _, _, _, .nil, e => by simp at e
  | _, _, 0, _, .cons r _, e => by simp at e; subst e; exact ⟨_, rfl, r⟩
  | _, _, i + 1, y, .cons _ t, e => by
    obtain ⟨u, h1, h2⟩ := pr_left (i := i) (x := y) t (by simpa using e)
    exact ⟨u, by simpa using h1, h2⟩
end My
namespace My
open PySem L2
/-- xs[:-1] -/
theorem cut_butlast (xs : List V) (v : V) : cutV (xs ++ [v]) none (some (-1)) = xs := by
  unfold cutV
  have hl : (xs ++ [v]).length = xs.length + 1 := by simp
  have e : HT.sIx (xs ++ [v]).length (xs ++ [v]).length (some (-1)) = xs.length := by
    show (if (-1 : Int) < 0 then ((-1 : Int) + ((xs ++ [v]).length : Int)).toNat else min (-1 : Int).toNat (xs ++ [v]).length) = xs.length
    rw [if_pos (by decide), hl]
    omega
  rw [HT.sIx_none, e]
  simp
theorem new2 {H : Hp} {G : Addr → Hp → Prop} {o : Addr → HO} (h : ∀ p H', H p = none → Same H H' → H' p = some (o p) → G p H') : ∀ p, H p = none → G p (upd H p (o p)) := fun p hp => h p _ hp (same_new hp) upd_same
end My
namespace My
open PySem L2
/-! ### texts by their signs -/
def mkS (l : List Nat) : Str := ⟨l.toArray⟩
theorem mkS_of (z : Str) : z = mkS z.cps.toList := by cases z; rfl
theorem mkS_cps (l : List Nat) : (mkS l).cps.toList = l := rfl
theorem mkS_len (l : List Nat) : (mkS l).length = l.length := by show l.toArray.size = _; simp
theorem mkS_inj {a b : List Nat} (h : mkS a = mkS b) : a = b := by
  have := congrArg (fun z : Str => z.cps.toList) h
  exact this
theorem mkS_app (a b : List Nat) : mkS a ++ mkS b = mkS (a ++ b) := by
  show (⟨a.toArray ++ b.toArray⟩ : Str) = _
  simp [mkS]
theorem mkS_nil : mkS [] = Str.ofString "" := by decide +kernel
theorem mkS_hi (l : List Nat) (k : Nat) (h : k ≤ l.length) : cutS (mkS l) none (some (k : Int)) = mkS (l.take k) := by
  unfold cutS
  rw [mkS_len, HT.sIx_none, HT.sIx_nat, Nat.min_eq_left h, mkS_cps]
  simp [mkS]
theorem mkS_lo (l : List Nat) (k : Nat) (h : k ≤ l.length) : cutS (mkS l) (some (k : Int)) none = mkS (l.drop k) := by
  unfold cutS
  rw [mkS_len, HT.sIx_none, HT.sIx_nat, Nat.min_eq_left h, mkS_cps]
  have : (l.drop k).take (l.length - k) = l.drop k := List.take_of_length_le (by rw [List.length_drop]; exact Nat.le_refl _)
  rw [this]
  rfl
/-- the letters -/
def abc : List Nat := List.range' 97 26
theorem abc_eq : Str.ofString "abcdefghijklmnopqrstuvwxyz" = mkS abc := by decide +kernel
/-- the letter at a place -/
def lett (m : Int) : Nat := 97 + (m % 26).toNat
theorem lett_at (m : Int) : atI (mkS abc).cps.toList (m % 26) = some (lett m) := by
  have h0 : 0 ≤ m % 26 := Int.emod_nonneg _ (by decide)
  have h1 : m % 26 < 26 := Int.emod_lt_of_pos _ (by decide)
  obtain ⟨k, hk⟩ : ∃ k : Nat, m % 26 = (k : Int) := ⟨(m % 26).toNat, by omega⟩
  unfold lett
  rw [hk, Int.toNat_natCast, mkS_cps]
  refine atI_nat ?_
  rw [abc, List.getElem?_range' (by omega)]
  simp
theorem lett_lt (m : Int) : 97 ≤ lett m ∧ lett m < 123 := by
  have h0 : 0 ≤ m % 26 := Int.emod_nonneg _ (by decide)
  have h1 : m % 26 < 26 := Int.emod_lt_of_pos _ (by decide)
  unfold lett
  omega
theorem one_sign (c : Nat) : (⟨#[c]⟩ : Str) = mkS [c] := rfl
def reserved : List (List Nat) := [[110, 117, 109], [110, 97, 109, 101], [102, 117, 110], [99, 97, 108, 108], [112, 108, 117, 115], [108, 101, 115, 115], [105, 102], [108, 101, 116]]
theorem reserved_eq : [V.str "num", V.str "name", V.str "fun", V.str "call", V.str "plus", V.str "less", V.str "if", V.str "let"] = reserved.map fun l => V.str (mkS l) := by decide +kernel
theorem in_reserved (l : List Nat) : inV (V.str (mkS l)) [V.str "num", V.str "name", V.str "fun", V.str "call", V.str "plus", V.str "less", V.str "if", V.str "let"] = decide (l ∈ reserved) := by
  rw [reserved_eq]
  unfold inV
  rw [List.any_map, Bool.eq_iff_iff]
  simp only [List.any_eq_true, decide_eq_true_eq, Function.comp]
  constructor
  · rintro ⟨x, hx, h⟩
    have h : (mkS x == mkS l) = true := h
    rw [← mkS_inj (eq_of_beq h)]
    exact hx
  · intro h
    exact ⟨l, h, (show (mkS l == mkS l) = true from beq_self_eq_true _)⟩
/-- a word of a letter within others -/
def wordOf (o : List Nat) (k c : Nat) : List Nat := if o.take k ++ [c] ++ o.drop k ∈ reserved then [c] else o.take k ++ [c] ++ o.drop k
theorem wordOf_len (o : List Nat) (k c : Nat) : (wordOf o k c).length ≤ o.length + 1 ∧ 1 ≤ (wordOf o k c).length := by
  unfold wordOf
  split
  · simp
  · simp only [List.length_append, List.length_singleton, List.length_take, List.length_drop]
    omega
theorem wordOf_inj {o : List Nat} {k c c' : Nat} (h : wordOf o k c = wordOf o k c') : c = c' := by
  have key : ∀ {a b : Nat}, [a] = o.take k ++ [b] ++ o.drop k → a = b := by
    intro a b e
    have hl := congrArg List.length e
    simp only [List.length_append, List.length_singleton, List.length_take, List.length_drop] at hl
    have h0 : o = [] := List.length_eq_zero_iff.mp (by omega)
    subst h0
    simpa using e
  unfold wordOf at h
  split at h
  · split at h
    · simpa using h
    · exact key h
  · split at h
    · exact (key h.symm).symm
    · rw [List.append_assoc, List.append_assoc] at h
      have := List.append_cancel_left h
      simpa using this
/-- the names that the laws make of a cell; m is the law's own step -/
def othersOf (m : Int) (c : Int) : List Nat := (List.range (c / 26 % 8).toNat).map fun (t : Nat) => lett (c / 208 + m * (t : Int))
def nameBy (m : Int) (c : Int) : List Nat := wordOf (othersOf m c) (c / 208 % ((othersOf m c).length + 1 : Int)).toNat (lett c)
theorem othersOf_len (m c : Int) : (othersOf m c).length ≤ 7 := by
  have h0 : 0 ≤ c / 26 % 8 := Int.emod_nonneg _ (by decide)
  have h1 : c / 26 % 8 < 8 := Int.emod_lt_of_pos _ (by decide)
  simp only [othersOf, List.length_map, List.length_range]
  omega
end My
namespace My
open PySem L2
open PyProof.Rows
/-! ### s[::-1] -/
def tRevS (te : TE) : TE := fun σ H Q => te σ H fun x H1 => ∃ z : Str, x = .str z ∧ z.length ≤ sizeLine ∧ Q (.str (mkS z.cps.toList.reverse)) H1
theorem pe_revS {X : Cx} {e : Expr} {te : TE} {k : Nat} {p1 p2 p3 pos : Pos} (he : PE X e te) : PE X (.Subscript e (.Slice none none (some (.UnaryOp .USub (.Constant (.int 1) k p1) p2)) p3) pos) (tRevS te) := by
  refine ⟨fun pins s σ H Q I h => ?_⟩
  refine Subscript_ (thn (he.run pins s σ H _ I h) fun v s1 ⟨x, H1, I1, r1, q1⟩ => ?_)
  obtain ⟨z, ex, hx, q⟩ := q1
  subst ex
  obtain ⟨t, rfl⟩ := r1
  have hst : PO X (some (.UnaryOp .USub (.Constant (.int 1) k p1) p2)) (tPart (tUn (rU fun i => .int (-i)) (tC (.int 1)))) := po_some (pe_un un_neg pe_int)
  refine wpAny_Slice (thn (po_none.run pins s1 σ H1 (fun o H2 => o = none ∧ H2 = H1) I1 ⟨rfl, rfl⟩) fun vl s2 ⟨l, H2, I2, pl, el, e2⟩ => ?_)
  subst el e2
  refine thn (po_none.run pins s2 σ H2 (fun o H3 => o = none ∧ H3 = H2) I2 ⟨rfl, rfl⟩) fun vu s3 ⟨u, H3, I3, pu, eu, e3⟩ => ?_
  subst eu e3
  refine thn (hst.run pins s3 σ H3 (fun o H4 => o = some (-1) ∧ H4 = H3) I3 ⟨1, rfl, -1, rfl, rfl, rfl⟩) fun vs s4 ⟨o, H4, I4, ps, eo, e4⟩ => ?_
  subst eo e4
  cases pl
  cases pu
  cases ps with
  | int i uk =>
  show wpAny (model X.prog X.w) X.A (subscriptTail e (.Slice none none (some (.UnaryOp .USub (.Constant (.int 1) k p1) p2)) p3) (.str z t) (.ref s4.heap.objs.size)) (EP X pins σ Q) X.xe { s4 with heap := s4.heap.push { cls := .type "slice", data := .fields #[.none, .none, .int (-1) uk] } }
  have hrev : (Txt.sliceBy z none none (-1, uk)) = mkS z.cps.toList.reverse := by
    rw [mkS_of (Txt.sliceBy z none none (-1, uk)), step_rev_list]
    congr 1
    apply List.ext_getElem
    · simp [Str.length]
    · intro n h1 h2
      simp only [List.length_map, List.length_range] at h1
      simp only [List.getElem_map, List.getElem_range, List.getElem_reverse, Array.length_toList, Array.getElem_toList]
      have hz : z.length = z.cps.size := rfl
      rw [hz] at h1
      rw [Array.getD_eq_getD_getElem?, hz, Array.getElem?_eq_getElem (by omega)]
      rfl
  refine tail_any (ops := [.ref s4.heap.objs.size, .str z t]) (typeIs_str _ _ _) F.slot_str_getitem.lookup ?_ (by with_unfolding_all rfl)
  refine wpAny_getItem_str_slice (l := none) (u := none) (st := some (-1, uk)) ⟨_, Heap.get?_push_size _ rfl, rfl, rfl⟩ rfl (post_val_or_str ⟨Nat.le_trans (Txt.sliceBy_le z none none (-1, uk) (by show (-1 : Int) ≠ 0; decide)) hx, fun t' c => ?_⟩)
  show EP X pins σ Q (.str (Txt.sliceBy z none none (-1, uk)) t') _
  rw [hrev]
  exact ⟨.str _, H4, I4.kept (t' := c) fun b o e => Heap.get?_push_of_some _ e, ⟨t', rfl⟩, q⟩
end My
namespace My
open PySem L2
theorem mkS_app0 (a : List Nat) : mkS a ++ Str.ofString "" = mkS a := by rw [← mkS_nil, mkS_app, List.append_nil]
end My
namespace My
open PySem L2
theorem sjoin_nil : ∀ parts : List (List Nat), Str.join (Str.ofString "") (parts.map mkS) = mkS parts.flatten
  | [] => rfl
  | [x] => by show mkS x = mkS (x ++ []); rw [List.append_nil]
  | x :: y :: r => by
    show mkS x ++ Str.ofString "" ++ Str.join (Str.ofString "") ((y :: r).map mkS) = _
    rw [sjoin_nil (y :: r), mkS_app0, mkS_app]
    rfl
theorem join_nil (parts : List (List Nat)) : Txt.join (Str.ofString "") (parts.map mkS) = mkS parts.flatten := by rw [TL.join_eq, sjoin_nil]
theorem join_signs (l : List Nat) : Txt.join (Str.ofString "") (l.map fun c => mkS [c]) = mkS l := by
  have := join_nil (l.map fun c => [c])
  rw [List.map_map] at this
  rw [show (fun c => mkS [c]) = mkS ∘ (fun c => [c]) from rfl, this]
  have : ∀ l : List Nat, (l.map fun c => [c]).flatten = l := fun l => by
    induction l with
    | nil => rfl
    | cons c r ih => simpa using ih
  rw [this]
end My
namespace My
open PySem L2
theorem cut_hi (xs : List V) (k : Nat) : cutV xs none (some (k : Int)) = xs.take k := by
  unfold cutV
  rw [HT.sIx_none, HT.sIx_nat, List.drop_zero, Nat.sub_zero]
  by_cases h : k ≤ xs.length
  · rw [Nat.min_eq_left h]
  · rw [Nat.min_eq_right (by omega), List.take_length, List.take_of_length_le (by omega)]
theorem cut_lohi (xs : List V) (j k : Nat) : cutV xs (some (j : Int)) (some (k : Int)) = (xs.take k).drop j := by
  unfold cutV
  rw [HT.sIx_nat, HT.sIx_nat]
  apply List.ext_getElem?
  intro n
  simp only [List.getElem?_take, List.getElem?_drop]
  by_cases h1 : j ≤ xs.length <;> by_cases h2 : k ≤ xs.length
  · rw [Nat.min_eq_left h1, Nat.min_eq_left h2]
    by_cases h : n < k - j
    · rw [if_pos h, if_pos (by omega)]
    · rw [if_neg h, if_neg (by omega)]
  · rw [Nat.min_eq_left h1, Nat.min_eq_right (show xs.length ≤ k by omega)]
    by_cases h : n < xs.length - j
    · rw [if_pos h, if_pos (by omega)]
    · rw [if_neg h]
      split
      · rw [List.getElem?_eq_none (by omega)]
      · rfl
  · rw [Nat.min_eq_right (show xs.length ≤ j by omega), Nat.min_eq_left h2, if_neg (by omega)]
    split
    · rw [List.getElem?_eq_none (by omega)]
    · rfl
  · rw [Nat.min_eq_right (show xs.length ≤ j by omega), Nat.min_eq_right (show xs.length ≤ k by omega), if_neg (by omega)]
    split
    · rw [List.getElem?_eq_none (by omega)]
    · rfl
end My

namespace My
open PySem L2
open PySem.W
/-! ### sorted of pairs (int, text) -/
abbrev SRow := Addr × Int × Str
def encR (b : SRow) : PyData := .tuple [.int b.2.1, .str b.2.2]
def rSortIS (K : PySem.W.Frag) : List V → Hp → VK → Prop := fun vs H Q => ∃ (a : Addr) (bs : List SRow), vs = [.ref a] ∧ SqL K H a (bs.map fun b => .ref b.1) ∧ (∀ b ∈ bs, SqT K H b.1 [.int b.2.1, .str b.2.2]) ∧ bs.length ≤ 1000 ∧
  ∀ (cs : List SRow) (p : Addr), cs.Perm bs → cs.Pairwise (fun b c => b.2.1 ≤ c.2.1) → H p = none → Q (.ref p) (upd H p (.lst (cs.map fun c => .ref c.1)))
theorem encR_le {b c : SRow} (h : dataLe false encR b c = true) : b.2.1 ≤ c.2.1 := by
  have h1 : (!dataLt (encR c) (encR b)) = true := by rw [PySem.W.dataLe_eq] at h; exact h
  have h2 : dataLt (encR c) (encR b) = false := by simpa using h1
  unfold encR at h2
  rw [PySem.W.dataLt_pair (by simp [alike]) (by simp [alike]), PySem.W.dataLt_int] at h2
  by_cases e : PyData.eqv (.int c.2.1) (.int b.2.1) = true
  · simp only [PyData.eqv, beq_iff_eq] at e
    omega
  · rw [if_neg e] at h2
    have := of_decide_eq_false h2
    omega
theorem cr_sortedIS {X : Cx} (hu : X.A.units + 64 < cLine) : CallR X (.builtin "sorted") (rSortIS X.K) := by
  intro pins s σ H xs us Q I r h
  obtain ⟨a, bs, rfl, ha, hb, hl, q⟩ := h
  rw [Vals.ref1 r]
  obtain ⟨its, rv, p, hz⟩ := I.list ha
  have its_eq : its = bs.map fun b => Value.ref b.1 := by
    have : ∀ (bs : List SRow) (its : List Value), Vals (bs.map fun b => V.ref b.1) its → its = bs.map fun b => Value.ref b.1 := by
      intro bs
      induction bs with
      | nil => intro its h; cases h; rfl
      | cons b r ih =>
        intro its h
        cases h with
        | cons h1 h2 => rw [ih _ h2, show _ = Value.ref b.1 from h1]; rfl
    exact this bs its rv
  subst its_eq
  have e : ∀ (bs : List SRow), EachIs (fun v (b : SRow) => v = Value.ref b.1) (bs.map fun b => Value.ref b.1) bs := by
    intro bs
    induction bs with
    | nil => exact .nil
    | cons b r ih => exact .cons rfl ih
  have er : ∀ (cs : List SRow), (∀ b ∈ cs, b ∈ bs) → EachIs (fun v (b : SRow) => ∃ as, Reads s.heap v (encR b) as) (cs.map fun b => Value.ref b.1) cs := by
    intro cs
    induction cs with
    | nil => intro _; exact .nil
    | cons b r ih =>
      intro hm
      refine .cons ?_ (ih fun x hx => hm x (List.mem_cons_of_mem _ hx))
      obtain ⟨ts, rt, ⟨o, ho, hc, n, hd⟩, _⟩ := I.tuple (hb b (hm b (List.mem_cons_self)))
      cases rt with
      | cons r1 rt =>
        cases rt with
        | cons r2 rt =>
          cases rt
          obtain ⟨t1, rfl⟩ := r1
          obtain ⟨t2, rfl⟩ := r2
          exact ⟨_, Reads.tuple ho hc hd (.cons (.int _ _) (.cons (.str _ _) .nil))⟩
  refine sorted_data (R := fun v (b : SRow) => v = Value.ref b.1) (enc := encR) (bs := bs) p.isList (e bs) (er bs fun _ h => h) (AllAlike.of fun b c => by simp [encR, alike, PySem.W.alikeAll]) (Sortable.tuples fun b => ⟨_, _, rfl⟩) (szL (by omega)) (fun b _ => ?_) (fun out ho eo => ?_)
  · have : (encR b).depth ≤ 2 := by show PyData.depth (.tuple [.int b.2.1, .str b.2.2]) ≤ 2; simp [PyData.depth, PyData.depthAll]
    omega
  · obtain ⟨c, hc⟩ := PyProof.Rows.sortedAll_at s.heap (bs.map fun b => Value.ref b.1) out.toArray
    have hp : s.heap.objs.size ≤ s.heap.objs.size + 1 := Nat.le_succ _
    have hn : H (s.heap.objs.size + 1) = none := I.hok.fresh hp
    have hperm : (bs.mergeSort (dataLe false encR)).Perm bs := List.mergeSort_perm _ _
    have hpw : (bs.mergeSort (dataLe false encR)).Pairwise (fun b c => b.2.1 ≤ c.2.1) :=
      (PySem.W.sort_pairwise (PySem.W.sortLe_total _ false _) bs).imp fun h => encR_le h
    have hv : Vals ((bs.mergeSort (dataLe false encR)).map fun c => V.ref c.1) out := by
      clear hc ho hperm hpw
      generalize bs.mergeSort (dataLe false encR) = cs at eo
      induction eo with
      | nil => exact .nil
      | cons h1 h2 ih => exact .cons h1 ih
    refine ⟨.ref _, _, I.laid (a := s.heap.objs.size + 1) (o := .lst ((bs.mergeSort (dataLe false encR)).map fun c => V.ref c.1)) (t' := s.toks) (fun b o q => PyProof.Rows.sortedAll_old q) hp ⟨?_, out, c, hv, hc⟩, rfl, q _ _ hperm hpw hn⟩
    rw [List.length_map, hperm.length_eq]
    exact szL (by omega)
end My
namespace My
open PySem L2
/-! ### the rules within a comprehension's block: the written part told by name -/
section
variable {X : Cx} {K : PySem.W.Frag}
theorem ix_tupK (h : X.K = K := by rfl) : IxR X (rIxT K) := h ▸ ix_tup
theorem ix_listK (h : X.K = K := by rfl) : IxR X (rIxL K) := h ▸ ix_list
theorem sl_tupK (h : X.K = K := by rfl) : SlR X (rSlT K) := h ▸ sl_tup
theorem sl_listK (h : X.K = K := by rfl) : SlR X (rSlL K) := h ▸ sl_list
theorem op_in_seqK (h : X.K = K := by rfl) : OpR X (compareOp .In) (rIn K false) := h ▸ op_in_seq
theorem op_notIn_seqK (h : X.K = K := by rfl) : OpR X (compareOp .NotIn) (rIn K true) := h ▸ op_notIn_seq
end
end My
namespace My
open PySem L2
theorem pr_zip {α β : Type} {R : α → β → Prop} : ∀ {as : List α} {bs : List β}, Paired R as bs → ∀ p ∈ as.zip bs, R p.1 p.2
  | _, _, .nil, p, h => by simp at h
  | _, _, .cons r t, p, h => by
    rcases List.mem_cons.mp h with e | h
    · subst e; exact r
    · exact pr_zip t p h
end My
namespace My
open PySem L2
open PyProof.Rows (envOfC)
/-- the law's def, by its address -/
theorem law_of {P : Program} {w : World} {K : PySem.W.Frag} {mg : Str → Option Value} {st : Stmt} {fa : Addr} {x y : Str} {k : Nat} {sp : Sp} {CX : CXT} (F : FunAt K mg x st) (hfa : mg x = some (.ref fa))
    (hb : ∀ (kV doc pm : Value) (an : Option Addr) (cdv ct : Value) (v : Value), bindArgs (PySem.W.fnOf x x (defArgs st) (defBody st) (defScope st) .none kV doc pm an cdv ct) ⟨[v], []⟩ = pure [(y, v)])
    {H : Heap → Prop} (h : ∀ fd : FuncData, Fun K x x st fa fd → ∀ base : Heap, H base → FnOk P w K mg base CX k fa fd [y] sp) :
    ∃ fd : FuncData, (∀ (s : Shared) (v : Value), BindsTo s fd ⟨[v], []⟩ [(y, v)]) ∧ ∀ base : Heap, H base → FnOk P w K mg base CX k fa fd [y] sp := by
  obtain ⟨f, fd, Fn, m⟩ := F
  cases hfa.symm.trans m
  refine ⟨fd, fun s v => ?_, h fd Fn⟩
  obtain ⟨oc, od, kV, doc, pm, an, cdv, ct, osl, rfl, lk, hcd⟩ := Fn.ex
  exact .of_eq (hb kV doc pm an cdv ct v)
end My

namespace K01
open PySem L2 My
open PyProof.Rows (envOfC)
local macro_rules | `(tactic| walk_at "rd") => `(tactic| simp only [My.ife, My.tFor_eq, My.cx_K, My.cx_w, My.rRdK, My.rNeSelf, rIsi, tAsg, tDrop, tRet, tRetN, tIfS, tVar, tC, tOp, tUn, rI0, rI, rU, rEq, rNe, CDiv, CMul, CPow, My.tTup_eq, My.tLst_eq, My.tDNewK_eq, My.tRevL_eq, My.tRevS, tM1, tM0, My.sz0, My.sz1, My.sz2, My.sz3, My.sz4, My.sz5, My.sz8, tCons, tNil, My.tCallD, tCB, gName, gTup, gCons, gNil, gSub, tTest, tB, tAnd, tOr, tNot, tIf, tAndV, tOrV, tNotV, rSetL, rSlS, rIxL, rIxT, rIxS, My.rSlT_eq, My.rSlL_eq, rIn, rCat, tLc_eq, iList, iTup, iRng1, iRng2, wipe, List.map_cons, List.map_nil, tSl, tPart, tNoPart, tBM, tBM0, rAppend, My.rPopL, rExtend, tNext, tBreak, tCont, My.scal_ii, My.scal_ss, My.scal_bb, My.scal_is, My.scal_si, ipI, rListD, sDPut, tDGet, tDGet2, tAug, List.getElem?_cons_zero, List.getElem?_cons_succ, List.set_cons_zero, List.set_cons_succ, Option.some.injEq, exists_eq_left', exists_eq_left, V.int.injEq, V.ref.injEq, V.str.injEq, V.bl.injEq, exists_and_left, true_and, and_true, List.cons.injEq, exists_const, Bool.false_eq_true, ↓reduceIte, reduceCtorEq, false_and, and_assoc, decide_true, decide_false])
local macro_rules | `(tactic| walk_at "st") => `(tactic| (refine My.seq_ fun R hR => ?_))

def topS (i : Nat) : Stmt := PySem.Challenge.pw_closuremill_k01_free_names.main.body.getD i (.Pass ⟨0, 0, 0, 0⟩)
/-- where the parts begin -/
def startOf (t : Tr) : Int := match t with | .num _ => 2 | .name _ => 2 | .fn _ _ => 2 | .lt _ _ _ => 2 | _ => 1
structure Txt (K : PySem.W.Frag) (w : World) (mg : Str → Option Value) (aS : Addr) : Prop where
  LOOK : GInt mg "LOOK" 0
  BIND : GInt mg "BIND" 1
  LOOSE : GInt mg "LOOSE" 2
  STARTS : mg "STARTS" = some (.ref aS)
  starts : ∀ t : Tr, RdK K w aS t.word (.int (startOf t))
  len : mg "len" = none
  list : mg "list" = none
  range : mg "range" = none
  isinstance : mg "isinstance" = none
  sorted : mg "sorted" = none
  str : mg "str" = none
  int : mg "int" = none
  bool : mg "bool" = none
  tuple : mg "tuple" = none
abbrev s__law_cell_at : Stmt := topS 10
abbrev N__law_cell_at : List Str := ["_law_script", "_law_k"]
theorem sc__law_cell_at : FnScope N__law_cell_at ["_law_script", "_law_k"] (defScope s__law_cell_at) := ⟨rfl, rfl, rfl, by decide +kernel, rfl, by decide +kernel, by decide +kernel⟩
theorem bd__law_cell_at : BindAll "_law_cell_at" s__law_cell_at ["_law_script", "_law_k"] := fun _ _ _ _ _ _ us hl => match us, hl with | [_, _], _ => rfl
theorem st__law_cell_at (v0 v1 : V) : start N__law_cell_at [v0, v1] = [some v0, some v1] := rfl
abbrev s_parts : Stmt := topS 5
abbrev N_parts : List Str := ["tree"]
theorem sc_parts : FnScope N_parts ["tree"] (defScope s_parts) := ⟨rfl, rfl, rfl, by decide +kernel, rfl, by decide +kernel, by decide +kernel⟩
theorem bd_parts : BindAll "parts" s_parts ["tree"] := fun _ _ _ _ _ _ us hl => match us, hl with | [_], _ => rfl
theorem st_parts (v0 : V) : start N_parts [v0] = [some v0] := rfl
abbrev s_nodes : Stmt := topS 6
abbrev N_nodes : List Str := ["tree", "count", "waiting", "node"]
theorem sc_nodes : FnScope N_nodes ["tree"] (defScope s_nodes) := ⟨rfl, rfl, rfl, by decide +kernel, rfl, by decide +kernel, by decide +kernel⟩
theorem bd_nodes : BindAll "nodes" s_nodes ["tree"] := fun _ _ _ _ _ _ us hl => match us, hl with | [_], _ => rfl
theorem st_nodes (v0 : V) : start N_nodes [v0] = [some v0, none, none, none] := rfl
abbrev s__law_joined : Stmt := topS 13
abbrev N__law_joined : List Str := ["_law_kind", "_law_name", "_law_one", "_law_other"]
theorem sc__law_joined : FnScope N__law_joined ["_law_kind", "_law_name", "_law_one", "_law_other"] (defScope s__law_joined) := ⟨rfl, rfl, rfl, by decide +kernel, rfl, by decide +kernel, by decide +kernel⟩
theorem bd__law_joined : BindAll "_law_joined" s__law_joined ["_law_kind", "_law_name", "_law_one", "_law_other"] := fun _ _ _ _ _ _ us hl => match us, hl with | [_, _, _, _], _ => rfl
theorem st__law_joined (v0 v1 v2 v3 : V) : start N__law_joined [v0, v1, v2, v3] = [some v0, some v1, some v2, some v3] := rfl
abbrev s__law_within : Stmt := topS 15
abbrev N__law_within : List Str := ["_law_node", "_law_part"]
theorem sc__law_within : FnScope N__law_within ["_law_node"] (defScope s__law_within) := ⟨rfl, rfl, rfl, by decide +kernel, rfl, by decide +kernel, by decide +kernel⟩
theorem bd__law_within : BindAll "_law_within" s__law_within ["_law_node"] := fun _ _ _ _ _ _ us hl => match us, hl with | [_], _ => rfl
theorem st__law_within (v0 : V) : start N__law_within [v0] = [some v0, none] := rfl
def cell (ns : List Int) (k : Nat) : Int := ns.getD k 0
theorem cell_at {ns : List Int} {k : Nat} (h : (k : Int) < ((ns.map V.int).length : Int)) : atI (ns.map V.int) (k : Int) = some (.int (cell ns k)) := by
  rw [List.length_map] at h
  have h' : k < ns.length := by omega
  refine atI_nat ?_
  rw [List.getElem?_map, List.getElem?_eq_getElem h']
  simp [cell, List.getD_eq_getElem?_getD, List.getElem?_eq_getElem h']
theorem cell_out {ns : List Int} {k : Nat} (h : ¬ (k : Int) < ((ns.map V.int).length : Int)) : cell ns k = 0 := by
  rw [List.length_map] at h
  have h' : ns.length ≤ k := by omega
  simp [cell, List.getD_eq_getElem?_getD, List.getElem?_eq_none h']
def spCell (K : PySem.W.Frag) : Sp := fun vs H Q _ => ∃ (a : Addr) (ns : List Int) (k : Nat), vs = [.ref a, .int k] ∧ SqL K H a (ns.map V.int) ∧ Q (.int (cell ns k)) H
/-- a tuple of a tree's form is given: its parts, in a new list -/
def spParts : Sp := fun vs H Q _ => ∃ (t : Tr) (a : Addr) (ws : List V), vs = [.ref a] ∧ H a = some (.tup (.str t.word :: t.own ++ ws)) ∧ ws.length ≤ 3 ∧ ∀ (l : Addr) (H' : Hp), H l = none → Same H H' → H' l = some (.lst ws) → Q (.ref l) H'
def spNodes : Sp := fun vs H Q _ => ∃ (t : Tr) (v : V), vs = [v] ∧ At H t v ∧ t.size ≤ 100000 ∧ ∀ H', Same H H' → Q (.int (t.size : Int)) H'
section
variable {P : Program} {w : World} {K : PySem.W.Frag} {mg : Str → Option Value} {base : Heap} {aS : Addr}
/-! defs -/
theorem df_cell (T : Txt K w mg aS) (F : FunAt K mg "_law_cell_at" s__law_cell_at) : Df P w K mg base 1 "_law_cell_at" ["_law_script", "_law_k"] (spCell K) := by
  refine F.df sc__law_cell_at bd__law_cell_at (fun vs H Q E h => ?_) (fun f cdv A outer s H vs Q E hr h => ?_)
  · obtain ⟨_, _, _, rfl, _⟩ := h; rfl
  obtain ⟨a, ns, k, rfl, hS, q⟩ := h
  have nd := sc__law_cell_at.nd
  refine ⟨_, (pss_cons (ps_if (pt_cmpR op_lt (pv 1) (pe_callB call_len_seq (by rfl) T.len PySem.boot_len (pa_cons (pv 0) pa_nil)) (nomark _))
    (pss_one (ps_ret (pe_ix ix_list (pv 0) (pv 1) (fun _ _ => rfl))))
    pss_nil)
  (pss_one (ps_ret pe_int))), ?_⟩
  rw [st__law_cell_at]
  refine seq_ fun R hR => ?_
  walk_at "rd"
  refine ⟨_, .inl hS, ?_⟩
  split
  · exact ⟨_, hS, _, cell_at (by assumption), q⟩
  · rw [hR]
    walk_at "rd"
    rw [← cell_out (ns := ns) (k := k) (by assumption)]
    exact q
theorem own_at (t : Tr) (ws : List V) : ∃ n : Nat, startOf t = (n : Int) ∧ 0 < n ∧ n ≤ 2 ∧ (V.str t.word :: t.own ++ ws).drop n = ws ∧ n ≤ (V.str t.word :: t.own ++ ws).length := by
  cases t
  case num => exact ⟨2, rfl, by decide, by decide, rfl, by simp [Tr.own]⟩
  case name => exact ⟨2, rfl, by decide, by decide, rfl, by simp [Tr.own]⟩
  case fn => exact ⟨2, rfl, by decide, by decide, rfl, by simp [Tr.own]⟩
  case lt => exact ⟨2, rfl, by decide, by decide, rfl, by simp [Tr.own]⟩
  all_goals exact ⟨1, rfl, by decide, by decide, rfl, by simp [Tr.own]⟩
theorem cut_from {xs : List V} {n : Nat} (h : n ≤ xs.length) : cutV xs (some (n : Int)) none = xs.drop n := by
  unfold cutV
  rw [HT.sIx_nat, HT.sIx_none, Nat.min_eq_left h]
  exact List.take_of_length_le (by rw [List.length_drop]; exact Nat.le_refl _)
theorem not_whole {n m : Nat} (h : 0 < n) (hm : n ≤ m) : ¬ (HT.sIx m 0 (some (n : Int)) = 0 ∧ HT.sIx m m none = m) := by
  rw [HT.sIx_nat]
  omega
theorem df_parts (T : Txt K w mg aS) (F : FunAt K mg "parts" s_parts) : Df P w K mg base 1 "parts" ["tree"] spParts := by
  refine F.df sc_parts bd_parts (fun vs H Q E h => ?_) (fun f cdv A outer s H vs Q E hr h => ?_)
  · obtain ⟨_, _, _, rfl, _⟩ := h; rfl
  obtain ⟨t, a, ws, rfl, ha, hws, q⟩ := h
  have nd := sc_parts.nd
  refine ⟨_, (pss_one (ps_ret (pe_callTy call_list_of (by rfl) T.list (by decide +kernel) (pa_cons (pe_slice sl_tup (pv 0) (po_some (pe_ix ix_kd (pe_gref (by rfl) T.STARTS) (pe_ix ix_tup (pv 0) pe_int (fun _ _ => rfl)) (fun _ _ => rfl))) po_none) pa_nil)))), ?_⟩
  rw [st_parts]
  walk_at "rd"
  refine ⟨_, SqT.of ha, _, at0 _ _, _, rfl, _, T.starts t, _, rfl, ?_⟩
  obtain ⟨n, e, h0, h2, hd, hle⟩ := own_at t ws
  rw [e]
  refine ⟨_, SqT.of ha, not_whole h0 hle, fun p hp => ?_⟩
  rw [cut_from hle, hd]
  refine ⟨_, .inr (SqT.of upd_same), fun l hl => ?_⟩
  have hl0 : H l = none := Same.free (same_new hp) hl
  exact q l _ hl0 ((same_new hp).trans (same_new hl)) upd_same
theorem df_nodes (T : Txt K w mg aS) (F : FunAt K mg "nodes" s_nodes) (D_parts : Df P w K mg base 1 "parts" ["tree"] spParts) : Df P w K mg base 2 "nodes" ["tree"] spNodes := by
  refine F.df sc_nodes bd_nodes (fun vs H Q E h => ?_) (fun f cdv A outer s H vs Q E hr h => ?_)
  · obtain ⟨_, _, rfl, _⟩ := h; rfl
  obtain ⟨t, v, rfl, ht, hz, q⟩ := h
  have nd := sc_nodes.nd
  refine ⟨_, (pss_cons (ps_set (i := 1) nd rfl (Or.inl rfl) pe_int)
  (pss_cons (ps_set (i := 2) nd rfl (Or.inl rfl) (pe_lst (pa_cons (pv 0) pa_nil)))
  (pss_cons (ps_while PassesOwn.never (pt_truth (pv 2) (by intro _; rfl))
    (pss_cons (ps_set (i := 3) nd rfl (Or.inl rfl) (pe_bm0 PySem.F.plainAttrs_list PySem.F.slot_list_pop PySem.F.type_list_pop mt_popL (pv 2)))
      (pss_cons (ps_aug (i := 1) nd rfl (Or.inl rfl) pe_int ip_add)
      (pss_one (ps_expr (pe_bm PySem.F.plainAttrs_list PySem.F.slot_list_extend PySem.F.type_list_extend mt_extend (pv 2) (pa_cons (pe_callD D_parts hr (by decide) rfl (pa_cons (pv 3) pa_nil)) pa_nil)))))))
  (pss_one (ps_ret (pv 1)))))), ?_⟩
  rw [st_nodes]
  refine seq_ fun R hR => ?_
  walk_at "rd"
  rw [hR]; clear hR
  refine seq_ fun R hR => ?_
  walk_at "rd"
  refine new_ fun l H0 hl k0 a0 => ?_
  rw [hR]; clear hR
  refine seq_ fun R hR => ?_
  refine whileL_ (fun m σ H' => ∃ (vs : List V) (ts : List Tr) (c : Int) (x : Option V), σ = [some v, some (.int c), some (.ref l), x] ∧ Same H H' ∧ H' l = some (.lst vs) ∧ Ats H' ts vs ∧ c + (sizes ts : Int) = t.size ∧ 0 ≤ c ∧ m = sizes ts) t.size ?_ ?_
  · exact ⟨[v], [t], 0, none, rfl, k0, a0, .cons (ht.mono (same_kt k0)) .nil, by simp [sizes], by decide, by simp [sizes]⟩
  · rintro m σ H1 ⟨vs, ts, c, x, rfl, e1, hL, hA, hc, hc0, rfl⟩
    refine ⟨l, vs, rfl, hL, fun h0 => ?_, fun ys y hy N hN => ?_⟩
    · subst h0
      cases hA
      rw [hR]
      walk_at "rd"
      rw [show c = (t.size : Int) by simp [sizes] at hc; omega]
      exact q _ e1
    · subst hy
      obtain ⟨us, u, rfl, hA1, hu⟩ := Ats.snoc_inv hA
      refine seq_ fun R1 hR1 => ?_
      walk_at "rd"
      refine ⟨.inl ⟨rfl, _, SqL.of hL⟩, _, _, hL, ?_⟩
      rw [hR1]; clear hR1
      refine seq_ fun R1 hR1 => ?_
      walk_at "rd"
      rw [hR1]; clear hR1
      walk_at "rd"
      refine ⟨.inl ⟨rfl, _, SqL.of upd_same⟩, ?_⟩
      obtain ⟨a, ws, rfl, ha, hw⟩ := hu.view
      have kt1 := kt_lst (o := .lst ys) hL
      have hwl : ws.length ≤ 3 := by rw [← Paired.length hw]; exact kids_le u
      refine ⟨u, a, ws, rfl, kt1 _ _ ha, hwl, fun b H2 hb e2 hB => ?_⟩
      walk_at "rd"
      have ks := u.size_kids
      have bd : sizes (us ++ u.kids) ≤ 100000 := by rw [sizes_append] at hc ⊢; rw [sizes_cons, sizes_nil] at hc; omega
      have hA2 : Ats (upd H2 l (.lst (ys ++ ws))) (us ++ u.kids) (ys ++ ws) := by
        refine Ats.mono ((kt1.trans (same_kt e2)).trans (kt_lst (e2 _ _ upd_same))) (Ats.append hA1 hw)
      refine ⟨_, e2 _ _ upd_same, _, hB, ?_, ?_⟩
      · have l1 := Paired.length hA2
        have l2 := le_sizes (us ++ u.kids)
        rw [List.length_append (as := ys)] at l1
        exact szL (by omega)
      · refine hN _ _ _ ?_ ⟨_, _, c + 1, _, rfl, same_mut ((same_mut e1 hl).trans e2) hl, upd_same, hA2, ?_, by omega, rfl⟩
        · rw [sizes_append, sizes_append, sizes_cons, sizes_nil]; omega
        · rw [sizes_append] at hc ⊢; rw [sizes_cons, sizes_nil] at hc; omega
end
end K01

namespace K01
open PySem L2 My
open PyProof.Rows (envOfC)
local macro_rules | `(tactic| walk_at "rd") => `(tactic| simp only [My.ife, My.tFor_eq, My.cx_K, My.cx_w, My.rRdK, My.rNeSelf, rIsi, tAsg, tDrop, tRet, tRetN, tIfS, tVar, tC, tOp, tUn, rI0, rI, rU, rEq, rNe, CDiv, CMul, CPow, My.tTup_eq, My.tLst_eq, My.tDNewK_eq, My.tRevL_eq, My.tRevS, tM1, tM0, My.sz0, My.sz1, My.sz2, My.sz3, My.sz4, My.sz5, My.sz8, tCons, tNil, My.tCallD, tCB, gName, gTup, gCons, gNil, gSub, tTest, tB, tAnd, tOr, tNot, tIf, tAndV, tOrV, tNotV, rSetL, rSlS, rIxL, rIxT, rIxS, My.rSlT_eq, My.rSlL_eq, rIn, rCat, tLc_eq, iList, iTup, iRng1, iRng2, wipe, List.map_cons, List.map_nil, tSl, tPart, tNoPart, tBM, tBM0, rAppend, My.rPopL, rExtend, tNext, tBreak, tCont, My.scal_ii, My.scal_ss, My.scal_bb, My.scal_is, My.scal_si, ipI, rListD, sDPut, tDGet, tDGet2, tAug, List.getElem?_cons_zero, List.getElem?_cons_succ, List.set_cons_zero, List.set_cons_succ, Option.some.injEq, exists_eq_left', exists_eq_left, V.int.injEq, V.ref.injEq, V.str.injEq, V.bl.injEq, exists_and_left, true_and, and_true, List.cons.injEq, exists_const, Bool.false_eq_true, ↓reduceIte, reduceCtorEq, false_and, and_assoc, decide_true, decide_false])
local macro_rules | `(tactic| walk_at "st") => `(tactic| (refine My.seq_ fun R hR => ?_))

/-- what the law's _law_joined makes -/
def joined (k : Int) (x : Str) (a b : Tr) : Tr :=
  if k = 6 then .call (.fn x a) b else if k = 7 then .plus a b else if k = 8 then .less a b else if k = 9 then .ite a b (.name x) else .lt x a b
def spJoined : Sp := fun vs H Q _ => ∃ (k : Int) (x : Str) (a b : Tr) (u v : V), vs = [.int k, .str x, u, v] ∧ At H a u ∧ At H b v ∧ ∀ (r : V) (H' : Hp), Same H H' → At H' (joined k x a b) r → Q r H'
/-- the parts of a node, made anew -/
def spWithin : Sp := fun vs H Q _ => ∃ (t : Tr) (a : Addr) (ws : List V), vs = [.ref a] ∧ H a = some (.tup (.str t.word :: t.own ++ ws)) ∧ ws.length = t.kids.length ∧ ∀ (l : Addr) (H' : Hp), H l = none → Same H H' → H' l = some (.lst ws) → Q (.ref l) H'
section
variable {P : Program} {w : World} {K : PySem.W.Frag} {mg : Str → Option Value} {base : Heap} {aS : Addr}
theorem df_joined (T : Txt K w mg aS) (F : FunAt K mg "_law_joined" s__law_joined) : Df P w K mg base 1 "_law_joined" ["_law_kind", "_law_name", "_law_one", "_law_other"] spJoined := by
  refine F.df sc__law_joined bd__law_joined (fun vs H Q E h => ?_) (fun f cdv A outer s H vs Q E hr h => ?_)
  · obtain ⟨_, _, _, _, _, _, rfl, _⟩ := h; rfl
  obtain ⟨k, x, a, b, u, v, rfl, ha, hb, q⟩ := h
  have nd := sc__law_joined.nd
  refine ⟨_, (pss_cons (ps_if (pt_cmpR op_eq (pv 0) pe_int (nomark _))
    (pss_one (ps_ret (pe_tup (pa_cons pe_str (pa_cons (pe_tup (pa_cons pe_str (pa_cons (pv 1) (pa_cons (pv 2) pa_nil)))) (pa_cons (pv 3) pa_nil))))))
    pss_nil)
  (pss_cons (ps_if (pt_cmpR op_eq (pv 0) pe_int (nomark _))
    (pss_one (ps_ret (pe_tup (pa_cons pe_str (pa_cons (pv 2) (pa_cons (pv 3) pa_nil))))))
    pss_nil)
  (pss_cons (ps_if (pt_cmpR op_eq (pv 0) pe_int (nomark _))
    (pss_one (ps_ret (pe_tup (pa_cons pe_str (pa_cons (pv 2) (pa_cons (pv 3) pa_nil))))))
    pss_nil)
  (pss_cons (ps_if (pt_cmpR op_eq (pv 0) pe_int (nomark _))
    (pss_one (ps_ret (pe_tup (pa_cons pe_str (pa_cons (pv 2) (pa_cons (pv 3) (pa_cons (pe_tup (pa_cons pe_str (pa_cons (pv 1) pa_nil))) pa_nil)))))))
    pss_nil)
  (pss_one (ps_ret (pe_tup (pa_cons pe_str (pa_cons (pv 1) (pa_cons (pv 2) (pa_cons (pv 3) pa_nil))))))))))), ?_⟩
  rw [st__law_joined]
  refine seq_ fun R hR => ?_
  walk_at "rd"
  by_cases h6 : k = 6
  · rw [if_pos h6]
    refine new_ fun p H1 hp k1 a1 => new_ fun r H2 hr k2 a2 => q _ _ (k1.trans k2) ?_
    rw [joined, if_pos h6]
    exact ⟨r, _, _, rfl, a2, ⟨p, _, rfl, k2 _ _ a1, ha.mono (same_kt (k1.trans k2))⟩, hb.mono (same_kt (k1.trans k2))⟩
  rw [if_neg h6, hR]; clear hR
  refine seq_ fun R hR => ?_
  walk_at "rd"
  by_cases h7 : k = 7
  · rw [if_pos h7]
    refine new_ fun r H2 hr k2 a2 => q _ _ k2 ?_
    rw [joined, if_neg h6, if_pos h7]
    exact ⟨r, _, _, rfl, a2, ha.mono (same_kt k2), hb.mono (same_kt k2)⟩
  rw [if_neg h7, hR]; clear hR
  refine seq_ fun R hR => ?_
  walk_at "rd"
  by_cases h8 : k = 8
  · rw [if_pos h8]
    refine new_ fun r H2 hr k2 a2 => q _ _ k2 ?_
    rw [joined, if_neg h6, if_neg h7, if_pos h8]
    exact ⟨r, _, _, rfl, a2, ha.mono (same_kt k2), hb.mono (same_kt k2)⟩
  rw [if_neg h8, hR]; clear hR
  refine seq_ fun R hR => ?_
  walk_at "rd"
  by_cases h9 : k = 9
  · rw [if_pos h9]
    refine new_ fun p H1 hp k1 a1 => new_ fun r H2 hr k2 a2 => q _ _ (k1.trans k2) ?_
    rw [joined, if_neg h6, if_neg h7, if_neg h8, if_pos h9]
    exact ⟨r, _, _, _, rfl, a2, ha.mono (same_kt (k1.trans k2)), hb.mono (same_kt (k1.trans k2)), ⟨p, rfl, k2 _ _ a1⟩⟩
  rw [if_neg h9, hR]; clear hR
  walk_at "rd"
  refine new_ fun r H2 hr k2 a2 => q _ _ k2 ?_
  rw [joined, if_neg h6, if_neg h7, if_neg h8, if_neg h9]
  exact ⟨r, _, _, rfl, a2, ha.mono (same_kt k2), hb.mono (same_kt k2)⟩
theorem df_within (T : Txt K w mg aS) (F : FunAt K mg "_law_within" s__law_within) : Df P w K mg base 1 "_law_within" ["_law_node"] spWithin := by
  refine F.df sc__law_within bd__law_within (fun vs H Q E h => ?_) (fun f cdv A outer s H vs Q E hr h => ?_)
  · obtain ⟨_, _, _, rfl, _⟩ := h; rfl
  obtain ⟨t, a, ws, rfl, ha, hws, q⟩ := h
  have nd := sc__law_within.nd
  refine ⟨_, (pss_cons (ps_if (pt_cmpR op_in_seq (pe_ix ix_tup (pv 0) pe_int (fun _ _ => rfl)) (pe_tup (pa_cons pe_str (pa_cons pe_str pa_nil))) rfl)
    (pss_one (ps_ret (pe_lst pa_nil)))
    pss_nil)
  (pss_cons (ps_if (pt_cmpR op_in_seq (pe_ix ix_tup (pv 0) pe_int (fun _ _ => rfl)) (pe_tup (pa_cons pe_str (pa_cons pe_str pa_nil))) rfl)
    (pss_one (ps_ret (pe_lc (own := [("_law_part", 1)]) (g := gName 1) rfl nd (pi_tup (pe_slice sl_tup (pv 0) (po_some pe_int) po_none)) (blkOk_by (N := N__law_within) (sc := defScope s__law_within) (by decide +kernel)) (fun _ _ _ _ _ => (pg_name (i := 1) nd rfl (Or.inl rfl))) (fun _ _ _ _ _ => pts_nil) (fun _ _ _ _ _ => (pv 1)))))
    pss_nil)
  (pss_one (ps_ret (pe_lc (own := [("_law_part", 1)]) (g := gName 1) rfl nd (pi_tup (pe_slice sl_tup (pv 0) (po_some pe_int) po_none)) (blkOk_by (N := N__law_within) (sc := defScope s__law_within) (by decide +kernel)) (fun _ _ _ _ _ => (pg_name (i := 1) nd rfl (Or.inl rfl))) (fun _ _ _ _ _ => pts_nil) (fun _ _ _ _ _ => (pv 1))))))), ?_⟩
  rw [st__law_within]
  refine seq_ fun R hR => ?_
  walk_at "rd"
  refine ⟨_, SqT.of ha, _, at0 _ _, new_ fun p H1 hp e2 a1 => ⟨_, .inr (SqT.of a1), rfl, rfl, ?_⟩⟩
  have ha1 := e2 _ _ ha
  rw [in_leaf]
  by_cases h1 : t.leaf = true
  · rw [if_pos h1]
    have e : ws = [] := by
      cases t <;> first
        | exact List.length_eq_zero_iff.mp hws
        | exact absurd h1 Bool.false_ne_true
    subst e
    exact new_ fun l H3 hl k3 a3 => q l _ (e2.free hl) (e2.trans k3) a3
  rw [if_neg h1, hR]; clear hR
  refine seq_ fun R hR => ?_
  walk_at "rd"
  refine ⟨_, SqT.of ha1, _, at0 _ _, new_ fun p1 H2 hp1 k2 a2 => ⟨_, .inr (SqT.of a2), rfl, rfl, ?_⟩⟩
  have e3 := e2.trans k2
  have ha2 := e3 _ _ ha
  have fin : ∀ n : Nat, 0 < n → n ≤ (V.str t.word :: t.own ++ ws).length → (V.str t.word :: t.own ++ ws).drop n = ws →
      ∃ x, SqT K H2 a x ∧ ¬(HT.sIx x.length 0 (some (n : Int)) = 0 ∧ HT.sIx x.length x.length none = x.length) ∧ New H2 (.tup (cutV x (some (n : Int)) none)) fun p H3 =>
        (∃ xs, SqT K H3 p xs) ∧ LcGo (Itt K p) (gName 1) tYes (tVar 1) [1] [some (V.ref a), none] H3 Q := by
    intro n h0 hle hd
    refine ⟨_, SqT.of ha2, not_whole h0 hle, ?_⟩
    rw [cut_from hle, hd]
    refine new_ fun p2 H3 hp2 k3 a3 => ⟨⟨_, SqT.of a3⟩, lcT_copy (SqT.of a3) (by rw [hws]; exact Nat.le_trans (kids_le t) (by decide)) (fun _ => rfl) (fun _ => rfl) fun D H' hD e h => ?_⟩
    exact q D H' (e3.free (k3.free hD)) ((e3.trans k3).trans e) h
  rw [in_binds]
  by_cases h2 : t.binds = true
  · rw [if_pos h2]
    refine fin 2 (by decide) ?_ ?_
    · cases t <;> first
        | exact absurd h2 Bool.false_ne_true
        | (simp [Tr.own])
    · cases t <;> first
        | exact absurd h2 Bool.false_ne_true
        | rfl
  rw [if_neg h2, hR]; clear hR
  walk_at "rd"
  refine fin 1 (by decide) ?_ ?_
  · simp
  · cases t <;> first
      | rfl
      | exact absurd rfl h1
      | exact absurd rfl h2
end
end K01

namespace K01
open PySem L2 My
open PyProof.Rows (envOfC)
local macro_rules | `(tactic| walk_at "rd") => `(tactic| simp only [My.ife, My.tFor_eq, My.cx_K, My.cx_w, My.rRdK, My.rNeSelf, rIsi, tAsg, tDrop, tRet, tRetN, tIfS, tVar, tC, tOp, tUn, rI0, rI, rU, rEq, rNe, CDiv, CMul, CPow, My.tTup_eq, My.tLst_eq, My.tDNewK_eq, My.tRevL_eq, My.tRevS, tM1, tM0, My.sz0, My.sz1, My.sz2, My.sz3, My.sz4, My.sz5, My.sz8, tCons, tNil, My.tCallD, tCB, gName, gTup, gCons, gNil, gSub, tTest, tB, tAnd, tOr, tNot, tIf, tAndV, tOrV, tNotV, rSetL, rSlS, rIxL, rIxT, rIxS, My.rSlT_eq, My.rSlL_eq, rIn, rCat, tLc_eq, iList, iTup, iRng1, iRng2, wipe, List.map_cons, List.map_nil, tSl, tPart, tNoPart, tBM, tBM0, rAppend, My.rPopL, rExtend, tNext, tBreak, tCont, My.scal_ii, My.scal_ss, My.scal_bb, My.scal_is, My.scal_si, ipI, rListD, sDPut, tDGet, tDGet2, tAug, List.getElem?_cons_zero, List.getElem?_cons_succ, List.set_cons_zero, List.set_cons_succ, Option.some.injEq, exists_eq_left', exists_eq_left, V.int.injEq, V.ref.injEq, V.str.injEq, V.bl.injEq, exists_and_left, true_and, and_true, List.cons.injEq, exists_const, Bool.false_eq_true, ↓reduceIte, reduceCtorEq, false_and, and_assoc, decide_true, decide_false])
local macro_rules | `(tactic| walk_at "st") => `(tactic| (refine My.seq_ fun R hR => ?_))

def N60 (n : Int) : Prop := -(10 ^ 60) < n ∧ n < 10 ^ 60
theorem n60a (m : Int) : N60 (m % (2 * 10 ^ (60 : Int).toNat - 1) - 10 ^ (60 : Int).toNat + 1) := by
  show -(10 ^ 60) < m % (2 * 10 ^ 60 - 1) - 10 ^ 60 + 1 ∧ m % (2 * 10 ^ 60 - 1) - 10 ^ 60 + 1 < 10 ^ 60
  omega
theorem n60b (m : Int) : N60 (m % 10 ^ (60 : Int).toNat) := by
  show -(10 ^ 60) < m % 10 ^ 60 ∧ m % 10 ^ 60 < 10 ^ 60
  omega
def spTree (K : PySem.W.Frag) : Sp := fun vs H Q _ => ∃ (a b : Addr) (ns : List Int) (xs : List Str), vs = [.ref a, .ref b] ∧ SqL K H a (ns.map V.int) ∧ ns.length ≤ 60 ∧ SqL K H b (xs.map V.str) ∧ 0 < xs.length ∧ xs.length ≤ 100 ∧
  ∀ (t : Tr) (r : V) (H' : Hp), Same H H' → At H' t r → t.all (· ∈ xs) N60 → t.size ≤ 5 * ns.length + 1 → Q r H'
abbrev s__law_tree_by : Stmt := topS 14
abbrev N__law_tree_by : List Str := ["_law_cells", "_law_names", "_law_stack", "_law_cell", "_law_kind", "_law_more", "_law_name", "_law_other_name", "_law_other"]
theorem sc__law_tree_by : FnScope N__law_tree_by ["_law_cells", "_law_names"] (defScope s__law_tree_by) := ⟨rfl, rfl, rfl, by decide +kernel, rfl, by decide +kernel, by decide +kernel⟩
theorem bd__law_tree_by : BindAll "_law_tree_by" s__law_tree_by ["_law_cells", "_law_names"] := fun _ _ _ _ _ _ us hl => match us, hl with | [_, _], _ => rfl
theorem st__law_tree_by (v0 v1 : V) : start N__law_tree_by [v0, v1] = [some v0, some v1, none, none, none, none, none, none, none] := rfl
section
variable {P : Program} {w : World} {K : PySem.W.Frag} {mg : Str → Option Value} {base : Heap} {aS : Addr}
theorem df_tree (T : Txt K w mg aS) (F : FunAt K mg "_law_tree_by" s__law_tree_by) (D__law_joined : Df P w K mg base 1 "_law_joined" ["_law_kind", "_law_name", "_law_one", "_law_other"] spJoined) : Df P w K mg base 2 "_law_tree_by" ["_law_cells", "_law_names"] (spTree K) := by
  refine F.df sc__law_tree_by bd__law_tree_by (fun vs H Q E h => ?_) (fun f cdv A outer s H vs Q E hr h => ?_)
  · obtain ⟨_, _, _, _, rfl, _⟩ := h; rfl
  obtain ⟨a, b, ns, xs, rfl, ha, hns, hb, hx0, hx1, q⟩ := h
  have nd := sc__law_tree_by.nd
  refine ⟨_, (pss_cons (ps_set (i := 2) nd rfl (Or.inl rfl) (pe_lst pa_nil))
  (pss_cons (ps_for PassesOwn.never rfl (pi_list (pv 0)) (pg_name (i := 3) nd rfl (Or.inl rfl))
    (pss_cons (ps_set (i := 4) nd rfl (Or.inl rfl) (pe_op op_mod (pv 3) pe_int))
      (pss_cons (ps_set (i := 5) nd rfl (Or.inl rfl) (pe_op op_fdiv (pv 3) pe_int))
      (pss_cons (ps_set (i := 6) nd rfl (Or.inl rfl) (pe_ix ix_list (pv 1) (pe_op op_mod (pv 5) (pe_callB call_len_seq (by rfl) T.len PySem.boot_len (pa_cons (pv 1) pa_nil))) (fun _ _ => rfl)))
      (pss_cons (ps_set (i := 7) nd rfl (Or.inl rfl) (pe_ix ix_list (pv 1) (pe_op op_mod (pe_op op_fdiv (pv 5) (pe_callB call_len_seq (by rfl) T.len PySem.boot_len (pa_cons (pv 1) pa_nil))) (pe_callB call_len_seq (by rfl) T.len PySem.boot_len (pa_cons (pv 1) pa_nil))) (fun _ _ => rfl)))
      (pss_one (ps_if (PW.pt (pw_or (pt_cmpR op_eq (pv 4) pe_int (nomark _)) (pw_or1 (PW.pt (pw_and (pt_not (pt_truth (pv 2) (by intro _; rfl))) (pw_and1 (pt_cmpR op_eq (pe_op op_mod (pv 4) pe_int) pe_int (nomark _))))))))
        (pss_one (ps_expr (pe_bm PySem.F.plainAttrs_list PySem.F.slot_list_append PySem.F.type_list_append mt_append (pv 2) (pa_cons (pe_tup (pa_cons pe_str (pa_cons (pv 6) pa_nil))) pa_nil))))
        (pss_one (ps_if (PW.pt (pw_or (pt_cmpR op_lt (pv 4) pe_int (nomark _)) (pw_or1 (pt_not (pt_truth (pv 2) (by intro _; rfl))))))
            (pss_one (ps_expr (pe_bm PySem.F.plainAttrs_list PySem.F.slot_list_append PySem.F.type_list_append mt_append (pv 2) (pa_cons (pe_tup (pa_cons pe_str (pa_cons (pe_op op_add (pe_op op_sub (pe_op op_mod (pv 5) (pe_op op_sub (pe_op op_mul pe_int (pe_op op_pow pe_int pe_int)) pe_int)) (pe_op op_pow pe_int pe_int)) pe_int) pa_nil))) pa_nil))))
            (pss_one (ps_if (pt_cmpR op_eq (pv 4) pe_int (nomark _))
                (pss_one (ps_asg (pe_tup (pa_cons pe_str (pa_cons (pv 6) (pa_cons (pe_ix ix_list (pv 2) (pe_un un_neg pe_int) (fun _ _ => rfl)) pa_nil)))) (pg_sub (pv 2) (pe_un un_neg pe_int) set_list)))
                (pss_one (ps_if (pt_cmpR op_eq (pv 4) pe_int (nomark _))
                    (pss_one (ps_asg (pe_tup (pa_cons pe_str (pa_cons (pe_tup (pa_cons pe_str (pa_cons (pv 6) (pa_cons (pe_ix ix_list (pv 2) (pe_un un_neg pe_int) (fun _ _ => rfl)) pa_nil)))) (pa_cons (pe_tup (pa_cons pe_str (pa_cons (pv 6) pa_nil))) pa_nil)))) (pg_sub (pv 2) (pe_un un_neg pe_int) set_list)))
                    (pss_one (ps_if (pt_cmpR op_eq (pv 4) pe_int (nomark _))
                        (pss_one (ps_asg (pe_tup (pa_cons pe_str (pa_cons (pv 6) (pa_cons (pe_ix ix_list (pv 2) (pe_un un_neg pe_int) (fun _ _ => rfl)) (pa_cons (pe_tup (pa_cons pe_str (pa_cons (pe_tup (pa_cons pe_str (pa_cons (pv 6) pa_nil))) (pa_cons (pe_tup (pa_cons pe_str (pa_cons (pv 7) pa_nil))) pa_nil)))) pa_nil))))) (pg_sub (pv 2) (pe_un un_neg pe_int) set_list)))
                        (pss_one (ps_if (pt_cmpR op_eq (pv 4) pe_int (nomark _))
                            (pss_one (ps_expr (pe_bm PySem.F.plainAttrs_list PySem.F.slot_list_append PySem.F.type_list_append mt_append (pv 2) (pa_cons (pe_tup (pa_cons pe_str (pa_cons (pv 6) (pa_cons (pe_tup (pa_cons pe_str (pa_cons (pe_tup (pa_cons pe_str (pa_cons (pv 6) pa_nil))) (pa_cons (pe_tup (pa_cons pe_str (pa_cons (pv 7) pa_nil))) pa_nil)))) pa_nil)))) pa_nil))))
                            (pss_one (ps_if (pt_cmpR op_eq (pe_callB call_len_seq (by rfl) T.len PySem.boot_len (pa_cons (pv 2) pa_nil)) pe_int (nomark _))
                                (pss_one (ps_asg (pe_tup (pa_cons pe_str (pa_cons (pe_tup (pa_cons pe_str (pa_cons (pe_op op_mod (pv 5) (pe_op op_pow pe_int pe_int)) pa_nil))) (pa_cons (pe_ix ix_list (pv 2) (pe_un un_neg pe_int) (fun _ _ => rfl)) pa_nil)))) (pg_sub (pv 2) (pe_un un_neg pe_int) set_list)))
                                (pss_cons (ps_set (i := 8) nd rfl (Or.inl rfl) (pe_bm0 PySem.F.plainAttrs_list PySem.F.slot_list_pop PySem.F.type_list_pop mt_popL (pv 2)))
                                  (pss_one (ps_asg (pe_callD D__law_joined hr (by decide) rfl (pa_cons (pv 4) (pa_cons (pv 6) (pa_cons (pe_ix ix_list (pv 2) (pe_un un_neg pe_int) (fun _ _ => rfl)) (pa_cons (pv 8) pa_nil))))) (pg_sub (pv 2) (pe_un un_neg pe_int) set_list)))))))))))))))))))))))
  (pss_cons (ps_while PassesOwn.never (pt_cmpR op_gt (pe_callB call_len_seq (by rfl) T.len PySem.boot_len (pa_cons (pv 2) pa_nil)) pe_int (nomark _))
    (pss_cons (ps_set (i := 8) nd rfl (Or.inl rfl) (pe_bm0 PySem.F.plainAttrs_list PySem.F.slot_list_pop PySem.F.type_list_pop mt_popL (pv 2)))
      (pss_one (ps_asg (pe_tup (pa_cons pe_str (pa_cons (pe_ix ix_list (pv 1) (pe_op op_mod (pe_callB call_len_seq (by rfl) T.len PySem.boot_len (pa_cons (pv 2) pa_nil)) (pe_callB call_len_seq (by rfl) T.len PySem.boot_len (pa_cons (pv 1) pa_nil))) (fun _ _ => rfl)) (pa_cons (pe_ix ix_list (pv 2) (pe_un un_neg pe_int) (fun _ _ => rfl)) (pa_cons (pv 8) pa_nil))))) (pg_sub (pv 2) (pe_un un_neg pe_int) set_list)))))
  (pss_cons (ps_if (pt_truth (pv 2) (by intro _; rfl))
    (pss_one (ps_ret (pe_ix ix_list (pv 2) pe_int (fun _ _ => rfl))))
    pss_nil)
  (pss_one (ps_ret (pe_tup (pa_cons pe_str (pa_cons (pe_ix ix_list (pv 1) pe_int (fun _ _ => rfl)) pa_nil))))))))), ?_⟩
  rw [st__law_tree_by]
  refine seq_ fun R hR => ?_
  walk_at "rd"
  refine new_ fun l H0 hl k0 a0 => ?_
  rw [hR]; clear hR
  refine seq_ fun R hR => ?_
  refine ⟨_, rfl, a, rfl, ⟨_, k0.seq ha⟩, for_list (xs := ns.map V.int) (fun i σ H' => ∃ (vs : List V) (ts : List Tr) (o3 o4 o5 o6 o7 o8 : Option V), σ = [some (.ref a), some (.ref b), some (.ref l), o3, o4, o5, o6, o7, o8] ∧
    Stk H l (· ∈ xs) N60 H' vs ts ∧ sizes ts ≤ 4 * i ∧ ts.length ≤ i) ?_ ?_ ?_ ?_⟩
  · exact ⟨[], [], none, none, none, none, none, none, rfl, ⟨k0, a0, .nil, fun _ h => absurd h (by simp)⟩, Nat.le_refl _, Nat.le_refl _⟩
  · rintro i σ H1 _ ⟨vs, ts, _, _, _, _, _, _, _, S, _⟩
    exact S.same.seq ha
  · rintro i y σ H1 hi ⟨vs, ts, o3, o4, o5, o6, o7, o8, rfl, S, h1, h2⟩
    obtain ⟨c, rfl⟩ : ∃ c, y = V.int c := by
      rw [List.getElem?_map] at hi
      cases e : ns[i]? with
      | none => rw [e] at hi; cases hi
      | some u => rw [e] at hi; exact ⟨u, (Option.some.inj hi).symm⟩
    walk_at "rd"
    refine seq_ fun R1 hR1 => ?_
    walk_at "rd"
    refine ⟨by decide, ?_⟩
    rw [hR1]; clear hR1
    refine seq_ fun R1 hR1 => ?_
    walk_at "rd"
    refine ⟨by decide, by decide, ?_⟩
    rw [hR1]; clear hR1
    refine seq_ fun R1 hR1 => ?_
    walk_at "rd"
    have hb1 := S.same.seq hb
    refine ⟨_, .inl hb1, ?_⟩
    have hxl : (xs.map V.str).length = xs.length := List.length_map _
    rw [hxl]
    obtain ⟨x, hx, ax⟩ := at_mod V.str hx0 (c / 12)
    obtain ⟨y, hy, ay⟩ := at_mod V.str hx0 (c / 12 / (xs.length : Int))
    refine ⟨by omega, _, hb1, _, ax, ?_⟩
    rw [hR1]; clear hR1
    refine seq_ fun R1 hR1 => ?_
    walk_at "rd"
    refine ⟨_, .inl hb1, by rw [hxl]; omega, by rw [hxl]; omega, _, .inl hb1, by rw [hxl]; omega, _, hb1, _, by rw [hxl]; exact ay, ?_⟩
    rw [hR1]; clear hR1
    refine ifs_ fun A1 B1 hA1 hB1 => ?_
    walk_at "rd"
    have ty : ∀ {H' vs'}, H' l = some (.lst vs') → tyV K "list" (.ref l) H' := fun h => .inl ⟨rfl, _, SqL.of h⟩
    have il : i < ns.length := by
      have := (List.getElem?_eq_some_iff.mp hi).1
      rwa [List.length_map] at this
    have vl : vs.length ≤ 60 := by have := S.len; omega
    have bs : ∀ {t : Tr}, t.size ≤ 4 → sizes (ts ++ [t]) ≤ 4 * (i + 1) := fun h => by rw [sizes_append, sizes_cons, sizes_nil]; omega
    have bl : ∀ {t : Tr}, (ts ++ [t]).length ≤ i + 1 := by intro t; rw [List.length_append, List.length_singleton]; omega
    have hA : A1 H1 := by
      rw [hA1]
      walk_at "rd"
      refine ⟨ty S.at_, new_ fun p H2 hp k2 a2 => ?_⟩
      have S1 := S.ext k2
      exact ⟨_, S1.at_, szLt (by omega), _, _, S1.push hl (t := .name x) ⟨p, rfl, a2⟩ hx, bs (by simp [Tr.size]), bl⟩
    have hB : B1 H1 := by
      rw [hB1]
      refine ifs_ fun A2 B2 hA2 hB2 => ?_
      walk_at "rd"
      have hA : A2 H1 := by
        rw [hA2]
        walk_at "rd"
        refine ⟨ty S.at_, by decide, by decide, by decide, .inl (by decide), by decide, by decide, by decide, by decide, new_ fun p H2 hp k2 a2 => ?_⟩
        have S1 := S.ext k2
        exact ⟨_, S1.at_, szLt (by omega), _, _, S1.push hl (t := .num _) ⟨p, rfl, a2⟩ (n60a _), bs (by simp [Tr.size]), bl⟩
      by_cases c3 : c % 12 < 3
      · rw [if_pos c3]; exact hA
      rw [if_neg c3]
      refine ⟨!vs.isEmpty, .inl ⟨vs, SqL.of S.at_, rfl⟩, ?_⟩
      rcases List.eq_nil_or_concat vs with e0 | ⟨ys, v, e0⟩
      · subst e0; exact hA
      rw [List.concat_eq_append] at e0
      subst e0
      have e1 : (!(!(ys ++ [v]).isEmpty)) = false := by simp
      rw [e1, if_neg Bool.false_ne_true, hB2]
      obtain ⟨us, t, rfl, ht, hta, hus, husa⟩ := S.top
      have yl : ys.length ≤ 59 := by rw [List.length_append, List.length_singleton] at vl; omega
      have bs : ∀ {u : Tr}, u.size ≤ t.size + 4 → sizes (us ++ [u]) ≤ 4 * (i + 1) := fun h => by rw [sizes_append, sizes_cons, sizes_nil] at h1 ⊢; omega
      have bl : ∀ {u : Tr}, (us ++ [u]).length ≤ i + 1 := by intro u; rw [List.length_append, List.length_singleton] at h2 ⊢; omega
      clear hB2 hA hA2 hB1 hA1
      refine ifs_ fun A3 B3 hA3 hB3 => ?_
      walk_at "rd"
      by_cases c4 : c % 12 = 3
      · rw [if_pos c4, hA3]
        walk_at "rd"
        refine ⟨_, SqL.of S.at_, _, atI_last _ _, new_ fun p H2 hp k2 a2 => ⟨_, (S.ext k2).at_, _, ixN_last _ _, ?_⟩⟩
        rw [set_last]
        exact ⟨_, _, (S.ext k2).put hl (u := .fn x t) ⟨p, _, rfl, a2, ht.mono (same_kt k2)⟩ ⟨hx, hta⟩, bs (by simp only [Tr.size]; omega), bl⟩
      rw [if_neg c4, hB3]; clear hB3 hA3
      refine ifs_ fun A3 B3 hA3 hB3 => ?_
      walk_at "rd"
      by_cases c4 : c % 12 = 4
      · rw [if_pos c4, hA3]
        walk_at "rd"
        refine ⟨_, SqL.of S.at_, _, atI_last _ _, new_ fun p H2 hp k2 a2 => new_ fun p3 H3 hp3 k3 a3 => new_ fun p4 H4 hp4 k4 a4 => ?_⟩
        have S1 := S.ext ((k2.trans k3).trans k4)
        refine ⟨_, S1.at_, _, ixN_last _ _, ?_⟩
        rw [set_last]
        exact ⟨_, _, S1.put hl (u := .call (.fn x t) (.name x)) ⟨p4, _, _, rfl, a4, ⟨p, _, rfl, k4 _ _ (k3 _ _ a2), ht.mono (same_kt ((k2.trans k3).trans k4))⟩, ⟨p3, rfl, k4 _ _ a3⟩⟩ ⟨⟨hx, hta⟩, hx⟩, bs (by simp only [Tr.size]; omega), bl⟩
      rw [if_neg c4, hB3]; clear hB3 hA3
      refine ifs_ fun A3 B3 hA3 hB3 => ?_
      walk_at "rd"
      by_cases c4 : c % 12 = 5
      · rw [if_pos c4, hA3]
        walk_at "rd"
        refine ⟨_, SqL.of S.at_, _, atI_last _ _, new_ fun p H2 hp k2 a2 => new_ fun p3 H3 hp3 k3 a3 => new_ fun p4 H4 hp4 k4 a4 => new_ fun p5 H5 hp5 k5 a5 => ?_⟩
        have kk := (k2.trans k3).trans (k4.trans k5)
        have S1 := S.ext kk
        refine ⟨_, S1.at_, _, ixN_last _ _, ?_⟩
        rw [set_last]
        exact ⟨_, _, S1.put hl (u := .lt x t (.call (.name x) (.name y))) ⟨p5, _, _, rfl, a5, ht.mono (same_kt kk), ⟨p4, _, _, rfl, k5 _ _ a4, ⟨p, rfl, k5 _ _ (k4 _ _ (k3 _ _ a2))⟩, ⟨p3, rfl, k5 _ _ (k4 _ _ a3)⟩⟩⟩ ⟨hx, hta, hx, hy⟩, bs (by simp only [Tr.size]; omega), bl⟩
      rw [if_neg c4, hB3]; clear hB3 hA3
      refine ifs_ fun A3 B3 hA3 hB3 => ?_
      walk_at "rd"
      by_cases c4 : c % 12 = 11
      · rw [if_pos c4, hA3]
        walk_at "rd"
        refine ⟨ty S.at_, new_ fun p H2 hp k2 a2 => new_ fun p3 H3 hp3 k3 a3 => new_ fun p4 H4 hp4 k4 a4 => new_ fun p5 H5 hp5 k5 a5 => ?_⟩
        have S1 := S.ext ((k2.trans k3).trans (k4.trans k5))
        refine ⟨_, S1.at_, szLt (by rw [List.length_append, List.length_singleton]; omega), _, _, S1.push hl (t := .fn x (.call (.name x) (.name y))) ⟨p5, _, rfl, a5, ⟨p4, _, _, rfl, k5 _ _ a4, ⟨p, rfl, k5 _ _ (k4 _ _ (k3 _ _ a2))⟩, ⟨p3, rfl, k5 _ _ (k4 _ _ a3)⟩⟩⟩ ⟨hx, hx, hy⟩, ?_, ?_⟩
        · rw [sizes_append, sizes_cons, sizes_nil]
          simp only [Tr.size]
          omega
        · rw [List.length_append, List.length_singleton]
          omega
      rw [if_neg c4, hB3]; clear hB3 hA3
      refine ifs_ fun A3 B3 hA3 hB3 => ?_
      walk_at "rd"
      refine ⟨_, .inl (SqL.of S.at_), ?_⟩
      by_cases c4 : (((ys ++ [v]).length : Nat) : Int) = 1
      · rw [if_pos c4, hA3]
        walk_at "rd"
        refine ⟨by decide, by decide, by decide, by decide, new_ fun p H2 hp k2 a2 => ⟨_, SqL.of (k2 _ _ S.at_), _, atI_last _ _, new_ fun p3 H3 hp3 k3 a3 => ?_⟩⟩
        have S1 := S.ext (k2.trans k3)
        refine ⟨_, S1.at_, _, ixN_last _ _, ?_⟩
        rw [set_last]
        exact ⟨_, _, S1.put hl (u := .plus (.num _) t) ⟨p3, _, _, rfl, a3, ⟨p, rfl, k3 _ _ a2⟩, ht.mono (same_kt (k2.trans k3))⟩ ⟨n60b _, hta⟩, bs (by simp only [Tr.size]; omega), bl⟩
      rw [if_neg c4, hB3]; clear hB3 hA3
      refine seq_ fun R hR => ?_
      walk_at "rd"
      refine ⟨ty S.at_, _, _, S.at_, ?_⟩
      obtain ⟨S2, _, _⟩ := S.pop hl
      have ht2 := ht.mono (kt_lst (o := .lst ys) S.at_)
      rw [hR]; clear hR
      walk_at "rd"
      rcases List.eq_nil_or_concat ys with e2 | ⟨zs, z, e2⟩
      · subst e2; exact absurd rfl c4
      rw [List.concat_eq_append] at e2
      subst e2
      obtain ⟨us2, t2, rfl, hz, hza, _, _⟩ := S2.top
      refine ⟨_, SqL.of S2.at_, _, atI_last _ _, _, x, t2, t, z, v, rfl, hz, ht2, fun r H2 k2 hr2 => ⟨_, (S2.ext k2).at_, _, ixN_last _ _, ?_⟩⟩
      rw [set_last]
      have ja : (joined (c % 12) x t2 t).all (· ∈ xs) N60 := by
        unfold joined
        split
        · exact ⟨⟨hx, hza⟩, hta⟩
        split
        · exact ⟨hza, hta⟩
        split
        · exact ⟨hza, hta⟩
        split
        · exact ⟨hza, hta, hx⟩
        · exact ⟨hx, hza, hta⟩
      have js : (joined (c % 12) x t2 t).size ≤ t2.size + t.size + 2 := by
        unfold joined
        split
        · simp only [Tr.size]; omega
        split
        · simp only [Tr.size]; omega
        split
        · simp only [Tr.size]; omega
        split
        · simp only [Tr.size]; omega
        · simp only [Tr.size]; omega
      refine ⟨_, _, (S2.ext k2).put hl hr2 ja, ?_, ?_⟩
      · rw [sizes_append, sizes_append, sizes_cons, sizes_cons, sizes_nil] at h1
        rw [sizes_append, sizes_cons, sizes_nil]
        omega
      · simp only [List.length_append, List.length_singleton] at h2 ⊢
        omega
    by_cases c0 : c % 12 = 0
    · rw [if_pos c0]; exact hA
    · rw [if_neg c0]
      refine ⟨!vs.isEmpty, .inl ⟨vs, SqL.of S.at_, rfl⟩, ?_⟩
      split
      · refine ⟨by decide, ?_⟩
        split
        · exact hA
        · exact hB
      · exact hB
  · rintro σ H1 ⟨vs, ts, o3, o4, o5, o6, o7, o8, rfl, S, h1, h2⟩
    have hxl : (xs.map V.str).length = xs.length := List.length_map _
    have hnl : (ns.map V.int).length = ns.length := List.length_map _
    have ty : ∀ {H' vs'}, H' l = some (.lst vs') → tyV K "list" (.ref l) H' := fun h => .inl ⟨rfl, _, SqL.of h⟩
    show R _ _
    rw [hR]; clear hR
    refine seq_ fun R hR => ?_
    refine whileB_ (fun m σ H' => ∃ (vs : List V) (ts : List Tr) (o8 : Option V), σ = [some (.ref a), some (.ref b), some (.ref l), o3, o4, o5, o6, o7, o8] ∧
      Stk H l (· ∈ xs) N60 H' vs ts ∧ sizes ts + ts.length ≤ 5 * ns.length ∧ m = ts.length) _ ⟨vs, ts, o8, rfl, S, by rw [hnl] at h1 h2; omega, rfl⟩ ?_
    rintro m σ H2 ⟨vs, ts, o8, rfl, S, h3, rfl⟩ A B hA hB
    walk_at "rd"
    refine ⟨_, .inl (SqL.of S.at_), ?_⟩
    have sl := S.len
    split
    · rename_i c1
      refine hA _ fun N hN => ?_
      rcases List.eq_nil_or_concat vs with e2 | ⟨ys, v, e2⟩
      · subst e2; exact absurd c1 (by decide)
      rw [List.concat_eq_append] at e2
      subst e2
      obtain ⟨us, t, rfl, ht, hta, hus, husa⟩ := S.top
      refine seq_ fun R1 hR1 => ?_
      walk_at "rd"
      refine ⟨ty S.at_, _, _, S.at_, ?_⟩
      obtain ⟨S2, _, _⟩ := S.pop hl
      have ht2 := ht.mono (kt_lst (o := .lst ys) S.at_)
      rw [hR1]; clear hR1
      walk_at "rd"
      rcases List.eq_nil_or_concat ys with e2 | ⟨zs, z, e2⟩
      · subst e2; exact absurd c1 (by simp)
      rw [List.concat_eq_append] at e2
      subst e2
      obtain ⟨us2, t2, rfl, hz, hza, _, _⟩ := S2.top
      have hb1 := S2.same.seq hb
      obtain ⟨x, hx, ax⟩ := at_mod V.str hx0 ((zs ++ [z]).length : Nat)
      refine ⟨_, .inl (SqL.of S2.at_), _, .inl hb1, by rw [hxl]; omega, _, hb1, _, by rw [hxl]; exact ax, _, SqL.of S2.at_, _, atI_last _ _, new_ fun p H3 hp k3 a3 => ?_⟩
      have S3 := S2.ext k3
      refine ⟨_, S3.at_, _, ixN_last _ _, ?_⟩
      rw [set_last]
      refine hN _ _ _ ?_ ⟨_, _, _, rfl, S3.put hl (u := .lt x t2 t) ⟨p, _, _, rfl, a3, hz.mono (same_kt k3), ht2.mono (same_kt k3)⟩ ⟨hx, hza, hta⟩, ?_, rfl⟩
      · simp only [List.length_append, List.length_singleton]; omega
      · simp only [sizes_append, sizes_cons, sizes_nil, List.length_append, List.length_singleton, Tr.size] at h3 ⊢
        omega
    · rename_i c1
      refine hB _ ?_
      show R _ _
      rw [hR]; clear hR
      refine seq_ fun R1 hR1 => ?_
      walk_at "rd"
      refine ⟨!vs.isEmpty, .inl ⟨vs, SqL.of S.at_, rfl⟩, ?_⟩
      rcases vs with _ | ⟨v, ws⟩
      · show R1 _ _
        rw [hR1]
        walk_at "rd"
        cases xs with
        | nil => exact absurd hx0 (by decide)
        | cons x xr =>
          refine ⟨_, S.same.seq hb, _, at0 _ _, new_ fun p H3 hp k3 a3 => ?_⟩
          exact q (.name x) _ _ (S.same.trans k3) ⟨p, rfl, a3⟩ (List.mem_cons_self) (by simp [Tr.size])
      · show ∃ x_1, _
        refine ⟨_, SqL.of S.at_, _, at0 _ _, ?_⟩
        cases hA1 : S.ats with
        | cons h4 h5 =>
          rename_i t tr
          refine q t _ _ S.same h4 (S.all t (List.mem_cons_self)) ?_
          rw [sizes_cons] at h3
          omega
end
end K01

namespace K01
open PySem L2 My
open PyProof.Rows (envOfC)
local macro_rules | `(tactic| walk_at "rd") => `(tactic| simp only [My.ife, My.tFor_eq, My.cx_K, My.cx_w, My.rRdK, My.rNeSelf, rIsi, tAsg, tDrop, tRet, tRetN, tIfS, tVar, tC, tOp, tUn, rI0, rI, rU, rEq, rNe, CDiv, CMul, CPow, My.tTup_eq, My.tLst_eq, My.tDNewK_eq, My.tRevL_eq, My.tRevS, tM1, tM0, My.sz0, My.sz1, My.sz2, My.sz3, My.sz4, My.sz5, My.sz8, tCons, tNil, My.tCallD, tCB, gName, gTup, gCons, gNil, gSub, tTest, tB, tAnd, tOr, tNot, tIf, tAndV, tOrV, tNotV, rSetL, rSlS, rIxL, rIxT, rIxS, My.rSlT_eq, My.rSlL_eq, rIn, rCat, tLc_eq, iList, iTup, iRng1, iRng2, wipe, List.map_cons, List.map_nil, tSl, tPart, tNoPart, tBM, tBM0, rAppend, My.rPopL, rExtend, tNext, tBreak, tCont, My.scal_ii, My.scal_ss, My.scal_bb, My.scal_is, My.scal_si, ipI, rListD, sDPut, tDGet, tDGet2, tAug, List.getElem?_cons_zero, List.getElem?_cons_succ, List.set_cons_zero, List.set_cons_succ, Option.some.injEq, exists_eq_left', exists_eq_left, V.int.injEq, V.ref.injEq, V.str.injEq, V.bl.injEq, exists_and_left, true_and, and_true, List.cons.injEq, exists_const, Bool.false_eq_true, ↓reduceIte, reduceCtorEq, false_and, and_assoc, decide_true, decide_false])
local macro_rules | `(tactic| walk_at "st") => `(tactic| (refine My.seq_ fun R hR => ?_))

/-- the parts of a node, each with whether x is bound there -/
def kidFlags (x : Str) (b : Bool) : Tr → List (Tr × Bool)
  | .fn y t => [(t, b || y == x)]
  | .lt y e t => [(e, b), (t, b || y == x)]
  | t => t.kids.map fun k => (k, b)
/-- for each node, in the order of reading: does x stand free here -/
def occ (x : Str) : Bool → Tr → List Bool
  | _, .num _ => [false]
  | b, .name y => [y == x && !b]
  | b, .fn y t => false :: occ x (b || y == x) t
  | b, .call f a => false :: (occ x b f ++ occ x b a)
  | b, .plus f a => false :: (occ x b f ++ occ x b a)
  | b, .less f a => false :: (occ x b f ++ occ x b a)
  | b, .ite c f a => false :: (occ x b c ++ (occ x b f ++ occ x b a))
  | b, .lt y e t => false :: (occ x b e ++ occ x (b || y == x) t)
def here (x : Str) (b : Bool) : Tr → Bool
  | .name y => y == x && !b
  | _ => false
def occs (x : Str) (ks : List (Tr × Bool)) : List Bool := ks.flatMap fun p => occ x p.2 p.1
theorem occ_eq (x : Str) (b : Bool) (t : Tr) : occ x b t = here x b t :: occs x (kidFlags x b t) := by
  cases t <;> simp [occ, here, occs, kidFlags, Tr.kids]
def firstT : List Bool → Int → Int
  | [], _ => -1
  | true :: _, k => k
  | false :: r, k => firstT r (k + 1)
def whereT (x : Str) (t : Tr) : Int := firstT (occ x false t) 0
theorem kf_len (x : Str) (b : Bool) (t : Tr) : (kidFlags x b t).map (·.1) = t.kids := by
  cases t <;> simp [kidFlags, Tr.kids]
def isFn (x : Str) : Tr → Bool | .fn y _ => y == x | _ => false
def isLt (x : Str) : Tr → Bool | .lt y _ _ => y == x | _ => false
theorem flag_at {x : Str} {b0 b : Bool} {t k : Tr} {us ks : List (Tr × Bool)} (h : kidFlags x b0 t = us ++ (k, b) :: ks) : b = (b0 || isFn x t || (isLt x t && decide (us.length = 1))) := by
  cases t with
  | fn y u =>
    cases us with
    | nil => simp [kidFlags] at h; simp [isFn, isLt, h.1.2]
    | cons p us => simp [kidFlags] at h
  | lt y e u =>
    match us, h with
    | [], h => simp [kidFlags] at h; simp [isFn, isLt, h.1.2]
    | [p], h => simp [kidFlags] at h; simp [isFn, isLt, h.2.1.2]
    | p :: q :: us, h => simp [kidFlags] at h
  | _ =>
    have hb : ∀ p ∈ us ++ (k, b) :: ks, p.2 = b0 := by
      rw [← h]
      intro p hp
      simp only [kidFlags] at hp
      obtain ⟨_, _, rfl⟩ := List.mem_map.mp hp
      rfl
    have := hb (k, b) (by simp)
    simp only at this
    subst this
    simp [isFn, isLt]
def spWhere : Sp := fun vs H Q _ => ∃ (t : Tr) (x : Str) (v : V), vs = [v, .str x] ∧ At H t v ∧ t.size ≤ 100000 ∧ ∀ H', Same H H' → Q (.int (whereT x t)) H'
abbrev s__law_where : Stmt := topS 16
abbrev N__law_where : List Str := ["_law_tree", "_law_name", "_law_todo", "_law_at", "_law_pair", "_law_node", "_law_some", "_law_part", "_law_inner"]
theorem sc__law_where : FnScope N__law_where ["_law_tree", "_law_name"] (defScope s__law_where) := ⟨rfl, rfl, rfl, by decide +kernel, rfl, by decide +kernel, by decide +kernel⟩
theorem bd__law_where : BindAll "_law_where" s__law_where ["_law_tree", "_law_name"] := fun _ _ _ _ _ _ us hl => match us, hl with | [_, _], _ => rfl
theorem st__law_where (v0 v1 : V) : start N__law_where [v0, v1] = [some v0, some v1, none, none, none, none, none, none, none] := rfl
section
variable {P : Program} {w : World} {K : PySem.W.Frag} {mg : Str → Option Value} {base : Heap} {aS : Addr}
/-- a pair of a tree and a truth -/
def At2 (H : Hp) (p : Tr × Bool) (v : V) : Prop := ∃ a u, v = .ref a ∧ H a = some (.tup [u, .bl p.2]) ∧ At H p.1 u
theorem At2.mono {H H' : Hp} (k : KT H H') {p : Tr × Bool} {v : V} : At2 H p v → At2 H' p v := fun ⟨a, u, e, h, h1⟩ => ⟨a, u, e, k _ _ h, h1.mono k⟩
def szs (ks : List (Tr × Bool)) : Nat := sizes (ks.map (·.1))
theorem szs_append (a b : List (Tr × Bool)) : szs (a ++ b) = szs a + szs b := by simp [szs, sizes]
theorem szs_reverse (a : List (Tr × Bool)) : szs a.reverse = szs a := by simp [szs, sizes, List.sum_reverse]
theorem le_szs (a : List (Tr × Bool)) : a.length ≤ szs a := by
  have := le_sizes (a.map (·.1))
  rwa [List.length_map] at this
theorem df_where (T : Txt K w mg aS) (F : FunAt K mg "_law_where" s__law_where) (D__law_within : Df P w K mg base 1 "_law_within" ["_law_node"] spWithin) : Df P w K mg base 2 "_law_where" ["_law_tree", "_law_name"] spWhere := by
  refine F.df sc__law_where bd__law_where (fun vs H Q E h => ?_) (fun f cdv A outer s H vs Q E hr h => ?_)
  · obtain ⟨_, _, _, rfl, _⟩ := h; rfl
  obtain ⟨t, x, v, rfl, ht, hz, q⟩ := h
  have nd := sc__law_where.nd
  refine ⟨_, (pss_cons (ps_set (i := 2) nd rfl (Or.inl rfl) (pe_lst (pa_cons (pe_tup (pa_cons (pv 0) (pa_cons pe_bl pa_nil))) pa_nil)))
  (pss_cons (ps_set (i := 3) nd rfl (Or.inl rfl) pe_int)
  (pss_cons (ps_while PassesOwn.never (pt_truth (pv 2) (by intro _; rfl))
    (pss_cons (ps_set (i := 4) nd rfl (Or.inl rfl) (pe_bm0 PySem.F.plainAttrs_list PySem.F.slot_list_pop PySem.F.type_list_pop mt_popL (pv 2)))
      (pss_cons (ps_set (i := 5) nd rfl (Or.inl rfl) (pe_ix ix_tup (pv 4) pe_int (fun _ _ => rfl)))
      (pss_cons (ps_if (PW.pt (pw_and (pt_cmpR op_eq (pe_ix ix_tup (pv 5) pe_int (fun _ _ => rfl)) pe_str (nomark _)) (pw_and (pt_cmpR op_eq (pe_ix ix_tup (pv 5) pe_int (fun _ _ => rfl)) (pv 1) (nomark _)) (pw_and1 (pt_not (pt_truth (pe_ix ix_tup (pv 4) pe_int (fun _ _ => rfl)) (by intro _; rfl)))))))
        (pss_one (ps_ret (pv 3)))
        pss_nil)
      (pss_cons (ps_set (i := 3) nd rfl (Or.inl rfl) (pe_op op_add (pv 3) pe_int))
      (pss_cons (ps_set (i := 6) nd rfl (Or.inl rfl) (pe_callD D__law_within hr (by decide) rfl (pa_cons (pv 5) pa_nil)))
      (pss_one (ps_while PassesOwn.never (pt_truth (pv 6) (by intro _; rfl))
        (pss_cons (ps_set (i := 7) nd rfl (Or.inl rfl) (pe_bm0 PySem.F.plainAttrs_list PySem.F.slot_list_pop PySem.F.type_list_pop mt_popL (pv 6)))
          (pss_cons (ps_set (i := 8) nd rfl (Or.inl rfl) (pe_or (pe_ix ix_tup (pv 4) pe_int (fun _ _ => rfl)) (pe_one (pe_and (pe_cmpR op_eq (pe_ix ix_tup (pv 5) pe_int (fun _ _ => rfl)) pe_str (nomark _)) (pe_one (pe_cmpR op_eq (pe_ix ix_tup (pv 5) pe_int (fun _ _ => rfl)) (pv 1) (nomark _)))))))
          (pss_cons (ps_set (i := 8) nd rfl (Or.inl rfl) (pe_or (pv 8) (pe_one (pe_and (pe_cmpR op_eq (pe_ix ix_tup (pv 5) pe_int (fun _ _ => rfl)) pe_str (nomark _)) (pe_and (pe_cmpR op_eq (pe_ix ix_tup (pv 5) pe_int (fun _ _ => rfl)) (pv 1) (nomark _)) (pe_one (pe_cmpR op_eq (pe_callB call_len_seq (by rfl) T.len PySem.boot_len (pa_cons (pv 6) pa_nil)) pe_int (nomark _))))))))
          (pss_one (ps_expr (pe_bm PySem.F.plainAttrs_list PySem.F.slot_list_append PySem.F.type_list_append mt_append (pv 2) (pa_cons (pe_tup (pa_cons (pv 7) (pa_cons (pv 8) pa_nil))) pa_nil)))))))))))))))
  (pss_one (ps_ret (pe_un un_neg pe_int)))))), ?_⟩
  rw [st__law_where]
  refine seq_ fun R hR => ?_
  walk_at "rd"
  refine new_ fun p1 H1 hp1 k1 a1 => new_ fun l H0 hl k2 a2 => ?_
  have hl0 : H l = none := k1.free hl
  rw [hR]; clear hR
  refine seq_ fun R hR => ?_
  walk_at "rd"
  rw [hR]; clear hR
  refine seq_ fun R hR => ?_
  refine whileL_ (fun m σ H' => ∃ (vs : List V) (ks : List (Tr × Bool)) (c : Int) (o4 o5 o6 o7 o8 : Option V), σ = [some v, some (.str x), some (.ref l), some (.int c), o4, o5, o6, o7, o8] ∧ Same H H' ∧ H' l = some (.lst vs) ∧ Paired (At2 H') ks vs ∧
    firstT (occs x ks.reverse) c = whereT x t ∧ szs ks ≤ t.size ∧ m = szs ks) (szs [(t, false)]) ?_ ?_
  · refine ⟨_, [(t, false)], 0, none, none, none, none, none, rfl, k1.trans k2, a2, .cons ⟨p1, v, rfl, k2 _ _ a1, ht.mono (same_kt (k1.trans k2))⟩ .nil, ?_, ?_, rfl⟩
    · simp [occs, whereT]
    · simp [szs, sizes]
  · rintro m σ H2 ⟨vs, ks, c, o4, o5, o6, o7, o8, rfl, e1, hL, hA, hw, hsz, rfl⟩
    refine ⟨l, vs, rfl, hL, fun h0 => ?_, fun ys y hy N hN => ?_⟩
    · subst h0
      cases hA
      show R _ _
      rw [hR]
      walk_at "rd"
      have hw' : -1 = whereT x t := hw
      rw [hw']
      exact q _ e1
    · subst hy
      obtain ⟨us, ⟨u, b⟩, rfl, hA1, ⟨p, uv, rfl, hp, hu⟩⟩ := pr_snoc hA
      refine seq_ fun R1 hR1 => ?_
      walk_at "rd"
      have kt1 := kt_lst (o := .lst ys) hL
      refine ⟨.inl ⟨rfl, _, SqL.of hL⟩, _, _, hL, ?_⟩
      rw [hR1]; clear hR1
      refine seq_ fun R1 hR1 => ?_
      walk_at "rd"
      have hp3 := kt1 _ _ hp
      obtain ⟨a, ws, rfl, ha, hws⟩ := (hu.mono kt1).view
      have e3 : Same H (upd H2 l (.lst ys)) := same_mut e1 hl0
      have hL3 : (upd H2 l (.lst ys)) l = some (.lst ys) := upd_same
      have hA3 := pr_mono hA1 fun _ _ h => At2.mono kt1 h
      generalize upd H2 l (.lst ys) = H3 at *
      refine ⟨_, SqT.of hp3, _, at0 _ _, ?_⟩
      rw [hR1]; clear hR1
      refine ifq_ fun R1 A1 B1 hR1 hA1 hB1 => ?_
      walk_at "rd"
      refine ⟨_, SqT.of ha, _, at0 _ _, rfl, ?_⟩
      have hdec : firstT (occs x (us ++ [(u, b)]).reverse) c = firstT (here x b u :: (occs x (kidFlags x b u) ++ occs x us.reverse)) c := by
        rw [List.reverse_append, List.reverse_singleton, List.singleton_append]
        show firstT (occ x b u ++ occs x us.reverse) c = _
        rw [occ_eq, List.cons_append]
      have hAok : here x b u = true → A1 H3 := by
        intro hh
        rw [hA1]
        walk_at "rd"
        rw [hdec, hh] at hw
        rw [show c = whereT x t from hw]
        exact q _ e3
      have hBok : here x b u = false → B1 H3 := by
        intro hh
        rw [hB1]
        walk_at "rd"
        rw [hR1]; clear hR1 hA1 hB1 hAok
        rw [hdec, hh] at hw
        have hw2 : firstT (occs x (kidFlags x b u) ++ occs x us.reverse) (c + 1) = whereT x t := hw
        refine seq_ fun R1 hR1 => ?_
        walk_at "rd"
        rw [hR1]; clear hR1
        refine seq_ fun R1 hR1 => ?_
        walk_at "rd"
        have wl := pr_len hws
        refine ⟨u, a, ws, rfl, ha, wl.symm, fun sm H4 hsm k4 a4 => ?_⟩
        rw [hR1]; clear hR1
        have ha4 := k4 _ _ ha
        have hp4 := k4 _ _ hp3
        have hws4 := hws.mono (same_kt k4)
        have hlm : l ≠ sm := fun e => by rw [e, hsm] at hL3; cases hL3
        have szk : szs (us ++ kidFlags x b u) < szs (us ++ [(u, b)]) := by
          have := u.size_kids
          simp only [szs, List.map_append, kf_len, sizes_append, List.map_cons, List.map_nil, sizes_cons, sizes_nil]
          omega
        refine whileL_ (fun m σ H' => ∃ (vs1 vs2 : List V) (ks1 ks2 : List (Tr × Bool)) (o7 o8 : Option V), σ = [some v, some (.str x), some (.ref l), some (.int (c + 1)), some (.ref p), some (.ref a), some (.ref sm), o7, o8] ∧ Same H H' ∧ KT H4 H' ∧
          H' l = some (.lst vs2) ∧ H' sm = some (.lst vs1) ∧ ks1 ++ ks2 = kidFlags x b u ∧ Ats H' (ks1.map (·.1)) vs1 ∧ Paired (At2 H') (us ++ ks2.reverse) vs2 ∧ m = ks1.length) (kidFlags x b u).length ?_ ?_
        · refine ⟨ws, ys, kidFlags x b u, [], o7, o8, rfl, e3.trans k4, KT.refl _, k4 _ _ hL3, a4, by simp, by rw [kf_len]; exact hws4, ?_, rfl⟩
          simpa using pr_mono hA3 fun _ _ h => At2.mono (same_kt k4) h
        · rintro m σ H5 ⟨vs1, vs2, ks1, ks2, o7, o8, rfl, e5, k5, hL5, hM5, hks, hA5, hB5, rfl⟩
          refine ⟨sm, vs1, rfl, hM5, fun h0 => ?_, fun zs z hz N1 hN1 => ?_⟩
          · subst h0
            have e0 : ks1 = [] := by
              cases ks1 with
              | nil => rfl
              | cons _ _ => cases hA5
            subst e0
            simp only [List.nil_append] at hks
            subst hks
            show N _ _
            refine hN _ _ _ ?_ ⟨_, _, c + 1, _, _, _, _, _, rfl, e5, hL5, hB5, ?_, ?_, rfl⟩
            · simpa [szs, sizes, List.sum_reverse] using szk
            · rw [List.reverse_append, List.reverse_reverse]
              simpa [occs] using hw2
            · have : szs (us ++ (kidFlags x b u).reverse) = szs (us ++ kidFlags x b u) := by simp [szs, sizes, List.sum_reverse]
              omega
          · subst hz
            obtain ⟨ks3, k0, e6, hA6, hk0⟩ := pr_snoc hA5
            obtain ⟨ks4, kb, rfl, e7, rfl⟩ : ∃ ks4 kb, ks1 = ks4 ++ [kb] ∧ ks4.map (·.1) = ks3 ∧ kb.1 = k0 := by
              rcases List.eq_nil_or_concat ks1 with r | ⟨ks4, kb, r⟩
              · subst r; simp at e6
              · rw [List.concat_eq_append] at r
                subst r
                rw [List.map_append, List.map_singleton] at e6
                obtain ⟨h1, h2⟩ := List.append_inj' e6 rfl
                exact ⟨ks4, kb, rfl, h1, by simpa using h2⟩
            subst e7
            obtain ⟨kt, kf⟩ := kb
            have hkf : kf = (b || isFn x u || (isLt x u && decide (ks4.length = 1))) := flag_at (k := kt) (us := ks4) (ks := ks2) (by rw [← hks]; simp)
            have zl : zs.length = ks4.length := by rw [← pr_len hA6, List.length_map]
            refine seq_ fun R1 hR1 => ?_
            walk_at "rd"
            refine ⟨.inl ⟨rfl, _, SqL.of hM5⟩, _, _, hM5, ?_⟩
            rw [hR1]; clear hR1
            have kt5 := kt_lst (o := .lst zs) hM5
            have ha6 := kt5 _ _ (k5 _ _ ha4)
            have hp6 := kt5 _ _ (k5 _ _ hp4)
            have hL6 : upd H5 sm (.lst zs) l = some (.lst vs2) := by rw [upd_ne hlm]; exact hL5
            have hM6 : upd H5 sm (.lst zs) sm = some (.lst zs) := upd_same
            have e6 : Same H (upd H5 sm (.lst zs)) := same_mut e5 (e3.free hsm)
            have k6 := k5.trans kt5
            have hA7 := Ats.mono kt5 hA6
            have hk7 := hk0.mono kt5
            have hB7 := pr_mono hB5 fun _ _ h => At2.mono kt5 h
            generalize upd H5 sm (.lst zs) = H6 at *
            refine seq_ fun R1 hR1 => ?_
            walk_at "rd"
            refine ⟨_, SqT.of hp6, _, at1 _ _ _, b, rfl, ?_⟩
            have hRk : ∀ bb, bb = (b || isFn x u) → R1 [some v, some (.str x), some (.ref l), some (.int (c + 1)), some (.ref p), some (.ref a), some (.ref sm), some z, some (.bl bb)] H6 := by
              intro bb hbb
              rw [hR1]; clear hR1
              refine seq_ fun R1 hR1 => ?_
              walk_at "rd"
              have hRk2 : ∀ bc, bc = (bb || (isLt x u && decide (ks4.length = 1))) → R1 [some v, some (.str x), some (.ref l), some (.int (c + 1)), some (.ref p), some (.ref a), some (.ref sm), some z, some (.bl bc)] H6 := by
                intro bc hbc
                rw [hR1]; clear hR1
                walk_at "rd"
                refine ⟨.inl ⟨rfl, _, SqL.of hL6⟩, new_ fun pn H7 hpn k7 a7 => ?_⟩
                have kt8 := kt_lst (o := .lst (vs2 ++ [.ref pn])) (k7 _ _ hL6)
                have vsz : vs2.length ≤ 100000 := by
                  have h1 := pr_len hB7
                  have h2 := le_szs (us ++ ks2.reverse)
                  have h3 : szs (us ++ ks2.reverse) ≤ szs (us ++ kidFlags x b u) := by
                    rw [← hks]
                    simp only [szs_append, szs_reverse]
                    omega
                  omega
                refine ⟨_, k7 _ _ hL6, szLt vsz, ?_⟩
                refine hN1 _ _ _ (by simp) ⟨zs, _, ks4, (kt, kf) :: ks2, _, _, rfl, same_mut (e6.trans k7) hl0, (k6.trans (same_kt k7)).trans kt8, upd_same, ?_, by rw [← hks]; simp, ?_, ?_, rfl⟩
                · rw [upd_ne (Ne.symm hlm)]; exact k7 _ _ hM6
                · exact Ats.mono ((same_kt k7).trans kt8) hA7
                · rw [List.reverse_cons, ← List.append_assoc]
                  refine pr_append (pr_mono hB7 fun _ _ h => At2.mono ((same_kt k7).trans kt8) h) (.cons ⟨pn, z, rfl, ?_, hk7.mono ((same_kt k7).trans kt8)⟩ .nil)
                  rw [show kf = bc by rw [hkf, hbc, hbb]]
                  exact kt8 _ _ a7
              cases bb
              · rw [if_neg Bool.false_ne_true]
                refine ⟨_, SqT.of ha6, _, at0 _ _, rfl, ?_⟩
                by_cases wl' : u.word = "let"
                · obtain ⟨y, e, t', rfl⟩ := word_let wl'
                  rw [if_pos (by rw [wl'])]
                  refine ⟨_, SqT.of ha6, _, at1 _ _ _, rfl, ?_⟩
                  by_cases hyx : y = x
                  · subst hyx
                    rw [if_pos rfl]
                    refine ⟨_, .inl (SqL.of hM6), hRk2 _ ?_⟩
                    simp [isLt, zl]
                    omega
                  · rw [if_neg (by simp [hyx])]
                    exact hRk2 _ (by simp [isLt, hyx])
                · rw [if_neg (fun h => wl' (V.str.inj h))]
                  refine hRk2 _ ?_
                  cases u <;> first
                    | rfl
                    | exact absurd rfl wl'
              · rw [if_pos rfl]
                exact hRk2 _ rfl
            cases hb : b
            · rw [if_neg Bool.false_ne_true]
              refine ⟨_, SqT.of ha6, _, at0 _ _, rfl, ?_⟩
              subst hb
              by_cases wf : u.word = "fun"
              · obtain ⟨y, t', rfl⟩ := word_fun wf
                rw [if_pos (by rw [wf])]
                refine ⟨_, SqT.of ha6, _, at1 _ _ _, rfl, hRk _ ?_⟩
                by_cases hyx : y = x
                · subst hyx; simp [isFn]
                · simp [isFn, hyx]
              · rw [if_neg (fun h => wf (V.str.inj h))]
                refine hRk _ ?_
                cases u <;> first
                  | rfl
                  | exact absurd rfl wf
            · rw [if_pos rfl]
              exact hRk _ (by rw [hb]; rfl)
      by_cases wn : u.word = "name"
      · obtain ⟨y, rfl⟩ := word_name wn
        rw [if_pos (by rw [wn])]
        cases hws
        refine ⟨_, SqT.of ha, _, at1 _ _ _, rfl, ?_⟩
        by_cases hyx : y = x
        · subst hyx
          rw [if_pos rfl]
          refine ⟨_, SqT.of hp3, _, at1 _ _ _, b, rfl, ?_⟩
          cases b
          · exact hAok (by simp [here])
          · exact hBok (by simp [here])
        · rw [if_neg (by simp [hyx])]
          exact hBok (by simp [here, hyx])
      · rw [if_neg (fun h => wn (V.str.inj h))]
        refine hBok ?_
        cases u <;> first
          | rfl
          | exact absurd rfl wn
end
end K01

namespace K01
open PySem L2 My
open PyProof.Rows (envOfC)
local macro_rules | `(tactic| walk_at "rd") => `(tactic| simp only [My.ife, My.tFor_eq, My.cx_K, My.cx_w, My.rRdK, My.rNeSelf, rIsi, tAsg, tDrop, tRet, tRetN, tIfS, tVar, tC, tOp, tUn, rI0, rI, rU, rEq, rNe, CDiv, CMul, CPow, My.tTup_eq, My.tLst_eq, My.tDNewK_eq, My.tRevL_eq, My.tRevS, tM1, tM0, My.sz0, My.sz1, My.sz2, My.sz3, My.sz4, My.sz5, My.sz8, tCons, tNil, My.tCallD, tCB, gName, gTup, gCons, gNil, gSub, tTest, tB, tAnd, tOr, tNot, tIf, tAndV, tOrV, tNotV, rSetL, rSlS, rIxL, rIxT, rIxS, My.rSlT_eq, My.rSlL_eq, rIn, rCat, tLc_eq, iList, iTup, iRng1, iRng2, wipe, List.map_cons, List.map_nil, tSl, tPart, tNoPart, tBM, tBM0, rAppend, My.rPopL, rExtend, tNext, tBreak, tCont, My.scal_ii, My.scal_ss, My.scal_bb, My.scal_is, My.scal_si, ipI, rListD, sDPut, tDGet, tDGet2, tAug, List.getElem?_cons_zero, List.getElem?_cons_succ, List.set_cons_zero, List.set_cons_succ, Option.some.injEq, exists_eq_left', exists_eq_left, V.int.injEq, V.ref.injEq, V.str.injEq, V.bl.injEq, exists_and_left, true_and, and_true, List.cons.injEq, exists_const, Bool.false_eq_true, ↓reduceIte, reduceCtorEq, false_and, and_assoc, decide_true, decide_false])
local macro_rules | `(tactic| walk_at "st") => `(tactic| (refine My.seq_ fun R hR => ?_))

abbrev s__law_parts_right : Stmt := topS 17
abbrev N__law_parts_right : List Str := ["_law_tree", "_law_todo", "_law_count", "_law_node", "_law_due", "_law_found", "_law_k"]
theorem sc__law_parts_right : FnScope N__law_parts_right ["_law_tree"] (defScope s__law_parts_right) := ⟨rfl, rfl, rfl, by decide +kernel, rfl, by decide +kernel, by decide +kernel⟩
theorem bd__law_parts_right : BindAll "_law_parts_right" s__law_parts_right ["_law_tree"] := fun _ _ _ _ _ _ us hl => match us, hl with | [_], _ => rfl
theorem st__law_parts_right (v0 : V) : start N__law_parts_right [v0] = [some v0, none, none, none, none, none, none] := rfl
section
variable {P : Program} {w : World} {K : PySem.W.Frag} {mg : Str → Option Value} {base : Heap} {aS : Addr}
theorem df_right (T : Txt K w mg aS) (F : FunAt K mg "_law_parts_right" s__law_parts_right) (D__law_within : Df P w K mg base 1 "_law_within" ["_law_node"] spWithin) (D_parts : Df P w K mg base 1 "parts" ["tree"] spParts) : Df P w K mg base 2 "_law_parts_right" ["_law_tree"] spNodes := by
  refine F.df sc__law_parts_right bd__law_parts_right (fun vs H Q E h => ?_) (fun f cdv A outer s H vs Q E hr h => ?_)
  · obtain ⟨_, _, rfl, _⟩ := h; rfl
  obtain ⟨t, v, rfl, ht, hz, q⟩ := h
  have nd := sc__law_parts_right.nd
  refine ⟨_, (pss_cons (ps_set (i := 1) nd rfl (Or.inl rfl) (pe_lst (pa_cons (pv 0) pa_nil)))
  (pss_cons (ps_set (i := 2) nd rfl (Or.inl rfl) pe_int)
  (pss_cons (ps_while PassesOwn.never (pt_truth (pv 1) (by intro _; rfl))
    (pss_cons (ps_set (i := 3) nd rfl (Or.inl rfl) (pe_bm0 PySem.F.plainAttrs_list PySem.F.slot_list_pop PySem.F.type_list_pop mt_popL (pv 1)))
      (pss_cons (ps_set (i := 2) nd rfl (Or.inl rfl) (pe_op op_add (pv 2) pe_int))
      (pss_cons (ps_set (i := 4) nd rfl (Or.inl rfl) (pe_callD D__law_within hr (by decide) rfl (pa_cons (pv 3) pa_nil)))
      (pss_cons (ps_set (i := 5) nd rfl (Or.inl rfl) (pe_callD D_parts hr (by decide) rfl (pa_cons (pv 3) pa_nil)))
      (pss_cons (ps_if (PW.pt (pw_or (pt_not (pt_val (pe_callB call_isi (by rfl) T.isinstance (by decide +kernel) (pa_cons (pv 5) (pa_cons (pe_bltn (v := .ty "list") (by rfl) T.list (by decide +kernel) rfl) pa_nil))))) (pw_or1 (pt_cmpR op_ne (pe_callB call_len_seq (by rfl) T.len PySem.boot_len (pa_cons (pv 5) pa_nil)) (pe_callB call_len_seq (by rfl) T.len PySem.boot_len (pa_cons (pv 4) pa_nil)) (nomark _)))))
        (pss_one (ps_ret (pe_un un_neg pe_int)))
        pss_nil)
      (pss_cons (ps_for PassesOwn.never rfl (pi_range1 rfl T.range (pa_cons (pe_callB call_len_seq (by rfl) T.len PySem.boot_len (pa_cons (pv 4) pa_nil)) pa_nil)) (pg_name (i := 6) nd rfl (Or.inl rfl))
        (pss_one (ps_if (PW.pt (pw_or (pt_cmpR op_isN (pe_ix ix_list (pv 5) (pv 6) (fun _ _ => rfl)) pe_non (nomark _)) (pw_or (pt_not (pt_val (pe_callB call_isi (by rfl) T.isinstance (by decide +kernel) (pa_cons (pe_ix ix_list (pv 5) (pv 6) (fun _ _ => rfl)) (pa_cons (pe_bltn (v := .ty "tuple") (by rfl) T.tuple (by decide +kernel) rfl) pa_nil))))) (pw_or1 (pt_cmpR (op_ne_self hr.units0) (pe_ix ix_list (pv 5) (pv 6) (fun _ _ => rfl)) (pe_ix ix_list (pv 4) (pv 6) (fun _ _ => rfl)) (nomark _))))))
            (pss_one (ps_ret (pe_un un_neg pe_int)))
            pss_nil)))
      (pss_one (ps_expr (pe_bm PySem.F.plainAttrs_list PySem.F.slot_list_extend PySem.F.type_list_extend mt_extend (pv 1) (pa_cons (pv 4) pa_nil)))))))))))
  (pss_one (ps_ret (pv 2)))))), ?_⟩
  rw [st__law_parts_right]
  refine seq_ fun R hR => ?_
  walk_at "rd"
  refine new_ fun l H0 hl k0 a0 => ?_
  rw [hR]; clear hR
  refine seq_ fun R hR => ?_
  walk_at "rd"
  rw [hR]; clear hR
  refine seq_ fun R hR => ?_
  refine whileL_ (fun m σ H' => ∃ (vs : List V) (ts : List Tr) (c : Int) (o3 o4 o5 o6 : Option V), σ = [some v, some (.ref l), some (.int c), o3, o4, o5, o6] ∧ Same H H' ∧ H' l = some (.lst vs) ∧ Ats H' ts vs ∧ c + (sizes ts : Int) = t.size ∧ 0 ≤ c ∧ m = sizes ts) t.size ?_ ?_
  · exact ⟨[v], [t], 0, none, none, none, none, rfl, k0, a0, .cons (ht.mono (same_kt k0)) .nil, by simp [sizes], by decide, by simp [sizes]⟩
  · rintro m σ H1 ⟨vs, ts, c, o3, o4, o5, o6, rfl, e1, hL, hA, hc, hc0, rfl⟩
    refine ⟨l, vs, rfl, hL, fun h0 => ?_, fun ys y hy N hN => ?_⟩
    · subst h0
      cases hA
      show R _ _
      rw [hR]
      walk_at "rd"
      rw [show c = (t.size : Int) by simp [sizes] at hc; omega]
      exact q _ e1
    · subst hy
      obtain ⟨us, u, rfl, hA1, hu⟩ := Ats.snoc_inv hA
      refine seq_ fun R1 hR1 => ?_
      walk_at "rd"
      refine ⟨.inl ⟨rfl, _, SqL.of hL⟩, _, _, hL, ?_⟩
      have kt1 := kt_lst (o := .lst ys) hL
      obtain ⟨a, ws, rfl, ha, hw⟩ := (hu.mono kt1).view
      have hA2 := hA1.mono kt1
      have hL2 : upd H1 l (.lst ys) l = some (.lst ys) := upd_same
      have e2 : Same H (upd H1 l (.lst ys)) := same_mut e1 hl
      generalize upd H1 l (.lst ys) = H2 at *
      rw [hR1]; clear hR1
      refine seq_ fun R1 hR1 => ?_
      walk_at "rd"
      rw [hR1]; clear hR1
      refine seq_ fun R1 hR1 => ?_
      walk_at "rd"
      have wl := pr_len hw
      have wl3 : ws.length ≤ 3 := by rw [← wl]; exact kids_le u
      refine ⟨u, a, ws, rfl, ha, wl.symm, fun d H3 hd k3 a3 => ?_⟩
      rw [hR1]; clear hR1
      refine seq_ fun R1 hR1 => ?_
      walk_at "rd"
      refine ⟨u, a, ws, rfl, k3 _ _ ha, wl3, fun fd H4 hfd k4 a4 => ?_⟩
      rw [hR1]; clear hR1
      refine seq_ fun R1 hR1 => ?_
      walk_at "rd"
      refine isi_ (isi_ll a4) ?_
      rw [if_neg (by decide)]
      refine ⟨_, .inl (SqL.of a4), _, .inl (SqL.of (k4 _ _ a3)), ?_⟩
      rw [if_neg (by simp), hR1]; clear hR1
      refine seq_ fun R1 hR1 => ?_
      walk_at "rd"
      refine ⟨_, .inl (SqL.of (k4 _ _ a3)), by omega, by omega, ?_⟩
      have k34 := k3.trans k4
      refine forR (fun i σ H' => ∃ o6, σ = [some v, some (.ref l), some (.int (c + 1)), some (.ref a), some (.ref d), some (.ref fd), o6] ∧ Same H4 H') ⟨_, rfl, Same.refl _⟩ ?_ ?_
      · rintro i σ H5 hi ⟨o6, rfl, e5⟩ N1 hN1
        have hi' : i < ws.length := by simpa using hi
        walk_at "rd"
        have hiw : ws[i]? = some ws[i] := List.getElem?_eq_getElem hi'
        obtain ⟨tk, _, hk⟩ := pr_right hw hiw
        have fa := e5 _ _ a4
        have da := e5 _ _ (k4 _ _ a3)
        obtain ⟨b, bs, eb, hb, _⟩ := (hk.mono (same_kt (k34.trans e5))).view
        have at_ : atI ws (0 + (i : Int)) = some ws[i] := by rw [Int.zero_add]; exact atI_nat hiw
        refine ⟨_, SqL.of fa, _, at_, ?_⟩
        rw [eb]
        rw [if_neg (by simp)]
        refine ⟨_, SqL.of fa, _, at_, ?_⟩
        rw [eb]
        refine isi_ (isi_tt hb) ?_
        rw [if_neg (by decide)]
        refine ⟨_, SqL.of fa, _, at_, _, SqL.of da, _, at_, ?_⟩
        rw [eb]
        refine ⟨_, rfl, rfl, _, SqT.of hb, ?_⟩
        exact hN1 _ _ ⟨_, rfl, e5⟩
      · rintro σ H5 ⟨o6, rfl, e5⟩
        show R1 _ _
        rw [hR1]; clear hR1
        walk_at "rd"
        have eL := e5 _ _ (k34 _ _ hL2)
        have eD := e5 _ _ (k4 _ _ a3)
        refine ⟨.inl ⟨rfl, _, SqL.of eL⟩, ?_⟩
        have ks := u.size_kids
        have bd : sizes (us ++ u.kids) ≤ 100000 := by rw [sizes_append] at hc ⊢; rw [sizes_cons, sizes_nil] at hc; omega
        have hA5 : Ats (upd H5 l (.lst (ys ++ ws))) (us ++ u.kids) (ys ++ ws) :=
          Ats.mono ((same_kt (k34.trans e5)).trans (kt_lst eL)) (Ats.append hA2 hw)
        refine ⟨_, eL, _, eD, ?_, ?_⟩
        · have l1 := pr_len hA5
          have l2 := le_sizes (us ++ u.kids)
          rw [List.length_append (as := ys)] at l1
          exact szL (by omega)
        · refine hN _ _ _ ?_ ⟨_, _, c + 1, _, _, _, _, rfl, same_mut (e2.trans (k34.trans e5)) hl, upd_same, hA5, ?_, by omega, rfl⟩
          · rw [sizes_append, sizes_append, sizes_cons, sizes_nil]; omega
          · rw [sizes_append] at hc ⊢; rw [sizes_cons, sizes_nil] at hc; omega
end
end K01

namespace K01
open PySem L2 My
open PyProof.Rows (envOfC)
local macro_rules | `(tactic| walk_at "rd") => `(tactic| simp only [My.ife, My.tFor_eq, My.cx_K, My.cx_w, My.rRdK, My.rNeSelf, rIsi, tAsg, tDrop, tRet, tRetN, tIfS, tVar, tC, tOp, tUn, rI0, rI, rU, rEq, rNe, CDiv, CMul, CPow, My.tTup_eq, My.tLst_eq, My.tDNewK_eq, My.tRevL_eq, My.tRevS, tM1, tM0, My.sz0, My.sz1, My.sz2, My.sz3, My.sz4, My.sz5, My.sz8, tCons, tNil, My.tCallD, tCB, gName, gTup, gCons, gNil, gSub, tTest, tB, tAnd, tOr, tNot, tIf, tAndV, tOrV, tNotV, rSetL, rSlS, rIxL, rIxT, rIxS, My.rSlT_eq, My.rSlL_eq, rIn, rCat, tLc_eq, iList, iTup, iRng1, iRng2, wipe, List.map_cons, List.map_nil, tSl, tPart, tNoPart, tBM, tBM0, rAppend, My.rPopL, rExtend, tNext, tBreak, tCont, My.scal_ii, My.scal_ss, My.scal_bb, My.scal_is, My.scal_si, ipI, rListD, sDPut, tDGet, tDGet2, tAug, List.getElem?_cons_zero, List.getElem?_cons_succ, List.set_cons_zero, List.set_cons_succ, Option.some.injEq, exists_eq_left', exists_eq_left, V.int.injEq, V.ref.injEq, V.str.injEq, V.bl.injEq, exists_and_left, true_and, and_true, List.cons.injEq, exists_const, Bool.false_eq_true, ↓reduceIte, reduceCtorEq, false_and, and_assoc, decide_true, decide_false])
local macro_rules | `(tactic| walk_at "st") => `(tactic| (refine My.seq_ fun R hR => ?_))

/-- what free has to do -/
inductive Td where
  | look (t : Tr) | bind (x : Str) | loose (x : Str)
def At3 (H : Hp) : Td → V → Prop
  | .look t, v => ∃ a u, v = .ref a ∧ H a = some (.tup [.int 0, u]) ∧ At H t u
  | .bind x, v => ∃ a, v = .ref a ∧ H a = some (.tup [.int 1, .str x])
  | .loose x, v => ∃ a, v = .ref a ∧ H a = some (.tup [.int 2, .str x])
theorem At3.mono {H H' : Hp} (k : KT H H') : ∀ {d : Td} {v : V}, At3 H d v → At3 H' d v
  | .look _, _, ⟨a, u, e, h, h1⟩ => ⟨a, u, e, k _ _ h, h1.mono k⟩
  | .bind _, _, ⟨a, e, h⟩ => ⟨a, e, k _ _ h⟩
  | .loose _, _, ⟨a, e, h⟩ => ⟨a, e, k _ _ h⟩
/-- what a node that is no name sets going -/
def reading (t : Tr) : List Td := match t with
  | .fn x b => [.bind x, .look b, .loose x]
  | .lt x e b => [.look e, .bind x, .look b, .loose x]
  | t => t.kids.map .look
def spReading : Sp := fun vs H Q _ => ∃ (t : Tr) (a : Addr), vs = [.ref a] ∧ At H t (.ref a) ∧ ∀ (l : Addr) (ws : List V) (H' : Hp), H l = none → Same H H' → H' l = some (.lst ws) → Paired (At3 H') (reading t) ws → Q (.ref l) H'
abbrev s__reading : Stmt := topS 8
abbrev N__reading : List Str := ["node", "looks", "name", "part"]
theorem sc__reading : FnScope N__reading ["node"] (defScope s__reading) := ⟨rfl, rfl, rfl, by decide +kernel, rfl, by decide +kernel, by decide +kernel⟩
theorem bd__reading : BindAll "_reading" s__reading ["node"] := fun _ _ _ _ _ _ us hl => match us, hl with | [_], _ => rfl
theorem st__reading (v0 : V) : start N__reading [v0] = [some v0, none, none, none] := rfl
section
variable {P : Program} {w : World} {K : PySem.W.Frag} {mg : Str → Option Value} {base : Heap} {aS : Addr}
theorem df_reading (T : Txt K w mg aS) (F : FunAt K mg "_reading" s__reading) (D_parts : Df P w K mg base 1 "parts" ["tree"] spParts) : Df P w K mg base 2 "_reading" ["node"] spReading := by
  refine F.df sc__reading bd__reading (fun vs H Q E h => ?_) (fun f cdv A outer s H vs Q E hr h => ?_)
  · obtain ⟨_, _, rfl, _⟩ := h; rfl
  obtain ⟨t, a, rfl, ht, q⟩ := h
  have nd := sc__reading.nd
  refine ⟨_, (pss_cons (ps_setLc (i := 1) (own := [("part", 3)]) (g := gName 3) rfl nd rfl rfl (sw_true rfl rfl rfl (by decide +kernel)) (pi_list (pe_callD D_parts hr (by decide) rfl (pa_cons (pv 0) pa_nil))) (blkOk_by (N := N__reading) (sc := defScope s__reading) (by decide +kernel)) (fun _ _ _ _ _ => (pg_name (i := 3) nd rfl (Or.inl rfl))) (fun _ _ _ _ _ => pts_nil) (fun _ _ _ _ _ => (pe_tup (pa_cons (pe_gint (by rfl) T.LOOK) (pa_cons (pv 3) pa_nil)))))
  (pss_cons (ps_if (PW.pt (pw_and (pt_cmpR op_ne (pe_ix ix_tup (pv 0) pe_int (fun _ _ => rfl)) pe_str (nomark _)) (pw_and1 (pt_cmpR op_ne (pe_ix ix_tup (pv 0) pe_int (fun _ _ => rfl)) pe_str (nomark _)))))
    (pss_one (ps_ret (pv 1)))
    pss_nil)
  (pss_cons (ps_set (i := 2) nd rfl (Or.inl rfl) (pe_ix ix_tup (pv 0) pe_int (fun _ _ => rfl)))
  (pss_one (ps_ret (pe_op op_cat (pe_slice sl_list (pv 1) po_none (po_some (pe_un un_neg pe_int))) (pe_lst (pa_cons (pe_tup (pa_cons (pe_gint (by rfl) T.BIND) (pa_cons (pv 2) pa_nil))) (pa_cons (pe_ix ix_list (pv 1) (pe_un un_neg pe_int) (fun _ _ => rfl)) (pa_cons (pe_tup (pa_cons (pe_gint (by rfl) T.LOOSE) (pa_cons (pv 2) pa_nil))) pa_nil)))))))))), ?_⟩
  rw [st__reading]
  refine seq_ fun R hR => ?_
  walk_at "rd"
  obtain ⟨a', ws, e, ha, hws⟩ := ht.view
  cases e
  have wl := pr_len hws
  refine ⟨t, a, ws, rfl, ha, by rw [← wl]; exact kids_le t, fun l H1 hl k1 a1 => ?_⟩
  walk_at "rd"
  refine ⟨⟨_, SqL.of a1⟩, lcL (fun i acc H' => Paired (At3 H') ((t.kids.take i).map .look) acc) (fun i acc H' H'' k p => pr_mono p fun _ _ => At3.mono k) (SqL.of a1) (by rw [← wl]; exact Nat.le_trans (kids_le t) (by decide)) (fun _ => rfl) .nil ?_ ?_⟩
  · intro i x acc H2 hi hl' e2 p Qy hy Qn hn
    walk_at "rd"
    obtain ⟨u, hu1, hu2⟩ := pr_right hws hi
    refine new_ fun pn H3 hpn k3 a3 => hy _ _ k3 ?_
    show Paired _ ((t.kids.take (i + 1)).map Td.look) _
    rw [List.take_succ, hu1, List.map_append]
    exact pr_append (pr_mono p fun _ _ => At3.mono (same_kt k3)) (.cons ⟨pn, _, rfl, a3, hu2.mono (same_kt (k1.trans (e2.trans k3)))⟩ .nil)
  · intro D ys H2 hD e2 hD2 p
    rw [← wl, List.take_length] at p
    rw [hR]; clear hR
    have ha2 := (k1.trans e2) _ _ ha
    refine ifq_ fun R A B hR hA hB => ?_
    walk_at "rd"
    have hAok : reading t = t.kids.map .look → A H2 := by
      intro e
      rw [hA]
      walk_at "rd"
      refine q D ys H2 (k1.free hD) (k1.trans e2) hD2 ?_
      rw [e]
      exact p
    have hBok : ∀ (x : Str) (vs : List V) (us : List Td) (u : Tr), t.own = [.str x] → t.kids.map Td.look = us ++ [.look u] → reading t = us ++ [.bind x, .look u, .loose x] → B H2 := by
      intro x vs us u eo ek er
      rw [hB]
      walk_at "rd"
      rw [hR]; clear hR
      refine seq_ fun R hR => ?_
      walk_at "rd"
      refine ⟨_, SqT.of ha2, _, by rw [eo]; exact at1 _ _ _, ?_⟩
      rw [hR]; clear hR
      walk_at "rd"
      rw [ek] at p
      obtain ⟨zs, z, rfl, p1, p2⟩ : ∃ zs z, ys = zs ++ [z] ∧ Paired (At3 H2) us zs ∧ At3 H2 (.look u) z := by
        rcases List.eq_nil_or_concat ys with e0 | ⟨zs, z, e0⟩
        · subst e0
          have := pr_len p
          simp at this
        · rw [List.concat_eq_append] at e0
          subst e0
          obtain ⟨us', u', e1, h1, h2⟩ := pr_snoc p
          obtain ⟨rfl, e3⟩ := List.append_inj' e1 rfl
          obtain rfl : Td.look u = u' := by simpa using e3
          exact ⟨zs, z, rfl, h1, h2⟩
      have zl : (zs ++ [z]).length ≤ 3 := by
        rw [← pr_len p, ← ek, List.length_map]
        exact kids_le t
      refine ⟨_, SqL.of hD2, ?_⟩
      rw [cut_butlast]
      refine new_ fun p3 H3 hp3 k3 a3 => new_ fun p4 H4 hp4 k4 a4 => ⟨_, SqL.of (k4 _ _ (k3 _ _ hD2)), _, atI_last _ _, new_ fun p5 H5 hp5 k5 a5 => new_ fun p6 H6 hp6 k6 a6 => ?_⟩
      have kk := (k4.trans k5).trans k6
      refine ⟨_, kk _ _ a3, _, a6, ?_, fun p7 hp7 => ?_⟩
      · simp only [List.length_append, List.length_cons, List.length_nil] at zl ⊢
        exact szL (by omega)
      · have k7 := same_new (o := .lst (zs ++ [V.ref p4, z, V.ref p5])) hp7
        have kall := (k3.trans kk).trans k7
        refine q p7 _ _ (k1.free (e2.free ((k3.trans kk).free hp7))) (k1.trans (e2.trans kall)) upd_same ?_
        rw [er]
        refine pr_append (pr_mono p1 fun _ _ => At3.mono (same_kt kall)) (.cons ⟨p4, rfl, k7 _ _ (k6 _ _ (k5 _ _ a4))⟩ (.cons (At3.mono (same_kt kall) p2) (.cons ⟨p5, rfl, k7 _ _ (k6 _ _ a5)⟩ .nil)))
    refine ⟨_, SqT.of ha2, _, at0 _ _, rfl, ?_⟩
    by_cases wf : t.word = "fun"
    · obtain ⟨x, b, rfl⟩ := word_fun wf
      rw [if_neg (by simp [Tr.word])]
      exact hBok x ws [] b rfl rfl rfl
    · rw [if_pos (by simp [wf])]
      refine ⟨_, SqT.of ha2, _, at0 _ _, rfl, ?_⟩
      by_cases wl' : t.word = "let"
      · obtain ⟨x, e, b, rfl⟩ := word_let wl'
        rw [if_neg (by simp [Tr.word])]
        exact hBok x ws [.look e] b rfl rfl rfl
      · rw [if_pos (by simp [wl'])]
        refine hAok ?_
        cases t <;> first
          | rfl
          | exact absurd rfl wf
          | exact absurd rfl wl'
end
end K01

namespace K01
open PySem L2 My
open PyProof.Rows (envOfC)
local macro_rules | `(tactic| walk_at "rd") => `(tactic| simp only [My.ife, My.tFor_eq, My.cx_K, My.cx_w, My.rRdK, My.rNeSelf, rIsi, tAsg, tDrop, tRet, tRetN, tIfS, tVar, tC, tOp, tUn, rI0, rI, rU, rEq, rNe, CDiv, CMul, CPow, My.tTup_eq, My.tLst_eq, My.tDNewK_eq, My.tRevL_eq, My.tRevS, tM1, tM0, My.sz0, My.sz1, My.sz2, My.sz3, My.sz4, My.sz5, My.sz8, tCons, tNil, My.tCallD, tCB, gName, gTup, gCons, gNil, gSub, tTest, tB, tAnd, tOr, tNot, tIf, tAndV, tOrV, tNotV, rSetL, rSlS, rIxL, rIxT, rIxS, My.rSlT_eq, My.rSlL_eq, rIn, rCat, tLc_eq, iList, iTup, iRng1, iRng2, wipe, List.map_cons, List.map_nil, tSl, tPart, tNoPart, tBM, tBM0, rAppend, My.rPopL, rExtend, tNext, tBreak, tCont, My.scal_ii, My.scal_ss, My.scal_bb, My.scal_is, My.scal_si, ipI, rListD, sDPut, tDGet, tDGet2, tAug, List.getElem?_cons_zero, List.getElem?_cons_succ, List.set_cons_zero, List.set_cons_succ, Option.some.injEq, exists_eq_left', exists_eq_left, V.int.injEq, V.ref.injEq, V.str.injEq, V.bl.injEq, exists_and_left, true_and, and_true, List.cons.injEq, exists_const, Bool.false_eq_true, ↓reduceIte, reduceCtorEq, false_and, and_assoc, decide_true, decide_false])
local macro_rules | `(tactic| walk_at "st") => `(tactic| (refine My.seq_ fun R hR => ?_))

/-- the free ones, in the order of reading, each as often as it stands; b tells how often a name is bound round it -/
def inc (x : Str) (b : Str → Nat) : Str → Nat := fun y => if y = x then b y + 1 else b y
def dec (x : Str) (b : Str → Nat) : Str → Nat := fun y => if y = x then b y - 1 else b y
theorem dec_inc (x : Str) (b : Str → Nat) : dec x (inc x b) = b := by
  funext y
  unfold dec inc
  by_cases h : y = x
  · simp [h]
  · simp [h]
def frees (b : Str → Nat) : Tr → List Str
  | .num _ => []
  | .name y => if b y = 0 then [y] else []
  | .fn x t => frees (inc x b) t
  | .call f a => frees b f ++ frees b a
  | .plus f a => frees b f ++ frees b a
  | .less f a => frees b f ++ frees b a
  | .ite c f a => frees b c ++ (frees b f ++ frees b a)
  | .lt x e t => frees b e ++ frees (inc x b) t
def rem : List Td → (Str → Nat) → List Str
  | [], _ => []
  | .look t :: r, b => frees b t ++ rem r b
  | .bind x :: r, b => rem r (inc x b)
  | .loose x :: r, b => rem r (dec x b)
def wf : List Td → (Str → Nat) → Prop
  | [], _ => True
  | .look _ :: r, b => wf r b
  | .bind x :: r, b => wf r (inc x b)
  | .loose x :: r, b => 1 ≤ b x ∧ wf r (dec x b)
def isName : Tr → Bool | .name _ => true | _ => false
theorem rem_reading (t : Tr) (h : isName t = false) (r : List Td) (b : Str → Nat) : rem (reading t ++ r) b = frees b t ++ rem r b := by
  cases t <;> simp [reading, rem, frees, Tr.kids, dec_inc, isName] at h ⊢
theorem wf_reading (t : Tr) (r : List Td) (b : Str → Nat) : wf (reading t ++ r) b ↔ wf r b := by
  cases t <;> simp [reading, wf, Tr.kids, dec_inc, inc]
def wt1 : Td → Nat | .look t => 3 * t.size | _ => 1
def wt (ds : List Td) : Nat := (ds.map wt1).sum
theorem wt_append (a b : List Td) : wt (a ++ b) = wt a + wt b := by simp [wt]
theorem wt_reverse (a : List Td) : wt a.reverse = wt a := by simp [wt, List.sum_reverse]
theorem wt_one (d : Td) : wt [d] = wt1 d := by simp [wt]
theorem le_wt : ∀ a : List Td, a.length ≤ wt a
  | [] => Nat.le_refl _
  | d :: r => by
    have := le_wt r
    have h : 1 ≤ wt1 d := by
      cases d with
      | look t => have := t.size_pos; simp only [wt1]; omega
      | _ => exact Nat.le_refl _
    simp only [wt, List.map_cons, List.sum_cons, List.length_cons] at *
    omega
theorem wt_reading (t : Tr) : wt (reading t) + 1 ≤ 3 * t.size := by
  cases t <;> simp [reading, wt, wt1, Tr.kids, Tr.size] <;> omega
/-- each once -/
def dd (fs : List Str) : List Str → List Str
  | [] => fs
  | x :: r => dd (if x ∈ fs then fs else fs ++ [x]) r
def freeNames (t : Tr) : List Str := dd [] (frees (fun _ => 0) t)
/-- the dict of the names that are bound -/
def Bd (kvs : List (Key × V)) (b : Str → Nat) : Prop := ∀ x : Str, match valV kvs (Sum.inr x : Key) with | none => b x = 0 | some v => v = .int (b x)
theorem Bd.get {kvs : List (Key × V)} {b : Str → Nat} (h : Bd kvs b) (x : Str) : (valV kvs (Sum.inr x : Key)).getD (.int 0) = .int (b x) := by
  have := h x
  cases e : valV kvs (Sum.inr x : Key) with
  | none => rw [e] at this; simp only at this; rw [this]; rfl
  | some v => rw [e] at this; exact this
theorem Bd.there {kvs : List (Key × V)} {b : Str → Nat} (h : Bd kvs b) {x : Str} (hx : 1 ≤ b x) : valV kvs (Sum.inr x : Key) = some (.int (b x)) := by
  have := h x
  cases e : valV kvs (Sum.inr x : Key) with
  | none => rw [e] at this; simp only at this; omega
  | some v => rw [e] at this; simp only at this; rw [this]
theorem Bd.put {kvs : List (Key × V)} {b b' : Str → Nat} (h : Bd kvs b) (x : Str) (hb : ∀ y, y ≠ x → b' y = b y) : Bd (putK kvs (Sum.inr x) (.int (b' x))) b' := by
  intro y
  rw [valV_put]
  by_cases e : y = x
  · subst e; rw [if_pos rfl]
  · rw [if_neg (fun z => e (Sum.inr.inj z))]
    have := h y
    rw [hb y e]
    exact this
def foundK (fs : List Str) : List (Key × V) := fs.map fun x => (Sum.inr x, V.bl true)
theorem foundK_val (fs : List Str) (x : Str) : valV (foundK fs) (Sum.inr x : Key) = if x ∈ fs then some (.bl true) else none := by
  induction fs with
  | nil => rfl
  | cons y r ih =>
    show valV ((Sum.inr y, V.bl true) :: foundK r) (Sum.inr x : Key) = _
    by_cases e : y = x
    · subst e
      rw [valV_pos rfl]; simp
    · rw [valV_neg (fun z => e (Sum.inr.inj z)), ih]
      have : ¬ x = y := fun z => e z.symm
      simp [this]
theorem foundK_put (fs : List Str) (x : Str) : putK (foundK fs) (Sum.inr x) (.bl true) = foundK (if x ∈ fs then fs else fs ++ [x]) := by
  by_cases h : x ∈ fs
  · rw [if_pos h]
    have e : (foundK fs).any (fun kv => decide (kv.1 = (Sum.inr x : Key))) = true := by
      rw [valV_any, foundK_val, if_pos h]; rfl
    unfold putK
    rw [if_pos e]
    unfold foundK
    rw [List.map_map]
    refine List.map_congr_left fun y _ => ?_
    simp only [Function.comp]
    split
    · rename_i e; rw [Sum.inr.inj e]
    · rfl
  · rw [if_neg h, putK_new _ (by rw [foundK_val, if_neg h])]
    simp [foundK]
def spFree : Sp := fun vs H Q _ => ∃ (t : Tr) (v : V), vs = [v] ∧ At H t v ∧ t.size ≤ 30000 ∧ ∀ (l : Addr) (H' : Hp), H l = none → Same H H' → H' l = some (.lst ((freeNames t).map V.str)) → Q (.ref l) H'
abbrev s_free : Stmt := topS 7
abbrev N_free : List Str := ["tree", "found", "bound", "waiting", "deed", "at"]
theorem sc_free : FnScope N_free ["tree"] (defScope s_free) := ⟨rfl, rfl, rfl, by decide +kernel, rfl, by decide +kernel, by decide +kernel⟩
theorem bd_free : BindAll "free" s_free ["tree"] := fun _ _ _ _ _ _ us hl => match us, hl with | [_], _ => rfl
theorem st_free (v0 : V) : start N_free [v0] = [some v0, none, none, none, none, none] := rfl
section
variable {P : Program} {w : World} {K : PySem.W.Frag} {mg : Str → Option Value} {base : Heap} {aS : Addr}
theorem df_free (T : Txt K w mg aS) (F : FunAt K mg "free" s_free) (D__reading : Df P w K mg base 2 "_reading" ["node"] spReading) : Df P w K mg base 3 "free" ["tree"] spFree := by
  refine F.df sc_free bd_free (fun vs H Q E h => ?_) (fun f cdv A outer s H vs Q E hr h => ?_)
  · obtain ⟨_, _, rfl, _⟩ := h; rfl
  obtain ⟨t, v, rfl, ht, hz, q⟩ := h
  have nd := sc_free.nd
  have hu := hu_of hr
  refine ⟨_, (pss_cons (ps_set (i := 1) nd rfl (Or.inl rfl) pe_dnewK)
  (pss_cons (ps_set (i := 2) nd rfl (Or.inl rfl) pe_dnewK)
  (pss_cons (ps_set (i := 3) nd rfl (Or.inl rfl) (pe_lst (pa_cons (pe_tup (pa_cons (pe_gint (by rfl) T.LOOK) (pa_cons (pv 0) pa_nil))) pa_nil)))
  (pss_cons (ps_while PassesOwn.never (pt_truth (pv 3) (by intro _; rfl))
    (pss_cons (ps_asg (pe_bm0 PySem.F.plainAttrs_list PySem.F.slot_list_pop PySem.F.type_list_pop mt_popL (pv 3)) (pg_tup rfl (pgs_cons (pg_name (i := 4) nd rfl (Or.inl rfl)) (pgs_cons (pg_name (i := 5) nd rfl (Or.inl rfl)) pgs_nil))))
      (pss_one (ps_if (pt_cmpR op_eq (pv 4) (pe_gint (by rfl) T.BIND) (nomark _))
        (pss_one (ps_dput hu (pv 2) (pv 5) (pe_op op_add (pe_dget2 hu (pv 2) (pv 5) pe_int ⟨rfl, rfl, rfl, rfl⟩) pe_int) rfl))
        (pss_one (ps_if (pt_cmpR op_eq (pv 4) (pe_gint (by rfl) T.LOOSE) (nomark _))
            (pss_one (ps_dput hu (pv 2) (pv 5) (pe_op op_sub (pe_dget hu (pv 2) (pv 5) (fun _ _ => rfl)) pe_int) rfl))
            (pss_one (ps_if (pt_cmpR op_ne (pe_ix ix_tup (pv 5) pe_int (fun _ _ => rfl)) pe_str (nomark _))
                (pss_one (ps_expr (pe_bm PySem.F.plainAttrs_list PySem.F.slot_list_extend PySem.F.type_list_extend mt_extend (pv 3) (pa_cons (pe_revL (pe_callD D__reading hr (by decide) rfl (pa_cons (pv 5) pa_nil))) pa_nil))))
                (pss_one (ps_if (pt_cmpR op_eq (pe_dget2 hu (pv 2) (pe_ix ix_tup (pv 5) pe_int (fun _ _ => rfl)) pe_int ⟨rfl, rfl, rfl, rfl⟩) pe_int (nomark _))
                    (pss_one (ps_dput hu (pv 1) (pe_ix ix_tup (pv 5) pe_int (fun _ _ => rfl)) pe_bl rfl))
                    pss_nil))))))))))
  (pss_one (ps_ret (pe_callTy (call_list_dK rfl) (by rfl) T.list (by decide +kernel) (pa_cons (pv 1) pa_nil)))))))), ?_⟩
  rw [st_free]
  refine seq_ fun R hR => ?_
  walk_at "rd"
  refine new_ fun fd H1 hfd k1 a1 => ?_
  rw [hR]; clear hR
  refine seq_ fun R hR => ?_
  walk_at "rd"
  refine new_ fun bd H2 hbd k2 a2 => ?_
  rw [hR]; clear hR
  refine seq_ fun R hR => ?_
  walk_at "rd"
  refine new_ fun p3 H3 hp3 k3 a3 => new_ fun l H4 hl k4 a4 => ?_
  rw [hR]; clear hR
  refine seq_ fun R hR => ?_
  have hfd0 : H fd = none := hfd
  have hbd0 : H bd = none := k1.free hbd
  have hl0 : H l = none := (k1.trans (k2.trans k3)).free hl
  have nfb : fd ≠ bd := ne_of_none a1 hbd
  have nfl : fd ≠ l := ne_of_none (k3 _ _ (k2 _ _ a1)) hl
  have nbl : bd ≠ l := ne_of_none (k3 _ _ a2) hl
  refine whileL_ (fun m σ H' => ∃ (vs : List V) (ds : List Td) (fs : List Str) (bk : List (Key × V)) (b : Str → Nat) (o4 o5 : Option V), σ = [some v, some (.ref fd), some (.ref bd), some (.ref l), o4, o5] ∧ Same H H' ∧
    H' l = some (.lst vs) ∧ H' fd = some (.dK (foundK fs)) ∧ H' bd = some (.dK bk) ∧ Paired (At3 H') ds vs ∧ Bd bk b ∧ wf ds.reverse b ∧ dd fs (rem ds.reverse b) = freeNames t ∧
    wt ds + bk.length ≤ 3 * t.size ∧ wt ds + fs.length ≤ 3 * t.size ∧ m = wt ds) (3 * t.size) ?_ ?_
  · refine ⟨_, [.look t], [], [], fun _ => 0, none, none, rfl, (k1.trans k2).trans (k3.trans k4), a4, k4 _ _ (k3 _ _ (k2 _ _ a1)), k4 _ _ (k3 _ _ a2),
      .cons ⟨p3, _, rfl, k4 _ _ a3, ht.mono (same_kt ((k1.trans k2).trans (k3.trans k4)))⟩ .nil, fun x => rfl, trivial, ?_, ?_, ?_, ?_⟩
    · simp [rem, freeNames]
    · simp [wt, wt1]
    · simp [wt, wt1]
    · simp [wt, wt1]
  · rintro m σ H5 ⟨vs, ds, fs, bk, b, o4, o5, rfl, e5, hL, hF, hB, hA, hbd, hwf, hdd, hw1, hw2, rfl⟩
    refine ⟨l, vs, rfl, hL, fun h0 => ?_, fun ys y hy N hN => ?_⟩
    · subst h0
      cases hA
      show R _ _
      rw [hR]
      walk_at "rd"
      refine ⟨_, hF, fun l2 hl2 => q l2 _ (e5.free hl2) (e5.trans (same_new hl2)) ?_⟩
      have hfs : fs = freeNames t := hdd
      rw [upd_same, ← hfs]
      simp [foundK, kV, Function.comp_def]
    · subst hy
      obtain ⟨us, d, rfl, hA1, hd⟩ := pr_snoc hA
      refine seq_ fun R1 hR1 => ?_
      walk_at "rd"
      have kt1 := kt_lst (o := .lst ys) hL
      refine ⟨.inl ⟨rfl, _, SqL.of hL⟩, _, _, hL, ?_⟩
      have e6 : Same H (upd H5 l (.lst ys)) := same_mut e5 hl0
      have hL6 : upd H5 l (.lst ys) l = some (.lst ys) := upd_same
      have hF6 : upd H5 l (.lst ys) fd = some (.dK (foundK fs)) := by rw [upd_ne nfl]; exact hF
      have hB6 : upd H5 l (.lst ys) bd = some (.dK bk) := by rw [upd_ne nbl]; exact hB
      have hA6 := pr_mono hA1 fun _ _ h => At3.mono kt1 h
      have hd6 := hd.mono kt1
      generalize upd H5 l (.lst ys) = H6 at *
      have lw := le_wt (us ++ [d])
      rw [wt_append, wt_one] at hw1 hw2 lw
      rw [List.length_append, List.length_singleton] at lw
      rw [List.reverse_append, List.reverse_singleton, List.singleton_append] at hwf hdd
      cases d with
      | look u =>
        obtain ⟨p, uv, rfl, hp, hu6⟩ := hd6
        obtain ⟨ua, ws, rfl, hua, hws⟩ := hu6.view
        refine ⟨_, rfl, _, SqT.of hp, rfl, _, _, rfl, _, _, rfl, rfl, ?_⟩
        rw [hR1]; clear hR1
        refine ifs_ fun A B hA hB => ?_
        walk_at "rd"
        rw [if_neg (by decide), hB]; clear hA hB
        refine ifs_ fun A B hA hB => ?_
        walk_at "rd"
        rw [if_neg (by decide), hB]; clear hA hB
        refine ifs_ fun A B hA hB => ?_
        walk_at "rd"
        refine ⟨_, SqT.of hua, _, at0 _ _, rfl, ?_⟩
        simp only [wt1] at hw1 hw2 lw
        by_cases wn : u.word = "name"
        · obtain ⟨y, rfl⟩ := word_name wn
          cases hws
          rw [if_neg (by simp [Tr.word]), hB]; clear hA hB
          refine ifs_ fun A B hA hB => ?_
          walk_at "rd"
          refine ⟨.inl ⟨_, .inl hB6⟩, _, SqT.of hua, _, at1 _ _ _, _, DGet.k (k := Sum.inr y) hB6, ?_⟩
          rw [hbd.get y]
          walk_at "rd"
          by_cases hby : b y = 0
          · rw [if_pos (by omega), hA]
            walk_at "rd"
            refine ⟨_, SqT.of hua, _, at1 _ _ _, _, DPut.k (k := Sum.inr y) hF6 (szLt (by simp only [foundK, List.length_map, Tr.size] at *; omega)), ?_⟩
            rw [foundK_put]
            have kt2 : My.KT H6 (upd H6 fd (.dK (foundK (if y ∈ fs then fs else fs ++ [y])))) := fun c xs q => by rw [upd_ne (ne_of q hF6 (by intro z; cases z))]; exact q
            refine hN _ _ _ ?_ ⟨ys, us, if y ∈ fs then fs else fs ++ [y], bk, b, _, _, rfl, same_mut e6 hfd0, ?_, upd_same, ?_, pr_mono hA6 fun _ _ h => At3.mono kt2 h, hbd, hwf, ?_, ?_, ?_, rfl⟩
            · rw [wt_append, wt_one]; simp only [wt1, Tr.size]; omega
            · rw [upd_ne (Ne.symm nfl)]; exact hL6
            · rw [upd_ne (Ne.symm nfb)]; exact hB6
            · rw [← hdd]; simp only [rem, frees, if_pos hby, List.singleton_append, dd]
            · omega
            · split
              · omega
              · rw [List.length_append, List.length_singleton]; simp only [Tr.size] at hw2; omega
          · rw [if_neg (by omega), hB]
            walk_at "rd"
            refine hN _ _ _ ?_ ⟨ys, us, fs, bk, b, _, _, rfl, e6, hL6, hF6, hB6, hA6, hbd, hwf, ?_, ?_, ?_, rfl⟩
            · rw [wt_append, wt_one]; simp only [wt1, Tr.size]; omega
            · rw [← hdd]; simp only [rem, frees, if_neg hby, List.nil_append]
            · omega
            · omega
        · rw [if_pos (by simp [wn]), hA]
          have hin : isName u = false := by
            cases u <;> first
              | rfl
              | exact absurd rfl wn
          walk_at "rd"
          refine ⟨.inl ⟨rfl, _, SqL.of hL6⟩, u, ua, rfl, hu6, fun l7 rs H7 hl7 k7 a7 hrs => ?_⟩
          walk_at "rd"
          refine ⟨_, SqL.of a7, new_ fun l8 H8 hl8 k8 a8 => ⟨_, k8 _ _ (k7 _ _ hL6), _, a8, ?_, ?_⟩⟩
          · have l1 := pr_len hA6
            have l2 := pr_len hrs
            have l3 := le_wt us
            have l4 := le_wt (reading u)
            have l5 := wt_reading u
            rw [List.length_reverse]
            exact szL (by omega)
          · have k78 := k7.trans k8
            have kt9 := (same_kt k78).trans (kt_lst (o := .lst (ys ++ rs.reverse)) (k78 _ _ hL6))
            have l5 := wt_reading u
            have prr : ∀ {H : Hp} {xs : List Td} {zs : List V}, Paired (At3 H) xs zs → Paired (At3 H) xs.reverse zs.reverse := by
              intro H xs zs h
              induction h with
              | nil => exact .nil
              | cons r t ih =>
                rw [List.reverse_cons, List.reverse_cons]
                exact pr_append ih (.cons r .nil)
            refine hN _ _ _ ?_ ⟨_, us ++ (reading u).reverse, fs, bk, b, _, _, rfl, same_mut (e6.trans k78) hl0, upd_same, ?_, ?_, ?_, hbd, ?_, ?_, ?_, ?_, rfl⟩
            · rw [wt_append, wt_append, wt_reverse, wt_one]; simp only [wt1]; omega
            · rw [upd_ne nfl]; exact k78 _ _ hF6
            · rw [upd_ne nbl]; exact k78 _ _ hB6
            · exact pr_append (pr_mono hA6 fun _ _ h => At3.mono kt9 h) (prr (pr_mono hrs fun _ _ h => At3.mono ((same_kt k8).trans (kt_lst (k78 _ _ hL6))) h))
            · rw [List.reverse_append, List.reverse_reverse, wf_reading]; exact hwf
            · rw [List.reverse_append, List.reverse_reverse, rem_reading u hin, ← hdd]; rfl
            · rw [wt_append, wt_reverse]; omega
            · rw [wt_append, wt_reverse]; omega
      | bind x =>
        obtain ⟨p, rfl, hp⟩ := hd6
        refine ⟨_, rfl, _, SqT.of hp, rfl, _, _, rfl, _, _, rfl, rfl, ?_⟩
        rw [hR1]; clear hR1
        refine ifs_ fun A B hA hB => ?_
        walk_at "rd"
        rw [hA]; clear hA hB
        walk_at "rd"
        refine ⟨.inl ⟨_, .inl hB6⟩, _, DGet.k (k := Sum.inr x) hB6, ?_⟩
        rw [hbd.get x]
        walk_at "rd"
        simp only [wt1] at hw1 hw2 lw
        refine ⟨_, DPut.k (k := Sum.inr x) hB6 (szLt (by omega)), ?_⟩
        have kt2 : My.KT H6 (upd H6 bd (.dK (putK bk (Sum.inr x) (.int ((b x : Int) + 1))))) := fun c xs q => by rw [upd_ne (ne_of q hB6 (by intro z; cases z))]; exact q
        have hinc : ((b x : Int) + 1) = ((inc x b x : Nat) : Int) := by simp [inc]
        have hbd2 : Bd (putK bk (Sum.inr x) (.int ((b x : Int) + 1))) (inc x b) := by rw [hinc]; exact hbd.put x fun y hy => by simp [inc, hy]
        refine hN _ _ _ ?_ ⟨ys, us, fs, _, inc x b, _, _, rfl, same_mut e6 hbd0, ?_, ?_, upd_same, pr_mono hA6 fun _ _ h => At3.mono kt2 h, hbd2, hwf, hdd, ?_, ?_, rfl⟩
        · rw [wt_append, wt_one]; simp only [wt1]; omega
        · rw [upd_ne (Ne.symm nbl)]; exact hL6
        · rw [upd_ne nfb]; exact hF6
        · have := length_putK bk (Sum.inr x : Key) (.int ((b x : Int) + 1)); omega
        · omega
      | loose x =>
        obtain ⟨p, rfl, hp⟩ := hd6
        refine ⟨_, rfl, _, SqT.of hp, rfl, _, _, rfl, _, _, rfl, rfl, ?_⟩
        rw [hR1]; clear hR1
        refine ifs_ fun A B hA hB => ?_
        walk_at "rd"
        rw [if_neg (by decide), hB]; clear hA hB
        refine ifs_ fun A B hA hB => ?_
        walk_at "rd"
        rw [hA]; clear hA hB
        walk_at "rd"
        have hb1 : 1 ≤ b x := hwf.1
        refine ⟨_, by rw [← hbd.there hb1]; exact DGet.k (k := Sum.inr x) hB6, ?_⟩
        walk_at "rd"
        simp only [wt1] at hw1 hw2 lw
        refine ⟨_, DPut.k (k := Sum.inr x) hB6 (szLt (by omega)), ?_⟩
        have kt2 : My.KT H6 (upd H6 bd (.dK (putK bk (Sum.inr x) (.int ((b x : Int) - 1))))) := fun c xs q => by rw [upd_ne (ne_of q hB6 (by intro z; cases z))]; exact q
        have hinc : ((b x : Int) - 1) = ((dec x b x : Nat) : Int) := by simp [dec]; omega
        have hbd2 : Bd (putK bk (Sum.inr x) (.int ((b x : Int) - 1))) (dec x b) := by rw [hinc]; exact hbd.put x fun y hy => by simp [dec, hy]
        refine hN _ _ _ ?_ ⟨ys, us, fs, _, dec x b, _, _, rfl, same_mut e6 hbd0, ?_, ?_, upd_same, pr_mono hA6 fun _ _ h => At3.mono kt2 h, hbd2, hwf.2, hdd, ?_, ?_, rfl⟩
        · rw [wt_append, wt_one]; simp only [wt1]; omega
        · rw [upd_ne (Ne.symm nbl)]; exact hL6
        · rw [upd_ne nfb]; exact hF6
        · have := length_putK bk (Sum.inr x : Key) (.int ((b x : Int) - 1)); omega
        · omega
end
end K01

namespace K01
open PySem L2 My
open PyProof.Rows (envOfC)
local macro_rules | `(tactic| walk_at "rd") => `(tactic| simp only [My.ife, My.tFor_eq, My.cx_K, My.cx_w, My.rRdK, My.rNeSelf, rIsi, tAsg, tDrop, tRet, tRetN, tIfS, tVar, tC, tOp, tUn, rI0, rI, rU, rEq, rNe, CDiv, CMul, CPow, My.tTup_eq, My.tLst_eq, My.tDNewK_eq, My.tRevL_eq, My.tRevS, tM1, tM0, My.sz0, My.sz1, My.sz2, My.sz3, My.sz4, My.sz5, My.sz8, tCons, tNil, My.tCallD, tCB, gName, gTup, gCons, gNil, gSub, tTest, tB, tAnd, tOr, tNot, tIf, tAndV, tOrV, tNotV, rSetL, rSlS, rIxL, rIxT, rIxS, My.rSlT_eq, My.rSlL_eq, rIn, rCat, tLc_eq, iList, iTup, iRng1, iRng2, wipe, List.map_cons, List.map_nil, tSl, tPart, tNoPart, tBM, tBM0, rAppend, My.rPopL, rExtend, tNext, tBreak, tCont, My.scal_ii, My.scal_ss, My.scal_bb, My.scal_is, My.scal_si, ipI, rListD, sDPut, tDGet, tDGet2, tAug, List.getElem?_cons_zero, List.getElem?_cons_succ, List.set_cons_zero, List.set_cons_succ, Option.some.injEq, exists_eq_left', exists_eq_left, V.int.injEq, V.ref.injEq, V.str.injEq, V.bl.injEq, exists_and_left, true_and, and_true, List.cons.injEq, exists_const, Bool.false_eq_true, ↓reduceIte, reduceCtorEq, false_and, and_assoc, decide_true, decide_false])
local macro_rules | `(tactic| walk_at "st") => `(tactic| (refine My.seq_ fun R hR => ?_))

def spName : Sp := fun vs H Q _ => ∃ (c : Int), vs = [.int c] ∧ ∀ H', Same H H' → Q (.str (mkS (nameBy 5 c))) H'
abbrev s__law_name_by : Stmt := topS 12
abbrev N__law_name_by : List Str := ["_law_cell", "_law_letters", "_law_others", "_law_turn", "_law_at", "_law_word"]
theorem sc__law_name_by : FnScope N__law_name_by ["_law_cell"] (defScope s__law_name_by) := ⟨rfl, rfl, rfl, by decide +kernel, rfl, by decide +kernel, by decide +kernel⟩
theorem bd__law_name_by : BindAll "_law_name_by" s__law_name_by ["_law_cell"] := fun _ _ _ _ _ _ us hl => match us, hl with | [_], _ => rfl
theorem st__law_name_by (v0 : V) : start N__law_name_by [v0] = [some v0, none, none, none, none, none] := rfl
section
variable {P : Program} {w : World} {K : PySem.W.Frag} {mg : Str → Option Value} {base : Heap} {aS : Addr}
theorem df_name (T : Txt K w mg aS) (F : FunAt K mg "_law_name_by" s__law_name_by) : Df P w K mg base 1 "_law_name_by" ["_law_cell"] spName := by
  refine F.df sc__law_name_by bd__law_name_by (fun vs H Q E h => ?_) (fun f cdv A outer s H vs Q E hr h => ?_)
  · obtain ⟨_, rfl, _⟩ := h; rfl
  obtain ⟨c, rfl, q⟩ := h
  have nd := sc__law_name_by.nd
  refine ⟨_, (pss_cons (ps_set (i := 1) nd rfl (Or.inl rfl) pe_str)
  (pss_cons (ps_set (i := 2) nd rfl (Or.inl rfl) pe_str)
  (pss_cons (ps_for PassesOwn.never rfl (pi_range1 rfl T.range (pa_cons (pe_op op_mod (pe_op op_fdiv (pv 0) pe_int) pe_int) pa_nil)) (pg_name (i := 3) nd rfl (Or.inl rfl))
    (pss_one (ps_set (i := 2) nd rfl (Or.inl rfl) (pe_op op_add_str (pv 2) (pe_ix ix_str (pv 1) (pe_op op_mod (pe_op op_add (pe_op op_fdiv (pv 0) pe_int) (pe_op op_mul pe_int (pv 3))) pe_int) (fun _ _ => rfl))))))
  (pss_cons (ps_set (i := 4) nd rfl (Or.inl rfl) (pe_op op_mod (pe_op op_fdiv (pv 0) pe_int) (pe_op op_add pe_int (pe_callB call_len_str (by rfl) T.len PySem.boot_len (pa_cons (pv 2) pa_nil)))))
  (pss_cons (ps_set (i := 5) nd rfl (Or.inl rfl) (pe_op op_add_str (pe_op op_add_str (pe_slice sl_str (pv 2) po_none (po_some (pv 4))) (pe_ix ix_str (pv 1) (pe_op op_mod (pv 0) pe_int) (fun _ _ => rfl))) (pe_slice sl_str (pv 2) (po_some (pv 4)) po_none)))
  (pss_cons (ps_if (pt_cmpR op_in_seq (pv 5) (pe_tup (pa_cons pe_str (pa_cons pe_str (pa_cons pe_str (pa_cons pe_str (pa_cons pe_str (pa_cons pe_str (pa_cons pe_str (pa_cons pe_str pa_nil))))))))) rfl)
    (pss_one (ps_ret (pe_ix ix_str (pv 1) (pe_op op_mod (pv 0) pe_int) (fun _ _ => rfl))))
    pss_nil)
  (pss_one (ps_ret (pv 5))))))))), ?_⟩
  rw [st__law_name_by]
  refine seq_ fun R hR => ?_
  walk_at "rd"
  rw [hR]; clear hR
  refine seq_ fun R hR => ?_
  walk_at "rd"
  rw [hR]; clear hR
  refine seq_ fun R hR => ?_
  walk_at "rd"
  have h0 : 0 ≤ c / 26 % 8 := Int.emod_nonneg _ (by decide)
  have h1 : c / 26 % 8 < 8 := Int.emod_lt_of_pos _ (by decide)
  refine ⟨by decide, by decide, by decide, by omega, by omega, forR (fun i σ H' => ∃ o3, σ = [some (.int c), some (.str (mkS abc)), some (.str (mkS ((othersOf 5 c).take i))), o3, none, none] ∧ Same H H') ⟨none, by rw [List.take_zero, mkS_nil, abc_eq], Same.refl _⟩ ?_ ?_⟩
  · rintro i σ H1 hi ⟨o3, rfl, e1⟩ N hN
    walk_at "rd"
    have hi' : i < (c / 26 % 8).toNat := hi
    have ho := othersOf_len 5 c
    have hol : (othersOf 5 c).length = (c / 26 % 8).toNat := by simp [othersOf]
    have hoi : (othersOf 5 c).take (i + 1) = (othersOf 5 c).take i ++ [lett (c / 208 + 5 * (i : Int))] := by
      rw [List.take_succ]
      congr 1
      simp only [othersOf, List.getElem?_map, List.getElem?_range hi', Option.map_some, Option.toList_some]
    refine ⟨by decide, by decide, .inl (by decide), by decide, by decide, _, lett_at _, ?_, hN _ _ ⟨some (.int (0 + (i : Int))), ?_, e1⟩⟩
    · rw [one_sign, mkS_len, mkS_len, List.length_take]
      simp only [List.length_cons, List.length_nil]
      exact szL (by omega)
    · rw [one_sign, mkS_app, hoi, Int.zero_add]
  · rintro σ H1 ⟨o3, rfl, e1⟩
    show R _ _
    rw [hR]; clear hR
    have ho := othersOf_len 5 c
    have hol : (othersOf 5 c).length = (c / 26 % 8).toNat := by simp [othersOf]
    rw [← hol, List.take_length]
    refine seq_ fun R hR => ?_
    walk_at "rd"
    rw [mkS_len]
    refine ⟨by decide, by decide, szL (by omega), by omega, ?_⟩
    rw [hR]; clear hR
    refine seq_ fun R hR => ?_
    walk_at "rd"
    have hk0 : 0 ≤ c / 208 % (1 + ((othersOf 5 c).length : Int)) := Int.emod_nonneg _ (by omega)
    have hk1 : c / 208 % (1 + ((othersOf 5 c).length : Int)) < 1 + ((othersOf 5 c).length : Int) := Int.emod_lt_of_pos _ (by omega)
    have hne : nameBy 5 c = wordOf (othersOf 5 c) (c / 208 % (1 + ((othersOf 5 c).length : Int))).toNat (lett c) := by
      unfold nameBy
      rw [Int.add_comm 1]
    obtain ⟨k, hk⟩ : ∃ k : Nat, c / 208 % (1 + ((othersOf 5 c).length : Int)) = (k : Int) := ⟨(c / 208 % (1 + ((othersOf 5 c).length : Int))).toNat, by omega⟩
    rw [hk] at hk0 hk1 hne ⊢
    rw [Int.toNat_natCast] at hne
    have hkl : k ≤ (othersOf 5 c).length := by omega
    have lw := wordOf_len (othersOf 5 c) k (lett c)
    rw [mkS_hi _ _ hkl, mkS_lo _ _ hkl]
    simp only [mkS_len]
    refine ⟨szL (by omega), by decide, by decide, _, lett_at _, ?_, szL (by omega), ?_, ?_⟩
    · rw [one_sign, mkS_len, List.length_take]
      simp only [List.length_cons, List.length_nil]
      exact szL (by omega)
    · rw [one_sign, mkS_app, mkS_len]
      simp only [List.length_append, List.length_take, List.length_cons, List.length_nil, List.length_drop]
      exact szL (by omega)
    rw [one_sign, mkS_app, mkS_app, hR]; clear hR
    refine seq_ fun R hR => ?_
    walk_at "rd"
    refine new_ fun p H2 hp k2 a2 => ⟨_, .inr (SqT.of a2), rfl, rfl, ?_⟩
    rw [in_reserved]
    split
    · rename_i hres
      have hres := of_decide_eq_true hres
      refine ⟨by decide, by decide, _, lett_at _, ?_⟩
      rw [one_sign]
      have e : nameBy 5 c = [lett c] := by rw [hne]; unfold wordOf; rw [if_pos hres]
      rw [← e]
      exact q _ (e1.trans k2)
    · rename_i hres
      rw [hR]; clear hR
      walk_at "rd"
      have e : nameBy 5 c = (othersOf 5 c).take k ++ [lett c] ++ (othersOf 5 c).drop k := by
        rw [hne]; unfold wordOf
        rw [if_neg (fun h => hres (decide_eq_true h))]
      rw [← e]
      exact q _ (e1.trans k2)
end
end K01

namespace K01
open PySem L2 My
open PyProof.Rows (envOfC)
local macro_rules | `(tactic| walk_at "rd") => `(tactic| simp only [My.ife, My.tFor_eq, My.cx_K, My.cx_w, My.rRdK, My.rNeSelf, rIsi, tAsg, tDrop, tRet, tRetN, tIfS, tVar, tC, tOp, tUn, rI0, rI, rU, rEq, rNe, CDiv, CMul, CPow, My.tTup_eq, My.tLst_eq, My.tDNewK_eq, My.tRevL_eq, My.tRevS, tM1, tM0, My.sz0, My.sz1, My.sz2, My.sz3, My.sz4, My.sz5, My.sz8, tCons, tNil, My.tCallD, tCB, gName, gTup, gCons, gNil, gSub, tTest, tB, tAnd, tOr, tNot, tIf, tAndV, tOrV, tNotV, rSetL, rSlS, rIxL, rIxT, rIxS, My.rSlT_eq, My.rSlL_eq, rIn, rCat, tLc_eq, iList, iTup, iRng1, iRng2, wipe, List.map_cons, List.map_nil, tSl, tPart, tNoPart, tBM, tBM0, rAppend, My.rPopL, rExtend, tNext, tBreak, tCont, My.scal_ii, My.scal_ss, My.scal_bb, My.scal_is, My.scal_si, ipI, rListD, sDPut, tDGet, tDGet2, tAug, List.getElem?_cons_zero, List.getElem?_cons_succ, List.set_cons_zero, List.set_cons_succ, Option.some.injEq, exists_eq_left', exists_eq_left, V.int.injEq, V.ref.injEq, V.str.injEq, V.bl.injEq, exists_and_left, true_and, and_true, List.cons.injEq, exists_const, Bool.false_eq_true, ↓reduceIte, reduceCtorEq, false_and, and_assoc, decide_true, decide_false])
local macro_rules | `(tactic| walk_at "st") => `(tactic| (refine My.seq_ fun R hR => ?_))

def kinWord (c : Int) : List Nat := (List.range 8).map fun (k : Nat) => lett (c + 3 * (k : Int))
def kinTurned (c : Int) : List (List Nat) := (List.range 8).map fun k => (kinWord c).drop k ++ (kinWord c).take k
def kinBy (c : Int) (many : Nat) : List (List Nat) :=
  if c / 26 % 2 = 0 ∧ many < 9 then (List.range many).map fun k => (kinWord c).take (k + 1) else (kinTurned c ++ (kinTurned c).map List.reverse).take many
def spKin : Sp := fun vs H Q _ => ∃ (c : Int) (many : Nat), vs = [.int c, .int many] ∧ many ≤ 16 ∧ ∀ (l : Addr) (H' : Hp), H l = none → Same H H' → H' l = some (.lst ((kinBy c many).map fun x => .str (mkS x))) → Q (.ref l) H'
abbrev s__law_kin_by : Stmt := topS 11
abbrev N__law_kin_by : List Str := ["_law_cell", "_law_many", "_law_letters", "_law_word", "_law_turned", "_law_k", "_law_one"]
theorem sc__law_kin_by : FnScope N__law_kin_by ["_law_cell", "_law_many"] (defScope s__law_kin_by) := ⟨rfl, rfl, rfl, by decide +kernel, rfl, by decide +kernel, by decide +kernel⟩
theorem bd__law_kin_by : BindAll "_law_kin_by" s__law_kin_by ["_law_cell", "_law_many"] := fun _ _ _ _ _ _ us hl => match us, hl with | [_, _], _ => rfl
theorem st__law_kin_by (v0 v1 : V) : start N__law_kin_by [v0, v1] = [some v0, some v1, none, none, none, none, none] := rfl
section
variable {P : Program} {w : World} {K : PySem.W.Frag} {mg : Str → Option Value} {base : Heap} {aS : Addr}
theorem df_kin (T : Txt K w mg aS) (F : FunAt K mg "_law_kin_by" s__law_kin_by) : Df P w K mg base 1 "_law_kin_by" ["_law_cell", "_law_many"] spKin := by
  refine F.df sc__law_kin_by bd__law_kin_by (fun vs H Q E h => ?_) (fun f cdv A outer s H vs Q E hr h => ?_)
  · obtain ⟨_, _, rfl, _⟩ := h; rfl
  obtain ⟨c, many, rfl, hm, q⟩ := h
  have nd := sc__law_kin_by.nd
  refine ⟨_, (pss_cons (ps_set (i := 2) nd rfl (Or.inr rfl) pe_str)
  (pss_cons (ps_set (i := 3) nd rfl (Or.inr rfl) (pe_join pe_str (pe_lc (own := [("_law_k", 5)]) (g := gName 5) rfl nd (pi_range1 rfl T.range (pa_cons pe_int pa_nil)) (blkOk_by (N := N__law_kin_by) (sc := defScope s__law_kin_by) (by decide +kernel)) (fun _ _ _ _ _ => (pg_name (i := 5) nd rfl (Or.inl rfl))) (fun _ _ _ _ _ => pts_nil) (fun _ _ _ _ _ => (pe_ix ix_str (pv 2) (pe_op op_mod (pe_op op_add (pv 0) (pe_op op_mul pe_int (pv 5))) pe_int) (fun _ _ => rfl))))))
  (pss_cons (ps_if (PW.pt (pw_and (pt_cmpR op_eq (pe_op op_mod (pe_op op_fdiv (pv 0) pe_int) pe_int) pe_int (nomark _)) (pw_and1 (pt_cmpR op_lt (pv 1) pe_int (nomark _)))))
    (pss_one (ps_ret (pe_lc (own := [("_law_k", 5)]) (g := gName 5) rfl nd (pi_range1 rfl T.range (pa_cons (pv 1) pa_nil)) (blkOk_by (N := N__law_kin_by) (sc := defScope s__law_kin_by) (by decide +kernel)) (fun _ _ _ _ _ => (pg_name (i := 5) nd rfl (Or.inl rfl))) (fun _ _ _ _ _ => pts_nil) (fun _ _ _ _ _ => (pe_slice sl_str (pv 3) po_none (po_some (pe_op op_add (pv 5) pe_int)))))))
    pss_nil)
  (pss_cons (ps_setLc (i := 4) (own := [("_law_k", 5)]) (g := gName 5) rfl nd rfl rfl (sw_true rfl rfl rfl (by decide +kernel)) (pi_range1 rfl T.range (pa_cons pe_int pa_nil)) (blkOk_by (N := N__law_kin_by) (sc := defScope s__law_kin_by) (by decide +kernel)) (fun _ _ _ _ _ => (pg_name (i := 5) nd rfl (Or.inl rfl))) (fun _ _ _ _ _ => pts_nil) (fun _ _ _ _ _ => (pe_op op_add_str (pe_slice sl_str (pv 3) (po_some (pv 5)) po_none) (pe_slice sl_str (pv 3) po_none (po_some (pv 5))))))
  (pss_one (ps_ret (pe_slice sl_list (pe_op op_cat (pv 4) (pe_lc (own := [("_law_one", 6)]) (g := gName 6) rfl nd (pi_list (pv 4)) (blkOk_by (N := N__law_kin_by) (sc := defScope s__law_kin_by) (by decide +kernel)) (fun _ _ _ _ _ => (pg_name (i := 6) nd rfl (Or.inl rfl))) (fun _ _ _ _ _ => pts_nil) (fun _ _ _ _ _ => (pe_revS (pv 6))))) po_none (po_some (pv 1))))))))), ?_⟩
  rw [st__law_kin_by]
  refine seq_ fun R hR => ?_
  walk_at "rd"
  rw [hR]; clear hR
  refine seq_ fun R hR => ?_
  walk_at "rd"
  have wlen : (kinWord c).length = 8 := by simp [kinWord]
  refine ⟨⟨_, rfl⟩, by decide, by decide, lcR (fun i acc _ => acc = ((kinWord c).take i).map fun z => .str (mkS [z])) (fun _ _ _ _ _ h => h) (by decide) (fun _ => rfl) rfl ?_ ?_⟩
  · intro i acc H1 hi hl e1 p Qy hy Qn hn
    walk_at "rd"
    rw [abc_eq, Int.zero_add]
    refine ⟨.inl (by decide), by decide, by decide, _, lett_at _, hy _ _ (Same.refl _) ?_⟩
    show _ = ((kinWord c).take (i + 1)).map fun z => V.str (mkS [z])
    rw [p, one_sign, List.take_succ]
    have hi' : i < 8 := hi
    simp only [kinWord, List.getElem?_map, List.getElem?_range hi', Option.map_some, Option.toList_some, List.map_append, List.map_cons, List.map_nil]
  intro D ys H1 hD e1 hD1 p
  rw [show (8 : Int).toNat = (kinWord c).length from wlen.symm, List.take_length] at p
  refine ⟨D, rfl, (kinWord c).map (fun z => mkS [z]), .inl ?_, ?_, ?_⟩
  · rw [List.map_map]
    refine SqL.of ?_
    rw [hD1, p]
    rfl
  · rw [List.map_map]
    simp only [Function.comp_def, mkS_len, wlen, List.length_map, List.length_cons, List.length_nil]
    rw [List.map_const', wlen, show (Str.ofString "").length = 0 by decide +kernel]
    decide
  rw [join_signs, hR]; clear hR
  refine ifq_ fun R A B hR hA hB => ?_
  walk_at "rd"
  have hBok : ¬ (c / 26 % 2 = 0 ∧ (many : Int) < 9) → B H1 := by
    intro hno
    rw [hB]
    walk_at "rd"
    rw [hR]; clear hR
    have hkb : kinBy c many = (kinTurned c ++ (kinTurned c).map List.reverse).take many := by
      unfold kinBy
      rw [if_neg (fun h => hno ⟨h.1, by omega⟩)]
    have tlen : (kinTurned c).length = 8 := by simp [kinTurned]
    have tl8 : ∀ x ∈ kinTurned c, x.length = 8 := by
      intro x hx
      obtain ⟨k, hk, rfl⟩ := List.mem_map.mp hx
      rw [List.length_append, List.length_drop, List.length_take, wlen]
      have := List.mem_range.mp hk
      omega
    refine seq_ fun R hR => ?_
    walk_at "rd"
    refine ⟨by decide, by decide, lcR (fun i acc _ => acc = ((kinTurned c).take i).map fun z => .str (mkS z)) (fun _ _ _ _ _ h => h) (by decide) (fun _ => rfl) rfl ?_ ?_⟩
    · intro i acc H2 hi hl e2 p Qy hy Qn hn
      walk_at "rd"
      have hi' : i < 8 := hi
      rw [Int.zero_add, mkS_lo _ _ (by omega), mkS_hi _ _ (by omega), mkS_len, mkS_len, mkS_len, mkS_app]
      refine ⟨szL (by omega), szL (by omega), szL (by rw [List.length_drop, List.length_take]; omega), hy _ _ (Same.refl _) ?_⟩
      show _ = ((kinTurned c).take (i + 1)).map fun z => V.str (mkS z)
      rw [p, List.take_succ]
      simp only [kinTurned, List.getElem?_map, List.getElem?_range hi', Option.map_some, Option.toList_some, List.map_append, List.map_cons, List.map_nil]
    intro D2 ys2 H2 hD2 e2 hL2 p2
    rw [show (8 : Int).toNat = (kinTurned c).length from tlen.symm, List.take_length] at p2
    rw [hR]; clear hR
    walk_at "rd"
    refine ⟨⟨_, SqL.of hL2⟩, lcL (fun i acc _ => acc = (((kinTurned c).map List.reverse).take i).map fun z => .str (mkS z)) (fun _ _ _ _ _ h => h) (SqL.of hL2) (by rw [p2, List.length_map, tlen]; decide) (fun _ => rfl) rfl ?_ ?_⟩
    · intro i x acc H3 hi hl e3 p Qy hy Qn hn
      rw [p2] at hi
      obtain ⟨hi', rfl⟩ := map_at hi
      walk_at "rd"
      rw [mkS_len, mkS_cps]
      refine ⟨szL (by rw [tl8 _ (List.getElem_mem _)]; decide), hy _ _ (Same.refl _) ?_⟩
      show _ = (((kinTurned c).map List.reverse).take (i + 1)).map fun z => V.str (mkS z)
      rw [p, List.take_succ, List.getElem?_map, List.getElem?_eq_getElem hi']
      simp
    intro D3 ys3 H3 hD3 e3 hL3 p3
    rw [p2, List.length_map, show (kinTurned c).length = ((kinTurned c).map List.reverse).length by simp, List.take_length] at p3
    have hL2' := e3 _ _ hL2
    have yl : ys2.length = 8 := by rw [p2, List.length_map, tlen]
    have yl3 : ys3.length = 8 := by rw [p3, List.length_map, List.length_map, tlen]
    refine ⟨_, rfl, _, hL2', _, hL3, szL (by omega), fun p4 hp4 => ⟨_, SqL.of upd_same, new_ fun p5 H5 hp5 k5 a5 => ?_⟩⟩
    have k4 := same_new (o := .lst (ys2 ++ ys3)) hp4
    refine q p5 H5 (e1.free (e2.free (e3.free (k4.free hp5)))) (e1.trans (e2.trans (e3.trans (k4.trans k5)))) ?_
    rw [a5, cut_hi, p2, p3, ← List.map_append, ← List.map_take, hkb]
  have hAok : c / 26 % 2 = 0 ∧ (many : Int) < 9 → A H1 := by
    intro ⟨h1, h2⟩
    rw [hA]
    walk_at "rd"
    have hkb : kinBy c many = (List.range many).map fun k => (kinWord c).take (k + 1) := by
      unfold kinBy
      rw [if_pos ⟨h1, by omega⟩]
    refine ⟨by omega, by omega, lcR (fun i acc _ => acc = (List.range i).map fun k => .str (mkS ((kinWord c).take (k + 1)))) (fun _ _ _ _ _ h => h) (by omega) (fun _ => rfl) rfl ?_ ?_⟩
    · intro i acc H2 hi hl e2 p Qy hy Qn hn
      walk_at "rd"
      have hi' : i < many := by simpa using hi
      rw [Int.zero_add, show (i : Int) + 1 = ((i + 1 : Nat) : Int) from rfl, mkS_hi _ _ (by omega), mkS_len]
      refine ⟨szL (by omega), hy _ _ (Same.refl _) ?_⟩
      show _ = (List.range (i + 1)).map fun k => V.str (mkS ((kinWord c).take (k + 1)))
      rw [p, List.range_succ, List.map_append]
      rfl
    · intro D2 ys2 H2 hD2 e2 hL2 p2
      refine q D2 H2 (e1.free hD2) (e1.trans e2) ?_
      rw [hL2, p2, hkb, List.map_map, Int.toNat_natCast]
      rfl
  refine ⟨by decide, by decide, by decide, ?_⟩
  split
  · split
    · exact hAok ⟨by assumption, by assumption⟩
    · exact hBok fun h => absurd h.2 (by assumption)
  · exact hBok fun h => absurd h.1 (by assumption)
end
end K01

namespace K01
open PySem L2 My
/-! ### the mathematics of the law -/
def pre (b : Str → Nat) : Tr → List (Option Str)
  | .num _ => [none]
  | .name y => [if b y = 0 then some y else none]
  | .fn x t => none :: pre (inc x b) t
  | .call f a => none :: (pre b f ++ pre b a)
  | .plus f a => none :: (pre b f ++ pre b a)
  | .less f a => none :: (pre b f ++ pre b a)
  | .ite c f a => none :: (pre b c ++ (pre b f ++ pre b a))
  | .lt x e t => none :: (pre b e ++ pre (inc x b) t)
theorem frees_pre : ∀ (t : Tr) (b : Str → Nat), frees b t = (pre b t).filterMap id
  | .num _, _ => rfl
  | .name y, b => by by_cases h : b y = 0 <;> simp [frees, pre, h]
  | .fn x t, b => by simp [frees, pre, frees_pre t]
  | .call f a, b => by simp [frees, pre, frees_pre f, frees_pre a]
  | .plus f a, b => by simp [frees, pre, frees_pre f, frees_pre a]
  | .less f a, b => by simp [frees, pre, frees_pre f, frees_pre a]
  | .ite c f a, b => by simp [frees, pre, frees_pre c, frees_pre f, frees_pre a]
  | .lt x e t, b => by simp [frees, pre, frees_pre e, frees_pre t]
theorem inc_flag (x y : Str) (b : Str → Nat) : decide (inc y b x ≠ 0) = (decide (b x ≠ 0) || y == x) := by
  unfold inc
  by_cases h : x = y
  · subst h; simp
  · have : ¬ y = x := fun e => h e.symm
    simp [h, this]
theorem occ_pre (x : Str) : ∀ (t : Tr) (b : Str → Nat), occ x (decide (b x ≠ 0)) t = (pre b t).map fun o => decide (o = some x)
  | .num _, _ => by simp [occ, pre]
  | .name y, b => by
    by_cases h : b y = 0 <;> by_cases hy : y = x
    · subst hy; simp [occ, pre, h]
    · simp [occ, pre, h, hy]
    · subst hy; simp [occ, pre, h]
    · simp [occ, pre, h, hy]
  | .fn y t, b => by simp only [occ, pre, List.map_cons, ← inc_flag, occ_pre x t]; simp
  | .call f a, b => by simp only [occ, pre, List.map_cons, List.map_append, occ_pre x f, occ_pre x a]; simp
  | .plus f a, b => by simp only [occ, pre, List.map_cons, List.map_append, occ_pre x f, occ_pre x a]; simp
  | .less f a, b => by simp only [occ, pre, List.map_cons, List.map_append, occ_pre x f, occ_pre x a]; simp
  | .ite c f a, b => by simp only [occ, pre, List.map_cons, List.map_append, occ_pre x c, occ_pre x f, occ_pre x a]; simp
  | .lt y e t, b => by simp only [occ, pre, List.map_cons, List.map_append, ← inc_flag, occ_pre x e, occ_pre x t]; simp
/-- where a free name stands first -/
def wh (P : List (Option Str)) (x : Str) : Int := firstT (P.map fun o => decide (o = some x)) 0
theorem whereT_pre (x : Str) (t : Tr) : whereT x t = wh (pre (fun _ => 0) t) x := by
  unfold whereT wh
  rw [← occ_pre]
  rfl
theorem firstT_at : ∀ (A B : List Bool) (k : Int), (∀ a ∈ A, a = false) → firstT (A ++ true :: B) k = k + A.length
  | [], _, k, _ => by simp [firstT]
  | a :: A, B, k, h => by
    have e : a = false := h a (List.mem_cons_self)
    subst e
    show firstT (A ++ true :: B) (k + 1) = _
    rw [firstT_at A B (k + 1) fun a ha => h a (List.mem_cons_of_mem _ ha), List.length_cons]
    omega
theorem firstT_none : ∀ (A : List Bool) (k : Int), (∀ a ∈ A, a = false) → firstT A k = -1
  | [], _, _ => rfl
  | a :: A, k, h => by
    have e : a = false := h a (List.mem_cons_self)
    subst e
    exact firstT_none A (k + 1) fun a ha => h a (List.mem_cons_of_mem _ ha)
theorem wh_at {A B : List (Option Str)} {x : Str} (h : some x ∉ A) : wh (A ++ some x :: B) x = A.length := by
  unfold wh
  rw [List.map_append, List.map_cons, decide_eq_true rfl, firstT_at _ _ _ (fun a ha => ?_), List.length_map]
  · omega
  · obtain ⟨o, ho, rfl⟩ := List.mem_map.mp ha
    exact decide_eq_false fun e => h (e ▸ ho)
theorem wh_none {P : List (Option Str)} {x : Str} (h : some x ∉ P) : wh P x = -1 := by
  unfold wh
  refine firstT_none _ _ fun a ha => ?_
  obtain ⟨o, ho, rfl⟩ := List.mem_map.mp ha
  exact decide_eq_false fun e => h (e ▸ ho)
theorem wh_mem {P : List (Option Str)} {x : Str} (h : some x ∈ P) : ∃ A B, P = A ++ some x :: B ∧ some x ∉ A ∧ wh P x = A.length := by
  obtain ⟨A, B, e, hA⟩ := List.eq_append_cons_of_mem h
  exact ⟨A, B, e, hA, by rw [e]; exact wh_at hA⟩
theorem wh_inj {P : List (Option Str)} {x y : Str} (hx : some x ∈ P) (hy : some y ∈ P) (h : wh P x = wh P y) : x = y := by
  obtain ⟨A, B, e, _, h1⟩ := wh_mem hx
  obtain ⟨A', B', e', _, h2⟩ := wh_mem hy
  have hl : A.length = A'.length := by omega
  rw [e] at e'
  obtain ⟨_, e2⟩ := List.append_inj e' hl
  have := (List.cons.inj e2).1
  exact Option.some.inj this
/-- each once, by where it stands first -/
structure DdOk (P A : List (Option Str)) (fs : List Str) : Prop where
  mem : ∀ x, x ∈ fs ↔ some x ∈ A
  pw : fs.Pairwise fun x y => wh P x < wh P y
theorem dd_ok (P : List (Option Str)) : ∀ (B A : List (Option Str)) (fs : List Str), P = A ++ B → DdOk P A fs → DdOk P P (dd fs (B.filterMap id))
  | [], A, fs, e, h => by
    have e2 : P = A := by rw [e, List.append_nil]
    show DdOk P P fs
    rw [← e2] at h
    exact h
  | none :: B, A, fs, e, h => by
    refine dd_ok P B (A ++ [none]) fs (by rw [e]; simp) ⟨fun x => ?_, h.pw⟩
    rw [h.mem x]; simp
  | some x :: B, A, fs, e, h => by
    show DdOk P P (dd (if x ∈ fs then fs else fs ++ [x]) (B.filterMap id))
    refine dd_ok P B (A ++ [some x]) _ (by rw [e]; simp) ?_
    by_cases hx : x ∈ fs
    · rw [if_pos hx]
      refine ⟨fun y => ?_, h.pw⟩
      rw [h.mem y]
      constructor
      · intro hy; simp [hy]
      · intro hy
        rcases List.mem_append.mp hy with hy | hy
        · exact hy
        · have : y = x := Option.some.inj (List.mem_singleton.mp hy)
          subst this
          exact (h.mem y).mp hx
    · rw [if_neg hx]
      refine ⟨fun y => ?_, ?_⟩
      · rw [List.mem_append, h.mem y, List.mem_append, List.mem_singleton, List.mem_singleton]
        simp
      · rw [List.pairwise_append]
        refine ⟨h.pw, by simp, fun y hy z hz => ?_⟩
        have hz : z = x := List.mem_singleton.mp hz
        subst hz
        have h1 : wh P z = A.length := by rw [e]; exact wh_at fun q => hx ((h.mem z).mpr q)
        obtain ⟨A1, B1, e1, h2, h3⟩ := wh_mem ((h.mem y).mp hy)
        have h4 : wh P y = A1.length := by
          rw [e, e1, List.append_assoc]
          exact wh_at h2
        have : A1.length < A.length := by rw [e1]; simp
        omega
theorem freeNames_ok (t : Tr) : DdOk (pre (fun _ => 0) t) (pre (fun _ => 0) t) (freeNames t) := by
  unfold freeNames
  rw [frees_pre]
  exact dd_ok _ _ [] [] rfl ⟨fun x => by simp, .nil⟩
/-- what the law asks: the rows of the names, sorted by where, without those that stand nowhere -/
theorem due_eq {t : Tr} {names : List Str} (hn : names.Nodup) (hm : ∀ x, some x ∈ pre (fun _ => 0) t → x ∈ names) {cs : List (Int × Str)} (hp : cs.Perm (names.map fun x => (whereT x t, x))) (hs : cs.Pairwise fun b c => b.1 ≤ c.1) :
    (cs.filter fun c => decide (0 ≤ c.1)).map (·.2) = freeNames t := by
  generalize hP : pre (fun _ => 0) t = P at hm
  have F := freeNames_ok t
  rw [hP] at F
  have hw : ∀ x, whereT x t = wh P x := fun x => by rw [whereT_pre, hP]
  have hrow : ∀ c ∈ cs, c.1 = wh P c.2 ∧ c.2 ∈ names := by
    intro c hc
    obtain ⟨x, hx, rfl⟩ := List.mem_map.mp ((hp.mem_iff).mp hc)
    exact ⟨hw x, hx⟩
  have hpos : ∀ x, 0 ≤ wh P x ↔ some x ∈ P := by
    intro x
    by_cases h : some x ∈ P
    · obtain ⟨A, B, _, _, h1⟩ := wh_mem h
      simp only [h, iff_true]
      omega
    · rw [wh_none h]
      simp [h]
  have hnd : (cs.map (·.2)).Nodup := by
    have h1 : (cs.map (·.2)).Perm names := by
      have := hp.map (·.2)
      rw [List.map_map] at this
      simpa [Function.comp_def] using this
    exact h1.nodup_iff.mpr hn
  have hlist : ((cs.filter fun c => decide (0 ≤ c.1)).map (·.2)).Pairwise fun x y => wh P x < wh P y := by
    rw [List.pairwise_map]
    have h2 : (cs.filter fun c => decide (0 ≤ c.1)).Pairwise fun b c => b.1 ≤ c.1 ∧ b.2 ≠ c.2 := by
      refine List.Pairwise.filter _ ?_
      rw [List.Nodup, List.pairwise_map] at hnd
      exact hs.and hnd
    refine List.Pairwise.imp_of_mem ?_ h2
    rintro b c hb hc ⟨h3, h4⟩
    obtain ⟨hb1, hb2⟩ := List.mem_filter.mp hb
    obtain ⟨hc1, hc2⟩ := List.mem_filter.mp hc
    have e1 := (hrow b hb1).1
    have e2 := (hrow c hc1).1
    have p1 : some b.2 ∈ P := (hpos b.2).mp (by rw [← e1]; exact of_decide_eq_true hb2)
    have p2 : some c.2 ∈ P := (hpos c.2).mp (by rw [← e2]; exact of_decide_eq_true hc2)
    have : wh P b.2 ≠ wh P c.2 := fun e => h4 (wh_inj p1 p2 e)
    omega
  refine List.Perm.eq_of_pairwise (le := fun x y => wh P x < wh P y) (fun a b _ _ h1 h2 => by omega) hlist F.pw ?_
  have nd1 : ((cs.filter fun c => decide (0 ≤ c.1)).map (·.2)).Nodup := hlist.imp fun h e => by subst e; omega
  have nd2 : (freeNames t).Nodup := F.pw.imp fun h e => by subst e; omega
  rw [List.perm_ext_iff_of_nodup nd1 nd2]
  intro x
  rw [F.mem x]
  constructor
  · intro h
    obtain ⟨c, hc, rfl⟩ := List.mem_map.mp h
    obtain ⟨hc1, hc2⟩ := List.mem_filter.mp hc
    exact (hpos c.2).mp (by rw [← (hrow c hc1).1]; exact of_decide_eq_true hc2)
  · intro h
    have : (whereT x t, x) ∈ cs := hp.mem_iff.mpr (List.mem_map.mpr ⟨x, hm x h, rfl⟩)
    refine List.mem_map.mpr ⟨_, List.mem_filter.mpr ⟨this, decide_eq_true ?_⟩, rfl⟩
    show 0 ≤ whereT x t
    rw [hw]
    exact (hpos x).mpr h
theorem pre_all {S : Str → Prop} {N : Int → Prop} : ∀ {t : Tr} (b : Str → Nat), t.all S N → ∀ x, some x ∈ pre b t → S x
  | .num _, _, _, x, h => by simp [pre] at h
  | .name y, b, ha, x, h => by
    by_cases hb : b y = 0
    · simp [pre, hb] at h; subst h; exact ha
    · simp [pre, hb] at h
  | .fn y t, b, ha, x, h => by simp only [pre, List.mem_cons, reduceCtorEq, false_or] at h; exact pre_all _ ha.2 x h
  | .call f a, b, ha, x, h => by
    simp only [pre, List.mem_cons, List.mem_append, reduceCtorEq, false_or] at h
    rcases h with h | h
    · exact pre_all _ ha.1 x h
    · exact pre_all _ ha.2 x h
  | .plus f a, b, ha, x, h => by
    simp only [pre, List.mem_cons, List.mem_append, reduceCtorEq, false_or] at h
    rcases h with h | h
    · exact pre_all _ ha.1 x h
    · exact pre_all _ ha.2 x h
  | .less f a, b, ha, x, h => by
    simp only [pre, List.mem_cons, List.mem_append, reduceCtorEq, false_or] at h
    rcases h with h | h
    · exact pre_all _ ha.1 x h
    · exact pre_all _ ha.2 x h
  | .ite c f a, b, ha, x, h => by
    simp only [pre, List.mem_cons, List.mem_append, reduceCtorEq, false_or] at h
    rcases h with h | h | h
    · exact pre_all _ ha.1 x h
    · exact pre_all _ ha.2.1 x h
    · exact pre_all _ ha.2.2 x h
  | .lt y e t, b, ha, x, h => by
    simp only [pre, List.mem_cons, List.mem_append, reduceCtorEq, false_or] at h
    rcases h with h | h
    · exact pre_all _ ha.2.1 x h
    · exact pre_all _ ha.2.2 x h
/-! ### the names stand apart -/
def cellK (first : Int) (k : Nat) : Int := first - first % 26 + (first + 7 * (k : Int)) % 26
theorem cellK_26 (first : Int) (k : Nat) : cellK first k / 26 = first / 26 ∧ cellK first k / 208 = first / 208 ∧ cellK first k % 26 = (first + 7 * (k : Int)) % 26 := by
  unfold cellK
  omega
theorem nameBy_k (m first : Int) (k : Nat) : nameBy m (cellK first k) = wordOf (othersOf m first) (first / 208 % ((othersOf m first).length + 1 : Int)).toNat (lett (cellK first k)) := by
  obtain ⟨h1, h2, h3⟩ := cellK_26 first k
  have e : othersOf m (cellK first k) = othersOf m first := by unfold othersOf; rw [h1, h2]
  unfold nameBy
  rw [e, h2]
theorem names1_nodup (m first : Int) {many : Nat} (hm : many ≤ 26) : ((List.range many).map fun k => mkS (nameBy m (cellK first k))).Nodup := by
  rw [List.Nodup, List.pairwise_map]
  refine List.Pairwise.imp_of_mem ?_ List.pairwise_lt_range
  intro i j hi hj hij e
  have hi := List.mem_range.mp hi
  have hj := List.mem_range.mp hj
  have e1 := mkS_inj e
  rw [nameBy_k, nameBy_k] at e1
  have e2 := wordOf_inj e1
  have h3 := (cellK_26 first i).2.2
  have h4 := (cellK_26 first j).2.2
  unfold lett at e2
  rw [h3, h4] at e2
  have := Int.emod_nonneg (first + 7 * (i : Int)) (by decide : (26 : Int) ≠ 0)
  have := Int.emod_nonneg (first + 7 * (j : Int)) (by decide : (26 : Int) ≠ 0)
  omega
theorem kinWord_mod (c : Int) : kinWord c = kinWord (((c % 26).toNat : Nat) : Int) := by
  unfold kinWord
  refine List.map_congr_left fun k _ => ?_
  unfold lett
  have : (c + 3 * (k : Int)) % 26 = ((((c % 26).toNat : Nat) : Int) + 3 * (k : Int)) % 26 := by omega
  rw [this]
theorem kinA : ∀ r : Nat, r < 26 → ((List.range 4).map fun k => (kinWord (r : Int)).take (k + 1)).Nodup := by decide +kernel
theorem kinB : ∀ r : Nat, r < 26 → (kinTurned (r : Int) ++ (kinTurned (r : Int)).map List.reverse).Nodup := by decide +kernel
theorem kinBy_nodup (c : Int) {many : Nat} (hm : many = 4 ∨ many = 12) : (kinBy c many).Nodup := by
  have h0 : 0 ≤ c % 26 := Int.emod_nonneg _ (by decide)
  have h1 : c % 26 < 26 := Int.emod_lt_of_pos _ (by decide)
  have ht : kinTurned c = kinTurned (((c % 26).toNat : Nat) : Int) := by unfold kinTurned; rw [kinWord_mod c]
  unfold kinBy
  split
  · rename_i h
    rcases hm with rfl | rfl
    · rw [kinWord_mod c]
      exact kinA _ (by omega)
    · omega
  · rw [ht]
    exact (kinB _ (by omega)).sublist (List.take_sublist _ _)
theorem kinBy_len (c : Int) {many : Nat} (hm : many ≤ 16) : (kinBy c many).length = many := by
  unfold kinBy
  split
  · simp
  · rw [List.length_take, List.length_append, List.length_map]
    simp [kinTurned]
    omega
theorem map_mkS_nodup {l : List (List Nat)} (h : l.Nodup) : (l.map mkS).Nodup := by
  rw [List.Nodup, List.pairwise_map]
  exact h.imp fun hne e => hne (mkS_inj e)
end K01

namespace K01
open PySem L2 My
open PyProof.Rows (envOfC)
local macro_rules | `(tactic| walk_at "rd") => `(tactic| simp only [My.ife, My.tFor_eq, My.cx_K, My.cx_w, My.rRdK, My.rNeSelf, rIsi, tAsg, tDrop, tRet, tRetN, tIfS, tVar, tC, tOp, tUn, rI0, rI, rU, rEq, rNe, CDiv, CMul, CPow, My.tTup_eq, My.tLst_eq, My.tDNewK_eq, My.tRevL_eq, My.tRevS, tM1, tM0, My.sz0, My.sz1, My.sz2, My.sz3, My.sz4, My.sz5, My.sz8, tCons, tNil, My.tCallD, tCB, gName, gTup, gCons, gNil, gSub, tTest, tB, tAnd, tOr, tNot, tIf, tAndV, tOrV, tNotV, rSetL, rSlS, rIxL, rIxT, rIxS, My.rSlT_eq, My.rSlL_eq, rIn, rCat, tLc_eq, iList, iTup, iRng1, iRng2, wipe, List.map_cons, List.map_nil, tSl, tPart, tNoPart, tBM, tBM0, rAppend, My.rPopL, rExtend, tNext, tBreak, tCont, My.scal_ii, My.scal_ss, My.scal_bb, My.scal_is, My.scal_si, ipI, rListD, sDPut, tDGet, tDGet2, tAug, List.getElem?_cons_zero, List.getElem?_cons_succ, List.set_cons_zero, List.set_cons_succ, Option.some.injEq, exists_eq_left', exists_eq_left, V.int.injEq, V.ref.injEq, V.str.injEq, V.bl.injEq, exists_and_left, true_and, and_true, List.cons.injEq, exists_const, Bool.false_eq_true, ↓reduceIte, reduceCtorEq, false_and, and_assoc, decide_true, decide_false])
local macro_rules | `(tactic| walk_at "st") => `(tactic| (refine My.seq_ fun R hR => ?_))

def spLaw (K : PySem.W.Frag) : Sp := fun vs H Q _ => ∃ (a : Addr) (ns : List Int), vs = [.ref a] ∧ SqL K H a (ns.map V.int) ∧ ns.length ≤ 63 ∧ ∀ H', Q (.bl true) H'
abbrev s_law : Stmt := topS 18
abbrev N_law : List Str := ["_law_script", "_law_first", "_law_many", "_law_names", "_law_tree", "_law_k", "_law_rows", "_law_due", "_law_found", "_law_size", "_law_count", "_law_name", "_law_row"]
theorem sc_law : FnScope N_law ["_law_script"] (defScope s_law) := ⟨rfl, rfl, rfl, by decide +kernel, rfl, by decide +kernel, by decide +kernel⟩
theorem bd_law : BindAll "law" s_law ["_law_script"] := fun _ _ _ _ _ _ us hl => match us, hl with | [_], _ => rfl
theorem st_law (v0 : V) : start N_law [v0] = [some v0, none, none, none, none, none, none, none, none, none, none, none, none] := rfl
section
variable {P : Program} {w : World} {K : PySem.W.Frag} {mg : Str → Option Value} {base : Heap} {aS : Addr}
theorem df_law {fa : Addr} {fd : FuncData} (T : Txt K w mg aS) (F : Fun K "law" "law" s_law fa fd) (D__law_cell_at : Df P w K mg base 1 "_law_cell_at" ["_law_script", "_law_k"] (spCell K))
    (D__law_name_by : Df P w K mg base 1 "_law_name_by" ["_law_cell"] spName) (D__law_kin_by : Df P w K mg base 1 "_law_kin_by" ["_law_cell", "_law_many"] spKin)
    (D__law_tree_by : Df P w K mg base 2 "_law_tree_by" ["_law_cells", "_law_names"] (spTree K)) (D__law_where : Df P w K mg base 2 "_law_where" ["_law_tree", "_law_name"] spWhere)
    (D_free : Df P w K mg base 3 "free" ["tree"] spFree) (D_nodes : Df P w K mg base 2 "nodes" ["tree"] spNodes) (D__law_parts_right : Df P w K mg base 2 "_law_parts_right" ["_law_tree"] spNodes) : FnOk P w K mg base CX0 4 fa fd ["_law_script"] (spLaw K) := by
  refine F.ok sc_law (fun vs H Q E h => ?_) (fun cdv A outer s H vs Q E hr h => ?_)
  · obtain ⟨_, _, rfl, _⟩ := h; rfl
  obtain ⟨a, ns, rfl, ha, hns, q⟩ := h
  have nd := sc_law.nd
  have nl : (ns.map V.int).length = ns.length := List.length_map _
  refine ⟨_, (pss_cons (ps_set (i := 1) nd rfl (Or.inr rfl) (pe_callD D__law_cell_at hr (by decide) rfl (pa_cons (pv 0) (pa_cons pe_int pa_nil))))
  (pss_cons (ps_set (i := 2) nd rfl (Or.inl rfl) (pe_ix ix_list (pe_lst (pa_cons pe_int (pa_cons pe_int pa_nil))) (pe_op op_mod (pe_op op_fdiv (pv 1) pe_int) pe_int) (fun _ _ => rfl)))
  (pss_cons (ps_setLc (i := 3) (own := [("_law_k", 5)]) (g := gName 5) rfl nd rfl rfl (sw_true rfl rfl rfl (by decide +kernel)) (pi_range1 rfl T.range (pa_cons (pv 2) pa_nil)) (blkOk_by (N := N_law) (sc := defScope s_law) (by decide +kernel)) (fun _ _ _ _ _ => (pg_name (i := 5) nd rfl (Or.inl rfl))) (fun _ _ _ _ _ => pts_nil) (fun _ _ _ _ _ => (pe_callD D__law_name_by hr (by decide) rfl (pa_cons (pe_op op_add (pe_op op_sub (pv 1) (pe_op op_mod (pv 1) pe_int)) (pe_op op_mod (pe_op op_add (pv 1) (pe_op op_mul pe_int (pv 5))) pe_int)) pa_nil))))
  (pss_cons (ps_if (pt_cmpR op_eq (pe_op op_mod (pe_op op_fdiv (pv 1) pe_int) pe_int) pe_int (nomark _))
    (pss_one (ps_set (i := 3) nd rfl (Or.inl rfl) (pe_callD D__law_kin_by hr (by decide) rfl (pa_cons (pe_op op_fdiv (pv 1) pe_int) (pa_cons (pe_callB call_len_seq (by rfl) T.len PySem.boot_len (pa_cons (pv 3) pa_nil)) pa_nil)))))
    pss_nil)
  (pss_cons (ps_set (i := 4) nd rfl (Or.inr rfl) (pe_callD D__law_tree_by hr (by decide) rfl (pa_cons (pe_slice sl_list (pv 0) (po_some pe_int) (po_some pe_int)) (pa_cons (pv 3) pa_nil))))
  (pss_cons (ps_if (pt_cmpR op_eq (pe_op op_mod (pe_op op_fdiv (pv 1) pe_int) pe_int) pe_int (nomark _))
    (pss_one (ps_for PassesOwn.never rfl (pi_range1 rfl T.range (pa_cons pe_int pa_nil)) (pg_name (i := 5) nd rfl (Or.inl rfl))
        (pss_one (ps_set (i := 4) nd rfl (Or.inr rfl) (pe_tup (pa_cons pe_str (pa_cons (pe_tup (pa_cons pe_str (pa_cons (pv 5) pa_nil))) (pa_cons (pv 4) pa_nil))))))))
    pss_nil)
  (pss_cons (ps_set (i := 6) nd rfl (Or.inl rfl) (pe_callB (cr_sortedIS hr.units) (by rfl) T.sorted (by decide +kernel) (pa_cons (pe_lc (own := [("_law_name", 11)]) (g := gName 11) rfl nd (pi_list (pv 3)) (blkOk_by (N := N_law) (sc := defScope s_law) (by decide +kernel)) (fun _ _ _ _ _ => (pg_name (i := 11) nd rfl (Or.inl rfl))) (fun _ _ _ _ _ => pts_nil) (fun _ _ _ _ _ => (pe_tup (pa_cons (pe_callD D__law_where hr (by decide) rfl (pa_cons (pv 4) (pa_cons (pv 11) pa_nil))) (pa_cons (pv 11) pa_nil))))) pa_nil)))
  (pss_cons (ps_setLc (i := 7) (own := [("_law_row", 12)]) (g := gName 12) rfl nd rfl rfl (sw_true rfl rfl rfl (by decide +kernel)) (pi_list (pv 6)) (blkOk_by (N := N_law) (sc := defScope s_law) (by decide +kernel)) (fun _ _ _ _ _ => (pg_name (i := 12) nd rfl (Or.inl rfl))) (fun _ _ _ _ _ => (pts_one (pt_cmpR op_ge (pe_ix (ix_tupK (K := K)) (pv 12) pe_int (fun _ _ => rfl)) pe_int (nomark _)))) (fun _ _ _ _ _ => (pe_ix (ix_tupK (K := K)) (pv 12) pe_int (fun _ _ => rfl))))
  (pss_cons (ps_set (i := 8) nd rfl (Or.inl rfl) (pe_callD D_free hr (by decide) rfl (pa_cons (pv 4) pa_nil)))
  (pss_cons (ps_if (PW.pt (pw_or (pt_not (pt_val (pe_callB call_isi (by rfl) T.isinstance (by decide +kernel) (pa_cons (pv 8) (pa_cons (pe_bltn (v := .ty "list") (by rfl) T.list (by decide +kernel) rfl) pa_nil))))) (pw_or1 (pt_cmpR op_ne (pe_callB call_len_seq (by rfl) T.len PySem.boot_len (pa_cons (pv 8) pa_nil)) (pe_callB call_len_seq (by rfl) T.len PySem.boot_len (pa_cons (pv 7) pa_nil)) (nomark _)))))
    (pss_one (ps_ret pe_bl))
    pss_nil)
  (pss_cons (ps_for PassesOwn.never rfl (pi_range1 rfl T.range (pa_cons (pe_callB call_len_seq (by rfl) T.len PySem.boot_len (pa_cons (pv 7) pa_nil)) pa_nil)) (pg_name (i := 5) nd rfl (Or.inl rfl))
    (pss_one (ps_if (PW.pt (pw_or (pt_not (pt_val (pe_callB call_isi (by rfl) T.isinstance (by decide +kernel) (pa_cons (pe_ix ix_list (pv 8) (pv 5) (fun _ _ => rfl)) (pa_cons (pe_bltn (v := .ty "str") (by rfl) T.str (by decide +kernel) rfl) pa_nil))))) (pw_or1 (pt_cmpR op_ne (pe_ix ix_list (pv 8) (pv 5) (fun _ _ => rfl)) (pe_ix ix_list (pv 7) (pv 5) (fun _ _ => rfl)) (nomark _)))))
        (pss_one (ps_ret pe_bl))
        pss_nil)))
  (pss_cons (ps_set (i := 9) nd rfl (Or.inl rfl) (pe_callD D_nodes hr (by decide) rfl (pa_cons (pv 4) pa_nil)))
  (pss_cons (ps_set (i := 10) nd rfl (Or.inl rfl) (pe_callD D__law_parts_right hr (by decide) rfl (pa_cons (pv 4) pa_nil)))
  (pss_one (ps_ret (pe_and (pe_callB call_isi (by rfl) T.isinstance (by decide +kernel) (pa_cons (pv 9) (pa_cons (pe_bltn (v := .ty "int") (by rfl) T.int (by decide +kernel) rfl) pa_nil))) (pe_and (pe_not (pe_callB call_isi (by rfl) T.isinstance (by decide +kernel) (pa_cons (pv 9) (pa_cons (pe_bltn (v := .ty "bool") (by rfl) T.bool (by decide +kernel) rfl) pa_nil)))) (pe_one (pe_cmpR op_eq (pv 9) (pv 10) (nomark _)))))))))))))))))))), ?_⟩
  rw [st_law]
  refine seq_ fun R hR => ?_
  walk_at "rd"
  refine ⟨a, ns, 0, rfl, ha, ?_⟩
  rw [hR]; clear hR
  generalize cell ns 0 = first
  refine seq_ fun R hR => ?_
  walk_at "rd"
  refine new_ fun p1 H1 hp1 k1 a1 => ?_
  obtain ⟨many, hmany, hm4⟩ : ∃ many : Nat, atI [V.int 4, V.int 12] (first / 1000 % 2) = some (.int many) ∧ (many = 4 ∨ many = 12) := by
    have h0 : 0 ≤ first / 1000 % 2 := Int.emod_nonneg _ (by decide)
    have h1 : first / 1000 % 2 < 2 := Int.emod_lt_of_pos _ (by decide)
    rcases (by omega : first / 1000 % 2 = 0 ∨ first / 1000 % 2 = 1) with e | e
    · exact ⟨4, by rw [e]; rfl, .inl rfl⟩
    · exact ⟨12, by rw [e]; rfl, .inr rfl⟩
  refine ⟨by decide, by decide, by decide, _, SqL.of a1, _, hmany, ?_⟩
  rw [hR]; clear hR
  refine seq_ fun R hR => ?_
  walk_at "rd"
  have hmb : many ≤ 16 := by omega
  refine ⟨by omega, by omega, lcR (fun i acc _ => acc = (List.range i).map fun k => .str (mkS (nameBy 5 (cellK first k)))) (fun _ _ _ _ _ h => h) (by omega) (fun _ => rfl) rfl ?_ ?_⟩
  · intro i acc H2 hi hl e2 p Qy hy Qn hn
    walk_at "rd"
    refine ⟨by decide, .inl (by decide), by decide, _, rfl, fun H3 e3 => hy _ _ e3 ?_⟩
    show _ = (List.range (i + 1)).map fun k => V.str (mkS (nameBy 5 (cellK first k)))
    rw [p, List.range_succ, List.map_append, Int.zero_add]
    rfl
  intro D0 ys0 H2 hD0 e2 hL0 p0
  rw [Int.toNat_natCast] at p0
  have hL0' : H2 D0 = some (.lst (((List.range many).map fun k => mkS (nameBy 5 (cellK first k))).map V.str)) := by rw [hL0, p0, List.map_map]; rfl
  rw [hR]; clear hR
  refine ifq_ fun R A1 B1 hR hA hB => ?_
  walk_at "rd"
  have hrest : ∀ (ln : Addr) (xs : List Str) (H3 : Hp), Same H H3 → H3 ln = some (.lst (xs.map V.str)) → xs.Nodup → xs.length = many →
      R [some (.ref a), some (.int first), some (.int many), some (.ref ln), none, none, none, none, none, none, none, none, none] H3 := by
    intro ln xs H3 e3 hln hnd hxl
    rw [hR]; clear hR hA hB
    refine seq_ fun R hR => ?_
    walk_at "rd"
    have ec : cutV (ns.map V.int) (some 1) (some 61) = ((ns.take 61).drop 1).map V.int := by
      have := cut_lohi (ns.map V.int) 1 61
      rw [← List.map_take, ← List.map_drop] at this
      exact this
    refine ⟨_, e3.seq ha, ?_⟩
    rw [ec]
    refine new_ fun p H4 hp k4 a4 => ⟨p, ln, _, xs, rfl, SqL.of a4, ?_, SqL.of (k4 _ _ hln), by omega, by omega, fun t v H5 e5 ht hta hts => ?_⟩
    · rw [List.length_drop, List.length_take]; omega
    have hts : t.size ≤ 301 := by
      rw [List.length_drop, List.length_take] at hts
      omega
    rw [hR]; clear hR
    refine ifq_ fun R A B hR hA hB => ?_
    walk_at "rd"
    have e05 := e3.trans (k4.trans e5)
    have hln5 := e5 _ _ (k4 _ _ hln)
    have hrest2 : ∀ (t : Tr) (v : V) (o5 : Option V) (H6 : Hp), Same H H6 → H6 ln = some (.lst (xs.map V.str)) → At H6 t v → t.all (· ∈ xs) N60 → t.size ≤ 801 →
        R [some (.ref a), some (.int first), some (.int many), some (.ref ln), some v, o5, none, none, none, none, none, none, none] H6 := by
      intro t v o5 H6 e6 hln6 ht hta hts
      rw [hR]; clear hR hA hB
      refine seq_ fun R hR => ?_
      walk_at "rd"
      refine ⟨⟨_, SqL.of hln6⟩, lcL (fun i acc H' => ∃ as : List Addr, acc = as.map V.ref ∧ as.length = i ∧ Paired (fun a x => H' a = some (.tup [.int (whereT x t), .str x])) as (xs.take i))
        (fun i acc H' H'' k ⟨as, h1, h2, h3⟩ => ⟨as, h1, h2, pr_mono h3 fun _ _ h => k _ _ h⟩) (SqL.of hln6) (by rw [List.length_map]; omega) (fun _ => rfl) ⟨[], rfl, rfl, .nil⟩ ?_ ?_⟩
      · rintro i x acc H7 hi hl e7 ⟨as, rfl, h2, h3⟩ Qy hy Qn hn
        obtain ⟨hi', rfl⟩ := map_at hi
        walk_at "rd"
        refine ⟨t, xs[i], v, rfl, ht.mono (same_kt e7), by omega, fun H8 e8 => ?_⟩
        walk_at "rd"
        refine new_ fun p9 H9 hp9 k9 a9 => hy _ _ (e8.trans k9) ⟨as ++ [p9], by simp, by simp [h2], ?_⟩
        rw [List.take_succ, List.getElem?_eq_getElem hi']
        exact pr_append (pr_mono h3 fun _ _ h => k9 _ _ (e8 _ _ h)) (.cons a9 .nil)
      intro D ys H7 hD e7 hD7 ⟨as, hys, has, hpr⟩
      rw [List.length_map] at has hpr
      rw [List.take_length] at hpr
      have hl2 : as.length = xs.length := has
      generalize hbs : (as.zip xs).map (fun p => ((p.1, whereT p.2 t, p.2) : SRow)) = bs
      have hb1 : bs.map (fun b => V.ref b.1) = as.map V.ref := by
        rw [← hbs, List.map_map]
        have : (as.zip xs).map (fun p => V.ref p.1) = ((as.zip xs).map Prod.fst).map V.ref := by rw [List.map_map]; rfl
        show (as.zip xs).map (fun p => V.ref p.1) = _
        rw [this, List.map_fst_zip (by omega)]
      have hb2 : bs.map (fun b => b.2) = xs.map fun x => (whereT x t, x) := by
        rw [← hbs, List.map_map]
        have : (as.zip xs).map (fun p => (whereT p.2 t, p.2)) = ((as.zip xs).map Prod.snd).map fun x => (whereT x t, x) := by rw [List.map_map]; rfl
        show (as.zip xs).map (fun p => (whereT p.2 t, p.2)) = _
        rw [this, List.map_snd_zip (by omega)]
      have hb3 : ∀ b ∈ bs, H7 b.1 = some (.tup [.int b.2.1, .str b.2.2]) := by
        intro b hb
        rw [← hbs] at hb
        obtain ⟨p, hp, rfl⟩ := List.mem_map.mp hb
        exact pr_zip hpr p hp
      have hbl : bs.length = xs.length := by rw [← hbs, List.length_map, List.length_zip]; omega
      refine ⟨D, bs, rfl, SqL.of (by rw [hD7, hys, hb1]), fun b hb => SqT.of (hb3 b hb), by omega, fun cs p9 hperm hpw hp9 => ?_⟩
      have hcs3 : ∀ c ∈ cs, H7 c.1 = some (.tup [.int c.2.1, .str c.2.2]) := fun c hc => hb3 c (hperm.mem_iff.mp hc)
      have k9 := same_new (o := .lst (cs.map fun c => V.ref c.1)) hp9
      have hL9 : (upd H7 p9 (.lst (cs.map fun c => V.ref c.1))) p9 = some (.lst (cs.map fun c => V.ref c.1)) := upd_same
      generalize upd H7 p9 (.lst (cs.map fun c => V.ref c.1)) = H9 at *
      have hcl : cs.length ≤ 100 := by rw [hperm.length_eq]; omega
      rw [hR]; clear hR
      refine seq_ fun R hR => ?_
      walk_at "rd"
      refine ⟨⟨_, SqL.of hL9⟩, lcL (fun i acc _ => acc = ((cs.take i).filter fun c => decide (0 ≤ c.2.1)).map fun c => .str c.2.2) (fun _ _ _ _ _ h => h) (SqL.of hL9) (by rw [List.length_map]; omega) (fun _ => rfl) rfl ?_ ?_⟩
      · rintro i x acc H8 hi hl e8 p8 Qy hy Qn hn
        obtain ⟨hi', rfl⟩ := map_at hi
        have hc8 := e8 _ _ (k9 _ _ (hcs3 _ (List.getElem_mem hi')))
        walk_at "rd"
        refine ⟨_, SqT.of hc8, _, at0 _ _, _, rfl, ?_⟩
        have hst : ((cs.take (i + 1)).filter fun c => decide (0 ≤ c.2.1)) = ((cs.take i).filter fun c => decide (0 ≤ c.2.1)) ++ ([cs[i]].filter fun c => decide (0 ≤ c.2.1)) := by
          rw [List.take_succ, List.getElem?_eq_getElem hi', List.filter_append]
          rfl
        split
        · rename_i h0
          refine ⟨_, SqT.of hc8, _, at1 _ _ _, hy _ _ (Same.refl _) ?_⟩
          show _ = ((cs.take (i + 1)).filter fun c => decide (0 ≤ c.2.1)).map fun c => V.str c.2.2
          rw [p8, hst, List.map_append, show ([cs[i]].filter fun c => decide (0 ≤ c.2.1)) = [cs[i]] by simp [h0]]
          rfl
        · rename_i h0
          refine hn _ (Same.refl _) ?_
          show _ = ((cs.take (i + 1)).filter fun c => decide (0 ≤ c.2.1)).map fun c => V.str c.2.2
          rw [p8, hst, List.map_append, show ([cs[i]].filter fun c => decide (0 ≤ c.2.1)) = [] by simpa using h0]
          simp
      intro D2 ys2 H8 hD2 e8 hL8 p8
      rw [List.length_map, List.take_length] at p8
      have hdue : ys2 = (freeNames t).map V.str := by
        have hd := due_eq (t := t) (names := xs) hnd (fun x hx => pre_all _ hta x hx) (cs := cs.map (·.2)) (by rw [← hb2]; exact hperm.map _) (by rw [List.pairwise_map]; exact hpw)
        rw [p8, ← hd, List.filter_map, List.map_map, List.map_map]
        rfl
      have hfl : (freeNames t).length ≤ 100 := by
        have h1 := congrArg List.length hdue
        rw [List.length_map, p8, List.length_map] at h1
        have := List.length_filter_le (fun c : SRow => decide (0 ≤ c.2.1)) cs
        omega
      have ht8 := ht.mono (same_kt (e7.trans (k9.trans e8)))
      have e68 := e6.trans (e7.trans (k9.trans e8))
      rw [hR]; clear hR
      refine seq_ fun R hR => ?_
      walk_at "rd"
      refine ⟨t, v, rfl, ht8, by omega, fun lf H10 hlf e10 hF10 => ?_⟩
      have hL10 := e10 _ _ hL8
      rw [hdue] at hL10
      have ht10 := ht8.mono (same_kt e10)
      generalize freeNames t = fs at *
      rw [hR]; clear hR
      refine ifq_ fun R A B hR hA hB => ?_
      walk_at "rd"
      refine isi_ (isi_ll hF10) ?_
      rw [if_neg (by decide)]
      refine ⟨_, .inl (SqL.of hF10), _, .inl (SqL.of hL10), ?_⟩
      rw [if_neg (by simp), hB]
      walk_at "rd"
      rw [hR]; clear hR hA hB
      refine seq_ fun R hR => ?_
      walk_at "rd"
      refine ⟨_, .inl (SqL.of hL10), by rw [List.length_map]; omega, by rw [List.length_map]; omega, ?_⟩
      rw [List.length_map, Int.toNat_natCast]
      refine forR (fun i σ H' => ∃ o5, σ = [some (.ref a), some (.int first), some (.int many), some (.ref ln), some v, o5, some (.ref p9), some (.ref D2), some (.ref lf), none, none, none, none] ∧ Same H10 H') ⟨o5, rfl, Same.refl _⟩ ?_ ?_
      · rintro i σ H11 hi ⟨o5, rfl, e11⟩ N hN
        have hat : atI (fs.map V.str) (0 + (i : Int)) = some (.str fs[i]) := by
          rw [Int.zero_add]
          refine atI_nat ?_
          rw [List.getElem?_map, List.getElem?_eq_getElem hi]
          rfl
        walk_at "rd"
        refine ⟨_, SqL.of (e11 _ _ hF10), _, hat, isi_ (isi_ss _) ?_⟩
        rw [if_neg (by decide)]
        refine ⟨_, SqL.of (e11 _ _ hF10), _, hat, _, SqL.of (e11 _ _ hL10), _, hat, rfl, ?_⟩
        rw [if_neg (by simp)]
        exact hN _ _ ⟨_, rfl, e11⟩
      · rintro σ H11 ⟨o5, rfl, e11⟩
        show R _ _
        rw [hR]; clear hR
        refine seq_ fun R hR => ?_
        walk_at "rd"
        refine ⟨t, v, rfl, ht10.mono (same_kt e11), by omega, fun H12 e12 => ?_⟩
        rw [hR]; clear hR
        refine seq_ fun R hR => ?_
        walk_at "rd"
        refine ⟨t, v, rfl, ht10.mono (same_kt (e11.trans e12)), by omega, fun H13 e13 => ?_⟩
        rw [hR]; clear hR
        walk_at "rd"
        refine isi_ (isi_ii _) ?_
        rw [if_pos rfl]
        refine isi_ (isi_ib _) ?_
        rw [if_pos (by decide)]
        exact q _
    refine ⟨by decide, by decide, by decide, ?_⟩
    split
    · rw [hA]
      walk_at "rd"
      refine ⟨by decide, by decide, forR (fun i σ H' => ∃ t v o5, σ = [some (.ref a), some (.int first), some (.int many), some (.ref ln), some v, o5, none, none, none, none, none, none, none] ∧ Same H5 H' ∧ At H' t v ∧ t.all (· ∈ xs) N60 ∧ t.size ≤ 301 + 2 * i) ⟨t, v, none, rfl, Same.refl _, ht, hta, hts⟩ ?_ ?_⟩
      · rintro i σ H6 hi ⟨t, v, o5, rfl, e6, ht, hta, hts⟩ N hN
        have hi' : i < 250 := hi
        walk_at "rd"
        refine new_ fun p7 H7 hp7 k7 a7 => new_ fun p8 H8 hp8 k8 a8 => hN _ _ ⟨.less (.num (0 + (i : Int))) t, _, _, rfl, e6.trans (k7.trans k8), ⟨p8, _, _, rfl, a8, ⟨p7, rfl, k8 _ _ a7⟩, ht.mono (same_kt (k7.trans k8))⟩, ⟨?_, hta⟩, ?_⟩
        · show -(10 ^ 60) < (0 + (i : Int)) ∧ (0 + (i : Int)) < 10 ^ 60
          omega
        · simp only [Tr.size]
          omega
      · rintro σ H6 ⟨t, v, o5, rfl, e6, ht, hta, hts⟩
        have hts : t.size ≤ 801 := by
          have : (Int.toNat 250) = 250 := rfl
          omega
        exact hrest2 t v o5 H6 (e05.trans e6) (e6 _ _ hln5) ht hta hts
    · rw [hB]
      walk_at "rd"
      exact hrest2 t v none H5 e05 hln5 ht hta (by omega)
  refine ⟨by decide, by decide, by decide, ?_⟩
  split
  · rw [hA]
    walk_at "rd"
    refine ⟨by decide, by decide, _, .inl (SqL.of hL0'), ?_⟩
    rw [List.length_map, List.length_map, List.length_range]
    refine ⟨_, many, rfl, hmb, fun l H3 hl e3 h3 => ?_⟩
    refine hrest l ((kinBy (first / 78) many).map mkS) H3 (k1.trans (e2.trans e3)) ?_ (map_mkS_nodup (kinBy_nodup _ hm4)) ?_
    · rw [h3, List.map_map]; rfl
    · rw [List.length_map, kinBy_len _ hmb]
  · rw [hB]
    walk_at "rd"
    exact hrest D0 _ H2 (k1.trans e2) hL0' (names1_nodup 5 first (by omega)) (by simp)
end
end K01

namespace K01
open PySem L2 My
theorem all_mk {l : PySem.W.OpenLaw} {w : World} {K : PySem.W.Frag} {h : Heap} {mg : Str → Option Value} {fa aS : Addr} (X : K.In h) (G : h.Ns mainGlobals mg) (hfa : mg "law" = some (.ref fa))
    {es : Array DictEntry} {en : Nat} {t0 t1 t2 u0 u1 u2 u3 u4 u5 u6 u7 : Tok}
    (gS : PySem.W.nsIn K mainGlobals "STARTS" = some (some (.ref aS))) (lS : K.lookup aS = some ⟨.type "dict", none, .dict es en, #[]⟩) (kS : PySem.W.KeysLit w.params es.toList)
    (s0 : PySem.W.nsIn K aS "num" = some (some (.int 2 u0))) (s1 : PySem.W.nsIn K aS "name" = some (some (.int 2 u1))) (s2 : PySem.W.nsIn K aS "fun" = some (some (.int 2 u2))) (s3 : PySem.W.nsIn K aS "call" = some (some (.int 1 u3)))
    (s4 : PySem.W.nsIn K aS "plus" = some (some (.int 1 u4))) (s5 : PySem.W.nsIn K aS "less" = some (some (.int 1 u5))) (s6 : PySem.W.nsIn K aS "if" = some (some (.int 1 u6))) (s7 : PySem.W.nsIn K aS "let" = some (some (.int 2 u7)))
    (g0 : PySem.W.nsIn K mainGlobals "LOOK" = some (some (.int 0 t0))) (g1 : PySem.W.nsIn K mainGlobals "BIND" = some (some (.int 1 t1))) (g2 : PySem.W.nsIn K mainGlobals "LOOSE" = some (some (.int 2 t2)))
    (z1 : PySem.W.nsIn K mainGlobals "len" = some none) (z2 : PySem.W.nsIn K mainGlobals "list" = some none) (z3 : PySem.W.nsIn K mainGlobals "range" = some none) (z4 : PySem.W.nsIn K mainGlobals "isinstance" = some none) (z5 : PySem.W.nsIn K mainGlobals "sorted" = some none)
    (z6 : PySem.W.nsIn K mainGlobals "str" = some none) (z7 : PySem.W.nsIn K mainGlobals "int" = some none) (z8 : PySem.W.nsIn K mainGlobals "bool" = some none) (z9 : PySem.W.nsIn K mainGlobals "tuple" = some none)
    {od0 an0 : Option Addr} {sl0 : Array (Option Value)} {oc0 kV0 dc0 pm0 cd0 ct0 : Value} {f0 : Addr}
    {od1 an1 : Option Addr} {sl1 : Array (Option Value)} {oc1 kV1 dc1 pm1 cd1 ct1 : Value} {f1 : Addr}
    {od2 an2 : Option Addr} {sl2 : Array (Option Value)} {oc2 kV2 dc2 pm2 cd2 ct2 : Value} {f2 : Addr}
    {od3 an3 : Option Addr} {sl3 : Array (Option Value)} {oc3 kV3 dc3 pm3 cd3 ct3 : Value} {f3 : Addr}
    {od4 an4 : Option Addr} {sl4 : Array (Option Value)} {oc4 kV4 dc4 pm4 cd4 ct4 : Value} {f4 : Addr}
    {od5 an5 : Option Addr} {sl5 : Array (Option Value)} {oc5 kV5 dc5 pm5 cd5 ct5 : Value} {f5 : Addr}
    {od6 an6 : Option Addr} {sl6 : Array (Option Value)} {oc6 kV6 dc6 pm6 cd6 ct6 : Value} {f6 : Addr}
    {od7 an7 : Option Addr} {sl7 : Array (Option Value)} {oc7 kV7 dc7 pm7 cd7 ct7 : Value} {f7 : Addr}
    {od8 an8 : Option Addr} {sl8 : Array (Option Value)} {oc8 kV8 dc8 pm8 cd8 ct8 : Value} {f8 : Addr}
    {od9 an9 : Option Addr} {sl9 : Array (Option Value)} {oc9 kV9 dc9 pm9 cd9 ct9 : Value} {f9 : Addr}
    {od10 an10 : Option Addr} {sl10 : Array (Option Value)} {oc10 kV10 dc10 pm10 cd10 ct10 : Value} {f10 : Addr}
    {od11 an11 : Option Addr} {sl11 : Array (Option Value)} {oc11 kV11 dc11 pm11 cd11 ct11 : Value} {f11 : Addr}
    {od12 an12 : Option Addr} {sl12 : Array (Option Value)} {oc12 kV12 dc12 pm12 cd12 ct12 : Value} {f12 : Addr}
    (a0 : PySem.W.nsIn K mainGlobals "parts" = some (some (.ref f0))) (l0 : K.lookup f0 = some ⟨oc0, od0, .func (PySem.W.fnOf "parts" "parts" (defArgs s_parts) (defBody s_parts) (defScope s_parts) .none kV0 dc0 pm0 an0 cd0 ct0), sl0⟩) (c0 : PySem.W.codeIn K cd0 "parts" = true) (k0 : PySem.W.keepIn K (.ref f0) = true)
    (a1 : PySem.W.nsIn K mainGlobals "nodes" = some (some (.ref f1))) (l1 : K.lookup f1 = some ⟨oc1, od1, .func (PySem.W.fnOf "nodes" "nodes" (defArgs s_nodes) (defBody s_nodes) (defScope s_nodes) .none kV1 dc1 pm1 an1 cd1 ct1), sl1⟩) (c1 : PySem.W.codeIn K cd1 "nodes" = true) (k1 : PySem.W.keepIn K (.ref f1) = true)
    (a2 : PySem.W.nsIn K mainGlobals "free" = some (some (.ref f2))) (l2 : K.lookup f2 = some ⟨oc2, od2, .func (PySem.W.fnOf "free" "free" (defArgs s_free) (defBody s_free) (defScope s_free) .none kV2 dc2 pm2 an2 cd2 ct2), sl2⟩) (c2 : PySem.W.codeIn K cd2 "free" = true) (k2 : PySem.W.keepIn K (.ref f2) = true)
    (a3 : PySem.W.nsIn K mainGlobals "_reading" = some (some (.ref f3))) (l3 : K.lookup f3 = some ⟨oc3, od3, .func (PySem.W.fnOf "_reading" "_reading" (defArgs s__reading) (defBody s__reading) (defScope s__reading) .none kV3 dc3 pm3 an3 cd3 ct3), sl3⟩) (c3 : PySem.W.codeIn K cd3 "_reading" = true) (k3 : PySem.W.keepIn K (.ref f3) = true)
    (a4 : PySem.W.nsIn K mainGlobals "_law_cell_at" = some (some (.ref f4))) (l4 : K.lookup f4 = some ⟨oc4, od4, .func (PySem.W.fnOf "_law_cell_at" "_law_cell_at" (defArgs s__law_cell_at) (defBody s__law_cell_at) (defScope s__law_cell_at) .none kV4 dc4 pm4 an4 cd4 ct4), sl4⟩) (c4 : PySem.W.codeIn K cd4 "_law_cell_at" = true) (k4 : PySem.W.keepIn K (.ref f4) = true)
    (a5 : PySem.W.nsIn K mainGlobals "_law_kin_by" = some (some (.ref f5))) (l5 : K.lookup f5 = some ⟨oc5, od5, .func (PySem.W.fnOf "_law_kin_by" "_law_kin_by" (defArgs s__law_kin_by) (defBody s__law_kin_by) (defScope s__law_kin_by) .none kV5 dc5 pm5 an5 cd5 ct5), sl5⟩) (c5 : PySem.W.codeIn K cd5 "_law_kin_by" = true) (k5 : PySem.W.keepIn K (.ref f5) = true)
    (a6 : PySem.W.nsIn K mainGlobals "_law_name_by" = some (some (.ref f6))) (l6 : K.lookup f6 = some ⟨oc6, od6, .func (PySem.W.fnOf "_law_name_by" "_law_name_by" (defArgs s__law_name_by) (defBody s__law_name_by) (defScope s__law_name_by) .none kV6 dc6 pm6 an6 cd6 ct6), sl6⟩) (c6 : PySem.W.codeIn K cd6 "_law_name_by" = true) (k6 : PySem.W.keepIn K (.ref f6) = true)
    (a7 : PySem.W.nsIn K mainGlobals "_law_joined" = some (some (.ref f7))) (l7 : K.lookup f7 = some ⟨oc7, od7, .func (PySem.W.fnOf "_law_joined" "_law_joined" (defArgs s__law_joined) (defBody s__law_joined) (defScope s__law_joined) .none kV7 dc7 pm7 an7 cd7 ct7), sl7⟩) (c7 : PySem.W.codeIn K cd7 "_law_joined" = true) (k7 : PySem.W.keepIn K (.ref f7) = true)
    (a8 : PySem.W.nsIn K mainGlobals "_law_tree_by" = some (some (.ref f8))) (l8 : K.lookup f8 = some ⟨oc8, od8, .func (PySem.W.fnOf "_law_tree_by" "_law_tree_by" (defArgs s__law_tree_by) (defBody s__law_tree_by) (defScope s__law_tree_by) .none kV8 dc8 pm8 an8 cd8 ct8), sl8⟩) (c8 : PySem.W.codeIn K cd8 "_law_tree_by" = true) (k8 : PySem.W.keepIn K (.ref f8) = true)
    (a9 : PySem.W.nsIn K mainGlobals "_law_within" = some (some (.ref f9))) (l9 : K.lookup f9 = some ⟨oc9, od9, .func (PySem.W.fnOf "_law_within" "_law_within" (defArgs s__law_within) (defBody s__law_within) (defScope s__law_within) .none kV9 dc9 pm9 an9 cd9 ct9), sl9⟩) (c9 : PySem.W.codeIn K cd9 "_law_within" = true) (k9 : PySem.W.keepIn K (.ref f9) = true)
    (a10 : PySem.W.nsIn K mainGlobals "_law_where" = some (some (.ref f10))) (l10 : K.lookup f10 = some ⟨oc10, od10, .func (PySem.W.fnOf "_law_where" "_law_where" (defArgs s__law_where) (defBody s__law_where) (defScope s__law_where) .none kV10 dc10 pm10 an10 cd10 ct10), sl10⟩) (c10 : PySem.W.codeIn K cd10 "_law_where" = true) (k10 : PySem.W.keepIn K (.ref f10) = true)
    (a11 : PySem.W.nsIn K mainGlobals "_law_parts_right" = some (some (.ref f11))) (l11 : K.lookup f11 = some ⟨oc11, od11, .func (PySem.W.fnOf "_law_parts_right" "_law_parts_right" (defArgs s__law_parts_right) (defBody s__law_parts_right) (defScope s__law_parts_right) .none kV11 dc11 pm11 an11 cd11 ct11), sl11⟩) (c11 : PySem.W.codeIn K cd11 "_law_parts_right" = true) (k11 : PySem.W.keepIn K (.ref f11) = true)
    (a12 : PySem.W.nsIn K mainGlobals "law" = some (some (.ref f12))) (l12 : K.lookup f12 = some ⟨oc12, od12, .func (PySem.W.fnOf "law" "law" (defArgs s_law) (defBody s_law) (defScope s_law) .none kV12 dc12 pm12 an12 cd12 ct12), sl12⟩) (c12 : PySem.W.codeIn K cd12 "law" = true) (k12 : PySem.W.keepIn K (.ref f12) = true) :
    ∃ fd : FuncData, (∀ (s : Shared) (v : Value), BindsTo s fd ⟨[v], []⟩ [("_law_script", v)]) ∧ ∀ base : Heap, K.In base → base.Ns mainGlobals mg → FnOk l.prog w K mg base CX0 4 fa fd ["_law_script"] (spLaw K) := by
  have T : Txt K w mg aS := {
    LOOK := ⟨_, PySem.W.mg_of X G g0⟩, BIND := ⟨_, PySem.W.mg_of X G g1⟩, LOOSE := ⟨_, PySem.W.mg_of X G g2⟩, STARTS := PySem.W.mg_of X G gS,
    starts := fun t => by
      cases t
      · exact ⟨es, en, _, lS, kS, s0, ⟨_, rfl⟩⟩
      · exact ⟨es, en, _, lS, kS, s1, ⟨_, rfl⟩⟩
      · exact ⟨es, en, _, lS, kS, s2, ⟨_, rfl⟩⟩
      · exact ⟨es, en, _, lS, kS, s3, ⟨_, rfl⟩⟩
      · exact ⟨es, en, _, lS, kS, s4, ⟨_, rfl⟩⟩
      · exact ⟨es, en, _, lS, kS, s5, ⟨_, rfl⟩⟩
      · exact ⟨es, en, _, lS, kS, s6, ⟨_, rfl⟩⟩
      · exact ⟨es, en, _, lS, kS, s7, ⟨_, rfl⟩⟩
    len := PySem.W.mg_none_of X G z1, list := PySem.W.mg_none_of X G z2, range := PySem.W.mg_none_of X G z3, isinstance := PySem.W.mg_none_of X G z4, sorted := PySem.W.mg_none_of X G z5,
    str := PySem.W.mg_none_of X G z6, int := PySem.W.mg_none_of X G z7, bool := PySem.W.mg_none_of X G z8, tuple := PySem.W.mg_none_of X G z9 }
  have F_parts : FunAt K mg "parts" s_parts := FunAt.mk X G a0 l0 c0 k0
  have F_nodes : FunAt K mg "nodes" s_nodes := FunAt.mk X G a1 l1 c1 k1
  have F_free : FunAt K mg "free" s_free := FunAt.mk X G a2 l2 c2 k2
  have F__reading : FunAt K mg "_reading" s__reading := FunAt.mk X G a3 l3 c3 k3
  have F__law_cell_at : FunAt K mg "_law_cell_at" s__law_cell_at := FunAt.mk X G a4 l4 c4 k4
  have F__law_kin_by : FunAt K mg "_law_kin_by" s__law_kin_by := FunAt.mk X G a5 l5 c5 k5
  have F__law_name_by : FunAt K mg "_law_name_by" s__law_name_by := FunAt.mk X G a6 l6 c6 k6
  have F__law_joined : FunAt K mg "_law_joined" s__law_joined := FunAt.mk X G a7 l7 c7 k7
  have F__law_tree_by : FunAt K mg "_law_tree_by" s__law_tree_by := FunAt.mk X G a8 l8 c8 k8
  have F__law_within : FunAt K mg "_law_within" s__law_within := FunAt.mk X G a9 l9 c9 k9
  have F__law_where : FunAt K mg "_law_where" s__law_where := FunAt.mk X G a10 l10 c10 k10
  have F__law_parts_right : FunAt K mg "_law_parts_right" s__law_parts_right := FunAt.mk X G a11 l11 c11 k11
  have F_law : FunAt K mg "law" s_law := FunAt.mk X G a12 l12 c12 k12
  suffices z : ∀ fd : FuncData, Fun K "law" "law" s_law fa fd → ∀ base : Heap, K.In base ∧ base.Ns mainGlobals mg → FnOk l.prog w K mg base CX0 4 fa fd ["_law_script"] (spLaw K) from by
    obtain ⟨fd, hb, hok⟩ := law_of (y := "_law_script") F_law hfa (fun kV doc pm an cdv ct v => rfl) z
    exact ⟨fd, hb, fun base a b => hok base ⟨a, b⟩⟩
  intro fd F base _
  have D1 := df_cell (P := l.prog) (base := base) T F__law_cell_at
  have D2 := df_parts (P := l.prog) (base := base) T F_parts
  have D3 := df_nodes (P := l.prog) (base := base) T F_nodes D2
  have D4 := df_joined (P := l.prog) (base := base) T F__law_joined
  have D5 := df_within (P := l.prog) (base := base) T F__law_within
  have D6 := df_tree (P := l.prog) (base := base) T F__law_tree_by D4
  have D7 := df_where (P := l.prog) (base := base) T F__law_where D5
  have D8 := df_right (P := l.prog) (base := base) T F__law_parts_right D5 D2
  have D9 := df_reading (P := l.prog) (base := base) T F__reading D2
  have D10 := df_free (P := l.prog) (base := base) T F_free D9
  have D11 := df_name (P := l.prog) (base := base) T F__law_name_by
  have D12 := df_kin (P := l.prog) (base := base) T F__law_kin_by
  exact df_law (P := l.prog) (base := base) T F D1 D11 D12 D6 D7 D10 D3 D8
theorem walk {l : PySem.W.OpenLaw} {q : Program} {loose : List Str} {XP : (Str → Option Value) → Heap → Prop} {YP : World → Heap → Prop} {d : DefRec} {K : Params → PySem.W.Frag} (hn : l.most = some 63) (hdf : d.params.defaults = [])
    (hY : ∀ (w : World) (h : Heap), YP w h → (K w.params).In h)
    (F : ∀ (w : World) (mg : Str → Option Value) (fa : Addr) (h : Heap), (K w.params).In h → h.Ns mainGlobals mg → mg d.name = some (.ref fa) →
      ∃ fd : FuncData, (∀ (s : Shared) (u : Value), BindsTo s fd ⟨[u], []⟩ [("_law_script", u)]) ∧ ∀ base : Heap, (K w.params).In base → base.Ns mainGlobals mg → FnOk l.prog w (K w.params) mg base CX0 4 fa fd ["_law_script"] (spLaw (K w.params))) :
    PySem.W.WalkO q loose XP YP l.row.toRowW d [] (fun f vs => PySem.call f vs) :=
  L2.walk_of (n := 63) (k := 4) (x := "_law_script") (CX := fun _ => CX0) (sp := fun w => spLaw (K w.params)) hn (by decide) hdf ⟨rfl, by decide, by decide⟩ hY F (fun _ _ a ns hl _ hS => ⟨a, ns, rfl, hS, hl, fun _ => rfl⟩) fun _ _ _ _ _ z => z
end K01
open PySem PySem.W PyProof.Rows
set_option maxRecDepth 100000 in
set_option maxHeartbeats 0 in
theorem PySem.Challenge.cw_closuremill_k01_free_names_holds : PySem.Challenge.rw_closuremill_k01_free_names.Holds := by
  w_on; o_law; k_head; (case hw => w_witness2)
  k_fill
  refine K01.walk (l := PySem.Challenge.rw_closuremill_k01_free_names) rfl rfl (fun w h Y => PySem.W.kIn_of Y) ?F
  case F =>
    intro w mg fa h KX G hmg
    refine' K01.all_mk KX G hmg ?gS ?lS ?kS ?s0 ?s1 ?s2 ?s3 ?s4 ?s5 ?s6 ?s7 ?q0 ?q1 ?q2 ?z1 ?z2 ?z3 ?z4 ?z5 ?z6 ?z7 ?z8 ?z9 ?a0 ?l0 ?c0 ?k0 ?a1 ?l1 ?c1 ?k1 ?a2 ?l2 ?c2 ?k2 ?a3 ?l3 ?c3 ?k3 ?a4 ?l4 ?c4 ?k4 ?a5 ?l5 ?c5 ?k5 ?a6 ?l6 ?c6 ?k6 ?a7 ?l7 ?c7 ?k7 ?a8 ?l8 ?c8 ?k8 ?a9 ?l9 ?c9 ?k9 ?a10 ?l10 ?c10 ?k10 ?a11 ?l11 ?c11 ?k11 ?a12 ?l12 ?c12 ?k12
    (case gS => k_is)
    (case lS => k_is)
    (case kS => k_keys)
    (case s0 => k_is)
    (case s1 => k_is)
    (case s2 => k_is)
    (case s3 => k_is)
    (case s4 => k_is)
    (case s5 => k_is)
    (case s6 => k_is)
    (case s7 => k_is)
    (case q0 => k_is)
    (case q1 => k_is)
    (case q2 => k_is)
    (case z1 => k_is)
    (case z2 => k_is)
    (case z3 => k_is)
    (case z4 => k_is)
    (case z5 => k_is)
    (case z6 => k_is)
    (case z7 => k_is)
    (case z8 => k_is)
    (case z9 => k_is)
    (case a0 => k_is); (case l0 => k_is); (case c0 => k_is); (case k0 => k_is)
    (case a1 => k_is); (case l1 => k_is); (case c1 => k_is); (case k1 => k_is)
    (case a2 => k_is); (case l2 => k_is); (case c2 => k_is); (case k2 => k_is)
    (case a3 => k_is); (case l3 => k_is); (case c3 => k_is); (case k3 => k_is)
    (case a4 => k_is); (case l4 => k_is); (case c4 => k_is); (case k4 => k_is)
    (case a5 => k_is); (case l5 => k_is); (case c5 => k_is); (case k5 => k_is)
    (case a6 => k_is); (case l6 => k_is); (case c6 => k_is); (case k6 => k_is)
    (case a7 => k_is); (case l7 => k_is); (case c7 => k_is); (case k7 => k_is)
    (case a8 => k_is); (case l8 => k_is); (case c8 => k_is); (case k8 => k_is)
    (case a9 => k_is); (case l9 => k_is); (case c9 => k_is); (case k9 => k_is)
    (case a10 => k_is); (case l10 => k_is); (case c10 => k_is); (case k10 => k_is)
    (case a11 => k_is); (case l11 => k_is); (case c11 => k_is); (case k11 => k_is)
    (case a12 => k_is); (case l12 => k_is); (case c12 => k_is); (case k12 => k_is)

