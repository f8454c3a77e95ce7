import PyProof.Rows.All
import Wide.All
import OpenK.AllK
import Wide.FinOn
import PySem.Challenge.RW_neverdark_k10_world_at_moments
import HandS.ForMost
import HandS.Walk
import HandS.IsInst
import HandS.Style
import HandS.FStr
import HandS.WideBits
import HandS.Deep
import HandS.Steps
import HandS.Lambda
import HandS.EndTab
import KE.SortKeyHeap
import KE.DatumOrd
import KE.KDictPairs
import KE.KDictCopyH
import PyProof.P3In
import HandS.NoneIn
import HandS.Star
set_option Elab.async false
set_option linter.all false
set_option maxRecDepth 100000
set_option maxHeartbeats 4000000
namespace NK
open PySem PySem.Spec PyProof.Rows L2
/-! ### a def of the text that keeps a promise, found by its name -/
def Ok (P : Program) (w : World) (K : PySem.W.Frag) (mg : Str → Option Value) (base : Heap) (k : Nat) (x : Str) (ps : List Str) (sp : Sp) : Prop :=
  ∃ (f : Addr) (fd : FuncData), FnOk P w K mg base CX0 k f fd ps sp ∧ mg x = some (.ref f) ∧ PySem.W.keepIn K (.ref f) = true ∧ Binds K fd ps []
def Def (K : PySem.W.Frag) (mg : Str → Option Value) (x : Str) (st : Stmt) (ps : List Str) : Prop :=
  ∃ (f : Addr) (fd : FuncData), Fun K x x st f fd ∧ mg x = some (.ref f) ∧ Binds K fd ps []
section
variable {P : Program} {w : World} {K : PySem.W.Frag} {mg : Str → Option Value} {base : Heap}
theorem Def.ok {x : Str} {st : Stmt} {N ps : List Str} {k : Nat} {sp : Sp} (D : Def K mg x st ps) (S : FnScope N ps (defScope st)) (len : ∀ vs H Q E, sp vs H Q E → vs.length = ps.length)
    (hbody : ∀ (cdv : Value) (f : Addr) (A : Around) (outer : List Env) (s : Shared) (H : Hp) (vs : List V) (Q : VK) (E : XK), Room k (A.deeper (envOfC x (defScope st) s.heap.objs.size f cdv)) → sp vs H Q E →
      ∃ t, PSs (cxOf CX0 P w K mg base N x (defScope st) f cdv A outer s H E).nox (defBody st) t ∧ t { nx := fun _ H' => Q .non H', rt := Q } (start N vs) H) : Ok P w K mg base (k + 1) x ps sp := by
  obtain ⟨f, fd, F, hm, hb⟩ := D
  exact ⟨f, fd, F.ok S len fun cdv A outer s H vs Q E hr h => hbody cdv f A outer s H vs Q E hr h, hm, F.kp, hb⟩
theorem Ok.mono {j k : Nat} {x : Str} {ps : List Str} {sp : Sp} (h : Ok P w K mg base j x ps sp) (hk : j ≤ k) : Ok P w K mg base k x ps sp := by
  obtain ⟨f, fd, F, r⟩ := h
  exact ⟨f, fd, F.mono hk, r⟩
end
section
variable {X : Cx}
theorem pe_callO {x : Str} {p pos : Pos} {e : Expr} {es : List Expr} {t : TA} {k : Nat} {ps : List Str} {sp : Sp} (h : Ok X.prog X.w X.K X.mg X.base k x ps sp) (hr : Room k X.A) (hg : Gl X x) (ha : PA X (e :: es) t)
    (hdb : (x == ("__debug__" : Str)) = false := by decide) (he : starEach (e :: es) X.env = (false, eval e X.env) :: starEach es X.env := by rfl) (hpl : (backTo pos (starEach es X.env)).any (·.1) = false := by rfl) :
    PE X (.Call (.Name x p) (e :: es) [] pos) (tCall sp [] E0 t) := by
  obtain ⟨f, fd, F, hm, hk, hb⟩ := h
  exact pe_call F hr hg hm hk hb .nil pass0 ha hdb he hpl
/-- a module's constant -/
theorem pe_glS {x : Str} {z : Str} {pos : Pos} (hg : Gl X x) (hm : ∃ t, X.mg x = some (.str z t)) (hd : (x == ("__debug__" : Str)) = false := by decide) : PE X (.Name x pos) (tC (.str z)) := by
  obtain ⟨t, hm⟩ := hm
  exact pe_glob hg hm ⟨t, rfl⟩ hd
theorem pe_glI {x : Str} {z : Int} {pos : Pos} (hg : Gl X x) (hm : ∃ t, X.mg x = some (.int z t)) (hd : (x == ("__debug__" : Str)) = false := by decide) : PE X (.Name x pos) (tC (.int z)) := by
  obtain ⟨t, hm⟩ := hm
  exact pe_glob hg hm ⟨t, rfl⟩ hd
/-- the empty tuple ahead of another one -/
def rCatT0 (K : PySem.W.Frag) : R2 := fun x y H Q => ∃ a b ys, x = .ref a ∧ y = .ref b ∧ SqT K H a [] ∧ SqT K H b ys ∧ Q (.ref b) H
theorem op_catT0 {X : Cx} (K : PySem.W.Frag) (hK : X.K = K) : OpR X (binaryOp .Add) (rCatT0 K) := by
  subst hK
  intro pins s σ H x y v u Q I rx ry h
  obtain ⟨a, b, ys, rfl, rfl, ha, hb, q⟩ := h
  cases rx
  cases ry
  obtain ⟨its, rv, ⟨o, ho, hc, n, hd⟩, hz⟩ := I.tuple ha
  obtain ⟨its2, rv2, ⟨o2, ho2, hc2, n2, hd2⟩, hz2⟩ := I.tuple hb
  cases rv
  obtain ⟨c1, d1, k1, s1⟩ := o
  obtain ⟨c2, d2, k2, s2⟩ := o2
  simp only at hc hd hc2 hd2
  subst hc hd hc2 hd2
  have t1 : s.TypeIs (.ref a) "tuple" := ⟨_, ho, rfl⟩
  have t2 : s.TypeIs (.ref b) "tuple" := ⟨_, ho2, rfl⟩
  refine PySem.wpAny_binaryOp_concat (T := "tuple") (id := "tuple.__add__") t1 t2 PySem.noFill_tuple_add PySem.seq_tuple_add ?_
  exact PySem.call_meets PySem.F.slot_tuple_add t1 PySem.F.entry_tuple_add (PySem.F.args_tuple_add_2 _ _) (PyProof.Rows.tuple_addW0 a b #[] its2.toArray n n2 d1 d2 s1 s2 rfl) ⟨ho, ho2, ⟨.ref b, H, I, rfl, q⟩⟩
/-! ### one rule for each sign, whatever its operands are; K is the written part by its name -/
def rPlus (K : PySem.W.Frag) : R2 := fun x y H Q => (rI0 (fun i j => .int (i + j)) x y H Q) ∨ (∃ i j, x = .str i ∧ y = .str j ∧ i.length + j.length ≤ sizeLine ∧ Q (.str (i ++ j)) H) ∨ (rCat x y H Q) ∨ (rCatT K x y H Q) ∨ (rCatT0 K x y H Q)
theorem op_plus (K : PySem.W.Frag) (hK : X.K = K) : OpR X (binaryOp .Add) (rPlus K) := by
  have h0 := op_catT0 (X := X) K hK
  subst hK
  exact op_add.or (op_add_str.or (op_cat.or (op_catT.or h0)))
def rEqU (K : PySem.W.Frag) : R2 := fun x y H Q => rEq x y H Q ∨ rEqD K x y H Q
def rNeU (K : PySem.W.Frag) : R2 := fun x y H Q => rNe x y H Q ∨ rNeD K x y H Q
theorem op_eqU (K : PySem.W.Frag) (hK : X.K = K) (hu : X.A.units + 64 < cLine) : OpR X (compareOp .Eq) (rEqU K) := by
  subst hK
  exact op_eq.or (op_eqD hu)
theorem op_neU (K : PySem.W.Frag) (hK : X.K = K) (hu : X.A.units + 64 < cLine) : OpR X (compareOp .NotEq) (rNeU K) := by
  subst hK
  exact op_ne.or (op_neD hu)
def rInU (K : PySem.W.Frag) : R2 := fun x y H Q => rIn K false x y H Q ∨ rInS x y H Q
def rNinU (K : PySem.W.Frag) : R2 := fun x y H Q => rIn K true x y H Q ∨ rNotInS x y H Q
theorem op_inU (K : PySem.W.Frag) (hK : X.K = K) : OpR X (compareOp .In) (rInU K) := by
  subst hK
  exact op_in_seq.or op_in_sign
theorem op_ninU (K : PySem.W.Frag) (hK : X.K = K) : OpR X (compareOp .NotIn) (rNinU K) := by
  subst hK
  exact op_notIn_seq.or op_notIn_sign
def rIsU : R2 := fun x y H Q => rIsB x y H Q ∨ rIsN x y H Q
def rIsNU : R2 := fun x y H Q => rNotB x y H Q ∨ rNotN x y H Q
theorem op_isU : OpR X (compareOp .Is) rIsU := op_isBl.or op_isN
theorem op_isnotU : OpR X (compareOp .IsNot) rIsNU := op_notBl.or op_notN
theorem ix_U (K : PySem.W.Frag) (hK : X.K = K) : IxR X (rIx K) := by
  subst hK
  exact ix_seq
def rSlU (K : PySem.W.Frag) : V → Option Int → Option Int → Hp → VK → Prop := fun x lo hi H Q => rSlL K x lo hi H Q ∨ rSlS x lo hi H Q ∨ rSlT K x lo hi H Q
theorem sl_U (K : PySem.W.Frag) (hK : X.K = K) : SlR X (rSlU K) := by
  subst hK
  exact sl_list.or (sl_str.or sl_tup)
def rLenU (K : PySem.W.Frag) : List V → Hp → VK → Prop := fun xs H Q => (∃ z, xs = [.str z] ∧ z.length ≤ sizeLine ∧ Q (.int z.length) H) ∨ (∃ p ys, xs = [.ref p] ∧ (SqL K H p ys ∨ SqT K H p ys) ∧ Q (.int ys.length) H)
theorem call_lenU (K : PySem.W.Frag) (hK : X.K = K) : CallR X (.builtin "len") (rLenU K) := by
  subst hK
  exact call_len_str.or call_len_seq
def rInt1 : List V → Hp → VK → Prop := fun xs H Q => (∃ i, xs = [.int i] ∧ Q (.int i) H) ∨ ∃ k, xs = [.bl k] ∧ Q (.int (if k then 1 else 0)) H
theorem call_int1U : CallR X (.type "int") rInt1 := call_int1
def rListOf (K : PySem.W.Frag) : List V → Hp → VK → Prop := fun xs H Q => ∃ p ys, xs = [.ref p] ∧ (SqL K H p ys ∨ SqT K H p ys) ∧ ∀ l, H l = none → Q (.ref l) (upd H l (.lst ys))
theorem call_listU (K : PySem.W.Frag) (hK : X.K = K) : CallR X (.type "list") (rListOf K) := by
  subst hK
  exact call_list_of
def rTupOf (K : PySem.W.Frag) : List V → Hp → VK → Prop := fun xs H Q => ∃ p ys, xs = [.ref p] ∧ ((SqL K H p ys ∧ ∀ l, H l = none → Q (.ref l) (upd H l (.tup ys))) ∨ (SqT K H p ys ∧ Q (.ref p) H))
theorem call_tupU (K : PySem.W.Frag) (hK : X.K = K) : CallR X (.type "tuple") (rTupOf K) := by
  subst hK
  exact call_tuple_of
theorem call_allU (K : PySem.W.Frag) (hK : X.K = K) (hc : X.calm = true) : CallR X (.builtin "all") (rAll K) := by
  subst hK
  exact cr_all hc
theorem call_anyU (K : PySem.W.Frag) (hK : X.K = K) (hc : X.calm = true) : CallR X (.builtin "any") (rAny K) := by
  subst hK
  exact cr_any hc
theorem call_isiU (K : PySem.W.Frag) (hK : X.K = K) : CallR X (.builtin "isinstance") (rIsi K) := by
  subst hK
  exact call_isi
def rSplit : V → List V → Hp → VK → Prop := fun x xs H Q => ∃ a b, x = .str a ∧ xs = [.str b] ∧ (b.length == 0) = false ∧ a.length + 2 ≤ sizeLine ∧ rNewStrs (Txt.split a b) H Q
def rJoin (K : PySem.W.Frag) : V → List V → Hp → VK → Prop := fun x xs H Q => ∃ a p, ∃ ys : List Str, x = .str a ∧ xs = [.ref p] ∧ (SqL K H p (ys.map V.str) ∨ SqT K H p (ys.map V.str)) ∧ (ys.map (·.length)).sum + ys.length * a.length ≤ 16777216 ∧ Q (.str (Txt.join a ys)) H
def rEndsW : V → List V → Hp → VK → Prop := fun x xs H Q => ∃ a b, x = .str a ∧ xs = [.str b] ∧ Q (.bl (Txt.endswith a b)) H
theorem mt_splitU : MtR X "str.split" rSplit := mt_split
theorem mt_endsU : MtR X "str.endswith" rEndsW := mt_endswith
theorem mt_joinU (K : PySem.W.Frag) (hK : X.K = K) : MtR X "str.join" (rJoin K) := by
  subst hK
  exact mt_join
theorem pt_E {e : Expr} {t : TE} (h : PE X e t) (he : ∀ whole, isTrue e X.env whole = (do let v ← whole; standAt e.pos; holding [v] (truthy v)) := by intro _; rfl) : PT X e (tB t) := pt_val h he
theorem pe_rev (K : PySem.W.Frag) (hK : X.K = K) {e : Expr} {te : TE} {k : Nat} {p1 p2 p3 pos : Pos} (he : PE X e te) : PE X (.Subscript e (.Slice none none (some (.UnaryOp .USub (.Constant (.int 1) k p1) p2)) p3) pos) (tRevL K te) := by
  subst hK
  exact pe_revL he
end
/-! ### steps of a reading -/
section
variable {K : PySem.W.Frag} {σ : L2.St} {H : Hp} {Q : VK} {te ta tb : TE} {D : Ends} {nx : L2.St → Hp → Prop} {rt : VK} {bk ct : L2.St → Hp → Prop}
theorem rd_var {i : Nat} {v : V} (h : σ[i]? = some (some v)) (q : Q v H) : tVar i σ H Q := ⟨v, h, q⟩
theorem rd_c {v : V} (q : Q v H) : tC v σ H Q := q
theorem rd_op {r : R2} (q : ta σ H fun x H1 => tb σ H1 fun y H2 => r x y H2 Q) : tOp r ta tb σ H Q := q
theorem rd_un {r : V → Hp → VK → Prop} (q : ta σ H fun x H1 => r x H1 Q) : tUn r ta σ H Q := q
theorem rd_i0 {f : Int → Int → V} {i j : Int} (q : Q (f i j) H) : rI0 f (.int i) (.int j) H Q := ⟨i, j, rfl, rfl, q⟩
theorem rd_i {C : Int → Int → Prop} {f : Int → Int → V} {i j : Int} (c : C i j) (q : Q (f i j) H) : rI C f (.int i) (.int j) H Q := ⟨i, j, rfl, rfl, c, q⟩
theorem rd_plusI {i j : Int} (q : Q (.int (i + j)) H) : rPlus K (.int i) (.int j) H Q := .inl ⟨i, j, rfl, rfl, q⟩
theorem rd_plusS {i j : Str} (c : i.length + j.length ≤ sizeLine) (q : Q (.str (i ++ j)) H) : rPlus K (.str i) (.str j) H Q := .inr (.inl ⟨i, j, rfl, rfl, c, q⟩)
theorem rd_uI {f : Int → Int} {i : Int} (q : Q (.int (f i)) H) : rU (fun i => .int (f i)) (.int i) H Q := ⟨i, rfl, q⟩
theorem rd_eqS {x y : V} (h : scal x y = true) (q : Q (.bl (decide (x = y))) H) : rEqU K x y H Q := .inl ⟨h, q⟩
theorem rd_neS {x y : V} (h : scal x y = true) (q : Q (.bl (!decide (x = y))) H) : rNeU K x y H Q := .inl ⟨h, q⟩
theorem rd_ixL {p : Addr} {xs : List V} {i : Int} {v : V} (h : SqL K H p xs) (a : atI xs i = some v) (q : Q v H) : rIx K (.ref p) (.int i) H Q := .inl ⟨p, xs, i, v, rfl, rfl, h, a, q⟩
theorem rd_ixT {p : Addr} {xs : List V} {i : Int} {v : V} (h : SqT K H p xs) (a : atI xs i = some v) (q : Q v H) : rIx K (.ref p) (.int i) H Q := .inr (.inl ⟨p, xs, i, v, rfl, rfl, h, a, q⟩)
theorem rd_B {Q : Bool → Hp → Prop} (q : te σ H fun v H1 => ∃ b, v = .bl b ∧ Q b H1) : tB te σ H Q := q
theorem rd_bl {b : Bool} {Q : Bool → Prop} (q : Q b) : ∃ c, V.bl b = .bl c ∧ Q c := ⟨b, rfl, q⟩
theorem rd_if {c : TT} {t u : TS} (q : c σ H fun b H1 => if b = true then t D σ H1 else u D σ H1) : tIfS c t u D σ H := q
theorem rd_ifE {c : TT} (q : c σ H fun b H1 => if b = true then ta σ H1 Q else tb σ H1 Q) : tIf c ta tb σ H Q := q
theorem rd_seq {t u : TS} (q : t ⟨fun σ H => u ⟨nx, rt, bk, ct⟩ σ H, rt, bk, ct⟩ σ H) : tSeq t u ⟨nx, rt, bk, ct⟩ σ H := q
theorem rd_next (q : nx σ H) : tNext ⟨nx, rt, bk, ct⟩ σ H := q
theorem rd_asg {g : TG} (q : te σ H fun x H1 => g x σ H1 nx) : tAsg te g ⟨nx, rt, bk, ct⟩ σ H := q
theorem rd_name {i : Nat} {v : V} {Q : L2.St → Hp → Prop} (q : Q (σ.set i (some v)) H) : gName i v σ H Q := q
theorem rd_ret (q : te σ H rt) : tRet te ⟨nx, rt, bk, ct⟩ σ H := q
theorem rd_drop (q : te σ H fun _ H1 => nx σ H1) : tDrop te ⟨nx, rt, bk, ct⟩ σ H := q
theorem rd_call {sp : Sp} {E : XK} {t : TA} (q : t σ H fun vs H1 => sp (vs ++ []) H1 Q E) : tCall sp [] E t σ H Q := q
theorem rd_cons {tr : TA} {Q : List V → Hp → Prop} (q : ta σ H fun x H1 => tr σ H1 fun xs H2 => Q (x :: xs) H2) : tCons ta tr σ H Q := q
theorem rd_nil {Q : List V → Hp → Prop} (q : Q [] H) : tNil σ H Q := q
theorem rd_cb {r : List V → Hp → VK → Prop} {t : TA} (q : t σ H fun vs H1 => r vs H1 Q) : tCB r t σ H Q := q
theorem rd_sub {to ti : TE} {t : TSet} {v : V} {Q : L2.St → Hp → Prop} (q : to σ H fun o H1 => ti σ H1 fun i H2 => t o i v H2 fun H3 => Q σ H3) : gSub to ti t v σ H Q := q
theorem rd_not (q : ta σ H fun x H1 => ∃ c, x = .bl c ∧ Q (.bl (!c)) H1) : tNotV ta σ H Q := q
theorem rd_and (q : ta σ H fun x H1 => ∃ c, x = .bl c ∧ if c = true then tb σ H1 Q else Q (.bl false) H1) : tAndV ta tb σ H Q := q
theorem rd_or (q : ta σ H fun x H1 => ∃ c, x = .bl c ∧ if c = true then Q (.bl true) H1 else tb σ H1 Q) : tOrV ta tb σ H Q := q
theorem rd_T {Q : Bool → Hp → Prop} (q : te σ H fun v H1 => ∃ b, v = .bl b ∧ Q b H1) : tTest te σ H Q := q
theorem rd_tnot {t : TT} {Q : Bool → Hp → Prop} (q : t σ H fun c H1 => Q (!c) H1) : tNot t σ H Q := q
theorem rd_tand {t u : TT} {Q : Bool → Hp → Prop} (q : t σ H fun c H1 => if c = true then u σ H1 Q else Q false H1) : tAnd t u σ H Q := q
theorem rd_tor {t u : TT} {Q : Bool → Hp → Prop} (q : t σ H fun c H1 => if c = true then Q true H1 else u σ H1 Q) : tOr t u σ H Q := q
theorem rd_chain {r r' : R2} {tc : TE} (q : ta σ H fun x H1 => tb σ H1 fun y H2 => r x y H2 fun z H3 => ∃ k, z = .bl k ∧ (if k = true then tc σ H3 fun w' H4 => r' y w' H4 Q else Q (.bl false) H3)) : tChain r r' ta tb tc σ H Q := q
theorem rd_ite {p A B : Prop} [Decidable p] (h1 : p → A) (h2 : ¬ p → B) : if decide p = true then A else B := by
  by_cases h : p
  · rw [if_pos (decide_eq_true h)]
    exact h1 h
  · rw [if_neg (by rw [decide_eq_false h]; decide)]
    exact h2 h
theorem rd_itn {p A B : Prop} [Decidable p] (h1 : p → B) (h2 : ¬ p → A) : if (!decide p) = true then A else B := by
  by_cases h : p
  · rw [decide_eq_true h]
    exact h1 h
  · rw [decide_eq_false h]
    exact h2 h
theorem rd_len {z : Str} (h : z.length ≤ sizeLine) (q : Q (.int z.length) H) : rLenU K [.str z] H Q := .inl ⟨z, rfl, h, q⟩
theorem rd_lenL {p : Addr} {ys : List V} (h : SqL K H p ys) (q : Q (.int ys.length) H) : rLenU K [.ref p] H Q := .inr ⟨p, ys, rfl, .inl h, q⟩
theorem rd_int1 {i : Int} (q : Q (.int i) H) : rInt1 [.int i] H Q := .inl ⟨i, rfl, q⟩
theorem rd_listL {p : Addr} {ys : List V} (h : SqL K H p ys) (q : ∀ l, H l = none → Q (.ref l) (upd H l (.lst ys))) : rListOf K [.ref p] H Q := ⟨p, ys, rfl, .inl h, q⟩
theorem rd_tupL {p : Addr} {ys : List V} (h : SqL K H p ys) (q : ∀ l, H l = none → Q (.ref l) (upd H l (.tup ys))) : rTupOf K [.ref p] H Q := ⟨p, ys, rfl, .inl ⟨h, q⟩⟩
theorem rd_m1 {r : V → List V → Hp → VK → Prop} (q : ta σ H fun x H1 => (∃ a, x = .str a) ∧ tb σ H1 fun y H2 => r x [y] H2 Q) : tM1 r ta tb σ H Q := q
theorem rd_split {a b : Str} (hb : (b.length == 0) = false) (ha : a.length + 2 ≤ sizeLine) (q : ∀ p, H p = none → Q (.ref p) (upd H p (.lst ((Txt.split a b).map V.str)))) : rSplit (.str a) [.str b] H Q := ⟨a, b, rfl, rfl, hb, ha, q⟩
theorem rd_ends {a b : Str} (q : Q (.bl (Txt.endswith a b)) H) : rEndsW (.str a) [.str b] H Q := ⟨a, b, rfl, rfl, q⟩
theorem rd_join {a : Str} {p : Addr} {ys : List Str} (h : SqL K H p (ys.map V.str)) (c : (ys.map (·.length)).sum + ys.length * a.length ≤ 16777216) (q : Q (.str (Txt.join a ys)) H) : rJoin K (.str a) [.ref p] H Q := ⟨a, p, ys, rfl, rfl, .inl h, c, q⟩
theorem rd_inS {c : Nat} {z : Str} (q : Q (.bl (decide (c ∈ z.cps.toList))) H) : rInU K (.str ⟨#[c]⟩) (.str z) H Q := .inr ⟨c, z, rfl, rfl, q⟩
theorem rd_ninS {c : Nat} {z : Str} (q : Q (.bl (!decide (c ∈ z.cps.toList))) H) : rNinU K (.str ⟨#[c]⟩) (.str z) H Q := .inr ⟨c, z, rfl, rfl, q⟩
theorem rd_all {a : Addr} {bs : List Bool} (h : SqL K H a (bs.map V.bl)) (q : Q (.bl (bs.all id)) H) : rAll K [.ref a] H Q := ⟨a, bs, rfl, h, q⟩
theorem rd_isStr {z : Str} (q : Q (.bl true) H) : rIsi K [.str z, .ty "str"] H Q := ⟨_, _, _, _, true, rfl, .ty _, .base (.str _), rfl, q⟩
theorem rd_lst {t : TA} (q : t σ H fun xs H1 => xs.length ≤ sizeLine ∧ ∀ p, H1 p = none → Q (.ref p) (upd H1 p (.lst xs))) : tLst t σ H Q := q
theorem rd_tup {t : TA} (q : t σ H fun xs H1 => xs.length ≤ sizeLine ∧ ∀ p, H1 p = none → Q (.ref p) (upd H1 p (.tup xs))) : tTup t σ H Q := q
theorem rd_set {p : Addr} {k : Int} {v : V} {xs : List V} {j : Nat} {Q : Hp → Prop} (h : H p = some (.lst xs)) (a : ixN xs.length k = some j) (q : Q (upd H p (.lst (xs.set j v)))) : rSetL (.ref p) (.int k) v H Q := ⟨p, xs, k, j, rfl, rfl, h, a, q⟩
end
/-! ### what stays: all but the objects of ms, and the tables of code objects -/
open LamX in
structure Ext (T : List (Addr × Str)) (ms : List Addr) (H H' : Hp) : Prop where
  keep : ∀ b o, b ∉ ms → (∀ ps, o ≠ .tbl ps) → H b = some o → H' b = some o
  tabs : LamX.Tabs T H → LamX.Tabs T H'
/-- nothing but a table of code objects stands there -/
def Nw (H : Hp) (p : Addr) : Prop := ∀ o, H p = some o → ∃ ps, o = .tbl ps
theorem Nw.of {H : Hp} {p : Addr} (h : H p = none) : Nw H p := fun o e => by
  rw [h] at e
  cases e
theorem Nw.ne {H : Hp} {p q : Addr} {o : HO} (f : Nw H p) (h : H q = some o) (hn : ∀ ps, o ≠ .tbl ps) : q ≠ p := fun z => by
  rw [z] at h
  obtain ⟨ps, e⟩ := f o h
  exact hn ps e
theorem Nw.lst {H : Hp} {p q : Addr} {xs : List V} (f : Nw H p) (h : H q = some (.lst xs)) : q ≠ p := f.ne h fun _ z => by cases z
theorem Nw.tup {H : Hp} {p q : Addr} {xs : List V} (f : Nw H p) (h : H q = some (.tup xs)) : q ≠ p := f.ne h fun _ z => by cases z
section
variable {T : List (Addr × Str)} {ms : List Addr} {K : PySem.W.Frag} {H H1 H2 : Hp}
theorem Ext.back {p : Addr} (e : Ext T ms H H1) (hp : p ∉ ms) (f : Nw H1 p) : Nw H p := fun o ho => Classical.byContradiction fun n => n (f o (e.keep p o hp (fun ps z => n ⟨ps, z⟩) ho))
theorem Ext.refl : Ext T ms H H := ⟨fun _ _ _ _ h => h, id⟩
theorem Ext.trans (a : Ext T ms H H1) (b : Ext T ms H1 H2) : Ext T ms H H2 := ⟨fun c o hc hn h => b.keep c o hc hn (a.keep c o hc hn h), fun t => b.tabs (a.tabs t)⟩
theorem Ext.same (s : Same H H1) : Ext T ms H H1 := ⟨fun c o _ _ h => s c o h, fun t => t.ext s⟩
theorem Ext.new {p : Addr} {o : HO} (h : H p = none) : Ext T ms H (upd H p o) := .same fun b x e => by
  rw [upd_ne (ne_of_none e h)]
  exact e
theorem Ext.wide {ms' : List Addr} (a : Ext T ms H H1) (h : ∀ b, b ∈ ms → b ∈ ms') : Ext T ms' H H1 := ⟨fun c o hc hn => a.keep c o (fun z => hc (h c z)) hn, a.tabs⟩
theorem Ext.any (a : Ext T [] H H1) : Ext T ms H H1 := a.wide fun b h => absurd h (by simp)
/-- a list that may change is changed -/
theorem Ext.mut {p : Addr} {xs : List V} {u : HO} (hp : p ∈ ms) (h : H p = some (.lst xs)) : Ext T ms H (upd H p u) := ⟨fun b x hb _ e => by
  rw [upd_ne (fun z => hb (by rw [z]; exact hp))]
  exact e, fun t q hq => by
  obtain ⟨ps, h1, h2, h3⟩ := t q hq
  refine ⟨ps, ?_, h2, fun pos cv hc => ?_⟩
  · rw [upd_ne]
    · exact h1
    · intro z
      rw [z, h] at h1
      cases h1
  · obtain ⟨c, e1, e2⟩ := h3 pos cv hc
    refine ⟨c, e1, ?_⟩
    rw [upd_ne]
    · exact e2
    · intro z
      rw [z, h] at e2
      unfold LamX.CodeO at e2
      cases e2⟩
theorem Ext.lst {p : Addr} {xs : List V} (e : Ext T ms H H1) (hp : p ∉ ms) (h : H p = some (.lst xs)) : H1 p = some (.lst xs) := e.keep p _ hp (fun _ z => by cases z) h
theorem Ext.tup {p : Addr} {xs : List V} (e : Ext T ms H H1) (hp : p ∉ ms) (h : H p = some (.tup xs)) : H1 p = some (.tup xs) := e.keep p _ hp (fun _ z => by cases z) h
theorem Ext.seqL {a : Addr} {xs : List V} (e : Ext T ms H H1) (ha : a ∉ ms) (h : SqL K H a xs) : SqL K H1 a xs := by
  rcases h with (h | ⟨o, h⟩) | h
  · exact .inl (.inl (e.keep a _ ha (fun _ z => by cases z) h))
  · exact .inl (.inr ⟨o, e.keep a _ ha (fun _ z => by cases z) h⟩)
  · exact .inr h
theorem Ext.seqT {a : Addr} {xs : List V} (e : Ext T ms H H1) (ha : a ∉ ms) (h : SqT K H a xs) : SqT K H1 a xs := by
  rcases h with (h | ⟨o, h⟩) | h
  · exact .inl (.inl (e.keep a _ ha (fun _ z => by cases z) h))
  · exact .inl (.inr ⟨o, e.keep a _ ha (fun _ z => by cases z) h⟩)
  · exact .inr h
end
/-! ### the law's tape -/
/-- the tape at t: the script's list at l, its place, what is left of a cell, the running number, the budget -/
def Tape (l : Addr) (H : Hp) (t : Addr) : Prop := ∃ (ns : List Int) (pos : Nat) (rest st bud : Int), H t = some (.lst [.ref l, .int (pos : Int), .int rest, .int st, .int bud]) ∧ H l = some (.lst (ns.map V.int)) ∧ l ≠ t ∧ 0 ≤ rest ∧ 0 ≤ st
theorem Tape.ext {T : List (Addr × Str)} {H H1 : Hp} {l t : Addr} (p : Tape l H t) (e : Ext T [] H H1) : Tape l H1 t := by
  obtain ⟨ns, pos, rest, st, bud, h1, h2, h3⟩ := p
  exact ⟨ns, pos, rest, st, bud, e.lst (by simp) h1, e.lst (by simp) h2, h3⟩
theorem Tape.upd {H : Hp} {l t q : Addr} {o : HO} (p : Tape l H t) (h : H q = none) : Tape l (upd H q o) t := p.ext (T := []) (.new h)
/-- another object is changed -/
theorem Tape.own {H : Hp} {l t q : Addr} {o : HO} (p : Tape l H t) (h1 : q ≠ t) (h2 : q ≠ l) : Tape l (L2.upd H q o) t := by
  obtain ⟨ns, pos, rest, st, bud, a1, a2, h3⟩ := p
  exact ⟨ns, pos, rest, st, bud, by rw [upd_ne h1.symm]; exact a1, by rw [upd_ne h2.symm]; exact a2, h3⟩
theorem Tape.ne {H : Hp} {l t q : Addr} (p : Tape l H t) (h : Nw H q) : q ≠ t ∧ q ≠ l := by
  obtain ⟨ns, pos, rest, st, bud, a1, a2, _⟩ := p
  exact ⟨(h.lst a1).symm, (h.lst a2).symm⟩
def mixI (n : Int) : Int :=
  ((n * 6364136223846793005 + 1442695040888963407) % 18446744073709551616 * ((n * 6364136223846793005 + 1442695040888963407) % 18446744073709551616) / 4294967296 + (n * 6364136223846793005 + 1442695040888963407) % 18446744073709551616 * 69621) % 18446744073709551557
theorem mixI_nn (n : Int) : 0 ≤ mixI n := Int.emod_nonneg _ (by decide)
def spMix : Sp := fun vs H Q _ => ∃ n : Int, vs = [.int n] ∧ Q (.int (mixI n)) H
def spTape (T : List (Addr × Str)) (K : PySem.W.Frag) : Sp := fun vs H Q _ => ∃ (a : Addr) (ns : List Int) (b : Int), vs = [.ref a, .int b] ∧ SqL K H a (ns.map V.int) ∧ ns.length ≤ 63 ∧ ∀ t l H', Nw H t → Ext T [] H H' → Tape l H' t → Q (.ref t) H'
def spTake (T : List (Addr × Str)) : Sp := fun vs H Q _ => ∃ (l t : Addr) (m : Int), vs = [.ref t, .int m] ∧ 0 < m ∧ m < 2 ^ 64 ∧ Tape l H t ∧ ∀ d H', 0 ≤ d → d < m → Ext T [t] H H' → Tape l H' t → Q (.int d) H'

section
variable {T : List (Addr × Str)} {ms : List Addr} {K : PySem.W.Frag} {H H1 H2 : Hp}
/-- an own new list is changed -/
theorem Ext.own {p : Addr} {xs : List V} {u : HO} (e : Ext T ms H H1) (hn : Nw H p) (h : H1 p = some (.lst xs)) : Ext T ms H (upd H1 p u) := ⟨fun b x hb hx q => by
  rw [upd_ne (hn.ne q hx)]
  exact e.keep b x hb hx q, fun t => (Ext.mut (T := T) (ms := [p]) (u := u) (by simp) h).tabs (e.tabs t)⟩
theorem Ext.newR {p : Addr} {o : HO} (e : Ext T ms H H1) (h : H1 p = none) : Ext T ms H (upd H1 p o) := e.trans (.new h)
theorem Ext.mutR {p : Addr} {xs : List V} {u : HO} (e : Ext T ms H H1) (hp : p ∈ ms) (h : H1 p = some (.lst xs)) : Ext T ms H (upd H1 p u) := e.trans (.mut hp h)
theorem wipe1 {σ : L2.St} {k : Nat} {v : Option V} : wipe ((wipe σ [k]).set k v) [k] = wipe σ [k] := by
  show ((σ.set k none).set k v).set k none = σ.set k none
  rw [List.set_set, List.set_set]
/-- a comprehension over one name whose test and element are functions of the item -/
theorem lc_pure {J : It} {n : Nat} {G : Hp → Prop} {Y : Nat → Hp → V → Hp → Prop} {tt : TT} {te : TE} {σ : L2.St} {D : Addr} {Qd : Hp → Prop} {k : Nat} (w : Walk J n G Y) (xs : List V) (hn : n = xs.length) (hY : ∀ i H x H', Y i H x H' → H' = H ∧ xs[i]? = some x) (hD : H1 D = none)
    (hG : ∀ H, Ext T ms H1 H → G H) (p : V → Bool) (f : V → V) (hl : xs.length < sizeLine)
    (step : ∀ x ∈ xs, ∀ H, Ext T ms H1 H → ∀ (R : V → Hp → Prop) (S : Hp → Prop), (p x = true → ∀ H2, Ext T ms H H2 → R (f x) H2) → (p x = false → ∀ H2, Ext T ms H H2 → S H2) →
      tt ((wipe σ [k]).set k (some x)) H fun b H2 => if b = true then te ((wipe σ [k]).set k (some x)) H2 R else S H2)
    (hDm : D ∉ ms) (hd : ∀ H, Ext T ms H1 H → H D = some (.lst ((xs.filter p).map f)) → Qd H) :
    ∃ W : Nat → Nat → Hp → Prop, (∃ z, W 0 z (upd H1 D (.lst []))) ∧ ∀ j z H, W j z H →
      (J.stop j H ∧ Qd H) ∨ (J.go j H ∧ ∃ Nx : Hp → Prop, (∀ H', Nx H' → ∃ y, y < z ∧ W (j + 1) y H') ∧ ∀ x H', J.yld j H x H' → gName k x (wipe σ [k]) H' fun σ2 H2 => wipe σ2 [k] = wipe σ [k] ∧ tt σ2 H2 fun b H3 =>
        if b = true then te σ2 H3 fun y H4 => ∃ acc, H4 D = some (.lst acc) ∧ acc.length < sizeLine ∧ Nx (upd H4 D (.lst (acc ++ [y]))) else Nx H3) := by
  refine lc_it w (fun i H => Ext T ms H1 H ∧ H D = some (.lst (((xs.take i).filter p).map f))) ⟨.new hD, by rw [List.take_zero]; exact upd_same⟩ (fun i H _ h => hG H h.1) (fun i x H H' hi h y => ?_) (fun H h => ?_)
  · obtain ⟨e1, e2⟩ := hY i H x H' y
    subst e1
    obtain ⟨h1, h2⟩ := h
    have hx : x ∈ xs := List.mem_of_getElem? e2
    have et : xs.take (i + 1) = xs.take i ++ [x] := by rw [List.take_add_one, e2]; rfl
    refine ⟨wipe1, step x hx H' h1 _ _ (fun hp H2 e => ⟨_, e.lst hDm h2, ?_, ?_⟩) (fun hp H2 e => ?_)⟩
    · refine Nat.lt_of_le_of_lt ?_ hl
      rw [List.length_map]
      exact Nat.le_trans (List.length_filter_le _ _) (by rw [List.length_take]; exact Nat.min_le_right _ _)
    · refine ⟨(h1.trans e).own (.of hD) (e.lst hDm h2), ?_⟩
      rw [upd_same, et, List.filter_append, List.map_append, List.filter_cons_of_pos hp]
      rfl
    · refine ⟨h1.trans e, ?_⟩
      rw [et, List.filter_append, List.filter_cons_of_neg (by rw [hp]; decide), List.filter_nil, List.append_nil]
      exact e.lst hDm h2
  · obtain ⟨h1, h2⟩ := h
    rw [hn, List.take_length] at h2
    exact hd H h1 h2
end
/-! ### a list or a tuple walked -/
def iSeq (K : PySem.W.Frag) (tl : TE) : TI := fun σ H R => tl σ H fun x H1 => ∃ a, x = .ref a ∧ (((∃ xs, SqL K H1 a xs) ∧ R (Itl K a) H1) ∨ ((∃ xs, SqT K H1 a xs) ∧ R (Itt K a) H1))
theorem pi_seq {X : Cx} (K : PySem.W.Frag) (hK : X.K = K) {tg l : Expr} {tl : TE} (hl : PE X l tl) : PI X tg l (iSeq K tl) := by
  subst hK
  refine ⟨fun pins s σ H R I h => ?_⟩
  refine thn (hl.run pins s σ H _ I h) fun v s1 ⟨x, H1, I1, r1, a, e, q⟩ => ?_
  subst e
  cases r1
  have fr : ∀ b, b ∈ [s1.heap.objs.size] → ∀ {o : Obj}, FpOk X pins H1 b := fun b hb _ => by
    have e : b = s1.heap.objs.size := by simpa using hb
    rw [e]
    exact I1.fpOk (Nat.le_refl _) (I1.hok.fresh (Nat.le_refl _))
  rcases q with ⟨⟨xs, hq⟩, q⟩ | ⟨⟨xs, hq⟩, q⟩
  · obtain ⟨us, ru, pl, _⟩ := I1.list hq
    refine wpAny_pyIter_list pl.isList ?_
    exact ⟨s1.heap.objs.size, [s1.heap.objs.size], _, _, H1, rfl, I1.kept (t' := s1.toks) fun b o e => Heap.get?_push_of_some _ e, turn_list a _, ⟨_, Heap.get?_push_size _ rfl, rfl, rfl⟩, fun b hb => fr b hb (o := default), q⟩
  · obtain ⟨us, ru, pl, _⟩ := I1.tuple hq
    refine wpAny_pyIter_tuple (show s1.heap.IsTuple a us.toArray from pl) ?_
    exact ⟨s1.heap.objs.size, [s1.heap.objs.size], _, _, H1, rfl, I1.kept (t' := s1.toks) fun b o e => Heap.get?_push_of_some _ e, turn_tuple a _, ⟨_, Heap.get?_push_size _ rfl, rfl, rfl⟩, fun b hb => fr b hb (o := default), q⟩
/-! ### texts as lists of signs -/
abbrev sg (z : Str) : List Nat := z.cps.toList
theorem sg_len (z : Str) : (sg z).length = z.length := Array.length_toList
theorem sg_inj {a b : Str} (h : sg a = sg b) : a = b := TL.ext_tl h
theorem sg_app (a b : Str) : sg (a ++ b) = sg a ++ sg b := TL.tl_append a b
theorem endswith_iff (x y : Str) : Txt.endswith x y = true ↔ sg y <:+ sg x := by
  unfold Txt.endswith
  rw [StrLaws.subAt_eq, Bool.and_eq_true, decide_eq_true_eq, beq_iff_eq]
  rw [List.suffix_iff_eq_drop, ← sg_len, ← sg_len]
  have hx : x.cps.toList.length = (sg x).length := rfl
  constructor
  · rintro ⟨h1, h2⟩
    rw [List.take_of_length_le (by rw [List.length_drop]; omega)] at h2
    exact h2.symm
  · intro h
    have hl := congrArg List.length h
    rw [List.length_drop] at hl
    refine ⟨by omega, ?_⟩
    rw [List.take_of_length_le (by rw [List.length_drop]; omega)]
    exact h.symm

/-! ### comprehensions, read -/
def LcG (J : It) (g : TG) (tt : TT) (te : TE) (vs : List Nat) (σ : L2.St) (H1 : Hp) (Q : VK) : Prop := ∀ D, H1 D = none → ∃ W : Nat → Nat → Hp → Prop, (∃ z, W 0 z (upd H1 D (.lst []))) ∧ ∀ j z H, W j z H →
  (J.stop j H ∧ Q (.ref D) H) ∨ (J.go j H ∧ ∃ Nx : Hp → Prop, (∀ H', Nx H' → ∃ y, y < z ∧ W (j + 1) y H') ∧ ∀ x H', J.yld j H x H' → g x (wipe σ vs) H' fun σ2 H2 => wipe σ2 vs = wipe σ vs ∧ tt σ2 H2 fun b H3 =>
    if b = true then te σ2 H3 fun y H4 => ∃ acc, H4 D = some (.lst acc) ∧ acc.length < sizeLine ∧ Nx (upd H4 D (.lst (acc ++ [y]))) else Nx H3)
section
variable {K : PySem.W.Frag} {σ : L2.St} {H H1 : Hp} {Q : VK} {wi : TI} {g : TG} {tt : TT} {te : TE} {vs : List Nat} {R : It → Hp → Prop}
theorem rd_lc (q : wi σ H fun J H1 => LcG J g tt te vs σ H1 Q) : tLc wi g tt te vs σ H Q := q
theorem rd_iStr (q : te σ H fun v H1 => ∃ x, v = .str x ∧ R (Its x) H1) : iStr te σ H R := q
theorem rd_exStr {z : Str} {P : Str → Prop} (q : P z) : ∃ x, V.str z = .str x ∧ P x := ⟨z, rfl, q⟩
theorem rd_exRef {a : Addr} {P : Addr → Prop} (q : P a) : ∃ x, V.ref a = .ref x ∧ P x := ⟨a, rfl, q⟩
theorem rd_exInt {a : Int} {P : Int → Prop} (q : P a) : ∃ x, V.int a = .int x ∧ P x := ⟨a, rfl, q⟩
theorem rd_exInts {a : Int} {P : Int → Prop} (q : P a) : ∃ x, [V.int a] = [.int x] ∧ P x := ⟨a, rfl, q⟩
theorem rd_seqL {a : Addr} {xs : List V} {B C : Prop} (h : SqL K H1 a xs) (q : B) : ((∃ xs, SqL K H1 a xs) ∧ B) ∨ C := .inl ⟨⟨xs, h⟩, q⟩
theorem rd_seqT {a : Addr} {xs : List V} {B C : Prop} (h : SqT K H1 a xs) (q : B) : C ∨ ((∃ xs, SqT K H1 a xs) ∧ B) := .inr ⟨⟨xs, h⟩, q⟩
theorem rd_iSeq (q : te σ H fun x H1 => ∃ a, x = .ref a ∧ (((∃ xs, SqL K H1 a xs) ∧ R (Itl K a) H1) ∨ ((∃ xs, SqT K H1 a xs) ∧ R (Itt K a) H1))) : iSeq K te σ H R := q
theorem rd_rng {ta : TA} (q : ta σ H fun vs H1 => ∃ j : Int, vs = [.int j] ∧ -(2 ^ 62) ≤ j ∧ j < 2 ^ 62 ∧ R (Itr 0 j.toNat) H1) : iRng1 ta σ H R := q
/-- the signs of a text, each a text -/
def chrs (z : Str) : List V := (sg z).map fun c => .str ⟨#[c]⟩
variable (T : List (Addr × Str)) (ms : List Addr)
theorem lcg_str {z : Str} {k : Nat} (p : V → Bool) (f : V → V) (hz : z.length < sizeLine) (hm : ∀ D, H D = none → D ∉ ms)
    (step : ∀ x ∈ chrs z, ∀ H', Ext T ms H H' → ∀ (R : V → Hp → Prop) (S : Hp → Prop), (p x = true → ∀ H2, Ext T ms H' H2 → R (f x) H2) → (p x = false → ∀ H2, Ext T ms H' H2 → S H2) →
      tt ((wipe σ [k]).set k (some x)) H' fun b H2 => if b = true then te ((wipe σ [k]).set k (some x)) H2 R else S H2)
    (q : ∀ D H2, Nw H D → Ext T ms H H2 → H2 D = some (.lst (((chrs z).filter p).map f)) → Q (.ref D) H2) : LcG (Its z) (gName k) tt te [k] σ H Q := fun D hD =>
  lc_pure walk_str (chrs z) (by rw [chrs, List.length_map, sg_len]; rfl) (fun i H x H' y => by
    obtain ⟨e, c, h1, h2⟩ := y
    refine ⟨e, ?_⟩
    rw [chrs, List.getElem?_map, h2, show (sg z)[i]? = some c by rw [← h1]; exact Array.getElem?_toList]
    rfl) hD (fun _ _ => True.intro) p f (by rw [chrs, List.length_map, sg_len]; exact hz) step (hm D hD) fun H2 e h => q D H2 (.of hD) e h
theorem lcg_list {a : Addr} {xs : List V} {k : Nat} (h : SqL K H a xs) (p : V → Bool) (f : V → V) (hz : xs.length < sizeLine) (ha : a ∉ ms) (hm : ∀ D, H D = none → D ∉ ms)
    (step : ∀ x ∈ xs, ∀ H', Ext T ms H H' → ∀ (R : V → Hp → Prop) (S : Hp → Prop), (p x = true → ∀ H2, Ext T ms H' H2 → R (f x) H2) → (p x = false → ∀ H2, Ext T ms H' H2 → S H2) →
      tt ((wipe σ [k]).set k (some x)) H' fun b H2 => if b = true then te ((wipe σ [k]).set k (some x)) H2 R else S H2)
    (q : ∀ D H2, Nw H D → Ext T ms H H2 → H2 D = some (.lst ((xs.filter p).map f)) → Q (.ref D) H2) : LcG (Itl K a) (gName k) tt te [k] σ H Q := fun D hD =>
  lc_pure walk_list xs rfl (fun i H x H' y => y) hD (fun H' e => e.seqL ha h) p f hz step (hm D hD) fun H2 e h => q D H2 (.of hD) e h
theorem lcg_tup {a : Addr} {xs : List V} {k : Nat} (h : SqT K H a xs) (p : V → Bool) (f : V → V) (hz : xs.length < sizeLine) (ha : a ∉ ms) (hm : ∀ D, H D = none → D ∉ ms)
    (step : ∀ x ∈ xs, ∀ H', Ext T ms H H' → ∀ (R : V → Hp → Prop) (S : Hp → Prop), (p x = true → ∀ H2, Ext T ms H' H2 → R (f x) H2) → (p x = false → ∀ H2, Ext T ms H' H2 → S H2) →
      tt ((wipe σ [k]).set k (some x)) H' fun b H2 => if b = true then te ((wipe σ [k]).set k (some x)) H2 R else S H2)
    (q : ∀ D H2, Nw H D → Ext T ms H H2 → H2 D = some (.lst ((xs.filter p).map f)) → Q (.ref D) H2) : LcG (Itt K a) (gName k) tt te [k] σ H Q := fun D hD =>
  lc_pure walk_tup xs rfl (fun i H x H' y => y) hD (fun H' e => e.seqT ha h) p f hz step (hm D hD) fun H2 e h => q D H2 (.of hD) e h
end
/-- over a range, the elements drawn from the tape -/
theorem lcg_range_tape (T : List (Addr × Str)) {σ : L2.St} {H : Hp} {Q : VK} {te : TE} {n k : Nat} {l t : Addr} (hT : Tape l H t) (Pr : V → Prop) (hn : n < sizeLine)
    (step : ∀ (i : Nat) H', i < n → Ext T [t] H H' → Tape l H' t → ∀ R : VK, (∀ v H2, Pr v → Ext T [t] H' H2 → Tape l H2 t → R v H2) → te ((wipe σ [k]).set k (some (.int (0 + (i : Int))))) H' R)
    (q : ∀ D H2 vs, Nw H D → Ext T [t] H H2 → Tape l H2 t → H2 D = some (.lst vs) → vs.length = n → (∀ v ∈ vs, Pr v) → Q (.ref D) H2) : LcG (Itr 0 n) (gName k) tYes te [k] σ H Q := fun D hD => by
  obtain ⟨nt, nl⟩ := hT.ne (.of hD)
  refine lc_it walk_range (fun i H2 => Ext T [t] H H2 ∧ Tape l H2 t ∧ ∃ vs, H2 D = some (.lst vs) ∧ vs.length = i ∧ ∀ v ∈ vs, Pr v) ⟨.new hD, hT.upd hD, [], upd_same, rfl, by simp⟩ (fun _ _ _ _ => True.intro) (fun i x H1 H' hi h y => ?_) (fun H1 h => ?_)
  · obtain ⟨e1, e2⟩ := y
    subst e1
    subst e2
    obtain ⟨h1, h2, vs, h3, h4, h5⟩ := h
    refine ⟨wipe1, step i H' hi h1 h2 _ fun v H2 hp e t2 => ?_⟩
    have h3' := e.lst (show D ∉ [t] by simpa using nt) h3
    refine ⟨vs, h3', by omega, (h1.trans e).own (.of hD) h3', t2.own nt nl, vs ++ [v], upd_same, by rw [List.length_append, h4]; rfl, fun u hu => ?_⟩
    rcases List.mem_append.mp hu with hu | hu
    · exact h5 u hu
    · rw [List.mem_singleton.mp hu]
      exact hp
  · obtain ⟨h1, h2, vs, h3, h4, h5⟩ := h
    exact q D H1 vs (.of hD) h1 h2 h3 h4 h5
/-! ### loops, read -/
def ForG (J : It) (g : TG) (tb : TS) (D : Ends) (σ : L2.St) (H1 : Hp) : Prop := ∃ W : Nat → Nat → L2.St → Hp → Prop, (∃ z, W 0 z σ H1) ∧ ∀ j z σ H, W j z σ H →
  (J.stop j H ∧ D.nx σ H) ∨ (J.go j H ∧ ∃ N : L2.St → Hp → Prop, (∀ σ' H', N σ' H' → ∃ y, y < z ∧ W (j + 1) y σ' H') ∧ ∀ x H', J.yld j H x H' → g x σ H' fun σ2 H2 => tb { D with nx := N, ct := N, bk := D.nx } σ2 H2)
section
variable {K : PySem.W.Frag} {σ : L2.St} {H H1 : Hp} {wi : TI} {g : TG} {tb : TS} {nx bk ct : L2.St → Hp → Prop} {rt : VK}
theorem rd_for {D : Ends} (q : wi σ H fun J H1 => ForG J g tb D σ H1) : tFor wi g tb D σ H := q
theorem forg_it {J : It} {n : Nat} {G : Hp → Prop} {Y : Nat → Hp → V → Hp → Prop} (w : Walk J n G Y) (Pv : Nat → L2.St → Hp → Prop) (h0 : Pv 0 σ H) (hG : ∀ i σ H, i ≤ n → Pv i σ H → G H)
    (hs : ∀ i x σ H H', i < n → Pv i σ H → Y i H x H' → g x σ H' fun σ2 H2 => tb ⟨Pv (i + 1), rt, nx, Pv (i + 1)⟩ σ2 H2) (hd : ∀ σ H, Pv n σ H → nx σ H) : ForG J g tb ⟨nx, rt, bk, ct⟩ σ H := for_it w Pv h0 hG hs hd
theorem forg_str {z : Str} (Pv : Nat → L2.St → Hp → Prop) (h0 : Pv 0 σ H) (hs : ∀ i c σ H, (sg z)[i]? = some c → Pv i σ H → g (.str ⟨#[c]⟩) σ H fun σ2 H2 => tb ⟨Pv (i + 1), rt, nx, Pv (i + 1)⟩ σ2 H2) (hd : ∀ σ H, Pv (sg z).length σ H → nx σ H) :
    ForG (Its z) g tb ⟨nx, rt, bk, ct⟩ σ H := forg_it walk_str Pv h0 (fun _ _ _ _ _ => True.intro) (fun i x σ H H' hi p y => by
  obtain ⟨e, c, h1, h2⟩ := y
  rw [e, h2]
  exact hs i c σ H (by rw [← h1]; exact Array.getElem?_toList) p) fun σ H h => hd σ H (by rw [sg_len]; exact h)
theorem forg_list {a : Addr} {xs : List V} (Pv : Nat → L2.St → Hp → Prop) (h0 : Pv 0 σ H) (hl : ∀ i σ H, i ≤ xs.length → Pv i σ H → SqL K H a xs)
    (hs : ∀ i x σ H, xs[i]? = some x → Pv i σ H → g x σ H fun σ2 H2 => tb ⟨Pv (i + 1), rt, nx, Pv (i + 1)⟩ σ2 H2) (hd : ∀ σ H, Pv xs.length σ H → nx σ H) : ForG (Itl K a) g tb ⟨nx, rt, bk, ct⟩ σ H :=
  forg_it walk_list Pv h0 hl (fun i x σ H H' hi p y => by
    rw [y.1]
    exact hs i x σ H y.2 p) hd
theorem forg_tup {a : Addr} {xs : List V} (Pv : Nat → L2.St → Hp → Prop) (h0 : Pv 0 σ H) (hl : ∀ i σ H, i ≤ xs.length → Pv i σ H → SqT K H a xs)
    (hs : ∀ i x σ H, xs[i]? = some x → Pv i σ H → g x σ H fun σ2 H2 => tb ⟨Pv (i + 1), rt, nx, Pv (i + 1)⟩ σ2 H2) (hd : ∀ σ H, Pv xs.length σ H → nx σ H) : ForG (Itt K a) g tb ⟨nx, rt, bk, ct⟩ σ H :=
  forg_it walk_tup Pv h0 hl (fun i x σ H H' hi p y => by
    rw [y.1]
    exact hs i x σ H y.2 p) hd
theorem forg_range {lo : Int} {n : Nat} (Pv : Nat → L2.St → Hp → Prop) (h0 : Pv 0 σ H)
    (hs : ∀ (i : Nat) σ H, i < n → Pv i σ H → g (.int (lo + i)) σ H fun σ2 H2 => tb ⟨Pv (i + 1), rt, nx, Pv (i + 1)⟩ σ2 H2) (hd : ∀ σ H, Pv n σ H → nx σ H) : ForG (Itr lo n) g tb ⟨nx, rt, bk, ct⟩ σ H :=
  forg_it walk_range Pv h0 (fun _ _ _ _ _ => True.intro) (fun i x σ H H' hi p y => by
    obtain ⟨e1, e2⟩ := y
    rw [e1, e2]
    exact hs i σ H hi p) hd
end
theorem rd_ntt {A B : Prop} (h : B) : if (!true) = true then A else B := h
theorem rd_nff {A B : Prop} (h : A) : if (!false) = true then A else B := h
theorem rd_cut {σ : L2.St} {H : Hp} {nx bk ct : L2.St → Hp → Prop} {rt : VK} {t u : TS} (Mid : L2.St → Hp → Prop) (h1 : ∀ nx' : L2.St → Hp → Prop, (∀ σ' H', Mid σ' H' → nx' σ' H') → t ⟨nx', rt, bk, ct⟩ σ H) (h2 : ∀ σ' H', Mid σ' H' → u ⟨nx, rt, bk, ct⟩ σ' H') : tSeq t u ⟨nx, rt, bk, ct⟩ σ H := h1 _ h2
theorem rd_cutE {te : TE} {σ : L2.St} {H : Hp} {Q : VK} (Mid : V → Hp → Prop) (h1 : ∀ Q' : VK, (∀ v H', Mid v H' → Q' v H') → te σ H Q') (h2 : ∀ v H', Mid v H' → Q v H') : te σ H Q := h1 Q h2
theorem filtT {α : Type} (l : List α) : l.filter (fun _ => true) = l := List.filter_eq_self.mpr fun _ _ => rfl
/-! ### further steps -/
section
variable {K : PySem.W.Frag} {σ : L2.St} {H : Hp} {Q : VK} {te : TE}
theorem rd_tyes {Q : Bool → Hp → Prop} (q : Q true H) : tYes σ H Q := q
theorem dec_str (a b : Str) : decide (V.str a = V.str b) = decide (a = b) := by
  by_cases h : a = b
  · rw [h]
    simp
  · rw [decide_eq_false h]
    exact decide_eq_false fun z => h (V.str.inj z)
theorem dec_intV (a b : Int) : decide (V.int a = V.int b) = decide (a = b) := by
  by_cases h : a = b
  · rw [h]
    simp
  · rw [decide_eq_false h]
    exact decide_eq_false fun z => h (V.int.inj z)
theorem dec_bl (a b : Bool) : decide (V.bl a = V.bl b) = decide (a = b) := by
  by_cases h : a = b
  · rw [h]
    simp
  · rw [decide_eq_false h]
    exact decide_eq_false fun z => h (V.bl.inj z)
theorem rd_isBool {z : Bool} (q : Q (.bl true) H) : rIsi K [.bl z, .ty "bool"] H Q := ⟨_, _, _, _, true, rfl, .ty _, .base (.bl _), rfl, q⟩
theorem rd_ixS {z : Str} {i : Int} {c : Nat} (hz : z.length ≤ sizeLine) (h : atI z.cps.toList i = some c) (q : Q (.str ⟨#[c]⟩) H) : rIx K (.str z) (.int i) H Q := .inr (.inr ⟨z, i, c, rfl, rfl, hz, h, q⟩)
theorem rd_cat {a b : Addr} {xs ys : List V} (h1 : H a = some (.lst xs)) (h2 : H b = some (.lst ys)) (c : xs.length + ys.length ≤ sizeLine) (q : ∀ p, H p = none → Q (.ref p) (upd H p (.lst (xs ++ ys)))) : rPlus K (.ref a) (.ref b) H Q := .inr (.inr (.inl ⟨a, b, xs, ys, rfl, rfl, h1, h2, c, q⟩))
theorem rd_slS {z : Str} {lo hi : Option Int} (hz : z.length ≤ sizeLine) (q : Q (.str (cutS z lo hi)) H) : rSlU K (.str z) lo hi H Q := .inr (.inl ⟨z, rfl, hz, q⟩)
theorem rd_slL {a : Addr} {xs : List V} {lo hi : Option Int} (h : SqL K H a xs) (q : ∀ p, H p = none → Q (.ref p) (upd H p (.lst (cutV xs lo hi)))) : rSlU K (.ref a) lo hi H Q := .inl ⟨a, xs, rfl, h, q⟩
theorem rd_sl {r : V → Option Int → Option Int → Hp → VK → Prop} {tl th : TO} (q : te σ H fun x H1 => tl σ H1 fun lo H2 => th σ H2 fun hi H3 => r x lo hi H3 Q) : tSl r te tl th σ H Q := q
theorem rd_noP {Q : Option Int → Hp → Prop} (q : Q none H) : tNoPart σ H Q := q
theorem rd_part {Q : Option Int → Hp → Prop} (q : te σ H fun v H1 => ∃ i, v = .int i ∧ Q (some i) H1) : tPart te σ H Q := q
theorem rd_eqStr {a b : Str} (q : Q (.bl (decide (a = b))) H) : rEqU K (.str a) (.str b) H Q := .inl ⟨rfl, by rw [dec_str]; exact q⟩
theorem rd_neStr {a b : Str} (q : Q (.bl (!decide (a = b))) H) : rNeU K (.str a) (.str b) H Q := .inl ⟨rfl, by rw [dec_str]; exact q⟩
theorem rd_eqInt {a b : Int} (q : Q (.bl (decide (a = b))) H) : rEqU K (.int a) (.int b) H Q := .inl ⟨rfl, by rw [dec_intV]; exact q⟩
theorem rd_neInt {a b : Int} (q : Q (.bl (!decide (a = b))) H) : rNeU K (.int a) (.int b) H Q := .inl ⟨rfl, by rw [dec_intV]; exact q⟩
theorem rd_eqBl {a b : Bool} (q : Q (.bl (decide (a = b))) H) : rEqU K (.bl a) (.bl b) H Q := .inl ⟨rfl, by rw [dec_bl]; exact q⟩
theorem rd_rev (q : te σ H fun x H1 => ∃ a xs, x = .ref a ∧ SqL K H1 a xs ∧ ∀ p, H1 p = none → Q (.ref p) (upd H1 p (.lst xs.reverse))) : tRevL K te σ H Q := q
theorem rd_revL {a : Addr} {xs : List V} (h : SqL K H a xs) (q : ∀ p, H p = none → Q (.ref p) (upd H p (.lst xs.reverse))) : ∃ b ys, V.ref a = .ref b ∧ SqL K H b ys ∧ ∀ p, H p = none → Q (.ref p) (upd H p (.lst ys.reverse)) := ⟨a, xs, rfl, h, q⟩
theorem rd_exA {a : Str} {P : Prop} (q : P) : (∃ b, V.str a = .str b) ∧ P := ⟨⟨a, rfl⟩, q⟩
def tFs (ts : List TE) : TE := fun σ H Q => tJs ts Str.empty σ H fun out H1 => Q (.str out) H1
theorem pe_fstr {X : Cx} {v1 v2 : Expr} {rest : List Expr} {ts : List TE} {pos : Pos} (h : PJ X (v1 :: v2 :: rest) ts) : PE X (.JoinedStr (v1 :: v2 :: rest) pos) (tFs ts) := pe_joined h
theorem rd_fs {ts : List TE} (q : tJs ts Str.empty σ H fun out H1 => Q (.str out) H1) : tFs ts σ H Q := q
theorem rd_jc {t : TE} {ts : List TE} {acc : Str} {Q : Str → Hp → Prop} (q : t σ H fun x H1 => ∃ y : Str, x = .str y ∧ (acc ++ y).length ≤ sizeLine ∧ tJs ts (acc ++ y) σ H1 Q) : tJs (t :: ts) acc σ H Q := q
theorem rd_jn {acc : Str} {Q : Str → Hp → Prop} (q : Q acc H) : tJs [] acc σ H Q := q
theorem rd_fmt {t : TE} (q : t σ H fun x H1 => (∃ y : Str, x = .str y ∧ y.length ≤ sizeLine ∧ Q (.str y) H1) ∨ ∃ i : Int, x = .int i ∧ i.natAbs.log2 < 1920 ∧ Q (.str (toString i)) H1) : tFmt t σ H Q := q
theorem rd_fmtS {y : Str} {C : Prop} (h : y.length ≤ sizeLine) (q : Q (.str y) H) : (∃ z : Str, V.str y = .str z ∧ z.length ≤ sizeLine ∧ Q (.str z) H) ∨ C := .inl ⟨y, rfl, h, q⟩
theorem rd_exStrs {y : Str} {P : Str → Prop} (q : P y) : ∃ z : Str, V.str y = .str z ∧ P z := ⟨y, rfl, q⟩
theorem rd_bm {T : String} {r : V → List V → Hp → VK → Prop} {t : TA} (q : te σ H fun x H1 => tyV K T x H1 ∧ t σ H1 fun xs H2 => r x xs H2 Q) : tBM K T r te t σ H Q := q
theorem rd_tyL {p : Addr} {xs : List V} {P : Prop} (h : H p = some (.lst xs)) (q : P) : tyV K "list" (.ref p) H ∧ P := ⟨.inl ⟨rfl, xs, .inl (.inl h)⟩, q⟩
theorem rd_app {p : Addr} {xs : List V} {y : V} (h : H p = some (.lst xs)) (c : xs.length < sizeLine) (q : Q .non (upd H p (.lst (xs ++ [y])))) : rAppend (.ref p) [y] H Q := ⟨p, xs, y, rfl, rfl, h, c, q⟩
end
/-! ### a list of data, sorted -/
section
open PySem.W
def Srt (xs : List V) (ds : List PyData) (ys : List V) : Prop := EachIs (fun y d => (y, d) ∈ xs.zip ds) ys (ds.mergeSort (dataLe false id))
def rSortD (K : PySem.W.Frag) : List V → Hp → VK → Prop := fun vs H Q => ∃ (a : Addr) (xs : List V) (ds : List PyData), vs = [.ref a] ∧ SqL K H a xs ∧ DpAll K H xs ds ∧ AllAlike ds ∧ Sortable ds ∧ (∀ d ∈ ds, d.depth ≤ 60) ∧
  ∀ (ys : List V) (p : Addr), Srt xs ds ys → H p = none → Q (.ref p) (upd H p (.lst ys))
end
def dotS : Str := "."
theorem sg_dot : sg dotS = [46] := by decide +kernel
def lettersS : Str := "abcdefghijklmnopqrstuvwxyz0123456789"
def wordB (z ls : Str) (m : Int) : Bool := decide ((1 : Int) ≤ (z.length : Int)) && (decide ((z.length : Int) ≤ m) && (sg z).all fun c => decide (c ∈ sg ls))
def idB (z : Str) : Bool := wordB z lettersS 4
def labelB (z : Str) : Bool := wordB z lettersS 8
def partsL (z : Str) : List Str := Txt.split z dotS
def nameB (z : Str) : Bool := decide (z = dotS) || (decide (((partsL z).length : Int) ≤ 4) && (partsL z).all labelB)
def labelsL (z : Str) : List Str := if z = dotS then [] else (partsL z).reverse
def endsB (n o : Str) : Bool := decide (o = dotS) || (decide (n = o) || Txt.endswith n (dotS ++ o))
theorem parts_sg (z : Str) : (partsL z).map sg = TL.spl [46] 0 [] (sg z) := by
  have h := TL.split_spl z dotS (by rw [show TL.tl dotS = [46] from sg_dot]; simp) (TL.kind_ok (by decide +kernel))
  rw [show TL.tl dotS = [46] from sg_dot] at h
  exact h
/-- a text is none of its parts longer than itself -/
theorem spl_len : ∀ (l acc : List Nat), (TL.spl [46] 0 acc l).length = l.count 46 + 1
  | [], acc => rfl
  | c :: r, acc => by
    by_cases h : c = 46
    · subst h
      have e : TL.spl [46] 0 acc (46 :: r) = acc :: TL.spl [46] 0 [] r := by
        rw [TL.spl, if_pos (by rfl)]
        rfl
      rw [e, List.length_cons, spl_len r []]
      simp
    · have e : TL.spl [46] 0 acc (c :: r) = TL.spl [46] 0 (acc ++ [c]) r := by
        rw [TL.spl, if_neg]
        show ¬ (TL.pre [46] (c :: r) = true)
        unfold TL.pre
        simpa using h
      rw [e, spl_len r]
      rw [List.count_cons_of_ne h]
theorem parts_len (z : Str) : (partsL z).length = (sg z).count 46 + 1 := by
  rw [← spl_len (sg z) [], ← parts_sg, List.length_map]
theorem parts_le (z : Str) : (partsL z).length ≤ z.length + 1 := by
  have h := List.count_le_length (a := 46) (l := sg z)
  rw [sg_len] at h
  rw [parts_len]
  omega
theorem spl_mem : ∀ (l acc : List Nat) (x : List Nat), x ∈ TL.spl [46] 0 acc l → x.length ≤ acc.length + l.length
  | [], acc, x, h => by
    have h : x ∈ [acc] := h
    rw [List.mem_singleton.mp h]
    omega
  | c :: r, acc, x, h => by
    by_cases hc : c = 46
    · subst hc
      have e : TL.spl [46] 0 acc (46 :: r) = acc :: TL.spl [46] 0 [] r := by
        rw [TL.spl, if_pos (by rfl)]
        rfl
      rw [e] at h
      rcases List.mem_cons.mp h with h | h
      · rw [h]
        omega
      · have := spl_mem r [] x h
        simp only [List.length_cons, List.length_nil] at this ⊢
        omega
    · have e : TL.spl [46] 0 acc (c :: r) = TL.spl [46] 0 (acc ++ [c]) r := by
        rw [TL.spl, if_neg]
        show ¬ (TL.pre [46] (c :: r) = true)
        unfold TL.pre
        simpa using hc
      rw [e] at h
      have := spl_mem r _ x h
      simp only [List.length_cons, List.length_append, List.length_nil] at this ⊢
      omega
theorem parts_mem {z x : Str} (h : x ∈ partsL z) : x.length ≤ z.length := by
  have h1 : sg x ∈ TL.spl [46] 0 [] (sg z) := by
    rw [← parts_sg]
    exact List.mem_map_of_mem h
  have h2 := spl_mem _ _ _ h1
  rw [sg_len, sg_len] at h2
  simpa using h2
theorem fs_dot (u : Str) : (Str.empty ++ Str.ofString ".") ++ u = dotS ++ u := sg_inj (by rw [sg_app, sg_app, sg_app]; rfl)
theorem fs_len (u : Str) (h : u.length ≤ 1000) : (Str.empty ++ Str.ofString "." ++ u).length ≤ sizeLine := by
  have e : (dotS ++ u).length = 1 + u.length := by
    rw [← sg_len, sg_app, List.length_append, sg_dot, sg_len]
    rfl
  rw [fs_dot, e]
  exact Nat.le_trans (show _ ≤ 1001 by omega) (by decide)
theorem dot_len : (Str.ofString ".").length = 1 := by decide +kernel
theorem dot_app (u : Str) (h : u.length ≤ 1000) : (Str.ofString ".").length + u.length ≤ sizeLine := by
  rw [dot_len]
  exact Nat.le_trans (show _ ≤ 1001 by omega) (by decide)
/-- the law's own ends -/
def lawEndsB (n o : Str) : Bool := decide (o = dotS) || (decide (n = o) || decide (cutS n (some (-(o.length : Int) - 1)) none = dotS ++ o))
theorem sIx_tail (n k : Nat) : HT.sIx n 0 (some (-(k : Int) - 1)) = n - (k + 1) := by
  unfold HT.sIx
  simp only []
  split <;> omega
theorem cut_tail (n o : Str) : sg (cutS n (some (-(o.length : Int) - 1)) none) = (sg n).drop (n.length - (o.length + 1)) := by
  unfold cutS
  rw [sIx_tail, HT.sIx_none]
  show (List.toArray _).toList = _
  rw [List.take_of_length_le]
  rw [List.length_drop, show n.cps.toList.length = n.length from sg_len n]
  omega
theorem lawEnds_eq (n o : Str) : lawEndsB n o = endsB n o := by
  unfold lawEndsB endsB
  congr 2
  rw [Bool.eq_iff_iff, decide_eq_true_eq, endswith_iff]
  have hl : (sg (dotS ++ o)).length = o.length + 1 := by
    rw [sg_app, List.length_append, sg_dot, sg_len]
    simp
    omega
  constructor
  · intro h
    have h2 := cut_tail n o
    rw [h] at h2
    rw [h2]
    exact List.drop_suffix _ _
  · intro h
    refine sg_inj ?_
    rw [cut_tail]
    have h2 := List.suffix_iff_eq_drop.mp h
    rw [hl, sg_len] at h2
    exact h2.symm
section
variable (T : List (Addr × Str))
def spWord : Sp := fun vs H Q _ => ∃ (z ls : Str) (m : Int), vs = [.str z, .str ls, .int m] ∧ z.length ≤ 1000 ∧ ∀ H', Ext T [] H H' → Q (.bl (wordB z ls m)) H'
/-- a text in, a truth value out -/
def spTB (f : Str → Bool) : Sp := fun vs H Q _ => ∃ z : Str, vs = [.str z] ∧ z.length ≤ 1000 ∧ ∀ H', Ext T [] H H' → Q (.bl (f z)) H'
def spTTB (f : Str → Str → Bool) : Sp := fun vs H Q _ => ∃ z u : Str, vs = [.str z, .str u] ∧ z.length ≤ 1000 ∧ u.length ≤ 1000 ∧ ∀ H', Ext T [] H H' → Q (.bl (f z u)) H'
/-- a text in, a new list of texts out -/
def spTL (f : Str → List Str) : Sp := fun vs H Q _ => ∃ z : Str, vs = [.str z] ∧ z.length ≤ 1000 ∧ ∀ p H', Nw H p → Ext T [] H H' → H' p = some (.lst ((f z).map V.str)) → Q (.ref p) H'
end

/-! ### an index that lies in it -/
theorem at_in {α : Type} {l : List α} {i : Int} (h0 : 0 ≤ i) (h : i < l.length) : ∃ c, atI l i = some c ∧ l[i.toNat]? = some c ∧ c ∈ l := by
  have hi : i.toNat < l.length := by omega
  have e : i = ((i.toNat : Nat) : Int) := by omega
  obtain ⟨c, hc⟩ : ∃ c, l[i.toNat]? = some c := ⟨_, List.getElem?_eq_getElem hi⟩
  have h2 := atI_nat hc
  rw [← e] at h2
  exact ⟨c, h2, hc, List.mem_of_getElem? hc⟩
def spText (T : List (Addr × Str)) : Sp := fun vs H Q _ => ∃ (l t : Addr) (m : Int), vs = [.ref t, .int m] ∧ 0 < m ∧ m < 100 ∧ Tape l H t ∧ ∀ z H', (z.length : Int) < m → Ext T [t] H H' → Tape l H' t → Q (.str z) H'
def spName (T : List (Addr × Str)) : Sp := fun vs H Q _ => ∃ (l t : Addr) (m : Int), vs = [.ref t, .int m] ∧ 0 < m ∧ m ≤ 4 ∧ Tape l H t ∧ ∀ z H', nameB z = true → z.length ≤ 100 → Ext T [t] H H' → Tape l H' t → Q (.str z) H'

theorem strs_of {S : List Str} : ∀ {vs : List V}, (∀ v ∈ vs, ∃ x ∈ S, v = V.str x) → ∃ ys : List Str, vs = ys.map V.str ∧ ∀ y ∈ ys, y ∈ S
  | [], _ => ⟨[], rfl, by simp⟩
  | v :: r, h => by
    obtain ⟨ys, e, h2⟩ := strs_of (vs := r) fun u hu => h u (List.mem_cons_of_mem _ hu)
    obtain ⟨x, hx, rfl⟩ := h v List.mem_cons_self
    refine ⟨x :: ys, by rw [e]; rfl, fun y hy => ?_⟩
    rcases List.mem_cons.mp hy with hy | hy
    · rw [hy]
      exact hx
    · exact h2 y hy
theorem sum_le {B : Nat} : ∀ {l : List Nat}, (∀ x ∈ l, x ≤ B) → l.sum ≤ l.length * B
  | [], _ => by simp
  | x :: r, h => by
    have h1 := h x List.mem_cons_self
    have h2 := sum_le (l := r) fun y hy => h y (List.mem_cons_of_mem _ hy)
    rw [List.sum_cons, List.length_cons, Nat.succ_mul]
    omega
theorem joinL_len (S : List Nat) : ∀ ps : List (List Nat), (TL.joinL S ps).length ≤ (ps.map List.length).sum + ps.length * S.length
  | [] => by simp [TL.joinL]
  | [p] => by
    show p.length ≤ _
    simp
  | p :: q :: r => by
    have ih := joinL_len S (q :: r)
    show (p ++ (S ++ TL.joinL S (q :: r))).length ≤ _
    rw [List.length_append, List.length_append, List.map_cons, List.sum_cons, List.length_cons (a := p), Nat.succ_mul]
    omega
def joinS (ys : List Str) : Str := Txt.join dotS ys
theorem join_len (ys : List Str) : (joinS ys).length ≤ (ys.map (·.length)).sum + ys.length := by
  have h := joinL_len (sg dotS) (ys.map sg)
  have e : sg (joinS ys) = TL.joinL (sg dotS) (ys.map sg) := by
    show sg (Txt.join dotS ys) = _
    rw [TL.join_eq]
    exact TL.tl_join dotS ys
  rw [← e, sg_len, sg_dot, List.length_map, List.map_map] at h
  have e2 : List.map (List.length ∘ sg) ys = ys.map (·.length) := List.map_congr_left fun y _ => sg_len y
  rw [e2] at h
  simpa using h
theorem parts_join {ys : List Str} (hne : ys ≠ []) (h : ∀ y ∈ ys, 46 ∉ sg y) : partsL (joinS ys) = ys := TL.split_join sg_dot (by decide +kernel) hne h
theorem label_nodot {y : Str} (h : labelB y = true) : 46 ∉ sg y := fun hm => by
  unfold labelB wordB at h
  rw [Bool.and_eq_true, Bool.and_eq_true] at h
  have h2 := of_decide_eq_true (List.all_eq_true.mp h.2.2 46 hm)
  exact absurd h2 (by decide +kernel)
theorem name_join {ys : List Str} (hne : ys ≠ []) (hl : ys.length ≤ 4) (h : ∀ y ∈ ys, labelB y = true) : nameB (joinS ys) = true := by
  unfold nameB
  rw [parts_join hne fun y hy => label_nodot (h y hy), decide_eq_true (show (ys.length : Int) ≤ 4 by omega), List.all_eq_true.mpr h]
  simp
def namesL : List Str := ["land", "shop", "a", "b", "workshop", "x1"]
theorem namesL_ok : ∀ y ∈ namesL, labelB y = true ∧ y.length ≤ 8 := by decide +kernel
def spForms (T : List (Addr × Str)) : Sp := fun vs H Q _ => ∃ (l t : Addr), vs = [.ref t] ∧ Tape l H t ∧ ∀ H', Ext T [t] H H' → Tape l H' t → Q (.bl true) H'
theorem strs_ofP {Pr : Str → Prop} : ∀ {vs : List V}, (∀ v ∈ vs, ∃ x, Pr x ∧ v = V.str x) → ∃ ys : List Str, vs = ys.map V.str ∧ ∀ y ∈ ys, Pr y
  | [], _ => ⟨[], rfl, by simp⟩
  | v :: r, h => by
    obtain ⟨ys, e, h2⟩ := strs_ofP (vs := r) fun u hu => h u (List.mem_cons_of_mem _ hu)
    obtain ⟨x, hx, rfl⟩ := h v List.mem_cons_self
    refine ⟨x :: ys, by rw [e]; rfl, fun y hy => ?_⟩
    rcases List.mem_cons.mp hy with hy | hy
    · rw [hy]
      exact hx
    · exact h2 y hy
theorem at_last {α : Type} {l : List α} {v : α} (h : l.getLast? = some v) : atI l (-1) = some v := by
  obtain ⟨r, e⟩ := List.getLast?_eq_some_iff.mp h
  rw [e]
  exact atI_last _ _

open PySem PySem.Spec PyProof.Rows L2
/-! ### sorted of data -/
section
open PySem.W
theorem each_vals : ∀ {xs : List V} {us : List Value}, Vals xs us → EachIs (fun u x => RelV x u) us xs
  | _, _, .nil => .nil
  | _, _, .cons r t => .cons r (each_vals t)
theorem each_zip {γ : Type} : ∀ {xs : List V} {us : List Value} {ds : List γ}, Vals xs us → ds.length = xs.length → EachIs (fun u d => ∃ y, RelV y u ∧ (y, d) ∈ xs.zip ds) us ds
  | _, _, [], .nil, _ => .nil
  | _, _, d :: ds, .nil, h => by cases h
  | _, _, [], .cons _ _, h => by cases h
  | _, _, d :: ds, .cons (a := x) r t, h => by
    refine .cons ⟨x, r, List.mem_cons_self⟩ ?_
    exact (each_zip t (by simpa using h)).mono fun u e ⟨y, h1, h2⟩ => ⟨y, h1, List.mem_cons_of_mem _ h2⟩
/-- the sorted values, by their abstract ones -/
theorem each_back {γ : Type} {R : V → γ → Prop} : ∀ {us : List Value} {ds : List γ}, EachIs (fun u d => ∃ y, RelV y u ∧ R y d) us ds → ∃ ys, Vals ys us ∧ EachIs R ys ds
  | _, _, .nil => ⟨[], .nil, .nil⟩
  | _, _, .cons ⟨y, h1, h2⟩ t => by
    obtain ⟨ys, a, b⟩ := each_back t
    exact ⟨y :: ys, .cons h1 a, .cons h2 b⟩
theorem dpAll_len {K : PySem.W.Frag} {H : Hp} : ∀ {xs : List V} {ds : List PyData}, DpAll K H xs ds → ds.length = xs.length
  | _, _, .nil => rfl
  | _, _, .cons _ t => by rw [List.length_cons, List.length_cons, dpAll_len t]
theorem call_sortedU {X : Cx} (K : PySem.W.Frag) (hK : X.K = K) (hu : X.A.units + 64 < cLine) : CallR X (.builtin "sorted") (rSortD K) := by
  subst hK
  intro pins s σ H vs us Q I r h
  obtain ⟨a, xs, ds, rfl, hs, hd, hal, hk, hdep, q⟩ := h
  cases r with
  | cons r t =>
    cases t
    cases r
    obtain ⟨its, rv, hl, hz⟩ := I.list hs
    have hlen := dpAll_len hd
    obtain ⟨as, hr⟩ := Dp.readsAll I ds xs its hd rv
    have er : EachIs (fun v d => ∃ as, Reads s.heap v (id d) as) its ds := readsAll_each (enc := id) (bs := ds) (by rw [List.map_id]; exact hr)
    refine sorted_data (bs := ds) (enc := id) hl.isList (each_zip rv hlen) er (by rw [List.map_id]; exact hal) (by rw [List.map_id]; exact hk) (by rw [hlen]; exact hz) (fun d hm => ?_) fun out ho he => ?_
    · have := hdep d hm
      show X.A.units + 2 + d.depth < cLine
      omega
    · obtain ⟨ys, h1, h2⟩ := each_back he
      obtain ⟨ep, hp⟩ := PyProof.Rows.sortedAll_at s.heap its (List.toArray out)
      refine ⟨.ref _, upd H (s.heap.objs.size + 1) (.lst ys), I.laid (t' := s.toks) (fun _ _ => PyProof.Rows.sortedAll_old) (Nat.le_succ _) ⟨?_, out, ep, h1, hp⟩, rfl, q ys _ h2 (I.hok.fresh (Nat.le_succ _))⟩
      rw [h1.length, ho, hlen]
      exact hz
end

open PySem PySem.Spec PyProof.Rows L2
/-! ### sorted(xs, key=lambda x: ..) whose keys are ints -/
section
variable {P : Program} {w : World} {K : PySem.W.Frag} {mg : Str → Option Value} {base : Heap} {N : List Str} {x q : Str} {scope : Scope} {k : Nat} {f c : Addr} {params : Arguments} {body : Expr} {pm ctv : Value} {tb : TE}
/-- a lambda's object without captured names, called on one value -/
theorem lam_run {A : Around} {outer : List Env} {s : Shared} {H : Hp} {u : Value} {v : V} {Q : VK} (of : s.heap.get? f = some (PySem.W.kla_obj "<lambda>" q params body scope [] pm c ctv)) (hc : s.heap.CodeRec (.ref c) q) (S : FnScope N [x] scope) (hr : Room (k + 1) A)
    (e0 : Env0 P w K mg base A outer s H) (hb : bindArgs (PySem.W.kla_fn "<lambda>" q params body scope [] pm (.ref c) ctv) ⟨[u], []⟩ = pure [(x, u)]) (r : RelV v u)
    (hbody : PE (cxOf CX0 P w K mg base N q scope f (.ref c) A outer s H E0) body tb) (h : tb (start N [v]) H Q) :
    codeAny (model P w) A (.call (.ref f) ⟨[u], []⟩) (CR CX0 outer P w H s Q E0) s := by
  have lim : s.heap.NoLimit := e0.mod.nolimit.keeps fun b o e => (e0.bs b o e).1
  refine PySem.W.kla_callFunE hr.depth of rfl S.co S.gen rfl hc ?_
  rw [hb]
  refine wpAny_pure (wpAny_newFunctionEnv_cells S.kind (fun y hy => ?_) fun env he s1 z => ?_)
  · obtain rfl : y = (x, u) := by simpa using hy
    rcases S.par x (by simp) with j | j
    · exact .inl j
    · exact .inr ⟨j, PySem.W.cellsFrom_some _ _ _ (.inl j)⟩
  · subst he
    refine ⟨lim.keeps z.toInCall.keep, ?_⟩
    have I : Inv (cxOf CX0 P w K mg base N q scope f (.ref c) A outer s H E0) [] (start N [v]) H s1 := inv_start S hr.hd e0 rfl (.cons r .nil) z
    refine PySem.W.kla_codeExpr (wpAny_mono (hbody.run [] s1 _ H Q I h) (fun y s' hy => ?_) fun e s' he => he)
    obtain ⟨y', H', J, ry, qy⟩ := hy
    exact ⟨y', H', J.os, J.bare, J.base, J.hok, ry, qy⟩
end
/-- an untracked object is changed -/
theorem hok_free {P : Program} {w : World} {H : Hp} {h h' : Heap} {c : Addr} (ok : HOk P w H h) (n : H c = none) (kp : ∀ b o, b ≠ c → h.get? b = some o → h'.get? b = some o) : HOk P w H h' := fun a o e =>
  (ok a o e).stay (fun b u hb g => kp b u (by
    rintro rfl
    rcases hb with hb | hb
    · rw [← hb, n] at e
      cases e
    · rw [n] at hb
      cases hb) g) (fun _ z => z) fun _ _ z => z
theorem un_free {fs : List Addr} {H : Hp} {h h' : Heap} {c : Addr} (kp : ∀ b o, b ≠ c → h.get? b = some o → h'.get? b = some o) (there : ∃ o, h'.get? c = some o) : Un fs [c] H H h h' where
  keep := fun b o e _ _ hx => kp b o (by simpa using hx) e
  slot := fun b o e _ _ hx => ⟨o.slots, kp b o (by simpa using hx) e⟩
  free := fun _ _ _ n _ => n
  there := fun b o e hx => ⟨o, kp b o (by simpa using hx) e⟩
  tups := fun _ _ e => e
  frzs := fun _ _ _ e => e
  tbls := fun _ ps e => ⟨#[], by simpa using e⟩
/-- what was not there does not count -/
theorem un_drop {fs : List Addr} {H H' : Hp} {h h' : Heap} {c : Addr} (u : Un fs [c] H H' h h') (n : h.get? c = none) : Un fs [] H H' h h' := by
  have ne : ∀ b o, h.get? b = some o → b ∉ [c] := fun b o e z => by
    rw [show b = c by simpa using z, n] at e
    cases e
  exact ⟨fun b o e n1 n2 _ => u.keep b o e n1 n2 (ne b o e), fun b o e n1 n2 _ => u.slot b o e n1 n2 (ne b o e), fun b o e n1 _ => u.free b o e n1 (ne b o e), fun b o e _ => u.there b o e (ne b o e), u.tups, u.frzs, u.tbls⟩
theorem not_fr {X : Cx} {pins : List (Addr × Obj)} {σ : L2.St} {H : Hp} {s : Shared} (I : Inv X pins σ H s) {b : Addr} (hb : s.heap.objs.size ≤ b) : b ∉ frs X.stack := by
  intro z
  cases List.mem_cons.mp (I.stkSub b z) with
  | inl e =>
    have h1 := I.lt
    subst e
    exact absurd (Nat.lt_of_lt_of_le h1 hb) (Nat.lt_irrefl _)
  | inr e => exact I.nofs hb e
theorem vals_each : ∀ {xs : List V} {us : List Value}, PySem.W.EachIs (fun u x => RelV x u) us xs → Vals xs us
  | _, _, .nil => .nil
  | _, _, .cons r t => .cons r (vals_each t)
theorem ints_read (h : Heap) : ∀ {ks : List Int} {us : List Value}, Vals (ks.map V.int) us → PySem.W.EachIs (fun u d => ∃ as, Reads h u d as) us (ks.map PyData.int)
  | [], _, .nil => .nil
  | n :: ks, _, .cons ⟨t, e⟩ r => by
    subst e
    exact .cons ⟨[], .int n t⟩ (ints_read h r)

section
open PySem.W
def tSortLam (T : List (Addr × Str)) (K : PySem.W.Frag) (N : List Str) (ta : TA) (tb : TE) : TE := fun σ H Q => ta σ H fun vs H1 => ∃ (a : Addr) (xs : List V) (κ : V → Int), vs = [.ref a] ∧ SqL K H1 a xs ∧ LamX.Tabs T H1 ∧
  (∀ x ∈ xs, ∀ H2, Ext T [] H1 H2 → ∀ Q' : VK, (∀ H3, Ext T [] H2 H3 → Q' (.int (κ x)) H3) → tb (start N [x]) H2 Q') ∧ ∀ q H3, Nw H1 q → Ext T [] H1 H3 → H3 q = some (.lst (xs.mergeSort fun a b => decide (κ a ≤ κ b))) → Q (.ref q) H3
theorem tab_ext {T : List (Addr × Str)} {H H1 : Hp} (e : LamX.ExtN H H1) (t : LamX.Tabs T H1) : Ext T [] H H1 := ⟨fun b o _ n h => e b o h n, fun _ => t⟩
/-- the sort's loop over the items and its end -/
theorem sort_lam_run {X : Cx} {pins : List (Addr × Obj)} {σ : L2.St} {H : Hp} {s : Shared} {T : List (Addr × Str)} {N : List Str} {x q : Str} {scope : Scope} {k : Nat} {f c l : Addr} {params : Arguments} {body : Expr} {pm ctv : Value} {tb : TE} {xs : List V} {κ : V → Int} {Q : VK}
    (I : Inv X pins σ H s) (of : s.heap.get? f = some (kla_obj "<lambda>" q params body scope [] pm c ctv)) (fn : H f = none) (ff : f ∉ frs X.stack) (hc : H c = some (LamX.CodeO c q)) (S : FnScope N [x] scope) (hr : Room (k + 2) X.A)
    (hb : ∀ u, bindArgs (kla_fn "<lambda>" q params body scope [] pm (.ref c) ctv) ⟨[u], []⟩ = pure [(x, u)])
    (hbody : ∀ (A : Around) (s : Shared) (H : Hp), Room k (A.deeper (envOfC q scope s.heap.objs.size f (.ref c))) → PE (cxOf CX0 X.prog X.w X.K X.mg X.base N q scope f (.ref c) A X.stack s H E0) body tb)
    (hl : SqL X.K H l xs) (turn : ∀ x ∈ xs, ∀ H2, Ext T [] H H2 → ∀ Q' : VK, (∀ H3, Ext T [] H2 H3 → Q' (.int (κ x)) H3) → tb (start N [x]) H2 Q')
    (done : ∀ q H3, Nw H q → Ext T [] H H3 → H3 q = some (.lst (xs.mergeSort fun a b => decide (κ a ≤ κ b))) → Q (.ref q) H3) :
    wpAny (model X.prog X.w) X.A (call (.builtin "sorted") [.ref l] [(Str.ofString "key", .ref f)]) (EP X pins σ Q) X.xe s := by
  obtain ⟨its, rv, pl, hz⟩ := I.list hl
  have hlen : its.length = xs.length := rv.length.symm
  have hz' : its.length ≤ sizeLine := by rw [hlen]; exact hz
  refine sorted_of_sort pl.isList hz' (ksk_s1 _ _) (fun _ => ksk_l1 _ _) fun E' => ?_
  rw [ksk_t1]
  have hA := copyHeap_at s.heap its
  have hsz : (copyHeap s.heap its).objs.size = s.heap.objs.size + 2 := by
    unfold copyHeap
    rw [size_push', Heap.size_update, size_push']
  generalize ha : s.heap.objs.size + 1 = a at hA ⊢
  unfold ksk_tree
  obtain ⟨e1, hA1⟩ : ∃ e1, ((copyHeap s.heap its).update a (Obj.mapSeq fun _ => (#[] : Array Value))).get? a = some (seqObj "list" #[] e1) := ⟨_, get?_update_seq hA fun _ => #[]⟩
  refine wpAny_bind (listItems_at hA rfl ?_)
  refine wpAny_bind (listUpdate_at hA rfl ?_ (by rw [List.size_toArray]; exact hz') (Nat.zero_le _))
  refine wpAny_bind (seqEpoch_at hA1 rfl ?_)
  refine wpAny_bind (wpAny_newTuple ?_ (by show its.length ≤ _; exact hz'))
  refine wpAny_bind (wpAny_newList ?_ (Nat.zero_le _))
  refine wpAny_holding ?_
  have hkv : ((copyHeap s.heap its).update a (Obj.mapSeq fun _ => (#[] : Array Value)) |>.push (seqObj "tuple" its.toArray 0)).objs.size = s.heap.objs.size + 3 := by
    rw [size_push', Heap.size_update, hsz]
  show wpAny _ _ _ _ _ { s with heap := (((copyHeap s.heap its).update a (Obj.mapSeq fun _ => (#[] : Array Value))).push (seqObj "tuple" its.toArray 0)).push (seqObj "list" #[] 0) }
  have gK : ((((copyHeap s.heap its).update a (Obj.mapSeq fun _ => (#[] : Array Value))).push (seqObj "tuple" its.toArray 0)).push (seqObj "list" #[] 0)).get? (s.heap.objs.size + 3) = some (seqObj "list" #[] 0) := by
    rw [← hkv]
    exact Heap.get?_push_size _ rfl
  have gA : ((((copyHeap s.heap its).update a (Obj.mapSeq fun _ => (#[] : Array Value))).push (seqObj "tuple" its.toArray 0)).push (seqObj "list" #[] 0)).get? a = some (seqObj "list" #[] e1) := Heap.get?_push_of_some _ (Heap.get?_push_of_some _ hA1)
  have gO : ∀ b o, s.heap.get? b = some o → ((((copyHeap s.heap its).update a (Obj.mapSeq fun _ => (#[] : Array Value))).push (seqObj "tuple" its.toArray 0)).push (seqObj "list" #[] 0)).get? b = some o := fun b o e => by
    have hb : b ≠ a := by
      rw [← ha]
      exact Nat.ne_of_lt (Nat.lt_succ_of_lt (Heap.lt_size e))
    exact sortingHeap_old hb (copyHeap_old e)
  have eK : (((copyHeap s.heap its).update a (Obj.mapSeq fun _ => (#[] : Array Value))).push (seqObj "tuple" its.toArray 0)).objs.size = s.heap.objs.size + 3 := hkv
  rw [eK]
  generalize hk : s.heap.objs.size + 3 = kS at gK ⊢
  generalize ((((copyHeap s.heap its).update a (Obj.mapSeq fun _ => (#[] : Array Value))).push (seqObj "tuple" its.toArray 0)).push (seqObj "list" #[] 0)) = G at gK gA gO ⊢
  have hka : kS ≠ a := by
    rw [← hk, ← ha]
    exact Nat.ne_of_gt (Nat.lt_succ_of_lt (Nat.lt_succ_self _))
  have hleA : s.heap.objs.size ≤ a := by
    rw [← ha]
    exact Nat.le_succ _
  have hleK : s.heap.objs.size ≤ kS := by
    rw [← hk]
    exact Nat.le_add_right _ 3
  have sA : s.heap.get? a = none := Heap.get?_none_of_le hleA
  have sK : s.heap.get? kS = none := Heap.get?_none_of_le hleK
  have fA := not_fr I hleA
  have fK := not_fr I hleK
  unfold ksk_rest
  refine wpAny_bind (wpAny_rule ?_)
  rw [List.forIn_toArray]
  refine wpAny_bind (ksk_fold (fun i st => ∃ (Hi : Hp) (keys : Array Value) (ep : Nat), st.os = s.os ∧ AllBare st.gens ∧ Un (frs X.stack) [] H Hi s.heap st.heap ∧ HOk X.prog X.w Hi st.heap ∧ Ext T [] H Hi ∧ Hi a = none ∧ Hi kS = none ∧ Hi f = none ∧
      st.heap.get? kS = some (seqObj "list" keys ep) ∧ st.heap.get? a = some (seqObj "list" #[] e1) ∧ st.heap.get? f = some (kla_obj "<lambda>" q params body scope [] pm c ctv) ∧ Vals (((xs.take i).map κ).map V.int) keys.toList) its 0 _
    ⟨H, #[], 0, rfl, I.bare, .kept gO, I.hok.kept gO, .refl, I.hok.fresh hleA, I.hok.fresh hleK, fn, gK, gA, gO _ _ of, .nil⟩ ?step ?fin)
  case step =>
    rintro j v st hv ⟨Hi, keys, ep, k1, k2, k3, k4, k5, k6, k7, k8, k9, k10, k11, k12⟩
    simp only [Nat.zero_add] at k12 ⊢
    have J : Inv X pins σ Hi st := I.call' (ch := []) k1 k3 k4 k2 (by simp)
    have hj : j < its.length := (List.getElem?_eq_some_iff.mp hv).1
    obtain ⟨y, hy⟩ : ∃ y, xs[j]? = some y := ⟨_, List.getElem?_eq_getElem (by omega)⟩
    have hym : y ∈ xs := List.mem_of_getElem? hy
    obtain ⟨v', hv', ry⟩ := rv.get hy
    rw [hv] at hv'
    cases hv'
    have e0 := J.env0
    have hci : Hi c = some (LamX.CodeO c q) := k5.keep c _ (by simp) (fun ps z => LamX.codeO_ne ps z) hc
    obtain ⟨⟨oc, vs0, tq, c1, c2, c3⟩, _, _⟩ := k4 c _ hci
    have hr2 : Room (k + 1) X.A.in1.in1 := ⟨hr.hd, by have := hr.dp; show X.A.depth + 3 * (k + 1) + 5 < _; omega, by have := hr.un; show X.A.units + 1 + 1 + 16 * (k + 1) + 200 < _; omega⟩
    have rc := lam_run (k := k) (A := X.A.in1.in1) (outer := X.stack) (Q := fun r H3 => r = .int (κ y) ∧ Ext T [] Hi H3) k11 ⟨c, oc, vs0, tq, rfl, c1, c2, c3⟩ S hr2 ⟨e0.frames, e0.mod, e0.bs, e0.bsz, e0.funs, e0.frf, e0.hok, e0.bare⟩ (hb v) ry
      (hbody X.A.in1.in1 st Hi (hr2.deeper _)) (turn y hym Hi k5 _ fun H3 e3 => ⟨rfl, e3⟩)
    refine wpAny_bind (wpAny_attempt (wpAny_mono (wpAny_call (Q := fun u s2 => ∃ H', s2.os = s.os ∧ AllBare s2.gens ∧ Un (frs X.stack) [] Hi H' st.heap s2.heap ∧ HOk X.prog X.w H' s2.heap ∧ Ext T [] Hi H' ∧ ∃ t, u = .int (κ y) t) (E := fun _ _ => False)
      (codeAny_mono rc fun r s2 hq => ?_)) (fun u s2 he => ?_) fun _ _ z => z.elim))
    · cases r with
      | error e => exact False.elim hq
      | ok fl =>
        cases fl with
        | next => exact False.elim hq
        | brk => exact False.elim hq
        | cont => exact False.elim hq
        | ret u =>
          obtain ⟨z, H', h1, h2, h3, h4, h5, h6, h7⟩ := hq
          subst h6
          exact ⟨H', h1.trans k1, h2, h3, h4, h7, h5⟩
    · obtain ⟨H', m1, m2, m3, m4, m5, t', rfl⟩ := he
      have nA := m3.free a _ k10 k6 (by simp)
      have nK := m3.free kS _ k9 k7 (by simp)
      have nF := m3.free f _ k11 k8 (by simp)
      have gK2 := m3.keep kS _ k9 k7 fK (by simp)
      have gA2 := m3.keep a _ k10 k6 fA (by simp)
      have gF2 := m3.keep f _ k11 k8 ff (by simp)
      have sb := Heap.SameBut.update s2.heap kS (Obj.mapSeq (·.push (.int (κ y) t')))
      obtain ⟨c2', hc2⟩ : ∃ c2, (s2.heap.update kS (Obj.mapSeq (·.push (.int (κ y) t')))).get? kS = some (seqObj "list" (keys.push (.int (κ y) t')) c2) := ⟨_, get?_update_seq gK2 (·.push (.int (κ y) t'))⟩
      have kp : ∀ b o, b ≠ kS → s2.heap.get? b = some o → (s2.heap.update kS (Obj.mapSeq (·.push (.int (κ y) t')))).get? b = some o := fun b o hb e => (sb.2 b hb).trans e
      have hkl : keys.size = j := by
        have h1 := k12.length
        have h0 : keys.toList.length = keys.size := Array.length_toList
        rw [List.length_map, List.length_map, List.length_take] at h1
        omega
      have hfk : f ≠ kS := fun z => by
        rw [z] at of
        rw [sK] at of
        cases of
      refine wpAny_bind (listUpdate_at gK2 rfl ?_ (by rw [hkl]; omega) (by show (keys.push _).size ≤ _; rw [Array.size_push, hkl]; omega))
      refine wpAny_pure ⟨rfl, H', keys.push (.int (κ y) t'), c2', m1, m2, ?_, hok_free m4 nK kp, k5.trans m5, nA, nK, nF, hc2, kp a _ hka.symm gA2, kp f _ hfk gF2, ?_⟩
      · exact un_drop (((k3.mono (fun _ z => z) (fun _ z => absurd z (by simp))).trans (m3.mono (fun _ z => z) (fun _ z => absurd z (by simp)))).trans (un_free kp ⟨_, hc2⟩)) sK
      · rw [List.take_add_one, hy, Array.toList_push, List.map_append, List.map_append]
        exact k12.append (.cons ⟨t', rfl⟩ .nil)
  case fin =>
    rintro st ⟨Hi, keys, ep, k1, k2, k3, k4, k5, k6, k7, k8, k9, k10, k11, k12⟩
    have et : xs.take (0 + its.length) = xs := List.take_of_length_le (by omega)
    rw [et] at k12
    have hkl : keys.size = its.length := by
      have h1 := k12.length
      have h0 : keys.toList.length = keys.size := Array.length_toList
      rw [List.length_map, List.length_map] at h1
      omega
    refine wpAny_bind (listItems_at k9 rfl ?_)
    have hrd : EachIs (fun u d => ∃ as, Reads st.heap u d as) keys.toList (xs.map fun y => PyData.int (κ y)) := by
      have h1 := ints_read st.heap (ks := xs.map κ) k12
      rw [List.map_map] at h1
      exact h1
    have hal : AllAlike (xs.map fun y => PyData.int (κ y)) := fun d hd d' hd' => by
      obtain ⟨y, _, rfl⟩ := List.mem_map.mp hd
      obtain ⟨y', _, rfl⟩ := List.mem_map.mp hd'
      rfl
    have hso : PySem.W.Sortable (xs.map fun y => PyData.int (κ y)) := .inr fun d hd => by
      obtain ⟨y, _, rfl⟩ := List.mem_map.mp hd
      exact ⟨(fun z => nomatch z), (fun _ z => nomatch z)⟩
    refine keyH_end (κ := dataKind st.heap (xs.map fun y => PyData.int (κ y))) (h₁ := hideAll st.heap [kS]) (fun b o _ e => of_hideAll _ e) (hideAll_none _ (by simp)) k9 k10 hka
      (SortsAt.data (s := st) hrd hal hso fun d hd => ?_) hkl hz' fun h' tk c3 kb na => ?_
    · obtain ⟨y, _, rfl⟩ := List.mem_map.mp hd
      have h1 := hr.un
      show X.A.units + 1 + 1 + 0 < cLine
      omega
    · refine ⟨rfl, ?_⟩
      have ho := keyedOut_each (fun y : V => PyData.int (κ y)) (rev := false) (bs := xs) (vs := its) ⟨st.heap, keys.toList, hal, rfl, hrd⟩ (each_vals rv)
      rw [dataLe_int] at ho
      have hv := vals_each ho
      have kp : ∀ b o, b ≠ a → b ≠ kS → st.heap.get? b = some o → h'.get? b = some o := fun b o h1 h2 e => kb b o h1 (hideAll_get _ e (by simpa using h2))
      have nA : ∀ b u, Hi b = some u → b ≠ a := fun b u e => ne_of_none e k6
      have nK : ∀ b u, Hi b = some u → b ≠ kS := fun b u e => ne_of_none e k7
      have oA : ∀ b o, s.heap.get? b = some o → b ≠ a := fun b o e z => by
        rw [z, sA] at e
        cases e
      have oK : ∀ b o, s.heap.get? b = some o → b ≠ kS := fun b o e z => by
        rw [z, sK] at e
        cases e
      have hml : (xs.mergeSort fun a b => decide (κ a ≤ κ b)).length ≤ sizeLine := by
        rw [List.length_mergeSort]
        exact hz
      have hok2 : HOk X.prog X.w (upd Hi a (.lst (xs.mergeSort fun a b => decide (κ a ≤ κ b)))) h' := fun b u e => by
        by_cases hb : b = a
        · subst hb
          rw [upd_same] at e
          cases e
          exact ⟨hml, _, c3, hv, na⟩
        · rw [upd_ne hb] at e
          refine (k4 b u e).stay (fun d o hd g => ?_) (fun d g => by rw [upd_ne (nA d _ g)]; exact g) fun d ys g => by rw [upd_ne (nA d _ g)]; exact g
          rcases hd with rfl | hd
          · exact kp _ _ hb (nK _ _ e) g
          · exact kp _ _ (nA _ _ hd) (nK _ _ hd) g
      have un2 : Un (frs X.stack) [] H (upd Hi a (.lst (xs.mergeSort fun a b => decide (κ a ≤ κ b)))) s.heap h' := by
        refine ⟨fun b o e n nf nx => kp b o (oA b o e) (oK b o e) (k3.keep b o e n nf nx), fun b o e n nf nx => ?_, fun b o e n nx => ?_, fun b o e nx => ?_, fun b ys e => ?_, fun b o u e => ?_, fun b ps e => ?_⟩
        · obtain ⟨sl, e2⟩ := k3.slot b o e n nf nx
          exact ⟨sl, kp b _ (oA b o e) (oK b o e) e2⟩
        · rw [upd_ne (oA b o e)]
          exact k3.free b o e n nx
        · obtain ⟨o', e2⟩ := k3.there b o e nx
          exact ⟨o', kp b _ (oA b o e) (oK b o e) e2⟩
        · have e2 := k3.tups b ys e
          rw [upd_ne (nA b _ e2)]
          exact e2
        · have e2 := k3.frzs b o u e
          rw [upd_ne (nA b _ e2)]
          exact e2
        · obtain ⟨more, e2⟩ := k3.tbls b ps e
          exact ⟨more, by rw [upd_ne (nA b _ e2)]; exact e2⟩
      refine ⟨.ref a, _, I.call' (s' := { st with heap := h', toks := tk }) (ch := []) k1 un2 hok2 k2 (by simp), rfl, done a _ (.of (I.hok.fresh hleA)) (k5.newR k6) upd_same⟩
theorem pe_sortedLam {X : Cx} {T : List (Addr × Str)} (K : PySem.W.Frag) (hK : X.K = K) {N : List Str} {x : Str} {e : Expr} {ta : TA} {tb : TE} {c P : Addr} {k : Nat} {params : Arguments} {body : Expr} {scope : Scope} {p lpos kpos pos : Pos}
    (TB : LamX.TabB X.base X.mg c P) (hcode : X.env.code = .ref c) (hmT : (P, X.env.qual ++ "<lambda>") ∈ T) (hu : ∀ z ∈ T, z.1 = P → z.2 = X.env.qual ++ "<lambda>") (hr : Room (k + 2) X.A) (S : FnScope N [x] scope)
    (hbody : ∀ (A : Around) (s : Shared) (H : Hp) (f c' : Addr), Room k (A.deeper (envOfC (X.env.qual ++ "<lambda>") scope s.heap.objs.size f (.ref c'))) → PE (cxOf CX0 X.prog X.w X.K X.mg X.base N (X.env.qual ++ "<lambda>") scope f (.ref c') A X.stack s H E0) body tb)
    (hg : Gl X "sorted") (hm : X.mg "sorted" = none) (ha : PA X [e] ta) (hcl : cloFrom X.env.cells scope.names [] = [] := by rfl) (hfr : ∀ y ∈ scope.names, y.2 ≠ .free := by decide +kernel)
    (hdef : defaultsOf params X.env = ([], []) := by rfl)
    (hb : ∀ (q : Str) (pm cv ctv u : Value), bindArgs (kla_fn "<lambda>" q params body scope [] pm cv ctv) ⟨[u], []⟩ = pure [(x, u)] := by intros; rfl)
    (hst : backTo pos (starEach [e] X.env) = (false, eval e X.env) :: backTo pos (starEach [] X.env) := by rfl) (hpl : (backTo pos (starEach [e] X.env)).any (·.1) = false := by rfl) :
    PE X (.Call (.Name "sorted" p) [e] [⟨some "key", .Lambda params body scope lpos, kpos⟩] pos) (tSortLam T K N ta tb) := by
  subst hK
  refine ⟨fun pins s σ H Q I h => ?_⟩
  refine wpAny_Call_Name_kw (ld_blt I hg hm (by decide +kernel : bootBuiltins "sorted" = some (.builtin "sorted")) ?_)
  refine PyProof.Rows.callWith_kw (thn (ha.run pos pins s σ H _ I h) fun us s1 ⟨vs, H1, I1, r1, a, xs, κ, ea, hl, ht, turn, done⟩ => ?_) hst hpl rfl rfl
  subst ea
  cases r1 with
  | cons r rr =>
    cases rr
    cases r
    show wpAny _ _ (evalAll [do let v ← eval (.Lambda params body scope lpos) X.env; standAt pos; pure v]) _ _ s1
    refine wpAny_evalAll_cons (wpAny_bind (LamX.lam_make2 I1 TB hcode hmT hu ht hdef (fun y hy z => absurd z (hfr y hy)) fun f c' pm ctv H2 s2 I2 eN T2 hf hfn hff hco => ?_))
    refine wpAny_bind (wpAny_standAt (wpAny_pure (wpAny_evalAll_nil ?_)))
    rw [hcl] at hf
    have e2 := tab_ext eN T2
    exact sort_lam_run (k := k) (κ := κ) (T := T) (I2) hf hfn hff hco S hr (fun u => hb _ _ _ _ u) (fun A s H hr' => hbody A s H f c' hr') (e2.seqL (by simp) hl) (fun x hx H3 e3 => turn x hx H3 (e2.trans e3)) fun q H3 nq e3 hq => done q H3 (e2.back (by simp) nq) (e2.trans e3) hq
theorem rd_sortLam {T : List (Addr × Str)} {K : PySem.W.Frag} {N : List Str} {ta : TA} {tb : TE} {σ : L2.St} {H : Hp} {Q : VK} (q : ta σ H fun vs H1 => ∃ (a : Addr) (xs : List V) (κ : V → Int), vs = [.ref a] ∧ SqL K H1 a xs ∧ LamX.Tabs T H1 ∧
  (∀ x ∈ xs, ∀ H2, Ext T [] H1 H2 → ∀ Q' : VK, (∀ H3, Ext T [] H2 H3 → Q' (.int (κ x)) H3) → tb (start N [x]) H2 Q') ∧ ∀ q H3, Nw H1 q → Ext T [] H1 H3 → H3 q = some (.lst (xs.mergeSort fun a b => decide (κ a ≤ κ b))) → Q (.ref q) H3) : tSortLam T K N ta tb σ H Q := q
end
/-! ### a def whose own code object is known: it makes a lambda -/
def DefC (K : PySem.W.Frag) (mg : Str → Option Value) (x : Str) (st : Stmt) (ps : List Str) (c : Addr) : Prop :=
  ∃ (f : Addr) (oc : Value) (od : Option Addr) (kV doc pm : Value) (an : Option Addr) (ct : Value) (osl : Array (Option Value)),
    K.lookup f = some ⟨oc, od, .func (PySem.W.fnOf x x (defArgs st) (defBody st) (defScope st) .none kV doc pm an (.ref c) ct), osl⟩ ∧ PySem.W.codeIn K (.ref c) x = true ∧ PySem.W.keepIn K (.ref f) = true ∧ mg x = some (.ref f) ∧
    Binds K (PySem.W.fnOf x x (defArgs st) (defBody st) (defScope st) .none kV doc pm an (.ref c) ct) ps []
theorem DefC.ok {P : Program} {w : World} {K : PySem.W.Frag} {mg : Str → Option Value} {base : Heap} {x : Str} {st : Stmt} {N ps : List Str} {k : Nat} {sp : Sp} {c : Addr} (D : DefC K mg x st ps c) (S : FnScope N ps (defScope st)) (len : ∀ vs H Q E, sp vs H Q E → vs.length = ps.length)
    (hbody : ∀ (f : Addr) (A : Around) (outer : List Env) (s : Shared) (H : Hp) (vs : List V) (Q : VK) (E : XK), Room k (A.deeper (envOfC x (defScope st) s.heap.objs.size f (.ref c))) → sp vs H Q E →
      ∃ t, PSs (cxOf CX0 P w K mg base N x (defScope st) f (.ref c) A outer s H E).nox (defBody st) t ∧ t { nx := fun _ H' => Q .non H', rt := Q } (start N vs) H) : Ok P w K mg base (k + 1) x ps sp := by
  obtain ⟨f, oc, od, kV, doc, pm, an, ct, osl, lk, hcd, hk, hm, hb⟩ := D
  refine ⟨f, _, fn_of lk hcd S len fun A outer s H vs Q E hr h => ?_, hm, hk, hb⟩
  obtain ⟨t, h1, h2⟩ := hbody f A outer s H vs Q E hr h
  exact ⟨t, h1.nox, h2⟩

open PySem PySem.Spec PyProof.Rows L2
/-! ### what the head has written: the defs, the constants, the words of the language -/
def DefIn (K : PySem.W.Frag) (x : Str) (st : Stmt) : Prop :=
  ∃ (f : Addr) (oc : Value) (od : Option Addr) (kV doc pm : Value) (an : Option Addr) (cdv ct : Value) (osl : Array (Option Value)),
    PySem.W.nsIn K mainGlobals x = some (some (.ref f)) ∧ K.lookup f = some ⟨oc, od, .func (PySem.W.fnOf x x (defArgs st) (defBody st) (defScope st) .none kV doc pm an cdv ct), osl⟩ ∧ PySem.W.codeIn K cdv x = true ∧ PySem.W.keepIn K (.ref f) = true
def DefInC (K : PySem.W.Frag) (x : Str) (st : Stmt) (c : Addr) : Prop :=
  ∃ (f : Addr) (oc : Value) (od : Option Addr) (kV doc pm : Value) (an : Option Addr) (ct : Value) (osl : Array (Option Value)),
    PySem.W.nsIn K mainGlobals x = some (some (.ref f)) ∧ K.lookup f = some ⟨oc, od, .func (PySem.W.fnOf x x (defArgs st) (defBody st) (defScope st) .none kV doc pm an (.ref c) ct), osl⟩ ∧ PySem.W.codeIn K (.ref c) x = true ∧ PySem.W.keepIn K (.ref f) = true
theorem DefIn.of {K : PySem.W.Frag} {x : Str} {st : Stmt} {f : Addr} {oc : Value} {od : Option Addr} {kV doc pm : Value} {an : Option Addr} {cdv ct : Value} {osl : Array (Option Value)} (h1 : PySem.W.nsIn K mainGlobals x = some (some (.ref f)))
    (h2 : K.lookup f = some ⟨oc, od, .func (PySem.W.fnOf x x (defArgs st) (defBody st) (defScope st) .none kV doc pm an cdv ct), osl⟩) (h3 : PySem.W.codeIn K cdv x = true) (h4 : PySem.W.keepIn K (.ref f) = true) : DefIn K x st := ⟨f, oc, od, kV, doc, pm, an, cdv, ct, osl, h1, h2, h3, h4⟩
theorem DefInC.of {K : PySem.W.Frag} {x : Str} {st : Stmt} {f c : Addr} {oc : Value} {od : Option Addr} {kV doc pm : Value} {an : Option Addr} {ct : Value} {osl : Array (Option Value)} (h1 : PySem.W.nsIn K mainGlobals x = some (some (.ref f)))
    (h2 : K.lookup f = some ⟨oc, od, .func (PySem.W.fnOf x x (defArgs st) (defBody st) (defScope st) .none kV doc pm an (.ref c) ct), osl⟩) (h3 : PySem.W.codeIn K (.ref c) x = true) (h4 : PySem.W.keepIn K (.ref f) = true) : DefInC K x st c := ⟨f, oc, od, kV, doc, pm, an, ct, osl, h1, h2, h3, h4⟩
theorem cstS_of {K : PySem.W.Frag} {x y : Str} {t : Tok} (h : PySem.W.nsIn K mainGlobals x = some (some (.str y t))) : ∃ t, PySem.W.nsIn K mainGlobals x = some (some (.str y t)) := ⟨t, h⟩
theorem cstI_of {K : PySem.W.Frag} {x : Str} {y : Int} {t : Tok} (h : PySem.W.nsIn K mainGlobals x = some (some (.int y t))) : ∃ t, PySem.W.nsIn K mainGlobals x = some (some (.int y t)) := ⟨t, h⟩
section
variable {K : PySem.W.Frag} {h : Heap} {mg : Str → Option Value} {x : Str} {st : Stmt} {ps : List Str}
def BindOk (x : Str) (st : Stmt) (ps : List Str) : Prop := ∀ (kV doc pm : Value) (an : Option Addr) (cdv ct : Value) (us : List Value), us.length = ps.length → bindArgs (PySem.W.fnOf x x (defArgs st) (defBody st) (defScope st) .none kV doc pm an cdv ct) ⟨us, []⟩ = pure (ps.zip us)
theorem DefIn.mk (d : DefIn K x st) (X : K.In h) (G : h.Ns mainGlobals mg) (hb : BindOk x st ps) : Def K mg x st ps := by
  obtain ⟨f, oc, od, kV, doc, pm, an, cdv, ct, osl, h1, h2, h3, h4⟩ := d
  have F := fun_mk (st := st) h2 h3 h4
  exact ⟨f, _, F, PySem.W.mg_of X G h1, F.binds hb⟩
theorem DefInC.mk {c : Addr} (d : DefInC K x st c) (X : K.In h) (G : h.Ns mainGlobals mg) (hb : BindOk x st ps) : DefC K mg x st ps c := by
  obtain ⟨f, oc, od, kV, doc, pm, an, ct, osl, h1, h2, h3, h4⟩ := d
  exact ⟨f, oc, od, kV, doc, pm, an, ct, osl, h2, h3, h4, PySem.W.mg_of X G h1, (fun_mk (st := st) h2 h3 h4).binds hb⟩
end

open PySem PySem.Spec PyProof.Rows L2
/-! ### what the head has written of classes and of second names -/
def MethIn (K : PySem.W.Frag) (C : Addr) (m qual : Str) (st : Stmt) : Prop :=
  ∃ (f : Addr) (oc : Value) (od : Option Addr) (kV doc pm : Value) (an : Option Addr) (cdv ct : Value) (osl : Array (Option Value)),
    PySem.W.findIn K (.ref C) m = some (some (.ref f)) ∧ PySem.W.isFn K (.ref f) = true ∧ K.lookup f = some ⟨oc, od, .func (PySem.W.fnOf m qual (defArgs st) (defBody st) (defScope st) .none kV doc pm an cdv ct), osl⟩ ∧ PySem.W.codeIn K cdv qual = true ∧ PySem.W.keepIn K (.ref f) = true
theorem MethIn.of {K : PySem.W.Frag} {C : Addr} {m qual : Str} {st : Stmt} {f : Addr} {oc : Value} {od : Option Addr} {kV doc pm : Value} {an : Option Addr} {cdv ct : Value} {osl : Array (Option Value)} (h1 : PySem.W.findIn K (.ref C) m = some (some (.ref f))) (h2 : PySem.W.isFn K (.ref f) = true)
    (h3 : K.lookup f = some ⟨oc, od, .func (PySem.W.fnOf m qual (defArgs st) (defBody st) (defScope st) .none kV doc pm an cdv ct), osl⟩) (h4 : PySem.W.codeIn K cdv qual = true) (h5 : PySem.W.keepIn K (.ref f) = true) : MethIn K C m qual st := ⟨f, oc, od, kV, doc, pm, an, cdv, ct, osl, h1, h2, h3, h4, h5⟩
def DefIn2 (K : PySem.W.Frag) (x y : Str) (st : Stmt) : Prop :=
  ∃ (f : Addr) (oc : Value) (od : Option Addr) (kV doc pm : Value) (an : Option Addr) (cdv ct : Value) (osl : Array (Option Value)),
    PySem.W.nsIn K mainGlobals x = some (some (.ref f)) ∧ PySem.W.nsIn K mainGlobals y = some (some (.ref f)) ∧ K.lookup f = some ⟨oc, od, .func (PySem.W.fnOf x x (defArgs st) (defBody st) (defScope st) .none kV doc pm an cdv ct), osl⟩ ∧ PySem.W.codeIn K cdv x = true ∧ PySem.W.keepIn K (.ref f) = true
theorem DefIn2.of {K : PySem.W.Frag} {x y : Str} {st : Stmt} {f : Addr} {oc : Value} {od : Option Addr} {kV doc pm : Value} {an : Option Addr} {cdv ct : Value} {osl : Array (Option Value)} (h1 : PySem.W.nsIn K mainGlobals x = some (some (.ref f))) (h2 : PySem.W.nsIn K mainGlobals y = some (some (.ref f)))
    (h3 : K.lookup f = some ⟨oc, od, .func (PySem.W.fnOf x x (defArgs st) (defBody st) (defScope st) .none kV doc pm an cdv ct), osl⟩) (h4 : PySem.W.codeIn K cdv x = true) (h5 : PySem.W.keepIn K (.ref f) = true) : DefIn2 K x y st := ⟨f, oc, od, kV, doc, pm, an, cdv, ct, osl, h1, h2, h3, h4, h5⟩
section
variable {P : Program} {w : World} {K : PySem.W.Frag} {mg : Str → Option Value} {base : Heap} {h : Heap}
theorem DefIn2.d {x y : Str} {st : Stmt} (d : DefIn2 K x y st) : DefIn K x st := by
  obtain ⟨f, oc, od, kV, doc, pm, an, cdv, ct, osl, h1, _, h3, h4, h5⟩ := d
  exact ⟨f, oc, od, kV, doc, pm, an, cdv, ct, osl, h1, h3, h4, h5⟩
theorem DefIn2.same {x y : Str} {st : Stmt} (d : DefIn2 K x y st) (X : K.In h) (G : h.Ns mainGlobals mg) : mg y = mg x := by
  obtain ⟨f, oc, od, kV, doc, pm, an, cdv, ct, osl, h1, h2, _⟩ := d
  rw [PySem.W.mg_of X G h1, PySem.W.mg_of X G h2]
theorem MethIn.fn {C : Addr} {m qual : Str} {st : Stmt} (d : MethIn K C m qual st) {ps : List Str} (hb : ∀ (kV doc pm : Value) (an : Option Addr) (cdv ct : Value) (us : List Value), us.length = ps.length → bindArgs (PySem.W.fnOf m qual (defArgs st) (defBody st) (defScope st) .none kV doc pm an cdv ct) ⟨us, []⟩ = pure (ps.zip us)) :
    ∃ (f : Addr) (fd : FuncData), Fun K m qual st f fd ∧ Meth K C m f ∧ Binds K fd ps [] := by
  obtain ⟨f, oc, od, kV, doc, pm, an, cdv, ct, osl, h1, h2, h3, h4, h5⟩ := d
  have F := fun_mk (st := st) h3 h4 h5
  exact ⟨f, _, F, ⟨h1, h2, h5⟩, F.binds hb⟩
end

open PySem PySem.Spec PyProof.Rows L2
/-! ### tuple(xs) whose object is known, dict() of it -/
section
variable {X : Cx}
/-- a tuple's object without a dict of its own -/
def PlT (H : Hp) (a : Addr) (xs : List V) : Prop := ∃ o : Obj, o.dict = none ∧ H a = some (.frz o (.tup xs))
def rTupF (K : PySem.W.Frag) : List V → Hp → VK → Prop := fun xs H Q => ∃ p ys, xs = [.ref p] ∧ ((SqL K H p ys ∧ ∀ l o, H l = none → o.dict = none → Q (.ref l) (upd H l (.frz o (.tup ys)))) ∨ (SqT K H p ys ∧ Q (.ref p) H))
theorem call_tupF (K : PySem.W.Frag) (hK : X.K = K) : CallR X (.type "tuple") (rTupF K) := by
  subst hK
  intro pins s σ H xs us Q I r h
  obtain ⟨p, ys, rfl, h⟩ := h
  obtain ⟨u, rfl, rx⟩ := vals1 r
  cases rx
  rcases h with ⟨hq, q⟩ | ⟨hq, q⟩
  · obtain ⟨its, r', pl, hz⟩ := I.list hq
    have hlen := r'.length
    refine call_tuple_list pl.isList (fun h' kp => ?_) (by simp only [List.size_toArray] <;> omega)
    have I1 : Inv X pins σ H { s with heap := h' } := I.kept (t' := s.toks) kp
    have I2 : Inv X pins σ (upd H h'.objs.size (.frz { cls := .type "tuple", data := .seq its.toArray } (.tup ys))) { s with heap := h'.push { cls := .type "tuple", data := .seq its.toArray } } :=
      I1.laid (t' := s.toks) (fun b o e => Heap.get?_push_of_some _ e) (Nat.le_refl _) (show ObjOk X.prog X.w _ _ _ (.frz _ (.tup ys)) from ⟨Heap.get?_push_size _ rfl, hz, its, r', IsTup.new _ _⟩)
    exact ⟨.ref h'.objs.size, _, I2, rfl, q _ _ (I1.hok.fresh (Nat.le_refl _)) rfl⟩
  · obtain ⟨its, r', pl, hz⟩ := I.tuple hq
    exact call_tuple_same pl ⟨.ref p, H, I, rfl, q⟩
/-- the pairs of a tuple, whose keys are tuples -/
def PairsT (K : PySem.W.Frag) (H : Hp) : List Addr → List (List L2.Key × V) → Prop := Paired fun p kv => ∃ b, SqT K H p [.ref b, kv.2] ∧ H b = some (.tup (kv.1.map kV))
theorem pairsT_of {pins : List (Addr × Obj)} {σ : L2.St} {H : Hp} {s : Shared} (I : Inv X pins σ H s) : ∀ {ps : List Addr} {kvs : List (List L2.Key × V)}, PairsT X.K H ps kvs →
    ∃ prs : List (List L2.Key × Addr × Value), KT H kvs prs ∧ prs.length = ps.length ∧ ∀ (j : Nat) (q : List L2.Key × Addr × Value), prs[j]? = some q → ∃ b : Addr, ps[j]? = some b ∧ s.heap.IsTuple b #[.ref q.2.1, q.2.2] ∧ (tupleKind (mixKind X.prog X.w)).is s.heap q.1 q.2.1
  | _, _, .nil => ⟨[], .nil, rfl, fun j q e => by simp at e⟩
  | _, _, .cons (a := p) (b := kv) ⟨kb, h, hb⟩ t => by
    obtain ⟨prs, r, hl, hp⟩ := pairsT_of I t
    obtain ⟨its, rv, ht, _⟩ := I.tuple h
    obtain ⟨u, y, ei, ru, ry⟩ := vals2 rv
    subst ei
    cases ru
    refine ⟨(kv.1, kb, y) :: prs, .cons ⟨rfl, hb, ry⟩ r, by rw [List.length_cons, List.length_cons, hl], fun j q e => ?_⟩
    cases j with
    | zero =>
      have e' : (kv.1, kb, y) = q := Option.some.inj e
      subst e'
      exact ⟨p, rfl, ht, key_of I.hok hb⟩
    | succ j =>
      obtain ⟨b, e1, e2, e3⟩ := hp j q (by simpa using e)
      exact ⟨b, by simpa using e1, e2, e3⟩
theorem kt_keys {H : Hp} : ∀ {kvs : List (List L2.Key × V)} {prs : List (List L2.Key × Addr × Value)}, KT H kvs prs → prs.map (·.1) = kvs.map (·.1)
  | _, _, .nil => rfl
  | _, _, .cons h t => by rw [List.map_cons, List.map_cons, kt_keys t, h.1]
theorem kt_upd {H : Hp} {p : Addr} {o : HO} (hp : H p = none) : ∀ {kvs : List (List L2.Key × V)} {prs : List (List L2.Key × Addr × Value)}, KT H kvs prs → KT (upd H p o) kvs prs
  | _, _, .nil => .nil
  | _, _, .cons h t => .cons ⟨h.1, (upd_ne (ne_of_none h.2.1 hp)).trans h.2.1, h.2.2⟩ (kt_upd hp t)
def rDictT (K : PySem.W.Frag) : List V → Hp → VK → Prop := fun xs H Q => ∃ (a : Addr) (ps : List Addr) (kvs : List (List L2.Key × V)), xs = [.ref a] ∧ PlT H a (ps.map V.ref) ∧ PairsT K H ps kvs ∧ (kvs.map (·.1)).Nodup ∧
    ∀ p, H p = none → Q (.ref p) (upd H p (.dT kvs))
theorem call_dictT (K : PySem.W.Frag) (hK : X.K = K) (hcalm : X.calm = true) (hu : X.A.units + 64 < cLine) : CallR X (.type "dict") (rDictT K) := by
  subst hK
  intro pins s σ H xs us Q I r q
  obtain ⟨a, ps, kvs, ex, ⟨o, hdn, ha⟩, hp, hnd, q⟩ := q
  subst ex
  obtain ⟨u, eu, rx⟩ := vals1 r
  subst eu
  cases rx
  obtain ⟨hget, hz, its, rv, hit⟩ := (show ObjOk X.prog X.w H s.heap a (.frz o (.tup (ps.map V.ref))) from I.hok a _ ha)
  have ei := refs_at rv
  subst ei
  rw [List.length_map] at hz
  obtain ⟨prs, rel, hl, hpr⟩ := pairsT_of I hp
  obtain ⟨o', ho', hc, n, hd⟩ := hit
  have eo : o' = o := by
    rw [hget] at ho'
    exact (Option.some.inj ho').symm
  subst eo
  have hnd2 : (prs.map (·.1)).Nodup := by rw [kt_keys rel]; exact hnd
  have hP := PySem.PairArg.tuple (prog := X.prog) (w := X.w) a (ps.map Value.ref).toArray (fun j => ps.getD j 0) (prs.map fun q => (Value.ref q.2.1, q.2.2))
  have hitem : PySem.PairItems s.heap (ps.map Value.ref).toArray (fun j => ps.getD j 0) (prs.map fun q => (Value.ref q.2.1, q.2.2)) := by
    refine ⟨by simp [hl], fun j k v e => ?_⟩
    rw [List.getElem?_map] at e
    obtain ⟨q', e1, e2⟩ := Option.map_eq_some_iff.mp e
    obtain ⟨b, h1, h2, h3⟩ := hpr j q' e1
    have e3 : k = .ref q'.2.1 := (congrArg Prod.fst e2).symm
    have e4 : v = q'.2.2 := (congrArg Prod.snd e2).symm
    have e5 : ps.getD j 0 = b := by rw [List.getD_eq_getElem?_getD, h1]; rfl
    refine ⟨by simp [h1], ?_⟩
    rw [e3, e4]
    show PySem.PairAt s.heap (ps.getD j 0) _ _
    rw [e5]
    exact .inl h2
  have hmem : ∀ x ∈ prs, (tupleKind (mixKind X.prog X.w)).is s.heap x.1 x.2.1 := fun x hx => by
    obtain ⟨j, hj⟩ := List.mem_iff_getElem?.mp hx
    obtain ⟨b, _, _, h3⟩ := hpr j x hj
    exact h3
  refine PySem.call_dict_pairsH (knd := tupleKind (mixKind X.prog X.w)) (ps := prs) hP (I.ok.hd hcalm) (show X.A.units + 1 + 1 < cLine by omega) ⟨⟨o', n, hget, hc, hdn, hd⟩, hitem⟩ ⟨by rw [List.length_map], fun i key v e => ?_⟩ (fun h' hk x hx => ?_) (by rw [List.length_map, hl]; exact hz) fun h' tk hd' k => ?_
  · have e : (prs.map fun q => (Value.ref q.2.1, q.2.2))[i]? = some (key, v) := e
    rw [List.getElem?_map] at e
    obtain ⟨q', e1, e2⟩ := Option.map_eq_some_iff.mp e
    refine ⟨q'.1, q'.2.1, ?_, (congrArg Prod.fst e2).symm⟩
    have e6 : q'.2.2 = v := congrArg Prod.snd e2
    rw [e1, ← e6]
  · obtain ⟨o2, its2, n2, h1, h2, h3, h4⟩ := hmem x hx
    exact ⟨o2, its2, n2, hk _ _ (Nat.ne_of_lt (Heap.lt_size h1)) (by simp) h1, h2, h3, h4⟩
  · rw [PySem.storedAllH_nil_of_nodup _ hnd2] at hd'
    have hm : (s.heap.objs.size == sysModules) = false := beq_eq_false_iff_ne.mpr (Nat.ne_of_gt I.big)
    have fr := I.hok.fresh (a := s.heap.objs.size) (Nat.le_refl _)
    obtain ⟨od, es, ep, w1, w2, w3, w4, w5, w6⟩ := hd'
    have hlen : kvs.length ≤ sizeLine := by
      have e1 := congrArg List.length (kt_keys rel)
      rw [List.length_map, List.length_map] at e1
      rw [← e1, hl]
      exact hz
    exact ⟨.ref s.heap.objs.size, upd H s.heap.objs.size (.dT kvs), I.laid (t' := tk) (fun b u e => k b u (by simp) e) (Nat.le_refl _) (show ObjOk X.prog X.w _ _ _ (.dT kvs) from ⟨hlen, hm, prs, kt_upd fr rel, od, es, ep, w1, w2, w3, w4, w6⟩), rfl, q _ fr⟩
/-- the pairs of a tuple, whose keys are texts or numbers -/
def rDictK (K : PySem.W.Frag) : List V → Hp → VK → Prop := fun xs H Q => ∃ (a : Addr) (ps : List Addr) (kvs : List (L2.Key × V)), xs = [.ref a] ∧ PlT H a (ps.map V.ref) ∧ Paired (fun p kv => SqT K H p [kV kv.1, kv.2]) ps kvs ∧
    ∀ p, H p = none → Q (.ref p) (upd H p (.dK (mergeK [] kvs)))
end

open PySem PySem.Spec PyProof.Rows L2
/-! ### data without lists -/
def SqP (H : Hp) (a : Addr) (xs : List V) : Prop := H a = some (.tup xs)
mutual
inductive Im (H : Hp) : V → PyData → Prop
  | non : Im H .non .none
  | int (i : Int) : Im H (.int i) (.int i)
  | str (x : Str) (h : PyData.strOk x = true) : Im H (.str x) (.str x)
  | tup {a : Addr} {xs : List V} {ds : List PyData} : SqP H a xs → ImAll H xs ds → Im H (.ref a) (.tuple ds)
inductive ImAll (H : Hp) : List V → List PyData → Prop
  | nil : ImAll H [] []
  | cons {v : V} {vs : List V} {d : PyData} {ds : List PyData} : Im H v d → ImAll H vs ds → ImAll H (v :: vs) (d :: ds)
end
mutual
theorem Im.dp {K : PySem.W.Frag} {H : Hp} : ∀ (d : PyData) (v : V), Im H v d → Dp K H v d
  | .none, _, h => by cases h; exact .non
  | .bool b, _, h => by cases h
  | .int i, _, h => by cases h; exact .int i
  | .str x, _, h => by cases h; exact .str x
  | .list _, _, h => by cases h
  | .dict _, _, h => by cases h
  | .tuple ds, _, h => by
    cases h with
    | tup h1 h2 => exact .tup (SqT.of h1) (ImAll.dp ds _ h2)
theorem ImAll.dp {K : PySem.W.Frag} {H : Hp} : ∀ (ds : List PyData) (vs : List V), ImAll H vs ds → DpAll K H vs ds
  | [], _, h => by cases h; exact .nil
  | d :: ds, _, h => by
    cases h with
    | cons h1 h2 => exact .cons (Im.dp d _ h1) (ImAll.dp ds _ h2)
end
/-- all the objects that may change are lists -/
def Lsts (H : Hp) (ms : List Addr) : Prop := ∀ b ∈ ms, ∃ xs, H b = some (.lst xs)
theorem SqP.ext {T : List (Addr × Str)} {ms : List Addr} {H H' : Hp} {a : Addr} {xs : List V} (h : SqP H a xs) (e : Ext T ms H H') (hm : Lsts H ms) : SqP H' a xs := by
  have hn : ∀ o, H a = some o → (∀ xs, o ≠ .lst xs) → a ∉ ms := fun o ho hl hb => by
    obtain ⟨ys, hy⟩ := hm a hb
    rw [ho] at hy
    exact hl ys (Option.some.inj hy)
  exact e.keep a _ (hn _ h fun _ z => by cases z) (fun _ z => by cases z) h
mutual
theorem Im.ext {T : List (Addr × Str)} {ms : List Addr} {H H' : Hp} (e : Ext T ms H H') (hm : Lsts H ms) : ∀ (d : PyData) (v : V), Im H v d → Im H' v d
  | .none, _, h => by cases h; exact .non
  | .bool b, _, h => by cases h
  | .int i, _, h => by cases h; exact .int i
  | .str x, _, h => by
    cases h with
    | str _ q => exact .str x q
  | .list _, _, h => by cases h
  | .dict _, _, h => by cases h
  | .tuple ds, _, h => by
    cases h with
    | tup h1 h2 => exact .tup (h1.ext e hm) (ImAll.ext e hm ds _ h2)
theorem ImAll.ext {T : List (Addr × Str)} {ms : List Addr} {H H' : Hp} (e : Ext T ms H H') (hm : Lsts H ms) : ∀ (ds : List PyData) (vs : List V), ImAll H vs ds → ImAll H' vs ds
  | [], _, h => by cases h; exact .nil
  | d :: ds, _, h => by
    cases h with
    | cons h1 h2 => exact .cons (Im.ext e hm d _ h1) (ImAll.ext e hm ds _ h2)
end
theorem ImAll.len {H : Hp} : ∀ {vs : List V} {ds : List PyData}, ImAll H vs ds → vs.length = ds.length
  | _, _, .nil => rfl
  | _, _, .cons _ t => by rw [List.length_cons, List.length_cons, t.len]
theorem ImAll.get {H : Hp} : ∀ {vs : List V} {ds : List PyData} {i : Nat} {d : PyData}, ImAll H vs ds → ds[i]? = some d → ∃ v, vs[i]? = some v ∧ Im H v d
  | _, _, 0, d, .cons h t, e => ⟨_, rfl, by rw [← Option.some.inj (show some _ = some d from e)]; exact h⟩
  | _, _, i + 1, d, .cons h t, e => t.get (i := i) e
theorem ImAll.get' {H : Hp} : ∀ {vs : List V} {ds : List PyData} {i : Nat} {v : V}, ImAll H vs ds → vs[i]? = some v → ∃ d, ds[i]? = some d ∧ Im H v d
  | _, _, 0, d, .cons h t, e => ⟨_, rfl, by rw [← Option.some.inj (show some _ = some d from e)]; exact h⟩
  | _, _, i + 1, d, .cons h t, e => t.get' (i := i) e
theorem ImAll.app {H : Hp} : ∀ {vs ws : List V} {ds es : List PyData}, ImAll H vs ds → ImAll H ws es → ImAll H (vs ++ ws) (ds ++ es)
  | _, _, _, _, .nil, h => h
  | _, _, _, _, .cons a t, h => .cons a (t.app h)
theorem ImAll.snoc {H : Hp} {vs : List V} {ds : List PyData} {v : V} {d : PyData} (h : ImAll H vs ds) (x : Im H v d) : ImAll H (vs ++ [v]) (ds ++ [d]) := h.app (.cons x .nil)
theorem ImAll.drop {H : Hp} : ∀ {vs : List V} {ds : List PyData} (n : Nat), ImAll H vs ds → ImAll H (vs.drop n) (ds.drop n)
  | _, _, 0, h => h
  | _, _, n + 1, .nil => .nil
  | _, _, n + 1, .cons _ t => t.drop n
theorem ImAll.take {H : Hp} : ∀ {vs : List V} {ds : List PyData} (n : Nat), ImAll H vs ds → ImAll H (vs.take n) (ds.take n)
  | _, _, 0, h => .nil
  | _, _, n + 1, .nil => .nil
  | _, _, n + 1, .cons h t => .cons h (t.take n)
theorem ImAll.strs {H : Hp} : ∀ {zs : List Str}, (∀ z ∈ zs, PyData.strOk z = true) → ImAll H (zs.map V.str) (zs.map PyData.str)
  | [], _ => .nil
  | z :: zs, h => .cons (.str z (h z List.mem_cons_self)) (ImAll.strs fun y hy => h y (List.mem_cons_of_mem _ hy))
mutual
theorem Im.lay {H : Hp} : ∀ (d : PyData) (v : V), Im H v d → d.canLay0 = true
  | .none, _, h => rfl
  | .bool b, _, h => by cases h
  | .int i, _, h => rfl
  | .str x, _, h => by
    cases h with
    | str _ q => exact q
  | .list _, _, h => by cases h
  | .dict _, _, h => by cases h
  | .tuple ds, _, h => by
    cases h with
    | tup h1 h2 => exact ImAll.lay ds _ h2
theorem ImAll.lay {H : Hp} : ∀ (ds : List PyData) (vs : List V), ImAll H vs ds → PyData.canLayAll0 ds = true
  | [], _, h => rfl
  | d :: ds, _, h => by
    cases h with
    | cons h1 h2 =>
      show (d.canLay0 && PyData.canLayAll0 ds) = true
      rw [Im.lay d _ h1, ImAll.lay ds _ h2]
      rfl
end
theorem Im.shaped {H : Hp} {d : PyData} {v : V} (h : Im H v d) (hd : d.depth ≤ 64) : SeqAt.shaped d = true := by
  unfold SeqAt.shaped
  rw [Im.lay d v h, decide_eq_true hd]
  rfl
theorem ImAll.strs' {H : Hp} : ∀ {zs : List Str} {vs : List V}, ImAll H vs (zs.map PyData.str) → vs = zs.map V.str
  | [], _, h => by cases h; rfl
  | z :: zs, _, h => by
    cases h with
    | cons a t =>
      cases a
      rw [List.map_cons, ImAll.strs' t]
theorem Im.str' {H : Hp} {v : V} {z : Str} (h : Im H v (.str z)) : v = .str z := by cases h; rfl
theorem Im.int' {H : Hp} {v : V} {z : Int} (h : Im H v (.int z)) : v = .int z := by cases h; rfl
theorem Im.tup' {H : Hp} {v : V} {ds : List PyData} (h : Im H v (.tuple ds)) : ∃ a xs, v = .ref a ∧ SqP H a xs ∧ ImAll H xs ds := by
  cases h with
  | tup h1 h2 => exact ⟨_, _, rfl, h1, h2⟩
theorem Im.pair' {H : Hp} {v : V} {d1 d2 : PyData} (h : Im H v (.tuple [d1, d2])) : ∃ a x y, v = .ref a ∧ SqP H a [x, y] ∧ Im H x d1 ∧ Im H y d2 := by
  obtain ⟨a, xs, rfl, h1, h2⟩ := h.tup'
  cases h2 with
  | cons a1 t =>
    cases t with
    | cons a2 t =>
      cases t
      exact ⟨a, _, _, rfl, h1, a1, a2⟩
theorem Im.new2 {H : Hp} {a : Addr} {v1 v2 : V} {d1 d2 : PyData} (h1 : Im H v1 d1) (h2 : Im H v2 d2) (ha : H a = some (.tup [v1, v2])) : Im H (.ref a) (.tuple [d1, d2]) := .tup ha (.cons h1 (.cons h2 .nil))
theorem Im.new3 {H : Hp} {a : Addr} {v1 v2 v3 : V} {d1 d2 d3 : PyData} (h1 : Im H v1 d1) (h2 : Im H v2 d2) (h3 : Im H v3 d3) (ha : H a = some (.tup [v1, v2, v3])) : Im H (.ref a) (.tuple [d1, d2, d3]) := .tup ha (.cons h1 (.cons h2 (.cons h3 .nil)))
/-- a list of such data -/
def Ls (H : Hp) (a : Addr) (ds : List PyData) : Prop := ∃ xs, H a = some (.lst xs) ∧ ImAll H xs ds
theorem Ls.ext {T : List (Addr × Str)} {ms : List Addr} {H H' : Hp} {a : Addr} {ds : List PyData} (h : Ls H a ds) (e : Ext T ms H H') (ha : a ∉ ms) (hm : Lsts H ms) : Ls H' a ds := by
  obtain ⟨xs, h1, h2⟩ := h
  exact ⟨xs, e.lst ha h1, ImAll.ext e hm _ _ h2⟩
theorem Ls.strs {H : Hp} {a : Addr} {zs : List Str} (h : Ls H a (zs.map PyData.str)) : H a = some (.lst (zs.map V.str)) := by
  obtain ⟨xs, h1, h2⟩ := h
  rw [← h2.strs']
  exact h1
theorem Lsts.nil {H : Hp} : Lsts H [] := fun b hb => by cases hb
theorem Tape.lsts {H : Hp} {l t : Addr} (h : Tape l H t) : Lsts H [t] := fun b hb => by
  rw [List.mem_singleton.mp hb]
  obtain ⟨ns, pos, rest, st, bud, h1, _⟩ := h
  exact ⟨_, h1⟩
theorem Nw.sqp {H : Hp} {p q : Addr} {xs : List V} (f : Nw H p) (h : SqP H q xs) : q ≠ p := f.tup h
theorem no_iff {p : Prop} {q : Prop} (h1 : ¬ p) (h2 : ¬ q) : p ↔ q := ⟨fun h => absurd h h1, fun h => absurd h h2⟩
mutual
theorem Im.eqv {H : Hp} : ∀ (d e : PyData) (v u : V), Im H v d → Im H u e → (PyData.eqv d e = true ↔ d = e)
  | .none, e, v, u, _, h2 => by
    cases h2 with
    | non => exact ⟨fun _ => rfl, fun _ => rfl⟩
    | int i => exact no_iff (fun h => by cases h) (fun h => by cases h)
    | str i _ => exact no_iff (fun h => by cases h) (fun h => by cases h)
    | tup a b => exact no_iff (fun h => by cases h) (fun h => by cases h)
  | .bool _, e, v, u, h1, h2 => by cases h1
  | .list _, e, v, u, h1, h2 => by cases h1
  | .dict _, e, v, u, h1, h2 => by cases h1
  | .int i, e, v, u, _, h2 => by
    cases h2 with
    | non => exact no_iff (fun h => by cases h) (fun h => by cases h)
    | int j =>
      show ((i == j) = true) ↔ _
      rw [beq_iff_eq]
      exact ⟨fun h => by rw [h], fun h => by injection h⟩
    | str i _ => exact no_iff (fun h => by cases h) (fun h => by cases h)
    | tup a b => exact no_iff (fun h => by cases h) (fun h => by cases h)
  | .str x, e, v, u, _, h2 => by
    cases h2 with
    | non => exact no_iff (fun h => by cases h) (fun h => by cases h)
    | int i => exact no_iff (fun h => by cases h) (fun h => by cases h)
    | str y _ =>
      show ((x == y) = true) ↔ _
      rw [beq_iff_eq]
      exact ⟨fun h => by rw [h], fun h => by injection h⟩
    | tup a b => exact no_iff (fun h => by cases h) (fun h => by cases h)
  | .tuple ds, e, v, u, h0, h2 => by
    cases h0 with
    | tup _ h1 =>
      cases h2 with
      | non => exact no_iff (fun h => by cases h) (fun h => by cases h)
      | int i => exact no_iff (fun h => by cases h) (fun h => by cases h)
      | str i _ => exact no_iff (fun h => by cases h) (fun h => by cases h)
      | tup _ h3 =>
        have key := ImAll.eqv ds _ _ _ h1 h3
        exact ⟨fun h => by rw [key.mp h], fun h => key.mpr (by injection h)⟩
theorem ImAll.eqv {H : Hp} : ∀ (ds es : List PyData) (vs us : List V), ImAll H vs ds → ImAll H us es → (PyData.eqvAll ds es = true ↔ ds = es)
  | [], es, vs, us, h1, h2 => by
    cases h2 with
    | nil => exact ⟨fun _ => rfl, fun _ => rfl⟩
    | cons a b => exact no_iff (fun h => by cases h) (fun h => by cases h)
  | d :: ds, es, vs, us, h1, h2 => by
    cases h1 with
    | cons h3 h4 =>
      cases h2 with
      | nil => exact no_iff (fun h => by cases h) (fun h => by cases h)
      | cons h5 h6 =>
        have k1 := Im.eqv d _ _ _ h3 h5
        have k2 := ImAll.eqv ds _ _ _ h4 h6
        show ((PyData.eqv _ _ && PyData.eqvAll _ _) = true) ↔ _
        rw [Bool.and_eq_true, k1, k2]
        exact ⟨fun h => by rw [h.1, h.2], fun h => (by injection h with a b; exact ⟨a, b⟩)⟩
end
theorem any_eqv {H : Hp} {v : V} {d : PyData} (h : Im H v d) : ∀ {ds : List PyData} {vs : List V}, ImAll H vs ds → ((ds.any fun z => PyData.eqv z d) = true ↔ d ∈ ds)
  | [], _, _ => by simp
  | e :: ds, _, .cons h1 h2 => by
    rw [List.any_cons, Bool.or_eq_true, Im.eqv _ _ _ _ h1 h, any_eqv h h2, List.mem_cons]
    exact ⟨fun h => h.imp Eq.symm id, fun h => h.imp Eq.symm id⟩
theorem bool_of {a b : Bool} (h : a = true ↔ b = true) : a = b := by
  cases a <;> cases b <;> simp_all
/-! ### reading such data -/
section
variable {K : PySem.W.Frag} {σ : L2.St} {H : Hp} {Q : VK}
theorem SqP.t {a : Addr} {xs : List V} (h : SqP H a xs) : SqT K H a xs := SqT.of h
theorem rd_ixI {v : V} {ds : List PyData} {i : Int} {d : PyData} (h : Im H v (.tuple ds)) (a : atI ds i = some d) (q : ∀ u, Im H u d → Q u H) : rIx K v (.int i) H Q := by
  obtain ⟨p, xs, rfl, h1, h2⟩ := h.tup'
  have key : ∃ u, atI xs i = some u ∧ Im H u d := by
    unfold atI at a ⊢
    cases e : ixN ds.length i with
    | none =>
      rw [e] at a
      cases a
    | some k =>
      rw [e] at a
      obtain ⟨u, e1, e2⟩ := h2.get (i := k) (by simpa using a)
      exact ⟨u, by rw [h2.len, e]; simpa using e1, e2⟩
  obtain ⟨u, h3, h4⟩ := key
  exact rd_ixT (SqP.t h1) h3 (q u h4)
end

open PySem PySem.Spec PyProof.Rows L2
open PySem.W (EachIs AllAlike Sortable dataLe)
/-! ### signs over data -/
section
variable {X : Cx}
def rInDT (K : PySem.W.Frag) : R2 := fun x y H Q => ∃ d ds, Dp K H x d ∧ Dp K H y (.tuple ds) ∧ SeqAt.shaped d = true ∧ SeqAt.shaped (.tuple ds) = true ∧ Q (.bl (ds.any fun z => PyData.eqv z d)) H
def rNinDT (K : PySem.W.Frag) : R2 := fun x y H Q => ∃ d ds, Dp K H x d ∧ Dp K H y (.tuple ds) ∧ SeqAt.shaped d = true ∧ SeqAt.shaped (.tuple ds) = true ∧ Q (.bl (!ds.any fun z => PyData.eqv z d)) H
theorem canLay_shapedT {xs : List PyData} (h : SeqAt.shaped (.tuple xs) = true) : PyData.canLayAll0 xs = true := (Bool.and_eq_true _ _ ▸ h : _ ∧ _).1
theorem room_in_shapedT {a : Nat} {d : PyData} {xs : List PyData} (h : SeqAt.shaped d = true) (hu : a + 65 < cLine) : a + 1 + min (PyData.depthAll xs) d.depth < cLine := by
  have h1 : d.depth ≤ 64 := of_decide_eq_true (Bool.and_eq_true _ _ ▸ h : _ ∧ _).2
  have h2 : min (PyData.depthAll xs) d.depth ≤ d.depth := Nat.min_le_right _ _
  omega
theorem op_inDT (hu : X.A.units + 65 < cLine) : OpR X (compareOp .In) (rInDT X.K) := by
  intro pins s σ H x y v u Q I rx ry h
  obtain ⟨d, ds, hd, he, sd, se, q⟩ := h
  obtain ⟨as, r1⟩ := Dp.reads I d x v hd rx
  obtain ⟨bs, r2⟩ := Dp.reads I (.tuple ds) y u he ry
  exact SeqAt.in_tuple_reads r2 r1 (canLay_shapedT se) (SeqAt.canLay_of_shaped sd) (room_in_shapedT sd hu) ⟨.bl _, H, I, rfl, q⟩
theorem op_ninDT (hu : X.A.units + 65 < cLine) : OpR X (compareOp .NotIn) (rNinDT X.K) := by
  intro pins s σ H x y v u Q I rx ry h
  obtain ⟨d, ds, hd, he, sd, se, q⟩ := h
  obtain ⟨as, r1⟩ := Dp.reads I d x v hd rx
  obtain ⟨bs, r2⟩ := Dp.reads I (.tuple ds) y u he ry
  exact SeqAt.notIn_tuple_reads r2 r1 (canLay_shapedT se) (SeqAt.canLay_of_shaped sd) (room_in_shapedT sd hu) ⟨.bl _, H, I, rfl, q⟩
def rInW (K : PySem.W.Frag) : R2 := fun x y H Q => rInU K x y H Q ∨ (rInD K x y H Q ∨ rInDT K x y H Q)
def rNinW (K : PySem.W.Frag) : R2 := fun x y H Q => rNinU K x y H Q ∨ (rNotInD K x y H Q ∨ rNinDT K x y H Q)
theorem Room.units65 {k : Nat} {A : Around} (r : Room k A) : A.units + 65 < cLine := by have := r.un; omega
theorem op_inW (K : PySem.W.Frag) (hK : X.K = K) (hu : X.A.units + 65 < cLine) : OpR X (compareOp .In) (rInW K) := by
  have h := op_inU (X := X) K hK
  subst hK
  exact h.or ((op_inD hu).or (op_inDT hu))
theorem op_ninW (K : PySem.W.Frag) (hK : X.K = K) (hu : X.A.units + 65 < cLine) : OpR X (compareOp .NotIn) (rNinW K) := by
  have h := op_ninU (X := X) K hK
  subst hK
  exact h.or ((op_notInD hu).or (op_ninDT hu))
/-- unpacking a tuple or a list -/
def gTupU (K : PySem.W.Frag) (n : Nat) (t : TGs) : TG := fun v σ H Q => gTup K n t v σ H Q ∨ gUnl K n t v σ H Q
theorem pg_tupU (K : PySem.W.Frag) (hK : X.K = K) {es : List Expr} {k : Nat} {t : TGs} {n : Nat} {pos : Pos} (hc : X.calm = true) (h : PGs X es t)
    (hn : (assignEach es X.env).length = n := by rfl) (hst : (assignEach es X.env).findIdx? (·.1) = none := by rfl) : PG X (.Tuple es k pos) (gTupU K n t) := by
  subst hK
  refine ⟨fun pins s σ H v u Q I r hw => ?_⟩
  rcases hw with hw | hw
  · exact (pg_tup hc h hn hst).run pins s σ H v u Q I r hw
  · exact (pg_unl hc h hn hst).run pins s σ H v u Q I r hw
def rSortU (K : PySem.W.Frag) : List V → Hp → VK → Prop := rSortD K
end
section
variable {X : Cx}
theorem pa_starU (K : PySem.W.Frag) (hK : X.K = K) {e : Expr} {es : List Expr} {te : TE} {t : TA} {p : Pos} (he : PE X e te) (ht : PA X es t)
    (hs : starEach (e.Starred p :: es) X.env = (true, eval e X.env) :: starEach es X.env := by rfl) : PA X (e.Starred p :: es) (StX.tStar K te t) := by
  subst hK
  exact StX.pa_star he ht hs
end
/-! ### reading -/
section
variable {K : PySem.W.Frag} {σ : L2.St} {H : Hp} {Q : VK}
theorem rd_star {te : TE} {t : TA} {Q : List V → Hp → Prop} (q : te σ H fun x H1 => ∃ p xs, x = V.ref p ∧ (SqT K H1 p xs ∨ SqL K H1 p xs) ∧ t σ H1 fun ys H2 => Q (xs ++ ys) H2) : StX.tStar K te t σ H Q := q
theorem rd_gtup {n : Nat} {t : TGs} {a : Addr} {xs : List V} {Q : L2.St → Hp → Prop} (h : SqT K H a xs) (hl : xs.length = n) (q : t xs σ H Q) : gTupU K n t (.ref a) σ H Q := .inl ⟨a, xs, rfl, h, hl, q⟩
theorem rd_glst {n : Nat} {t : TGs} {a : Addr} {xs : List V} {Q : L2.St → Hp → Prop} (h : SqL K H a xs) (hl : xs.length = n) (q : t xs σ H Q) : gTupU K n t (.ref a) σ H Q := .inr ⟨a, xs, rfl, h, hl, q⟩
theorem rd_gcons {t : TG} {u : TGs} {v : V} {r : List V} {Q : L2.St → Hp → Prop} (q : t v σ H fun σ' H' => u r σ' H' Q) : gCons t u (v :: r) σ H Q := ⟨v, r, rfl, q⟩
theorem rd_gnil {Q : L2.St → Hp → Prop} (q : Q σ H) : gNil [] σ H Q := ⟨rfl, q⟩
theorem rd_gpair {i j : Nat} {v : V} {d1 d2 : PyData} {Q : L2.St → Hp → Prop} (h : Im H v (.tuple [d1, d2])) (q : ∀ v1 v2, Im H v1 d1 → Im H v2 d2 → Q ((σ.set i (some v1)).set j (some v2)) H) : gTupU K 2 (gCons (gName i) (gCons (gName j) gNil)) v σ H Q := by
  obtain ⟨a, x, y, rfl, h1, h2, h3⟩ := h.pair'
  exact rd_gtup (SqP.t h1) rfl (rd_gcons (rd_name (rd_gcons (rd_name (rd_gnil (q x y h2 h3))))))
theorem rd_inWs {o : Str} {a : Addr} {zs : List Str} (ha : H a = some (.lst (zs.map V.str))) (q : Q (.bl (decide (o ∈ zs))) H) : rInW K (.str o) (.ref a) H Q := by
  refine .inl (.inl ⟨a, _, rfl, .inl (.inl (.inl ha)), rfl, ?_, ?_⟩)
  · rw [List.all_map]
    exact List.all_eq_true.mpr fun _ _ => rfl
  · have e : inV (.str o) (zs.map V.str) = decide (o ∈ zs) := by
      induction zs with
      | nil => rfl
      | cons z zs ih =>
        have h2 : inV (.str o) ((z :: zs).map V.str) = ((z == o) || inV (.str o) (zs.map V.str)) := rfl
        rw [h2]
        have ih2 : inV (.str o) (zs.map V.str) = decide (o ∈ zs) := by
          clear h2 ha q ih
          induction zs with
          | nil => rfl
          | cons y ys ih =>
            show ((y == o) || inV (.str o) (ys.map V.str)) = _
            rw [ih]
            by_cases h : y = o
            · subst h
              simp
            · have h2 : ¬ o = y := fun e => h e.symm
              simp [h, h2]
        rw [ih2]
        by_cases h : z = o
        · subst h
          simp
        · have h2 : ¬ o = z := fun e => h e.symm
          simp [h, h2]
    rw [show (if false = true then (!inV (.str o) (zs.map V.str)) else inV (.str o) (zs.map V.str)) = inV (.str o) (zs.map V.str) from rfl, e]
    exact q
theorem inV_strs0 (o : Str) : ∀ zs : List Str, inV (.str o) (zs.map V.str) = decide (o ∈ zs)
  | [] => rfl
  | z :: zs => by
    show ((z == o) || inV (.str o) (zs.map V.str)) = _
    rw [inV_strs0 o zs]
    by_cases h : z = o
    · subst h
      simp
    · have h2 : ¬ o = z := fun e => h e.symm
      simp [h, h2]
theorem rd_ninWs {o : Str} {a : Addr} {zs : List Str} (ha : H a = some (.lst (zs.map V.str))) (q : Q (.bl (!decide (o ∈ zs))) H) : rNinW K (.str o) (.ref a) H Q := by
  refine .inl (.inl ⟨a, _, rfl, .inl (.inl (.inl ha)), rfl, ?_, ?_⟩)
  · rw [List.all_map]
    exact List.all_eq_true.mpr fun _ _ => rfl
  · rw [if_pos rfl, inV_strs0]
    exact q
/-- a text in a tuple of texts -/
theorem rd_inWt {o : Str} {a : Addr} {zs : List Str} (ha : SqT K H a (zs.map V.str)) (q : Q (.bl (decide (o ∈ zs))) H) : rInW K (.str o) (.ref a) H Q := by
  refine .inl (.inl ⟨a, _, rfl, .inr ha, rfl, ?_, ?_⟩)
  · rw [List.all_map]
    exact List.all_eq_true.mpr fun _ _ => rfl
  · rw [if_neg (by decide), inV_strs0]
    exact q
theorem rd_eqI {v u : V} {d e : PyData} (h1 : Im H v d) (h2 : Im H u e) (s1 : d.depth ≤ 64) (s2 : e.depth ≤ 64) {b : Bool} (hb : d = e ↔ b = true) (q : Q (.bl b) H) : rEqU K v u H Q := .inr ⟨_, _, h1.dp, h2.dp, h1.shaped s1, h2.shaped s2, by rw [bool_of ((Im.eqv _ _ _ _ h1 h2).trans hb)]; exact q⟩
theorem rd_neI {v u : V} {d e : PyData} (h1 : Im H v d) (h2 : Im H u e) (s1 : d.depth ≤ 64) (s2 : e.depth ≤ 64) {b : Bool} (hb : d = e ↔ b = true) (q : Q (.bl (!b)) H) : rNeU K v u H Q := .inr ⟨_, _, h1.dp, h2.dp, h1.shaped s1, h2.shaped s2, by rw [bool_of ((Im.eqv _ _ _ _ h1 h2).trans hb)]; exact q⟩
theorem rd_inWI {v u : V} {d : PyData} {ds : List PyData} (h1 : Im H v d) (h2 : Im H u (.tuple ds)) (s1 : d.depth ≤ 64) (s2 : PyData.depth (.tuple ds) ≤ 64) {b : Bool} (hb : d ∈ ds ↔ b = true) (q : Q (.bl b) H) : rInW K v u H Q := .inr (.inr ⟨d, ds, h1.dp, h2.dp, h1.shaped s1, h2.shaped s2, by
  obtain ⟨a, xs, _, _, h3⟩ := h2.tup'
  rw [bool_of ((any_eqv h1 h3).trans hb)]
  exact q⟩)
theorem Ls.dp {a : Addr} {ds : List PyData} (h : Ls H a ds) : Dp K H (.ref a) (.list ds) := by
  obtain ⟨xs, h1, h2⟩ := h
  exact .lst (SqL.of h1) h2.dp
theorem rd_ninWL {v : V} {a : Addr} {d : PyData} {ds : List PyData} (h1 : Im H v d) (h2 : Ls H a ds) (s1 : d.depth ≤ 64) (s2 : PyData.depth (.list ds) ≤ 64) {b : Bool} (hb : d ∈ ds ↔ b = true) (q : Q (.bl (!b)) H) : rNinW K v (.ref a) H Q := .inr (.inl ⟨d, ds, h1.dp, h2.dp, h1.shaped s1, by
  obtain ⟨xs, e1, e2⟩ := h2
  unfold SeqAt.shaped
  rw [show PyData.canLay0 (.list ds) = true from ImAll.lay ds _ e2, decide_eq_true s2]
  rfl, by
  obtain ⟨xs, e1, e2⟩ := h2
  rw [bool_of ((any_eqv h1 e2).trans hb)]
  exact q⟩)
theorem each_im {H : Hp} {xs : List V} {ds : List PyData} (h : ImAll H xs ds) : ∀ {ys : List V} {es : List PyData}, EachIs (fun y d => (y, d) ∈ xs.zip ds) ys es → ImAll H ys es
  | _, _, .nil => .nil
  | _, _, .cons a t => by
    refine .cons ?_ (each_im h t)
    clear t
    have key : ∀ {xs : List V} {ds : List PyData} {v : V} {d : PyData}, ImAll H xs ds → (v, d) ∈ xs.zip ds → Im H v d := by
      intro xs ds v d h
      induction xs generalizing ds with
      | nil => intro a; simp at a
      | cons x xs ih =>
        cases h with
        | cons h1 h2 =>
          intro a
          rw [List.zip_cons_cons] at a
          rcases List.mem_cons.mp a with a | a
          · cases a
            exact h1
          · exact ih h2 a
    exact key h a
/-- sorted of a list of data -/
def srtD (ds : List PyData) : List PyData := ds.mergeSort (dataLe false id)
theorem rd_sortI {a : Addr} {ds : List PyData} (h : Ls H a ds) (h1 : AllAlike ds) (h2 : Sortable ds) (h3 : ∀ d ∈ ds, d.depth ≤ 60) (q : ∀ p ys, H p = none → ImAll H ys (srtD ds) → Q (.ref p) (upd H p (.lst ys))) : rSortD K [.ref a] H Q := by
  obtain ⟨xs, e1, e2⟩ := h
  exact ⟨a, xs, ds, rfl, SqL.of e1, e2.dp, h1, h2, h3, fun ys p hs hp => q p ys hp (each_im e2 hs)⟩
theorem rd_tupF {p : Addr} {ys : List V} (h : SqL K H p ys) (q : ∀ l o, H l = none → o.dict = none → Q (.ref l) (upd H l (.frz o (.tup ys)))) : rTupF K [.ref p] H Q := ⟨p, ys, rfl, .inl ⟨h, q⟩⟩
theorem rd_listT {p : Addr} {ys : List V} (h : SqT K H p ys) (q : ∀ l, H l = none → Q (.ref l) (upd H l (.lst ys))) : rListOf K [.ref p] H Q := ⟨p, ys, rfl, .inr h, q⟩
theorem rd_lenT {p : Addr} {ys : List V} (h : SqT K H p ys) (q : Q (.int ys.length) H) : rLenU K [.ref p] H Q := .inr ⟨p, ys, rfl, .inr h, q⟩
theorem rd_slT {a : Addr} {xs : List V} {lo hi : Option Int} (h : SqT K H a xs) (hw : ¬ (HT.sIx xs.length 0 lo = 0 ∧ HT.sIx xs.length xs.length hi = xs.length)) (q : ∀ p, H p = none → Q (.ref p) (upd H p (.tup (cutV xs lo hi)))) : rSlU K (.ref a) lo hi H Q := .inr (.inr ⟨a, xs, rfl, h, hw, q⟩)
theorem rd_catT {a b : Addr} {xs ys : List V} (h1 : SqT K H a xs) (h2 : SqT K H b ys) (n1 : xs ≠ []) (n2 : ys ≠ []) (c : xs.length + ys.length ≤ sizeLine) (q : ∀ p, H p = none → Q (.ref p) (upd H p (.tup (xs ++ ys)))) : rPlus K (.ref a) (.ref b) H Q := .inr (.inr (.inr (.inl ⟨a, b, xs, ys, rfl, rfl, h1, h2, n1, c, fun e => absurd e n2, fun _ => q⟩)))
theorem rd_catT0 {a b : Addr} {ys : List V} (h1 : SqT K H a []) (h2 : SqT K H b ys) (q : Q (.ref b) H) : rPlus K (.ref a) (.ref b) H Q := .inr (.inr (.inr (.inr ⟨a, b, ys, rfl, rfl, h1, h2, q⟩)))
/-! ### comprehensions over data -/
theorem lcg_im (T : List (Addr × Str)) (ms : List Addr) {J : It} {n : Nat} {G : Hp → Prop} {Y : Nat → Hp → V → Hp → Prop} {g : TG} {tt : TT} {te : TE} {vs : List Nat} (w : Walk J n G Y) (xs : List V) (hn : n = xs.length) (hY : ∀ i H x H', Y i H x H' → H' = H ∧ xs[i]? = some x)
    (Iv : Hp → Prop) (h0 : Iv H) (hI0 : ∀ D o, H D = none → Iv (upd H D o)) (hI : ∀ D H', Nw H D → Iv H' → ∀ ys u, H' D = some (.lst ys) → Iv (upd H' D u)) (hL : ∀ H', Iv H' → Lsts H' ms) (hG : ∀ H', Ext T ms H H' → Iv H' → G H') (hl : xs.length < sizeLine)
    (p : V → Bool) (Rel : PyData → V → Prop)
    (step : ∀ (i : Nat) (x : V), xs[i]? = some x → ∀ H', Ext T ms H H' → Iv H' → ∀ (R : V → Hp → Prop) (S : Hp → Prop), (p x = true → ∀ v d H2, Ext T ms H' H2 → Iv H2 → Im H2 v d → Rel d x → R v H2) → (p x = false → ∀ H2, Ext T ms H' H2 → Iv H2 → S H2) →
      g x (wipe σ vs) H' fun σ2 H2 => wipe σ2 vs = wipe σ vs ∧ tt σ2 H2 fun b H3 => if b = true then te σ2 H3 R else S H3)
    (q : ∀ D H2 ds, Nw H D → Ext T ms H H2 → Iv H2 → Ls H2 D ds → EachIs Rel ds (xs.filter p) → Q (.ref D) H2) : LcG J g tt te vs σ H Q := fun D hD => by
  have hDm : D ∉ ms := fun hm => by
    obtain ⟨ys, e⟩ := hL H h0 D hm
    rw [hD] at e
    cases e
  refine lc_it w (fun i H2 => Ext T ms H H2 ∧ Iv H2 ∧ ∃ ds, Ls H2 D ds ∧ EachIs Rel ds ((xs.take i).filter p)) ⟨.new hD, hI0 D _ hD, [], ⟨[], upd_same, .nil⟩, .nil⟩ (fun i H2 _ h => hG H2 h.1 h.2.1) (fun i x H1 H' hi h y => ?_) (fun H1 h => ?_)
  · obtain ⟨e1, e2⟩ := hY i H1 x H' y
    subst e1
    obtain ⟨h1, h2, ds, h3, h4⟩ := h
    have et : xs.take (i + 1) = xs.take i ++ [x] := by rw [List.take_add_one, e2]; rfl
    refine step i x e2 H' h1 h2 _ _ (fun hp v d H2 e i2 hv hr => ?_) (fun hp H2 e i2 => ?_)
    · have h3' := h3.ext e hDm (hL H' h2)
      obtain ⟨acc, h5, h6⟩ := h3'
      refine ⟨acc, h5, ?_, (h1.trans e).own (.of hD) h5, hI D H2 (.of hD) i2 acc _ h5, ds ++ [d], ⟨acc ++ [v], upd_same, ?_⟩, ?_⟩
      · refine Nat.lt_of_le_of_lt ?_ hl
        rw [h6.len, h4.length]
        exact Nat.le_trans (List.length_filter_le _ _) (by rw [List.length_take]; exact Nat.min_le_right _ _)
      · have eD : Ext T [D] H2 (upd H2 D (.lst (acc ++ [v]))) := Ext.mut (by simp) h5
        have hLD : Lsts H2 [D] := fun b hb => ⟨acc, by rw [List.mem_singleton.mp hb]; exact h5⟩
        exact (ImAll.ext eD hLD _ _ h6).snoc (Im.ext eD hLD _ _ hv)
      · rw [et, List.filter_append, List.filter_cons_of_pos hp]
        exact PySem.W.each_snoc hr h4
    · refine ⟨h1.trans e, i2, ds, h3.ext e hDm (hL H' h2), ?_⟩
      rw [et, List.filter_append, List.filter_cons_of_neg (by rw [hp]; decide), List.filter_nil, List.append_nil]
      exact h4
  · obtain ⟨h1, h2, ds, h3, h4⟩ := h
    rw [hn, List.take_length] at h4
    exact q D H1 ds (.of hD) h1 h2 h3 h4
end

open PySem PySem.Spec PyProof.Rows L2
/-! ### names are plain texts -/
theorem spl_cover : ∀ (l acc : List Nat) (c : Nat), c ∈ l → c = 46 ∨ ∃ p ∈ TL.spl [46] 0 acc l, c ∈ p
  | [], _, _, h => by cases h
  | d :: r, acc, c, h => by
    by_cases hd : d = 46
    · subst hd
      have e : TL.spl [46] 0 acc (46 :: r) = acc :: TL.spl [46] 0 [] r := by
        rw [TL.spl, if_pos (by rfl)]
        rfl
      rcases List.mem_cons.mp h with h | h
      · exact .inl h
      · rcases spl_cover r [] c h with h2 | ⟨p, h2, h3⟩
        · exact .inl h2
        · exact .inr ⟨p, by rw [e]; exact List.mem_cons_of_mem _ h2, h3⟩
    · have e : TL.spl [46] 0 acc (d :: r) = TL.spl [46] 0 (acc ++ [d]) r := by
        rw [TL.spl, if_neg]
        show ¬ (TL.pre [46] (d :: r) = true)
        unfold TL.pre
        simpa using hd
      rw [e]
      rcases List.mem_cons.mp h with h | h
      · refine .inr ?_
        subst h
        have key : ∀ (l acc : List Nat), c ∈ acc → ∃ p ∈ TL.spl [46] 0 acc l, c ∈ p := by
          intro l
          induction l with
          | nil => exact fun acc h => ⟨acc, List.mem_singleton.mpr rfl, h⟩
          | cons d r ih =>
            intro acc h
            by_cases hd : d = 46
            · subst hd
              have e : TL.spl [46] 0 acc (46 :: r) = acc :: TL.spl [46] 0 [] r := by
                rw [TL.spl, if_pos (by rfl)]
                rfl
              exact ⟨acc, by rw [e]; exact List.mem_cons_self, h⟩
            · have e : TL.spl [46] 0 acc (d :: r) = TL.spl [46] 0 (acc ++ [d]) r := by
                rw [TL.spl, if_neg]
                show ¬ (TL.pre [46] (d :: r) = true)
                unfold TL.pre
                simpa using hd
              rw [e]
              exact ih _ (List.mem_append_left _ h)
        exact key r _ (by simp)
      · exact spl_cover r _ c h
theorem label_mem {y : Str} (h : labelB y = true) {c : Nat} (hc : c ∈ sg y) : c ∈ sg lettersS := by
  unfold labelB wordB at h
  rw [Bool.and_eq_true, Bool.and_eq_true] at h
  exact of_decide_eq_true (List.all_eq_true.mp h.2.2 c hc)
theorem label_len {y : Str} (h : labelB y = true) : y.length ≤ 8 := by
  unfold labelB wordB at h
  rw [Bool.and_eq_true, Bool.and_eq_true] at h
  have := of_decide_eq_true h.2.1
  omega
theorem letters_lt : ∀ c ∈ sg lettersS, c < 128 := by decide +kernel
theorem name_parts {z : Str} (h : nameB z = true) : z = dotS ∨ ((partsL z).length ≤ 4 ∧ ∀ p ∈ partsL z, labelB p = true) := by
  unfold nameB at h
  rw [Bool.or_eq_true, Bool.and_eq_true] at h
  rcases h with h | ⟨h1, h2⟩
  · exact .inl (of_decide_eq_true h)
  · have := of_decide_eq_true h1
    exact .inr ⟨by omega, List.all_eq_true.mp h2⟩
theorem name_plain {z : Str} (h : nameB z = true) : ∀ c ∈ sg z, c < 128 := fun c hc => by
  rcases name_parts h with e | ⟨_, h2⟩
  · rw [e, sg_dot] at hc
    rw [List.mem_singleton.mp hc]
    decide
  · rcases spl_cover (sg z) [] c hc with e | ⟨p, hp, hcp⟩
    · rw [e]
      decide
    · rw [← parts_sg] at hp
      obtain ⟨y, hy, rfl⟩ := List.mem_map.mp hp
      exact letters_lt c (label_mem (h2 y hy) hcp)
theorem part_plain {z : Str} (h : nameB z = true) {y : Str} (hy : y ∈ partsL z) : ∀ c ∈ sg y, c < 128 := fun c hc => by
  rcases name_parts h with e | ⟨_, h2⟩
  · subst e
    have e2 : partsL dotS = [⟨#[]⟩, ⟨#[]⟩] := by decide +kernel
    rw [e2] at hy
    have : y = ⟨#[]⟩ := by simpa using hy
    subst this
    cases hc
  · exact letters_lt c (label_mem (h2 y hy) hc)
/-- the lengths of the parts together -/
theorem spl_sum : ∀ l acc : List Nat, ((TL.spl [46] 0 acc l).map List.length).sum ≤ acc.length + l.length
  | [], acc => by
    show ([acc].map List.length).sum ≤ _
    simp
  | c :: r, acc => by
    by_cases hd : c = 46
    · subst hd
      have e : TL.spl [46] 0 acc (46 :: r) = acc :: TL.spl [46] 0 [] r := by
        rw [TL.spl, if_pos (by rfl)]
        rfl
      have := spl_sum r []
      rw [e, List.map_cons, List.sum_cons]
      simp only [List.length_nil, List.length_cons] at this ⊢
      omega
    · have e : TL.spl [46] 0 acc (c :: r) = TL.spl [46] 0 (acc ++ [c]) r := by
        rw [TL.spl, if_neg]
        show ¬ (TL.pre [46] (c :: r) = true)
        unfold TL.pre
        simpa using hd
      have := spl_sum r (acc ++ [c])
      rw [e]
      simp only [List.length_append, List.length_cons, List.length_nil] at this ⊢
      omega
theorem parts_sum (z : Str) : ((partsL z).map (·.length)).sum ≤ z.length := by
  have h := spl_sum (sg z) []
  rw [← parts_sg, List.map_map] at h
  have e2 : List.map (List.length ∘ sg) (partsL z) = (partsL z).map (·.length) := List.map_congr_left fun y _ => sg_len y
  rw [e2, sg_len] at h
  simpa using h
theorem sum_drop (l : List Nat) (k : Nat) : (l.drop k).sum ≤ l.sum := by
  have h := congrArg List.sum (List.take_append_drop k l)
  rw [List.sum_append] at h
  omega
theorem cutV_strs (zs : List Str) {i : Int} (h0 : 0 ≤ i) : cutV (zs.map V.str) (some i) none = (zs.drop i.toNat).map V.str := by
  unfold cutV
  rw [HT.sIx_none, List.length_map]
  have e : HT.sIx zs.length 0 (some i) = min i.toNat zs.length := by
    obtain ⟨k, rfl⟩ := Int.eq_ofNat_of_zero_le h0
    exact HT.sIx_nat zs.length 0 k
  rw [e, ← List.map_drop, ← List.map_take, List.take_of_length_le (by rw [List.length_drop]; omega)]
  congr 1
  by_cases h : i.toNat ≤ zs.length
  · rw [Nat.min_eq_left h]
  · rw [Nat.min_eq_right (by omega), List.drop_length, List.drop_eq_nil_of_le (by omega)]

/-! ### texts that may stand in data -/
theorem plain_ok {z : Str} (h : ∀ c ∈ sg z, c < 128) : PyData.strOk z = true := by
  unfold PyData.strOk
  rw [← Array.all_toList, List.all_eq_true]
  intro c hc
  have := h c hc
  exact decide_eq_true (by omega)
theorem id_plain {y : Str} (h : idB y = true) : ∀ c ∈ sg y, c < 128 := fun c hc => by
  unfold idB wordB at h
  rw [Bool.and_eq_true, Bool.and_eq_true] at h
  exact letters_lt c (of_decide_eq_true (List.all_eq_true.mp h.2.2 c hc))
theorem id_ok {y : Str} (h : idB y = true) : PyData.strOk y = true := plain_ok (id_plain h)
theorem id_len {y : Str} (h : idB y = true) : y.length ≤ 4 := by
  unfold idB wordB at h
  rw [Bool.and_eq_true, Bool.and_eq_true] at h
  have := of_decide_eq_true h.2.1
  omega
theorem id_pos {y : Str} (h : idB y = true) : 1 ≤ y.length := by
  unfold idB wordB at h
  rw [Bool.and_eq_true] at h
  have := of_decide_eq_true h.1
  omega
theorem label_ok {y : Str} (h : labelB y = true) : PyData.strOk y = true := plain_ok fun c hc => letters_lt c (label_mem h hc)
theorem name_ok {y : Str} (h : nameB y = true) : PyData.strOk y = true := plain_ok (name_plain h)
theorem app_len (a b : Str) : (a ++ b).length = a.length + b.length := by rw [← sg_len, sg_app, List.length_append, sg_len, sg_len]
theorem dotS_len : dotS.length = 1 := by decide +kernel
/-- a word made of two -/
theorem word_app {a b : Str} {n m k : Int} (ha : wordB a lettersS n = true) (hb : wordB b lettersS m = true) (hk : n + m ≤ k) : wordB (a ++ b) lettersS k = true := by
  unfold wordB at ha hb ⊢
  rw [Bool.and_eq_true, Bool.and_eq_true] at ha hb ⊢
  have h1 := of_decide_eq_true ha.1
  have h2 := of_decide_eq_true ha.2.1
  have h3 := of_decide_eq_true hb.2.1
  rw [app_len, sg_app, List.all_append, Bool.and_eq_true]
  refine ⟨decide_eq_true ?_, decide_eq_true ?_, ha.2.2, hb.2.2⟩
  · have := of_decide_eq_true hb.1
    omega
  · omega
theorem word_mono {a : Str} {n k : Int} (ha : wordB a lettersS n = true) (hk : n ≤ k) : wordB a lettersS k = true := by
  unfold wordB at ha ⊢
  rw [Bool.and_eq_true, Bool.and_eq_true] at ha ⊢
  have h2 := of_decide_eq_true ha.2.1
  exact ⟨ha.1, decide_eq_true (by omega), ha.2.2⟩
/-! ### names joined of labels -/
theorem join_sg (ys : List Str) : sg (joinS ys) = TL.joinL [46] (ys.map sg) := by
  show sg (Txt.join dotS ys) = _
  rw [TL.join_eq, ← sg_dot]
  exact TL.tl_join dotS ys
theorem join_one (y : Str) : joinS [y] = y := sg_inj (by rw [join_sg]; rfl)
theorem join_cons (y : Str) {ys : List Str} (h : ys ≠ []) : joinS (y :: ys) = y ++ (dotS ++ joinS ys) := by
  refine sg_inj ?_
  rw [sg_app, sg_app, join_sg, join_sg, sg_dot]
  cases ys with
  | nil => exact absurd rfl h
  | cons z r => rfl
theorem str_assoc (a b c : Str) : (a ++ b) ++ c = a ++ (b ++ c) := sg_inj (by rw [sg_app, sg_app, sg_app, sg_app, List.append_assoc])
/-- a zone below the root -/
def zoneB (z : Str) : Prop := ∃ ys : List Str, z = joinS ys ∧ ys ≠ [] ∧ ys.length ≤ 3 ∧ ∀ y ∈ ys, labelB y = true
theorem zone_name {z : Str} (h : zoneB z) : nameB z = true := by
  obtain ⟨ys, rfl, h1, h2, h3⟩ := h
  exact name_join h1 (by omega) h3
theorem dot_name : nameB dotS = true := by decide +kernel
theorem zone_ne {z : Str} (h : zoneB z) : z ≠ dotS := fun e => by
  obtain ⟨ys, rfl, h1, h2, h3⟩ := h
  have e2 := parts_join h1 fun y hy => label_nodot (h3 y hy)
  rw [e] at e2
  have e3 : partsL dotS = [⟨#[]⟩, ⟨#[]⟩] := by decide +kernel
  rw [e3] at e2
  have := h3 ⟨#[]⟩ (by rw [← e2]; simp)
  exact absurd this (by decide +kernel)
theorem join_inj {ys zs : List Str} (h1 : ys ≠ []) (h2 : zs ≠ []) (h3 : ∀ y ∈ ys, labelB y = true) (h4 : ∀ y ∈ zs, labelB y = true) (e : joinS ys = joinS zs) : ys = zs := by
  have e1 := parts_join h1 fun y hy => label_nodot (h3 y hy)
  have e2 := parts_join h2 fun y hy => label_nodot (h4 y hy)
  rw [← e1, ← e2, e]
/-- a label put ahead of a zone, or alone -/
theorem name_cons {a z : Str} (ha : labelB a = true) (h : zoneB z) : nameB (a ++ (dotS ++ z)) = true := by
  obtain ⟨ys, rfl, h1, h2, h3⟩ := h
  rw [← join_cons a h1]
  refine name_join (by simp) (by rw [List.length_cons]; omega) fun y hy => ?_
  rcases List.mem_cons.mp hy with e | hy
  · rw [e]
    exact ha
  · exact h3 y hy
theorem label_name {a : Str} (ha : labelB a = true) : nameB a = true := by
  rw [← join_one a]
  exact name_join (by simp) (by simp) fun y hy => by rw [List.mem_singleton.mp hy]; exact ha
theorem name_len {z : Str} (h : nameB z = true) : z.length ≤ 40 := by
  rcases name_parts h with e | ⟨h1, h2⟩
  · rw [e, dotS_len]
    omega
  · have key : ∀ (l acc : List Nat) (B : Nat), (∀ p ∈ TL.spl [46] 0 acc l, p.length ≤ B) → acc.length + l.length ≤ (TL.spl [46] 0 acc l).length * (B + 1) - 1 ∧ 0 < (TL.spl [46] 0 acc l).length := by
      intro l
      induction l with
      | nil =>
        intro acc B h
        have := h acc (List.mem_singleton.mpr rfl)
        exact ⟨by show acc.length + 0 ≤ 1 * (B + 1) - 1; omega, Nat.one_pos⟩
      | cons c r ih =>
        intro acc B h
        by_cases hc : c = 46
        · subst hc
          have e : TL.spl [46] 0 acc (46 :: r) = acc :: TL.spl [46] 0 [] r := by
            rw [TL.spl, if_pos (by rfl)]
            rfl
          rw [e] at h ⊢
          have h1 := h acc List.mem_cons_self
          obtain ⟨h2, h3⟩ := ih [] B fun p hp => h p (List.mem_cons_of_mem _ hp)
          have h5 := Nat.mul_pos h3 (show 0 < B + 1 by omega)
          simp only [List.length_cons, List.length_nil] at h2 ⊢
          rw [Nat.succ_mul]
          omega
        · have e : TL.spl [46] 0 acc (c :: r) = TL.spl [46] 0 (acc ++ [c]) r := by
            rw [TL.spl, if_neg]
            show ¬ (TL.pre [46] (c :: r) = true)
            unfold TL.pre
            simpa using hc
          rw [e] at h ⊢
          obtain ⟨h2, h3⟩ := ih (acc ++ [c]) B h
          have h5 := Nat.mul_pos h3 (show 0 < B + 1 by omega)
          simp only [List.length_cons, List.length_append, List.length_nil] at h2 ⊢
          omega
    have hp : ∀ p ∈ TL.spl [46] 0 [] (sg z), p.length ≤ 8 := fun p hp => by
      rw [← parts_sg] at hp
      obtain ⟨y, hy, rfl⟩ := List.mem_map.mp hp
      rw [sg_len]
      exact label_len (h2 y hy)
    obtain ⟨h3, _⟩ := key (sg z) [] 8 hp
    have h4 : (TL.spl [46] 0 [] (sg z)).length ≤ 4 := by rw [← parts_sg, List.length_map]; exact h1
    rw [sg_len] at h3
    simp only [List.length_nil] at h3
    omega

open PySem PySem.Spec PyProof.Rows L2
open PySem.W (EachIs sort_maps dataLe dataLe_eq dataLt_pair dataLt_int dataLt_str AllAlike Sortable)
/-! ### the data of a realm, a state, a plan -/
def siD (p : Str × Int) : PyData := .tuple [.str p.1, .int p.2]
def ssD (p : Str × Str) : PyData := .tuple [.str p.1, .str p.2]
inductive Sl where
  | k (z : Str) | l (z : Str) | h (z : Str) | s (n k : Str)
  deriving DecidableEq
def slD : Sl → PyData
  | .k z => .tuple [.str "keys", .str z]
  | .l z => .tuple [.str "link", .str z]
  | .h z => .tuple [.str "hosts", .str z]
  | .s n k => .tuple [.str "set", .str n, .str k]
structure Itm where
  c : List Str
  li : Int
  g : List Str
  a : Int
  b : Int
def itD (i : Itm) : PyData := .tuple [.tuple (i.c.map .str), .int i.li, .tuple (i.g.map .str), .int i.a, .int i.b]
structure Rm where
  zs : List (Str × Int)
  an : List Str
  ss : List (Str × Str)
def rmD (r : Rm) : PyData := .tuple [.tuple (r.zs.map siD), .tuple (r.an.map .str), .tuple (r.ss.map ssD)]
def rowD2 (r : Sl × Itm) : PyData := .tuple [slD r.1, itD r.2]
structure Sta where
  its : List (Sl × Itm)
  on : List (Str × Str)
def stD (s : Sta) : PyData := .tuple [.tuple (s.its.map rowD2), .tuple (s.on.map ssD)]
inductive Dd where
  | put (s : Sl) (i : Itm) | on (x z : Str) | off (x z : Str)
def ddD : Dd → PyData
  | .put s i => .tuple [.str "put", slD s, itD i]
  | .on x z => .tuple [.str "on", .str x, .str z]
  | .off x z => .tuple [.str "off", .str x, .str z]
def plD (p : Int × Dd) : PyData := .tuple [.int p.1, ddD p.2]
theorem ssD_inj {a b : Str × Str} (h : ssD a = ssD b) : a = b := by
  obtain ⟨a1, a2⟩ := a
  obtain ⟨b1, b2⟩ := b
  unfold ssD at h
  injection h with h
  injection h with h1 h
  injection h with h2 _
  injection h1 with h1
  injection h2 with h2
  have h1 : a1 = b1 := h1
  have h2 : a2 = b2 := h2
  rw [h1, h2]
theorem slD_inj {a b : Sl} (h : slD a = slD b) : a = b := by
  have two : ∀ {u v x y : Str}, PyData.tuple [.str u, .str x] = PyData.tuple [.str v, .str y] → u = v ∧ x = y := by
    intro u v x y h
    injection h with h
    injection h with h1 h
    injection h with h2 _
    injection h1 with h1
    injection h2 with h2
    exact ⟨h1, h2⟩
  cases a <;> cases b <;> unfold slD at h <;> first
    | (cases (two h).2; rfl)
    | (exact absurd (two h).1 (by decide +kernel))
    | (injection h with h; injection h with _ h; injection h with h1 h; injection h with h2 _; injection h1 with h1; injection h2 with h2; rw [h1, h2])
    | (injection h with h; injection h with _ h; injection h with _ h; cases h)
theorem map_inj {α β : Type} {f : α → β} (hf : ∀ a b, f a = f b → a = b) : ∀ {xs ys : List α}, xs.map f = ys.map f → xs = ys
  | [], [], _ => rfl
  | [], _ :: _, h => by cases h
  | _ :: _, [], h => by cases h
  | x :: xs, y :: ys, h => by
    rw [List.map_cons, List.map_cons] at h
    injection h with h1 h2
    rw [hf _ _ h1, map_inj hf h2]
theorem strs_inj {xs ys : List Str} (h : xs.map PyData.str = ys.map PyData.str) : xs = ys := map_inj (fun _ _ e => by injection e) h
theorem itD_inj {a b : Itm} (h : itD a = itD b) : a = b := by
  obtain ⟨a1, a2, a3, a4, a5⟩ := a
  obtain ⟨b1, b2, b3, b4, b5⟩ := b
  unfold itD at h
  injection h with h
  injection h with h1 h
  injection h with h2 h
  injection h with h3 h
  injection h with h4 h
  injection h with h5 h
  injection h1 with h1
  injection h2 with h2
  injection h3 with h3
  injection h4 with h4
  injection h5 with h5
  have h1 : a1 = b1 := strs_inj h1
  have h2 : a2 = b2 := h2
  have h3 : a3 = b3 := strs_inj h3
  have h4 : a4 = b4 := h4
  have h5 : a5 = b5 := h5
  rw [h1, h2, h3, h4, h5]
theorem dep_strs0 : ∀ zs : List Str, PyData.depthAll (zs.map PyData.str) = 0
  | [] => rfl
  | z :: zs => by
    show max (PyData.depth (.str z)) (PyData.depthAll (zs.map PyData.str)) = 0
    rw [dep_strs0 zs]
    rfl
theorem dep_map {α : Type} {f : α → PyData} {n : Nat} (hf : ∀ a, (f a).depth ≤ n) : ∀ xs : List α, PyData.depthAll (xs.map f) ≤ n
  | [] => Nat.zero_le _
  | x :: xs => Nat.max_le.mpr ⟨hf x, dep_map hf xs⟩
theorem dep_ss (p : Str × Str) : (ssD p).depth ≤ 1 := by show 0 + 1 ≤ 1; omega
theorem dep_si (p : Str × Int) : (siD p).depth ≤ 1 := by show 0 + 1 ≤ 1; omega
theorem dep_sl (s : Sl) : (slD s).depth ≤ 1 := by cases s <;> (show 0 + 1 ≤ 1; omega)
theorem dep_it (i : Itm) : (itD i).depth ≤ 2 := by
  show max (PyData.depthAll (i.c.map .str) + 1) (max 0 (max (PyData.depthAll (i.g.map .str) + 1) (max 0 (max 0 0)))) + 1 ≤ 2
  rw [dep_strs0, dep_strs0]
  decide
/-! ### deeds done -/
def srtSS (l : List (Str × Str)) : List (Str × Str) := l.mergeSort fun a b => dataLe false id (ssD a) (ssD b)
theorem srtSS_eq (l : List (Str × Str)) : srtD (l.map ssD) = (srtSS l).map ssD := (sort_maps ssD fun _ _ _ _ => rfl).symm
def srtS (l : List Str) : List Str := l.mergeSort fun a b => dataLe false id (.str a) (.str b)
theorem srtS_eq (l : List Str) : srtD (l.map .str) = (srtS l).map .str := (sort_maps PyData.str fun _ _ _ _ => rfl).symm
theorem srtS_perm (l : List Str) : (srtS l).Perm l := List.mergeSort_perm _ _
theorem srtSS_perm (l : List (Str × Str)) : (srtSS l).Perm l := List.mergeSort_perm _ _
theorem alike_ss (l : List (Str × Str)) : AllAlike (l.map ssD) := fun d hd e he => by
  obtain ⟨y, _, rfl⟩ := List.mem_map.mp hd
  obtain ⟨z, _, rfl⟩ := List.mem_map.mp he
  rfl
theorem sortable_ss (l : List (Str × Str)) : Sortable (l.map ssD) := .inl fun d hd => by
  obtain ⟨y, _, rfl⟩ := List.mem_map.mp hd
  exact ⟨_, _, rfl⟩
theorem depth_ss (l : List (Str × Str)) : ∀ d ∈ l.map ssD, d.depth ≤ 60 := fun d hd => by
  obtain ⟨y, _, rfl⟩ := List.mem_map.mp hd
  exact Nat.le_trans (dep_ss y) (by decide)
theorem alike_s (l : List Str) : AllAlike (l.map PyData.str) := fun d hd e he => by
  obtain ⟨y, _, rfl⟩ := List.mem_map.mp hd
  obtain ⟨z, _, rfl⟩ := List.mem_map.mp he
  rfl
theorem sortable_s (l : List Str) : Sortable (l.map PyData.str) := .inr fun d hd => by
  obtain ⟨y, _, rfl⟩ := List.mem_map.mp hd
  exact ⟨fun h => (by cases h), fun _ h => (by cases h)⟩
theorem depth_s (l : List Str) : ∀ d ∈ l.map PyData.str, d.depth ≤ 60 := fun d hd => by
  obtain ⟨y, _, rfl⟩ := List.mem_map.mp hd
  show 0 ≤ 60
  decide
def aft (s : Sta) : Dd → Sta
  | .put sl i => ⟨s.its.map fun r => (r.1, if r.1 = sl then i else r.2), s.on⟩
  | .on x z => ⟨s.its, srtSS (s.on ++ [(x, z)])⟩
  | .off x z => ⟨s.its, s.on.filter fun p => !decide (p = (x, z))⟩
theorem aft_keys (s : Sta) (d : Dd) : (aft s d).its.map (·.1) = s.its.map (·.1) := by
  cases d with
  | put sl i =>
    show (s.its.map _).map _ = _
    rw [List.map_map]
    rfl
  | on x z => rfl
  | off x z => rfl

open PySem PySem.Spec PyProof.Rows L2
/-! ### what the drawing functions give -/
theorem nodup_len {α : Type} [DecidableEq α] : ∀ {l ys : List α}, l.Nodup → (∀ x ∈ l, x ∈ ys) → l.length ≤ ys.length
  | [], ys, _, _ => Nat.zero_le _
  | x :: l, ys, hn, h => by
    have hx := h x List.mem_cons_self
    have h1 := List.nodup_cons.mp hn
    have h2 := nodup_len (ys := ys.erase x) h1.2 fun y hy => (List.mem_erase_of_ne (fun e => h1.1 (by rw [← e]; exact hy))).mpr (h y (List.mem_cons_of_mem _ hy))
    rw [List.length_erase_of_mem hx] at h2
    have := List.length_pos_of_mem hx
    rw [List.length_cons]
    omega
theorem nodup_snoc {α : Type} {l : List α} {x : α} (h : l.Nodup) (hx : x ∉ l) : (l ++ [x]).Nodup := by
  rw [List.nodup_append]
  refine ⟨h, by simp, fun a ha b hb e => ?_⟩
  rw [List.mem_singleton.mp hb] at e
  rw [e] at ha
  exact hx ha
section
variable (T : List (Addr × Str))
def spId : Sp := fun vs H Q _ => ∃ (l t : Addr), vs = [.ref t] ∧ Tape l H t ∧ ∀ z H', idB z = true → Ext T [t] H H' → Tape l H' t → Q (.str z) H'
def spIds : Sp := fun vs H Q _ => ∃ (l t : Addr) (m : Int), vs = [.ref t, .int m] ∧ 0 ≤ m ∧ m ≤ 5 ∧ Tape l H t ∧
  ∀ (p : Addr) (ys : List Str) (H' : Hp), Nw H p → (ys.length : Int) = m → ys.Nodup → (∀ y ∈ ys, idB y = true) → H' p = some (.lst (ys.map V.str)) → Ext T [t] H H' → Tape l H' t → Q (.ref p) H'
def spLabel : Sp := fun vs H Q _ => ∃ (l t : Addr), vs = [.ref t] ∧ Tape l H t ∧ ∀ z H', labelB z = true → Ext T [t] H H' → Tape l H' t → Q (.str z) H'
def spLabels : Sp := fun vs H Q _ => ∃ (l t : Addr), vs = [.ref t] ∧ Tape l H t ∧
  ∀ (p : Addr) (ys : List Str) (a b c : Str) (H' : Hp), Nw H p → a ≠ b → a ≠ c → b ≠ c → (∀ y ∈ (a :: b :: c :: ys), labelB y = true) → ys.length ≤ 10 → H' p = some (.lst ((a :: b :: c :: ys).map V.str)) → Ext T [t] H H' → Tape l H' t → Q (.ref p) H'
/-- a number of a range drawn -/
def spInt (lo hi : Int) : Sp := fun vs H Q _ => ∃ (l t : Addr), vs = [.ref t] ∧ Tape l H t ∧ ∀ z H', lo ≤ z → z ≤ hi → Ext T [t] H H' → Tape l H' t → Q (.int z) H'
end
def qsL : List Str := ["q1", "q2", "q3", "q4", "q5"]
theorem qs_ok : ∀ y ∈ qsL, idB y = true := by decide +kernel
theorem qs_nodup : qsL.Nodup := by decide +kernel
open PySem PySem.Spec PyProof.Rows L2
/-! ### three labels -/
def ksL : List Str := ["k1", "k22", "k333", "k4"]
theorem ks_ok : ∀ y ∈ ksL, labelB y = true := by decide +kernel
/-- the text ends with this sign and a w -/
def EndW (c : Nat) (y : Str) : Prop := ∃ a, sg y = a ++ [c, 119]
theorem endW_inj {c d : Nat} {y : Str} (h1 : EndW c y) (h2 : EndW d y) : c = d := by
  obtain ⟨a, e1⟩ := h1
  obtain ⟨b, e2⟩ := h2
  rw [e1] at e2
  have e3 := congrArg List.reverse e2
  simp only [List.reverse_append, List.reverse_cons, List.reverse_nil, List.nil_append, List.cons_append] at e3
  injection e3 with _ e3
  injection e3 with e3 _
theorem endW_last {c : Nat} {y : Str} (h : EndW c y) : (sg y).getLast? = some 119 := by
  obtain ⟨a, e⟩ := h
  rw [e]
  simp
theorem k1_last : (sg "k1").getLast? = some 49 := by decide +kernel
theorem labels_shape {F fs : List Str} (hn : F.Nodup) (hl : ∀ y ∈ F, labelB y = true) (h4 : F.length + fs.length = 4) (hf : fs.Nodup) (hs : ∀ y ∈ fs, y ∈ F ∧ ∃ c, EndW c y) :
    ∃ a b c r, F ++ ksL = a :: b :: c :: r ∧ a ≠ b ∧ a ≠ c ∧ b ≠ c ∧ (∀ y ∈ (a :: b :: c :: r), labelB y = true) ∧ r.length ≤ 10 := by
  have hall : ∀ y ∈ F ++ ksL, labelB y = true := fun y hy => (List.mem_append.mp hy).elim (hl y) (ks_ok y)
  have hle := nodup_len hf fun y hy => (hs y hy).1
  match F, hn, hl, h4, hs, hle, hall with
  | [], _, _, h4, _, hle, _ => simp only [List.length_nil] at h4 hle; omega
  | [a], _, _, h4, _, hle, _ => simp only [List.length_cons, List.length_nil] at h4 hle; omega
  | [a, b], hn, _, h4, hs, _, hall =>
    have e2 : fs.length = 2 := by simp only [List.length_cons, List.length_nil] at h4; omega
    have hab : a ≠ b := fun e => by simp [e] at hn
    have hsub : ∀ y ∈ [a, b], y ∈ fs := by
      intro y hy
      refine Classical.byContradiction fun hno => ?_
      have h5 := nodup_len (ys := [a, b].erase y) hf fun z hz => (List.mem_erase_of_ne (fun e => hno (by rw [← e]; exact hz))).mpr (hs z hz).1
      rw [List.length_erase_of_mem hy, e2] at h5
      simp at h5
    have nk : ∀ y ∈ [a, b], y ≠ "k1" := fun y hy e => by
      obtain ⟨c, hc⟩ := (hs y (hsub y hy)).2
      have h6 := endW_last hc
      rw [e, k1_last] at h6
      cases h6
    exact ⟨a, b, "k1", ["k22", "k333", "k4"], rfl, hab, nk a (by simp), nk b (by simp), hall, by decide⟩
  | a :: b :: c :: r, hn, _, h4, _, _, hall =>
    refine ⟨a, b, c, r ++ ksL, rfl, fun e => ?_, fun e => ?_, fun e => ?_, hall, ?_⟩
    · simp [e] at hn
    · simp [e] at hn
    · simp [e] at hn
    · rw [List.length_append]
      simp only [List.length_cons] at h4
      show r.length + 4 ≤ 10
      omega
/-- the last eight signs of a word with two more -/
theorem cut8 (z : Str) (hz : 1 ≤ z.length) (hc : ∀ c ∈ sg z, c ∈ sg lettersS) : labelB (cutS z (some (-8)) none) = true ∧ (∀ c, EndW c z → EndW c (cutS z (some (-8)) none)) := by
  have e : sg (cutS z (some (-8)) none) = (sg z).drop (z.length - 8) := by
    unfold cutS
    have h : HT.sIx z.length 0 (some (-8)) = z.length - 8 := by
      unfold HT.sIx
      simp only []
      split <;> omega
    rw [h, HT.sIx_none]
    show (List.toArray _).toList = _
    rw [List.take_of_length_le]
    rw [List.length_drop, show z.cps.toList.length = z.length from sg_len z]
    omega
  have hl : (cutS z (some (-8)) none).length = z.length - (z.length - 8) := by
    rw [← sg_len, e, List.length_drop, sg_len]
  constructor
  · unfold labelB wordB
    rw [decide_eq_true (show (1 : Int) ≤ ((cutS z (some (-8)) none).length : Int) by omega), decide_eq_true (show ((cutS z (some (-8)) none).length : Int) ≤ 8 by omega), e]
    rw [List.all_eq_true.mpr fun c h => decide_eq_true (hc c (List.mem_of_mem_drop h))]
    rfl
  · rintro c ⟨a, ea⟩
    refine ⟨a.drop (z.length - 8), ?_⟩
    have h9 : z.length = a.length + 2 := by
      rw [← sg_len, ea, List.length_append]
      rfl
    rw [e, ea, List.drop_append_of_le_length (by omega)]
open PySem PySem.Spec PyProof.Rows L2
def xyzL : List Str := ["", "x", "y", "z"]
def xyzC : List Nat := [0, 120, 121, 122]
theorem xyz_len : ∀ y ∈ xyzL, y.length ≤ 1 := by decide +kernel
theorem xyz_let : ∀ y ∈ xyzL, ∀ c ∈ sg y, c ∈ sg lettersS := by decide +kernel
theorem w_let : ∀ c ∈ sg (Str.ofString "w"), c ∈ sg lettersS := by decide +kernel
theorem w_len : (Str.ofString "w").length = 1 := by decide +kernel
theorem w_sg : sg (Str.ofString "w") = [119] := by decide +kernel
theorem xyz_end {i : Nat} {y : Str} (h0 : i ≠ 0) (h : xyzL[i]? = some y) : ∃ c, xyzC[i]? = some c ∧ sg y = [c] := by
  match i, h0, h with
  | 0, h0, _ => exact absurd rfl h0
  | 1, _, h => exact ⟨120, rfl, by rw [← Option.some.inj h]; decide +kernel⟩
  | 2, _, h => exact ⟨121, rfl, by rw [← Option.some.inj h]; decide +kernel⟩
  | 3, _, h => exact ⟨122, rfl, by rw [← Option.some.inj h]; decide +kernel⟩
  | n + 4, _, h => cases h
theorem xyz_ne {i j c d : Nat} (h : j < i) (h1 : xyzC[j]? = some c) (h2 : xyzC[i]? = some d) : c ≠ d := fun e => by
  subst e
  have hn : xyzC.Nodup := by decide
  have e := (List.getElem?_inj (List.getElem?_eq_some_iff.mp h1).1 hn).mp (h1.trans h2.symm)
  omega
open PySem PySem.Spec PyProof.Rows L2
section
variable (T : List (Addr × Str))
def spZones : Sp := fun vs H Q _ => ∃ (l t : Addr) (m : Int), vs = [.ref t, .int m] ∧ 0 ≤ m ∧ m ≤ 5 ∧ Tape l H t ∧
  ∀ (p : Addr) (lag : Int) (rest : List (Str × Int)) (ns : List Str) (H' : Hp), Nw H p → rest.map (·.1) = srtS ns → ns.Nodup → (ns.length : Int) ≤ m → (∀ z ∈ ns, zoneB z) → (∀ r ∈ (dotS, lag) :: rest, 0 ≤ r.2 ∧ r.2 ≤ 100) → Ls H' p (((dotS, lag) :: rest).map siD) → Ext T [t] H H' → Tape l H' t → Q (.ref p) H'
end
/-- what a row of a zone is made of -/
def ZRel (d : PyData) (x : V) : Prop := ∃ (z : Str) (n : Int), x = .str z ∧ d = siD (z, n) ∧ 0 ≤ n ∧ n ≤ 100
theorem zrel_all : ∀ {ds : List PyData} {zs : List Str}, PySem.W.EachIs ZRel ds (zs.map V.str) → ∃ rest : List (Str × Int), ds = rest.map siD ∧ rest.map (·.1) = zs ∧ ∀ r ∈ rest, 0 ≤ r.2 ∧ r.2 ≤ 100
  | _, [], .nil => ⟨[], rfl, rfl, by simp⟩
  | _, z :: zs, .cons h t => by
    obtain ⟨rest, e1, e2, h3⟩ := zrel_all t
    obtain ⟨z', n, e3, e4, h4⟩ := h
    injection e3 with e3
    subst e3
    refine ⟨(z, n) :: rest, by rw [e4, e1]; rfl, by rw [List.map_cons, e2], fun r hr => ?_⟩
    rcases List.mem_cons.mp hr with e | hr
    · rw [e]
      exact h4
    · exact h3 r hr
/-- the six names that zones may have -/
def poolL (a b c : Str) : List Str := [a, b ++ dotS ++ a, c ++ dotS ++ b ++ dotS ++ a, b, c, c ++ dotS ++ a]
theorem pool_eq (a b c : Str) : poolL a b c = [joinS [a], joinS [b, a], joinS [c, b, a], joinS [b], joinS [c], joinS [c, a]] := by
  unfold poolL
  rw [join_cons c (ys := [b, a]) (by simp), join_cons b (ys := [a]) (by simp), join_cons c (ys := [a]) (by simp), join_one, join_one, join_one, str_assoc, str_assoc, str_assoc, str_assoc, str_assoc]
theorem pool_zone {a b c : Str} (h : ∀ y ∈ [a, b, c], labelB y = true) : ∀ z ∈ poolL a b c, zoneB z := by
  rw [pool_eq]
  have ha := h a (by simp)
  have hb := h b (by simp)
  have hc := h c (by simp)
  intro z hz
  simp only [List.mem_cons, List.not_mem_nil, or_false] at hz
  rcases hz with rfl | rfl | rfl | rfl | rfl | rfl
  all_goals refine ⟨_, rfl, by simp, by simp, ?_⟩
  all_goals
    intro y hy
    simp only [List.mem_cons, List.not_mem_nil, or_false] at hy
    first
      | (subst hy; assumption)
      | (rcases hy with rfl | rfl <;> assumption)
      | (rcases hy with rfl | rfl | rfl <;> assumption)
theorem pool_nodup {a b c : Str} (h : ∀ y ∈ [a, b, c], labelB y = true) (h1 : a ≠ b) (h2 : a ≠ c) (h3 : b ≠ c) : (poolL a b c).Nodup := by
  rw [pool_eq]
  have ha := h a (by simp)
  have hb := h b (by simp)
  have hc := h c (by simp)
  have hl : ∀ ys ∈ [[a], [b, a], [c, b, a], [b], [c], [c, a]], ys ≠ [] ∧ ∀ y ∈ ys, labelB y = true := by
    intro ys hy
    simp only [List.mem_cons, List.not_mem_nil, or_false] at hy
    rcases hy with rfl | rfl | rfl | rfl | rfl | rfl <;> simp [ha, hb, hc]
  have hn : [[a], [b, a], [c, b, a], [b], [c], [c, a]].Nodup := by
    simp [h1, h2, h3, h1.symm, h2.symm, h3.symm]
  have key : ∀ {L : List (List Str)}, (∀ ys ∈ L, ys ≠ [] ∧ ∀ y ∈ ys, labelB y = true) → L.Nodup → (L.map joinS).Nodup := by
    intro L
    induction L with
    | nil => intro _ _; simp
    | cons x L ih =>
      intro hL hn
      rw [List.map_cons, List.nodup_cons]
      have h4 := List.nodup_cons.mp hn
      refine ⟨fun hm => ?_, ih (fun ys hy => hL ys (List.mem_cons_of_mem _ hy)) h4.2⟩
      obtain ⟨y, hy, e⟩ := List.mem_map.mp hm
      have hx := hL x List.mem_cons_self
      have hy2 := hL y (List.mem_cons_of_mem _ hy)
      have := join_inj hy2.1 hx.1 hy2.2 hx.2 e
      rw [this] at hy
      exact h4.1 hy
  exact key hl hn
/-- a member of a list in place of what an index gives -/
theorem at_inV {xs : List V} {i : Int} (h0 : 0 ≤ i) (h : i < xs.length) : ∃ c, atI xs i = some c ∧ xs[i.toNat]? = some c := by
  obtain ⟨c, h1, h2, _⟩ := at_in h0 h
  exact ⟨c, h1, h2⟩

open PySem PySem.Spec PyProof.Rows L2
def topS (i : Nat) : Stmt := PySem.Challenge.pw_neverdark_k10_world_at_moments.main.body.getD i (.Pass ⟨0, 0, 0, 0⟩)
abbrev s_item_of : Stmt := topS 1
abbrev N_item_of : List Str := ["state", "slot"]
theorem sc_item_of : FnScope ["state", "slot"] ["state", "slot"] (defScope s_item_of) := ⟨rfl, rfl, rfl, by decide +kernel, rfl, by decide +kernel, by decide +kernel⟩
abbrev s_is_on : Stmt := topS 2
abbrev N_is_on : List Str := ["state", "server", "zone"]
theorem sc_is_on : FnScope ["state", "server", "zone"] ["state", "server", "zone"] (defScope s_is_on) := ⟨rfl, rfl, rfl, by decide +kernel, rfl, by decide +kernel, by decide +kernel⟩
abbrev s_changed : Stmt := topS 4
abbrev N_changed : List Str := ["state", "deed", "items", "on", "word", "place", "worth", "pair", "slot", "item"]
theorem sc_changed : FnScope ["state", "deed", "items", "on", "word", "place", "worth", "pair", "slot", "item"] ["state", "deed"] (defScope s_changed) := ⟨rfl, rfl, rfl, by decide +kernel, rfl, by decide +kernel, by decide +kernel⟩
abbrev s_state_at : Stmt := topS 5
abbrev N_state_at : List Str := ["realm", "state", "plan", "moment", "done", "deed"]
theorem sc_state_at : FnScope ["realm", "state", "plan", "moment", "done", "deed"] ["realm", "state", "plan", "moment"] (defScope s_state_at) := ⟨rfl, rfl, rfl, by decide +kernel, rfl, by decide +kernel, by decide +kernel⟩
abbrev s_law_mix : Stmt := topS 9
abbrev N_law_mix : List Str := ["number"]
theorem sc_law_mix : FnScope ["number"] ["number"] (defScope s_law_mix) := ⟨rfl, rfl, rfl, by decide +kernel, rfl, by decide +kernel, by decide +kernel⟩
abbrev s_law_tape : Stmt := topS 10
abbrev N_law_tape : List Str := ["script", "budget"]
theorem sc_law_tape : FnScope ["script", "budget"] ["script", "budget"] (defScope s_law_tape) := ⟨rfl, rfl, rfl, by decide +kernel, rfl, by decide +kernel, by decide +kernel⟩
abbrev s_law_take : Stmt := topS 11
abbrev N_law_take : List Str := ["tape", "many", "cell", "digit"]
theorem sc_law_take : FnScope ["tape", "many", "cell", "digit"] ["tape", "many"] (defScope s_law_take) := ⟨rfl, rfl, rfl, by decide +kernel, rfl, by decide +kernel, by decide +kernel⟩
abbrev s_law_id : Stmt := topS 12
abbrev N_law_id : List Str := ["tape", "signs", "word", "k"]
theorem sc_law_id : FnScope ["tape", "signs", "word", "k"] ["tape"] (defScope s_law_id) := ⟨rfl, rfl, rfl, by decide +kernel, rfl, by decide +kernel, by decide +kernel⟩
abbrev s_law_ids : Stmt := topS 13
abbrev N_law_ids : List Str := ["tape", "many", "found", "turn", "word"]
theorem sc_law_ids : FnScope ["tape", "many", "found", "turn", "word"] ["tape", "many"] (defScope s_law_ids) := ⟨rfl, rfl, rfl, by decide +kernel, rfl, by decide +kernel, by decide +kernel⟩
abbrev s_law_label : Stmt := topS 14
abbrev N_law_label : List Str := ["tape", "word"]
theorem sc_law_label : FnScope ["tape", "word"] ["tape"] (defScope s_law_label) := ⟨rfl, rfl, rfl, by decide +kernel, rfl, by decide +kernel, by decide +kernel⟩
abbrev s_law_labels : Stmt := topS 15
abbrev N_law_labels : List Str := ["tape", "found", "last", "word"]
theorem sc_law_labels : FnScope ["tape", "found", "last", "word"] ["tape"] (defScope s_law_labels) := ⟨rfl, rfl, rfl, by decide +kernel, rfl, by decide +kernel, by decide +kernel⟩
abbrev s_law_lag : Stmt := topS 16
abbrev N_law_lag : List Str := ["tape"]
theorem sc_law_lag : FnScope ["tape"] ["tape"] (defScope s_law_lag) := ⟨rfl, rfl, rfl, by decide +kernel, rfl, by decide +kernel, by decide +kernel⟩
abbrev s_law_zones : Stmt := topS 17
abbrev N_law_zones : List Str := ["tape", "most", "one", "two", "three", "pool", "names", "k", "name"]
theorem sc_law_zones : FnScope ["tape", "most", "one", "two", "three", "pool", "names", "k", "name"] ["tape", "most"] (defScope s_law_zones) := ⟨rfl, rfl, rfl, by decide +kernel, rfl, by decide +kernel, by decide +kernel⟩
abbrev s_law_realm : Stmt := topS 18
abbrev N_law_realm : List Str := ["tape", "most", "zones", "sets", "zone", "lag", "name", "kept", "row", "anchors"]
theorem sc_law_realm : FnScope ["tape", "most", "zones", "sets", "zone", "lag", "name", "kept", "row", "anchors"] ["tape", "most"] (defScope s_law_realm) := ⟨rfl, rfl, rfl, by decide +kernel, rfl, by decide +kernel, by decide +kernel⟩
abbrev s_law_chain : Stmt := topS 19
abbrev N_law_chain : List Str := ["realm", "name", "found", "zone", "lag", "pair"]
theorem sc_law_chain : FnScope ["realm", "name", "found", "zone", "lag", "pair"] ["realm", "name"] (defScope s_law_chain) := ⟨rfl, rfl, rfl, by decide +kernel, rfl, by decide +kernel, by decide +kernel⟩
abbrev s_law_slots : Stmt := topS 20
abbrev N_law_slots : List Str := ["realm", "found", "zone", "lag", "name", "kind"]
theorem sc_law_slots : FnScope ["realm", "found", "zone", "lag", "name", "kind"] ["realm"] (defScope s_law_slots) := ⟨rfl, rfl, rfl, by decide +kernel, rfl, by decide +kernel, by decide +kernel⟩
abbrev s_law_home : Stmt := topS 21
abbrev N_law_home : List Str := ["realm", "slot", "chain"]
theorem sc_law_home : FnScope ["realm", "slot", "chain"] ["realm", "slot"] (defScope s_law_home) := ⟨rfl, rfl, rfl, by decide +kernel, rfl, by decide +kernel, by decide +kernel⟩
abbrev s_law_lag_of : Stmt := topS 22
abbrev N_law_lag_of : List Str := ["realm", "slot", "zone", "name", "lag"]
theorem sc_law_lag_of : FnScope ["realm", "slot", "zone", "name", "lag"] ["realm", "slot"] (defScope s_law_lag_of) := ⟨rfl, rfl, rfl, by decide +kernel, rfl, by decide +kernel, by decide +kernel⟩
abbrev s_law_life : Stmt := topS 23
abbrev N_law_life : List Str := ["tape"]
theorem sc_law_life : FnScope ["tape"] ["tape"] (defScope s_law_life) := ⟨rfl, rfl, rfl, by decide +kernel, rfl, by decide +kernel, by decide +kernel⟩
abbrev s_law_pools : Stmt := topS 24
abbrev N_law_pools : List Str := ["tape", "realm", "pools", "zone", "lag", "pool", "key"]
theorem sc_law_pools : FnScope ["tape", "realm", "pools", "zone", "lag", "pool", "key"] ["tape", "realm"] (defScope s_law_pools) := ⟨rfl, rfl, rfl, by decide +kernel, rfl, by decide +kernel, by decide +kernel⟩
abbrev s_law_pool : Stmt := topS 25
abbrev N_law_pool : List Str := ["pools", "zone", "name", "pool"]
theorem sc_law_pool : FnScope ["pools", "zone", "name", "pool"] ["pools", "zone"] (defScope s_law_pool) := ⟨rfl, rfl, rfl, by decide +kernel, rfl, by decide +kernel, by decide +kernel⟩
abbrev s_law_item : Stmt := topS 26
abbrev N_law_item : List Str := ["content", "life", "signers"]
theorem sc_law_item : FnScope ["content", "life", "signers"] ["content", "life", "signers"] (defScope s_law_item) := ⟨rfl, rfl, rfl, by decide +kernel, rfl, by decide +kernel, by decide +kernel⟩
abbrev s_law_first_item : Stmt := topS 27
abbrev N_law_first_item : List Str := ["tape", "realm", "pools", "slot", "life", "own", "content"]
theorem sc_law_first_item : FnScope ["tape", "realm", "pools", "slot", "life", "own", "content"] ["tape", "realm", "pools", "slot"] (defScope s_law_first_item) := ⟨rfl, rfl, rfl, by decide +kernel, rfl, by decide +kernel, by decide +kernel⟩
abbrev s_law_start : Stmt := topS 28
abbrev N_law_start : List Str := ["tape", "realm", "pools", "items", "on", "zone", "lag", "slot"]
theorem sc_law_start : FnScope ["tape", "realm", "pools", "items", "on", "zone", "lag", "slot"] ["tape", "realm", "pools"] (defScope s_law_start) := ⟨rfl, rfl, rfl, by decide +kernel, rfl, by decide +kernel, by decide +kernel⟩
abbrev s_law_at : Stmt := topS 29
abbrev N_law_at : List Str := ["state", "slot", "name", "item"]
theorem sc_law_at : FnScope ["state", "slot", "name", "item"] ["state", "slot"] (defScope s_law_at) := ⟨rfl, rfl, rfl, by decide +kernel, rfl, by decide +kernel, by decide +kernel⟩
abbrev s_law_after : Stmt := topS 30
abbrev N_law_after : List Str := ["state", "deed", "row", "other", "slot", "item"]
theorem sc_law_after : FnScope ["state", "deed", "row", "other", "slot", "item"] ["state", "deed"] (defScope s_law_after) := ⟨rfl, rfl, rfl, by decide +kernel, rfl, by decide +kernel, by decide +kernel⟩
abbrev s_law_server_deed : Stmt := topS 31
abbrev N_law_server_deed : List Str := ["tape", "realm", "state", "zone", "zones", "server", "word", "slot", "content", "lag"]
theorem sc_law_server_deed : FnScope ["tape", "realm", "state", "zone", "zones", "server", "word", "slot", "content", "lag"] ["tape", "realm", "state"] (defScope s_law_server_deed) := ⟨rfl, rfl, rfl, by decide +kernel, rfl, by decide +kernel, by decide +kernel⟩
abbrev s_law_mixed : Stmt := topS 32
abbrev N_law_mixed : List Str := ["tape", "realm", "pools", "slot", "item", "own", "keys", "content", "signers", "draw", "life"]
theorem sc_law_mixed : FnScope ["tape", "realm", "pools", "slot", "item", "own", "keys", "content", "signers", "draw", "life"] ["tape", "realm", "pools", "slot", "item"] (defScope s_law_mixed) := ⟨rfl, rfl, rfl, by decide +kernel, rfl, by decide +kernel, by decide +kernel⟩
abbrev s_law_deed : Stmt := topS 33
abbrev N_law_deed : List Str := ["tape", "realm", "pools", "state", "slots", "slot", "item", "first"]
theorem sc_law_deed : FnScope ["tape", "realm", "pools", "state", "slots", "slot", "item", "first"] ["tape", "realm", "pools", "state"] (defScope s_law_deed) := ⟨rfl, rfl, rfl, by decide +kernel, rfl, by decide +kernel, by decide +kernel⟩
abbrev s_law_deeds : Stmt := topS 34
abbrev N_law_deeds : List Str := ["tape", "realm", "pools", "state", "many", "deeds", "k", "deed"]
theorem sc_law_deeds : FnScope ["tape", "realm", "pools", "state", "many", "deeds", "k", "deed"] ["tape", "realm", "pools", "state", "many"] (defScope s_law_deeds) := ⟨rfl, rfl, rfl, by decide +kernel, rfl, by decide +kernel, by decide +kernel⟩
abbrev s_law_bent_start : Stmt := topS 35
abbrev N_law_bent_start : List Str := ["tape", "realm", "pools", "state", "places", "slot", "item", "first", "own"]
theorem sc_law_bent_start : FnScope ["tape", "realm", "pools", "state", "places", "slot", "item", "first", "own"] ["tape", "realm", "pools", "state"] (defScope s_law_bent_start) := ⟨rfl, rfl, rfl, by decide +kernel, rfl, by decide +kernel, by decide +kernel⟩
abbrev s_law_change : Stmt := topS 36
abbrev N_law_change : List Str := ["tape", "realm", "pools", "state", "zone", "zones", "old", "new", "life", "anchors", "slot", "sealed", "signers", "deeds", "item", "link", "at", "lag"]
theorem sc_law_change : FnScope ["tape", "realm", "pools", "state", "zone", "zones", "old", "new", "life", "anchors", "slot", "sealed", "signers", "deeds", "item", "link", "at", "lag"] ["tape", "realm", "pools", "state"] (defScope s_law_change) := ⟨rfl, rfl, rfl, by decide +kernel, rfl, by decide +kernel, by decide +kernel⟩
abbrev s_law_move : Stmt := topS 37
abbrev N_law_move : List Str := ["tape", "realm", "state", "zone", "zones", "slot", "old", "deeds", "lag", "word"]
theorem sc_law_move : FnScope ["tape", "realm", "state", "zone", "zones", "slot", "old", "deeds", "lag", "word"] ["tape", "realm", "state"] (defScope s_law_move) := ⟨rfl, rfl, rfl, by decide +kernel, rfl, by decide +kernel, by decide +kernel⟩
abbrev s_law_row : Stmt := topS 38
abbrev N_law_row : List Str := ["tape", "realm", "pools", "state", "draw"]
theorem sc_law_row : FnScope ["tape", "realm", "pools", "state", "draw"] ["tape", "realm", "pools", "state"] (defScope s_law_row) := ⟨rfl, rfl, rfl, by decide +kernel, rfl, by decide +kernel, by decide +kernel⟩
abbrev s_law_timed : Stmt := topS 39
abbrev N_law_timed : List Str := ["tape", "deeds", "wide", "moment", "plan", "deed"]
theorem sc_law_timed : FnScope ["tape", "deeds", "wide", "moment", "plan", "deed"] ["tape", "deeds", "wide"] (defScope s_law_timed) := ⟨rfl, rfl, rfl, by decide +kernel, rfl, by decide +kernel, by decide +kernel⟩
abbrev s_law_world : Stmt := topS 40
abbrev N_law_world : List Str := ["tape", "many", "realm", "pools", "state", "deeds"]
theorem sc_law_world : FnScope ["tape", "many", "realm", "pools", "state", "deeds"] ["tape", "many"] (defScope s_law_world) := ⟨rfl, rfl, rfl, by decide +kernel, rfl, by decide +kernel, by decide +kernel⟩
abbrev s_law_state_at : Stmt := topS 41
abbrev N_law_state_at : List Str := ["state", "plan", "moment", "when", "deed"]
theorem sc_law_state_at : FnScope ["state", "plan", "moment", "when", "deed"] ["state", "plan", "moment"] (defScope s_law_state_at) := ⟨rfl, rfl, rfl, by decide +kernel, rfl, by decide +kernel, by decide +kernel⟩
abbrev s_law : Stmt := topS 42
abbrev N_law : List Str := ["script", "tape", "realm", "state", "plan", "world", "moments", "when", "deed", "turn", "moment", "here", "slot", "item", "zone", "lag", "server", "told"]
theorem sc_law : FnScope ["script", "tape", "realm", "state", "plan", "world", "moments", "when", "deed", "turn", "moment", "here", "slot", "item", "zone", "lag", "server", "told"] ["script"] (defScope s_law) := ⟨rfl, rfl, rfl, by decide +kernel, rfl, by decide +kernel, by decide +kernel⟩
local macro_rules | `(tactic| walk_at "szl") => `(tactic| first
  | assumption
  | exact Nat.lt_of_le_of_lt (by assumption) (by decide)
  | (refine Nat.lt_of_le_of_lt ?_ (show (100000 : Nat) < sizeLine by decide); (try simp only [List.length_map, List.length_cons, List.length_nil, List.length_append]); omega))
local macro_rules | `(tactic| walk_at "sz") => `(tactic| first
  | assumption
  | exact Nat.le_trans (by assumption) (by decide)
  | (show _ ≤ sizeLine; decide)
  | (refine Nat.le_trans ?_ (show (100000 : Nat) ≤ sizeLine by decide); (try simp only [List.length_map, List.length_cons, List.length_nil, List.length_append]); omega))
local macro_rules | `(tactic| walk_at "hp") => `(tactic| first
  | assumption
  | exact upd_same
  | (refine (upd_ne ?hne).trans ?_; (case hne => first | assumption | exact Ne.symm (by assumption)); walk_at "hp"))
local macro_rules | `(tactic| walk_at "pl") => `(tactic| (refine Nat.le_trans (?plx : _ ≤ 1000) (by decide); (case plx => (try simp only [app_len, dot_len, dotS_len, w_len]); omega)))
local macro_rules | `(tactic| walk_at "rd1") => `(tactic| first
  | with_reducible refine rd_seq ?_
  | with_reducible refine rd_asg ?_
  | with_reducible refine rd_ret ?_
  | with_reducible refine rd_if ?_
  | with_reducible refine rd_drop ?_
  | with_reducible refine rd_next ?_
  | with_reducible refine rd_B ?_
  | with_reducible refine rd_ifE ?_
  | with_reducible refine rd_T ?_
  | with_reducible refine rd_tnot ?_
  | with_reducible refine rd_tand ?_
  | with_reducible refine rd_tor ?_
  | with_reducible refine rd_chain ?_
  | with_reducible refine rd_op ?_
  | with_reducible refine rd_un ?_
  | with_reducible refine rd_call ?_
  | with_reducible refine rd_cons ?_
  | with_reducible refine rd_nil ?_
  | with_reducible refine rd_cb ?_
  | with_reducible refine rd_c ?_
  | with_reducible refine rd_not ?_
  | with_reducible refine rd_and ?_
  | with_reducible refine rd_or ?_
  | with_reducible refine rd_sub ?_
  | with_reducible refine rd_lc ?_
  | with_reducible refine rd_iStr ?_
  | with_reducible refine rd_exStr ?_
  | with_reducible refine rd_iSeq ?_
  | with_reducible refine rd_rng ?_
  | with_reducible refine rd_exRef ?_
  | with_reducible refine rd_exInt ?_
  | with_reducible refine rd_exInts ?_
  | ((with_reducible refine' rd_seqL (xs := ?rxs) ?rxh ?_); (case rxh => exact SqL.of (by walk_at "hp")))
  | with_reducible refine rd_tyes ?_
  | with_reducible refine rd_eqStr ?_
  | with_reducible refine rd_neStr ?_
  | with_reducible refine rd_eqInt ?_
  | with_reducible refine rd_neInt ?_
  | with_reducible refine rd_eqBl ?_
  | with_reducible refine rd_rev ?_
  | with_reducible refine rd_exA ?_
  | with_reducible refine rd_fs ?_
  | with_reducible refine rd_jc ?_
  | with_reducible refine rd_jn ?_
  | with_reducible refine rd_fmt ?_
  | with_reducible refine rd_for ?_
  | with_reducible refine rd_bm ?_
  | ((with_reducible refine' rd_tyL (xs := ?rxs) ?rxh ?_); (case rxh => walk_at "hp"))
  | ((with_reducible refine' rd_app (xs := ?rxs) ?rxh ?rxc ?_); (case rxh => walk_at "hp"); (case rxc => walk_at "szl"))
  | ((with_reducible refine rd_fmtS ?rdc ?_); (case rdc => walk_at "sz"))
  | with_reducible refine rd_isBool ?_
  | with_reducible refine rd_sl ?_
  | with_reducible refine rd_noP ?_
  | with_reducible refine rd_part ?_
  | ((with_reducible refine rd_slS ?rdc ?_); (case rdc => walk_at "sz"))
  | with_reducible refine rd_sortLam ?_
  | with_reducible refine iteT ?_
  | with_reducible refine rd_ntt ?_
  | with_reducible refine rd_nff ?_
  | with_reducible refine iteF ?_
  | with_reducible refine rd_m1 ?_
  | (with_reducible refine ⟨⟨_, rfl⟩, ?_⟩)
  | ((with_reducible refine rd_len ?rdc ?_); (case rdc => walk_at "sz"))
  | with_reducible refine rd_gcons ?_
  | ((with_reducible refine rd_plusS ?rdc ?_); (case rdc => walk_at "pl"))
  | with_reducible refine rd_gnil ?_
  | ((with_reducible refine' rd_inWs (zs := ?rxs) ?rxh ?_); (case rxh => walk_at "hp"))
  | ((with_reducible refine' rd_ninWs (zs := ?rxs) ?rxh ?_); (case rxh => walk_at "hp"))
  | with_reducible refine rd_ends ?_
  | with_reducible refine rd_inS ?_
  | with_reducible refine rd_ninS ?_
  | with_reducible refine rd_isStr ?_
  | with_reducible refine rd_lst ?_
  | with_reducible refine rd_tup ?_
  | with_reducible refine rd_name ?_
  | with_reducible refine rd_bl ?_
  | with_reducible refine rd_i0 ?_
  | with_reducible refine rd_uI ?_
  | with_reducible refine rd_plusI ?_
  | with_reducible refine rd_int1 ?_
  | ((with_reducible refine rd_i ?rdc ?_); (case rdc => first | decide | (constructor <;> decide) | (left; constructor <;> decide) | (right; constructor <;> decide) | omega | (left; constructor <;> omega) | (right; constructor <;> omega) | (constructor <;> omega)))
  | ((with_reducible refine' rd_ixL (v := ?rxv) (xs := ?rxs) ?rxh ?rxa ?_); (case rxh => exact SqL.of (by walk_at "hp")); (case rxa => rfl))
  | ((with_reducible refine' rd_lenL (ys := ?rxs) ?rxh ?_); (case rxh => exact SqL.of (by walk_at "hp")))
  | ((with_reducible refine' rd_set (xs := ?rxs) (j := ?rxj) ?rxh ?rxa ?_); (case rxh => walk_at "hp"); (case rxa => rfl))
  | ((with_reducible refine' rd_var (v := ?rdw) ?rdv ?_); (case rdv => rfl)))
local macro_rules | `(tactic| walk_at "rdn1") => `(tactic| first
  | with_reducible refine rd_asg ?_
  | with_reducible refine rd_ret ?_
  | with_reducible refine rd_if ?_
  | with_reducible refine rd_drop ?_
  | with_reducible refine rd_next ?_
  | with_reducible refine rd_B ?_
  | with_reducible refine rd_ifE ?_
  | with_reducible refine rd_T ?_
  | with_reducible refine rd_tnot ?_
  | with_reducible refine rd_tand ?_
  | with_reducible refine rd_tor ?_
  | with_reducible refine rd_chain ?_
  | with_reducible refine rd_op ?_
  | with_reducible refine rd_un ?_
  | with_reducible refine rd_call ?_
  | with_reducible refine rd_cons ?_
  | with_reducible refine rd_nil ?_
  | with_reducible refine rd_cb ?_
  | with_reducible refine rd_c ?_
  | with_reducible refine rd_not ?_
  | with_reducible refine rd_and ?_
  | with_reducible refine rd_or ?_
  | with_reducible refine rd_sub ?_
  | with_reducible refine rd_lc ?_
  | with_reducible refine rd_iStr ?_
  | with_reducible refine rd_exStr ?_
  | with_reducible refine rd_iSeq ?_
  | with_reducible refine rd_rng ?_
  | with_reducible refine rd_exRef ?_
  | with_reducible refine rd_exInt ?_
  | with_reducible refine rd_exInts ?_
  | ((with_reducible refine' rd_seqL (xs := ?rxs) ?rxh ?_); (case rxh => exact SqL.of (by walk_at "hp")))
  | with_reducible refine rd_tyes ?_
  | with_reducible refine rd_eqStr ?_
  | with_reducible refine rd_neStr ?_
  | with_reducible refine rd_eqInt ?_
  | with_reducible refine rd_neInt ?_
  | with_reducible refine rd_eqBl ?_
  | with_reducible refine rd_rev ?_
  | with_reducible refine rd_exA ?_
  | with_reducible refine rd_fs ?_
  | with_reducible refine rd_jc ?_
  | with_reducible refine rd_jn ?_
  | with_reducible refine rd_fmt ?_
  | with_reducible refine rd_for ?_
  | with_reducible refine rd_bm ?_
  | ((with_reducible refine' rd_tyL (xs := ?rxs) ?rxh ?_); (case rxh => walk_at "hp"))
  | ((with_reducible refine' rd_app (xs := ?rxs) ?rxh ?rxc ?_); (case rxh => walk_at "hp"); (case rxc => walk_at "szl"))
  | ((with_reducible refine rd_fmtS ?rdc ?_); (case rdc => walk_at "sz"))
  | with_reducible refine rd_isBool ?_
  | with_reducible refine rd_sl ?_
  | with_reducible refine rd_noP ?_
  | with_reducible refine rd_part ?_
  | ((with_reducible refine rd_slS ?rdc ?_); (case rdc => walk_at "sz"))
  | with_reducible refine rd_sortLam ?_
  | with_reducible refine iteT ?_
  | with_reducible refine rd_ntt ?_
  | with_reducible refine rd_nff ?_
  | with_reducible refine iteF ?_
  | with_reducible refine rd_m1 ?_
  | (with_reducible refine ⟨⟨_, rfl⟩, ?_⟩)
  | ((with_reducible refine rd_len ?rdc ?_); (case rdc => walk_at "sz"))
  | with_reducible refine rd_gcons ?_
  | ((with_reducible refine rd_plusS ?rdc ?_); (case rdc => walk_at "pl"))
  | with_reducible refine rd_gnil ?_
  | ((with_reducible refine' rd_inWs (zs := ?rxs) ?rxh ?_); (case rxh => walk_at "hp"))
  | ((with_reducible refine' rd_ninWs (zs := ?rxs) ?rxh ?_); (case rxh => walk_at "hp"))
  | with_reducible refine rd_ends ?_
  | with_reducible refine rd_inS ?_
  | with_reducible refine rd_ninS ?_
  | with_reducible refine rd_isStr ?_
  | with_reducible refine rd_lst ?_
  | with_reducible refine rd_tup ?_
  | with_reducible refine rd_name ?_
  | with_reducible refine rd_bl ?_
  | with_reducible refine rd_i0 ?_
  | with_reducible refine rd_uI ?_
  | with_reducible refine rd_plusI ?_
  | with_reducible refine rd_int1 ?_
  | ((with_reducible refine rd_i ?rdc ?_); (case rdc => first | decide | (constructor <;> decide) | (left; constructor <;> decide) | (right; constructor <;> decide) | omega | (left; constructor <;> omega) | (right; constructor <;> omega) | (constructor <;> omega)))
  | ((with_reducible refine' rd_ixL (v := ?rxv) (xs := ?rxs) ?rxh ?rxa ?_); (case rxh => exact SqL.of (by walk_at "hp")); (case rxa => rfl))
  | ((with_reducible refine' rd_lenL (ys := ?rxs) ?rxh ?_); (case rxh => exact SqL.of (by walk_at "hp")))
  | ((with_reducible refine' rd_set (xs := ?rxs) (j := ?rxj) ?rxh ?rxa ?_); (case rxh => walk_at "hp"); (case rxa => rfl))
  | ((with_reducible refine' rd_var (v := ?rdw) ?rdv ?_); (case rdv => rfl)))
local macro_rules | `(tactic| walk_at "rd") => `(tactic| repeat walk_at "rd1")
local macro_rules | `(tactic| walk_at "ext") => `(tactic| first
  | exact Ext.refl
  | assumption
  | (refine Ext.trans ?_ (Ext.mut (by simp) (by walk_at "hp")); walk_at "ext")
  | (refine Ext.trans ?_ (Ext.new (by assumption)); walk_at "ext"))
local macro_rules | `(tactic| walk_at "rdn") => `(tactic| repeat walk_at "rdn1")

section
variable {T : List (Addr × Str)} {P : Program} {w : World} {K : PySem.W.Frag} {mg : Str → Option Value} {base : Heap}
def bltns : List Str := ["isinstance", "str", "len", "all", "sorted", "range", "list", "tuple", "int", "bool", "dict"]
theorem ok_law_id (D : Def K mg "_law_id" s_law_id ["tape"]) (mb : ∀ x ∈ bltns, mg x = none) (G_law_take : Ok P w K mg base 2 "_law_take" ["tape", "many"] (spTake T)) : Ok P w K mg base 3 "_law_id" ["tape"] (spId T) := by
  refine D.ok sc_law_id (fun vs H Q E h => ?_) (fun cdv f A outer s H vs Q E hr h => ?_)
  · obtain ⟨l, t, rfl, _⟩ := h
    rfl
  · obtain ⟨l, t, rfl, hT, q⟩ := h
    refine ⟨_, (pss_cons (ps_set (i := 1) sc_law_id.nd rfl (.inl rfl) pe_str)
   (pss_cons (ps_set (i := 2) sc_law_id.nd rfl (.inl rfl) pe_str)
   (pss_cons (ps_for PassesOwn.never rfl (pi_range1 (by rfl) (mb _ (by decide)) (pa_cons (pe_op (op_plus K rfl) pe_int (pe_callO G_law_take (hr.mono (by decide)) (by rfl) (pa_cons (pv 0) (pa_cons pe_int pa_nil)))) pa_nil)) (pg_name (i := 3) sc_law_id.nd rfl (.inl rfl)) (pss_one (ps_set (i := 2) sc_law_id.nd rfl (.inl rfl) (pe_op (op_plus K rfl) (pv 2) (pe_ix (ix_U K rfl) (pv 1) (pe_callO G_law_take (hr.mono (by decide)) (by rfl) (pa_cons (pv 0) (pa_cons pe_int pa_nil))) (fun _ _ => rfl))))))
   (pss_one (ps_ret (pv 2)))))), ?_⟩
    walk_at "rd"
    refine ⟨l, t, 4, rfl, by decide, by decide, hT, fun d H1 hd0 hd1 e1 T1 => ?_⟩
    walk_at "rd"
    refine ⟨by omega, by omega, ?_⟩
    refine forg_range (fun i σ H' => Ext T [t] H H' ∧ Tape l H' t ∧ ∃ (z : Str) (k : Option V), σ = [some (.ref t), some (.str lettersS), some (.str z), k] ∧ z.length = i ∧ ∀ c ∈ sg z, c ∈ sg lettersS)
      ⟨e1, T1, _, none, rfl, by decide +kernel, by decide +kernel⟩ (fun i σ H' hi h => ?_) (fun σ H' h => ?_)
    · obtain ⟨e2, T2, z, k, rfl, hz, hc⟩ := h
      have hs36 : (sg lettersS).length = 36 := by decide +kernel
      walk_at "rd"
      refine ⟨l, t, 36, rfl, by decide, by decide, T2, fun d2 H2 h0 h1 e3 T3 => ?_⟩
      obtain ⟨c, hc1, _, hc2⟩ := at_in (l := sg lettersS) h0 (by omega)
      refine rd_ixS (by rw [← sg_len, hs36]; decide) hc1 ?_
      refine rd_plusS ?_ ⟨e2.trans e3, T3, _, _, rfl, ?_, ?_⟩
      · show z.length + 1 ≤ sizeLine
        exact Nat.le_trans (show _ ≤ 101 by omega) (by decide)
      · rw [app_len, hz]
        rfl
      · intro y hy
        rw [sg_app] at hy
        rcases List.mem_append.mp hy with h | h
        · exact hc y h
        · rw [List.mem_singleton.mp (show y ∈ [c] from h)]
          exact hc2
    · obtain ⟨e2, T2, z, k, rfl, hz, hc⟩ := h
      walk_at "rd"
      refine q z H' ?_ e2 T2
      unfold idB wordB
      rw [decide_eq_true (show (1 : Int) ≤ (z.length : Int) by omega), decide_eq_true (show (z.length : Int) ≤ 4 by omega)]
      rw [List.all_eq_true.mpr fun y hy => decide_eq_true (hc y hy)]
      rfl
theorem ok_law_ids (D : Def K mg "_law_ids" s_law_ids ["tape", "many"]) (mb : ∀ x ∈ bltns, mg x = none) (G_law_id : Ok P w K mg base 3 "_law_id" ["tape"] (spId T)) : Ok P w K mg base 4 "_law_ids" ["tape", "many"] (spIds T) := by
  refine D.ok sc_law_ids (fun vs H Q E h => ?_) (fun cdv f A outer s H vs Q E hr h => ?_)
  · obtain ⟨l, t, m, rfl, _⟩ := h
    rfl
  · obtain ⟨l, t, m, rfl, hm0, hm5, hT, q⟩ := h
    refine ⟨_, (pss_cons (ps_set (i := 2) sc_law_ids.nd rfl (.inl rfl) (pe_lst pa_nil))
   (pss_cons (ps_for PassesOwn.never rfl (pi_range1 (by rfl) (mb _ (by decide)) (pa_cons pe_int pa_nil)) (pg_name (i := 3) sc_law_ids.nd rfl (.inl rfl)) (pss_cons (ps_set (i := 4) sc_law_ids.nd rfl (.inl rfl) (pe_callO G_law_id (hr.mono (by decide)) (by rfl) (pa_cons (pv 0) pa_nil)))
   (pss_one (ps_if (PW.pt (pw_and (pt_cmpR op_lt (pe_callB (call_lenU K rfl) (by rfl) (mb _ (by decide)) (by decide +kernel) (pa_cons (pv 2) pa_nil)) (pv 1) (nomark _)) (pw_and1 (pt_cmpR (op_ninW K rfl (Room.units65 hr)) (pv 4) (pv 2) rfl)))) (pss_one (ps_expr (pe_bm PySem.F.plainAttrs_list PySem.F.slot_list_append PySem.F.type_list_append mt_append (pv 2) (pa_cons (pv 4) pa_nil)))) pss_nil))))
   (pss_cons (ps_for PassesOwn.never rfl (pi_seq K rfl (pe_lst (pa_cons pe_str (pa_cons pe_str (pa_cons pe_str (pa_cons pe_str (pa_cons pe_str pa_nil))))))) (pg_name (i := 4) sc_law_ids.nd rfl (.inl rfl)) (pss_one (ps_if (PW.pt (pw_and (pt_cmpR op_lt (pe_callB (call_lenU K rfl) (by rfl) (mb _ (by decide)) (by decide +kernel) (pa_cons (pv 2) pa_nil)) (pv 1) (nomark _)) (pw_and1 (pt_cmpR (op_ninW K rfl (Room.units65 hr)) (pv 4) (pv 2) rfl)))) (pss_one (ps_expr (pe_bm PySem.F.plainAttrs_list PySem.F.slot_list_append PySem.F.type_list_append mt_append (pv 2) (pa_cons (pv 4) pa_nil)))) pss_nil)))
   (pss_one (ps_ret (pv 2)))))), ?_⟩
    refine rd_seq ?_
    walk_at "rdn"
    refine ⟨by show 0 ≤ sizeLine; decide, fun p np => ?_⟩
    have hpn : Nw H p := .of np
    obtain ⟨hpt, hpl⟩ := hT.ne hpn
    have e0 : Ext T [t] H (upd H p (.lst [])) := .new np
    have T0 := hT.upd (o := .lst []) np
    have hp0 : (upd H p (.lst [])) p = some (.lst (([] : List Str).map V.str)) := upd_same
    generalize upd H p (.lst []) = H0 at e0 T0 hp0 ⊢
    walk_at "rdn"
    -- a word is put to the list
    have put : ∀ (N1 N2 : L2.St → Hp → Prop) (σ : L2.St) (H1 : Hp) (ys : List Str) (z : Str), Ext T [t] H H1 → Tape l H1 t → H1 p = some (.lst (ys.map V.str)) → ys.Nodup → (∀ y ∈ ys, idB y = true) → (ys.length : Int) ≤ m → idB z = true →
        (∀ (H2 : Hp) (ys' : List Str), Ext T [t] H H2 → Tape l H2 t → H2 p = some (.lst (ys'.map V.str)) → ys'.Nodup → (∀ y ∈ ys', idB y = true) → (ys'.length : Int) ≤ m → (∀ y ∈ ys, y ∈ ys') → ((ys'.length : Int) < m → z ∈ ys') → (∀ b xs, b ≠ p → H1 b = some (.lst xs) → H2 b = some (.lst xs)) → N1 σ H2) → σ[1]? = some (some (.int m)) → σ[2]? = some (some (.ref p)) → σ[4]? = some (some (.str z)) →
        (tIfS (tAnd (tTest (tOp (rI0 fun i j => V.bl (decide (i < j))) (tCB (rLenU K) (tCons (tVar 2) tNil)) (tVar 1))) (tTest (tOp (rNinW K) (tVar 4) (tVar 2)))) (tDrop (tBM K "list" rAppend (tVar 2) (tCons (tVar 4) tNil))) tNext) ⟨N1, Q, N2, N1⟩ σ H1 := by
      intro N1 N2 σ H1 ys z e1 T1 hp1 hnd hid hlen hz k s1 s2 s4
      walk_at "rd"
      refine rd_var s2 ?_
      walk_at "rd"
      refine rd_var s1 ?_
      walk_at "rd"
      refine rd_ite (fun hlt => ?_) (fun hlt => ?_)
      · walk_at "rd"
        refine rd_var s4 ?_
        refine rd_var s2 ?_
        walk_at "rd"
        refine rd_itn (fun hin => ?_) (fun hin => ?_)
        · walk_at "rd"
          exact k H1 ys e1 T1 hp1 hnd hid hlen (fun y hy => hy) (fun _ => hin) fun _ _ _ h => h
        · walk_at "rd"
          refine rd_var s2 ?_
          walk_at "rd"
          refine rd_var s4 ?_
          walk_at "rd"
          refine k _ (ys ++ [z]) (e1.own hpn hp1) (T1.own hpt hpl) ?_ (nodup_snoc hnd hin) (fun y hy => ?_) ?_ (fun y hy => List.mem_append_left _ hy) (fun _ => by simp) fun b xs hb h => (upd_ne hb).trans h
          · rw [List.map_append]
            exact upd_same
          · rcases List.mem_append.mp hy with h | h
            · exact hid y h
            · rw [List.mem_singleton.mp h]
              exact hz
          · rw [List.length_append]
            rw [List.length_map] at hlt
            show ((ys.length + 1 : Nat) : Int) ≤ m
            omega
      · walk_at "rd"
        rw [List.length_map] at hlt
        exact k H1 ys e1 T1 hp1 hnd hid hlen (fun y hy => hy) (fun h => absurd h hlt) fun _ _ _ h => h
    refine rd_cut (fun σ H1 => Ext T [t] H H1 ∧ Tape l H1 t ∧ ∃ (ys : List Str) (a b : Option V), σ = [some (.ref t), some (.int m), some (.ref p), a, b] ∧ H1 p = some (.lst (ys.map V.str)) ∧ ys.Nodup ∧ (∀ y ∈ ys, idB y = true) ∧ (ys.length : Int) ≤ m) (fun nx' hnx => ?_) (fun σ H1 h => ?_)
    · walk_at "rd"
      refine ⟨by decide, by decide, ?_⟩
      refine forg_range (fun i σ H1 => Ext T [t] H H1 ∧ Tape l H1 t ∧ ∃ (ys : List Str) (a b : Option V), σ = [some (.ref t), some (.int m), some (.ref p), a, b] ∧ H1 p = some (.lst (ys.map V.str)) ∧ ys.Nodup ∧ (∀ y ∈ ys, idB y = true) ∧ (ys.length : Int) ≤ m)
        ⟨e0, T0, [], none, none, rfl, hp0, by simp, by simp, hm0⟩ (fun i σ H1 hi h => ?_) (fun σ H1 h => hnx _ _ h)
      obtain ⟨e1, T1, ys, a, b, rfl, hp1, hnd, hid, hlen⟩ := h
      refine rd_name ?_
      refine rd_seq ?_
      walk_at "rdn"
      refine ⟨l, t, rfl, T1, fun z H2 hz e2 T2 => ?_⟩
      refine rd_name ?_
      refine put _ _ _ H2 ys z (e1.trans e2) T2 (e2.lst (by simpa using hpt) hp1) hnd hid hlen hz (fun H3 ys' e3 T3 h1 h2 h3 h4 _ _ _ => ?_) rfl rfl rfl
      exact ⟨e3, T3, ys', _, _, rfl, h1, h2, h3, h4⟩
    · obtain ⟨e1, T1, ys, a, b, rfl, hp1, hnd, hid, hlen⟩ := h
      clear e0 T0 hp0
      refine rd_seq ?_
      walk_at "rdn"
      refine ⟨by show 5 ≤ sizeLine; decide, fun qa nq => ?_⟩
      have hqp : p ≠ qa := (Nw.of nq).lst hp1
      obtain ⟨hqt, hql⟩ := T1.ne (.of nq)
      have e2 : Ext T [t] H (upd H1 qa (.lst (qsL.map V.str))) := e1.newR nq
      have T2 := T1.upd (o := .lst (qsL.map V.str)) nq
      have hp2 : (upd H1 qa (.lst (qsL.map V.str))) p = some (.lst (ys.map V.str)) := (upd_ne hqp).trans hp1
      have hq2 : (upd H1 qa (.lst (qsL.map V.str))) qa = some (.lst (qsL.map V.str)) := upd_same
      have hqn : ∀ {H' : Hp}, Ext T [t] H H' → True := fun _ => trivial
      refine ⟨qa, rfl, .inl ⟨⟨_, SqL.of hq2⟩, ?_⟩⟩
      show ForG _ _ _ _ _ (upd H1 qa (.lst (qsL.map V.str)))
      generalize upd H1 qa (.lst (qsL.map V.str)) = H2 at e2 T2 hp2 hq2 ⊢
      refine forg_list (xs := qsL.map V.str) (fun i σ H3 => Ext T [t] H H3 ∧ Tape l H3 t ∧ H3 qa = some (.lst (qsL.map V.str)) ∧ ∃ (ys : List Str) (a b : Option V), σ = [some (.ref t), some (.int m), some (.ref p), a, b] ∧ H3 p = some (.lst (ys.map V.str)) ∧ ys.Nodup ∧ (∀ y ∈ ys, idB y = true) ∧ (ys.length : Int) ≤ m ∧ ((ys.length : Int) < m → ∀ y ∈ qsL.take i, y ∈ ys))
        ⟨e2, T2, hq2, ys, a, b, rfl, hp2, hnd, hid, hlen, fun _ y hy => by simp at hy⟩ (fun i σ H3 _ h => SqL.of h.2.2.1) (fun i x σ H3 hx h => ?_) (fun σ H3 h => ?_)
      · obtain ⟨e3, T3, hq3, ys, a, b, rfl, hp3, hnd, hid, hlen, hall⟩ := h
        rw [List.getElem?_map] at hx
        obtain ⟨z, hz, rfl⟩ := Option.map_eq_some_iff.mp hx
        refine rd_name ?_
        refine put _ _ _ H3 ys z e3 T3 hp3 hnd hid hlen (qs_ok z (List.mem_of_getElem? hz)) (fun H4 ys' e4 T4 h1 h2 h3 h4 h5 h6 h7 => ?_) rfl rfl rfl
        have hq4 : H4 qa = some (.lst (qsL.map V.str)) := h7 qa _ hqp.symm hq3
        refine ⟨e4, T4, hq4, ys', _, _, rfl, h1, h2, h3, h4, fun hlt y hy => ?_⟩
        rw [List.take_add_one, hz] at hy
        rcases List.mem_append.mp hy with hy | hy
        · refine h5 y (hall ?_ y hy)
          have := nodup_len hnd h5
          omega
        · rw [List.mem_singleton.mp (show y ∈ [z] from hy)]
          exact h6 hlt
      · obtain ⟨e3, T3, hq3, ys, a, b, rfl, hp3, hnd, hid, hlen, hall⟩ := h
        walk_at "rd"
        have hle : (ys.length : Int) = m := by
          rcases Int.lt_or_le ys.length m with h | h
          · have h2 := nodup_len qs_nodup fun y hy => hall h y (by rw [List.length_map, List.take_length]; exact hy)
            have h3 : qsL.length = 5 := rfl
            omega
          · omega
        exact q p ys H3 hpn hle hnd hid hp3 e3 T3
end

open PySem PySem.Spec PyProof.Rows L2

section
variable {T : List (Addr × Str)} {P : Program} {w : World} {K : PySem.W.Frag} {mg : Str → Option Value} {base : Heap}
theorem ok_law_label (D : Def K mg "_law_label" s_law_label ["tape"]) (mb : ∀ x ∈ bltns, mg x = none) (G_law_take : Ok P w K mg base 2 "_law_take" ["tape", "many"] (spTake T)) (G_law_id : Ok P w K mg base 3 "_law_id" ["tape"] (spId T)) : Ok P w K mg base 4 "_law_label" ["tape"] (spLabel T) := by
  refine D.ok sc_law_label (fun vs H Q E h => ?_) (fun cdv f A outer s H vs Q E hr h => ?_)
  · obtain ⟨l, t, rfl, _⟩ := h
    rfl
  · obtain ⟨l, t, rfl, hT, q⟩ := h
    refine ⟨_, (pss_cons (ps_set (i := 1) sc_law_label.nd rfl (.inl rfl) (pe_callO G_law_id (hr.mono (by decide)) (by rfl) (pa_cons (pv 0) pa_nil)))
   (pss_cons (ps_if (pt_cmpR (op_eqU K rfl hr.units) (pe_callO G_law_take (hr.mono (by decide)) (by rfl) (pa_cons (pv 0) (pa_cons pe_int pa_nil))) pe_int (nomark _)) (pss_one (ps_set (i := 1) sc_law_label.nd rfl (.inl rfl) (pe_op (op_plus K rfl) (pv 1) (pe_callO G_law_id (hr.mono (by decide)) (by rfl) (pa_cons (pv 0) pa_nil))))) pss_nil)
   (pss_one (ps_ret (pv 1))))), ?_⟩
    walk_at "rd"
    refine ⟨l, t, rfl, hT, fun z H1 hz e1 T1 => ?_⟩
    walk_at "rd"
    refine ⟨l, t, 4, rfl, by decide, by decide, T1, fun d H2 h0 h1 e2 T2 => ?_⟩
    walk_at "rd"
    refine rd_ite (fun h => ?_) (fun h => ?_)
    · walk_at "rd"
      refine ⟨l, t, rfl, T2, fun z2 H3 hz2 e3 T3 => ?_⟩
      have hl1 := id_len hz
      have hl2 := id_len hz2
      refine rd_plusS (Nat.le_trans (show z.length + z2.length ≤ 100 by omega) (by decide)) ?_
      walk_at "rd"
      exact q _ H3 (word_app hz hz2 (by decide)) ((e1.trans e2).trans e3) T3
    · walk_at "rd"
      exact q z H2 (word_mono hz (by decide)) (e1.trans e2) T2
theorem ok_law_labels (D : Def K mg "_law_labels" s_law_labels ["tape"]) (mb : ∀ x ∈ bltns, mg x = none) (G_law_label : Ok P w K mg base 4 "_law_label" ["tape"] (spLabel T)) : Ok P w K mg base 5 "_law_labels" ["tape"] (spLabels T) := by
  refine D.ok sc_law_labels (fun vs H Q E h => ?_) (fun cdv f A outer s H vs Q E hr h => ?_)
  · obtain ⟨l, t, rfl, _⟩ := h
    rfl
  · obtain ⟨l, t, rfl, hT, q⟩ := h
    refine ⟨_, (pss_cons (ps_set (i := 1) sc_law_labels.nd rfl (.inl rfl) (pe_lst pa_nil))
   (pss_cons (ps_for PassesOwn.never rfl (pi_seq K rfl (pe_lst (pa_cons pe_str (pa_cons pe_str (pa_cons pe_str (pa_cons pe_str pa_nil)))))) (pg_name (i := 2) sc_law_labels.nd rfl (.inl rfl)) (pss_cons (ps_set (i := 3) sc_law_labels.nd rfl (.inl rfl) (pe_callO G_law_label (hr.mono (by decide)) (by rfl) (pa_cons (pv 0) pa_nil)))
   (pss_cons (ps_if (pt_cmpR (op_inW K rfl (Room.units65 hr)) (pv 3) (pv 1) rfl) (pss_one (ps_set (i := 3) sc_law_labels.nd rfl (.inl rfl) (pe_slice (sl_U K rfl) (pe_op (op_plus K rfl) (pe_op (op_plus K rfl) (pv 3) (pv 2)) pe_str) (po_some (pe_un un_neg pe_int)) po_none))) pss_nil)
   (pss_one (ps_if (pt_cmpR (op_ninW K rfl (Room.units65 hr)) (pv 3) (pv 1) rfl) (pss_one (ps_expr (pe_bm PySem.F.plainAttrs_list PySem.F.slot_list_append PySem.F.type_list_append mt_append (pv 1) (pa_cons (pv 3) pa_nil)))) pss_nil)))))
   (pss_one (ps_ret (pe_op (op_plus K rfl) (pv 1) (pe_lst (pa_cons pe_str (pa_cons pe_str (pa_cons pe_str (pa_cons pe_str pa_nil)))))))))), ?_⟩
    refine rd_seq ?_
    walk_at "rdn"
    refine ⟨by show 0 ≤ sizeLine; decide, fun p np => ?_⟩
    have hpn : Nw H p := .of np
    obtain ⟨hpt, hpl⟩ := hT.ne hpn
    have e0 : Ext T [t] H (upd H p (.lst [])) := .new np
    have T0 := hT.upd (o := .lst []) np
    have hp0 : (upd H p (.lst [])) p = some (.lst (([] : List Str).map V.str)) := upd_same
    generalize upd H p (.lst []) = H0 at e0 T0 hp0 ⊢
    walk_at "rdn"
    refine rd_seq ?_
    walk_at "rdn"
    refine ⟨by show 4 ≤ sizeLine; decide, fun qa nq => ?_⟩
    have hqp : p ≠ qa := (Nw.of nq).lst hp0
    obtain ⟨hqt, hql⟩ := T0.ne (.of nq)
    have e2 : Ext T [t] H (upd H0 qa (.lst (xyzL.map V.str))) := e0.newR nq
    have T2 := T0.upd (o := .lst (xyzL.map V.str)) nq
    have hp2 : (upd H0 qa (.lst (xyzL.map V.str))) p = some (.lst (([] : List Str).map V.str)) := (upd_ne hqp).trans hp0
    have hq2 : (upd H0 qa (.lst (xyzL.map V.str))) qa = some (.lst (xyzL.map V.str)) := upd_same
    refine ⟨qa, rfl, .inl ⟨⟨_, SqL.of hq2⟩, ?_⟩⟩
    show ForG _ _ _ _ _ (upd H0 qa (.lst (xyzL.map V.str)))
    generalize upd H0 qa (.lst (xyzL.map V.str)) = H2 at e2 T2 hp2 hq2 ⊢
    refine forg_list (xs := xyzL.map V.str) (fun i σ H3 => Ext T [t] H H3 ∧ Tape l H3 t ∧ H3 qa = some (.lst (xyzL.map V.str)) ∧ ∃ (F fs : List Str) (a b : Option V), σ = [some (.ref t), some (.ref p), a, b] ∧ H3 p = some (.lst (F.map V.str)) ∧ F.Nodup ∧ (∀ y ∈ F, labelB y = true) ∧ F.length + fs.length = i ∧ fs.Nodup ∧ ∀ y ∈ fs, y ∈ F ∧ ∃ j c, j < i ∧ (xyzC)[j]? = some c ∧ EndW c y)
      ⟨e2, T2, hq2, [], [], none, none, rfl, hp2, by simp, by simp, rfl, by simp, by simp⟩ (fun i σ H3 _ h => SqL.of h.2.2.1) (fun i x σ H3 hx h => ?_) (fun σ H3 h => ?_)
    · obtain ⟨e3, T3, hq3, F, fs, a, b, rfl, hp3, hnd, hlb, hlen, hfs, hfe⟩ := h
      rw [List.getElem?_map] at hx
      obtain ⟨la, hla, rfl⟩ := Option.map_eq_some_iff.mp hx
      have hi4 : i < 4 := by
        have := (List.getElem?_eq_some_iff.mp hla).1
        exact this
      have mono : ∀ {y : Str} {F' : List Str}, (∀ z ∈ F, z ∈ F') → (∃ c, y ∈ F ∧ ∃ j, j < i ∧ xyzC[j]? = some c ∧ EndW c y) → True := fun _ _ => trivial
      refine rd_name ?_
      refine rd_seq ?_
      walk_at "rdn"
      refine ⟨l, t, rfl, T3, fun z H4 hz e4 T4 => ?_⟩
      have hp4 := e4.lst (by simpa using hpt) hp3
      have hq4 := e4.lst (by simpa using hqt) hq3
      refine rd_name ?_
      refine rd_cut (fun σ H5 => H5 = H4 ∧ ∃ z' : Str, σ = [some (.ref t), some (.ref p), some (.str la), some (.str z')] ∧ labelB z' = true ∧ (z' ∈ F → ∃ c, xyzC[i]? = some c ∧ EndW c z')) (fun nx' hnx => ?_) (fun σ H5 h => ?_)
      · walk_at "rd"
        refine rd_ite (fun hin => ?_) (fun hin => ?_)
        · have hz8 := label_len hz
          have hla1 : la.length ≤ 1 := xyz_len la (List.mem_of_getElem? hla)
          walk_at "rd"
          refine rd_slS ?_ ?_
          · rw [app_len, app_len, w_len]
            exact Nat.le_trans (show _ ≤ 100 by omega) (by decide)
          have h8 := cut8 (z ++ la ++ Str.ofString "w") (by rw [app_len, w_len]; omega) (fun c hc => by
            rw [sg_app, sg_app] at hc
            rcases List.mem_append.mp hc with hc | hc
            · rcases List.mem_append.mp hc with hc | hc
              · exact label_mem hz hc
              · exact xyz_let la (List.mem_of_getElem? hla) c hc
            · exact w_let c hc)
          walk_at "rd"
          refine hnx _ _ ⟨rfl, _, rfl, h8.1, fun hF => ?_⟩
          have hi0 : i ≠ 0 := fun e => by
            subst e
            rw [show F = [] from List.eq_nil_of_length_eq_zero (by omega)] at hin
            cases hin
          obtain ⟨c, hc, hc2⟩ := xyz_end hi0 hla
          exact ⟨c, hc, h8.2 c ⟨sg z, by rw [sg_app, sg_app, hc2, w_sg, List.append_assoc]; rfl⟩⟩
        · walk_at "rd"
          exact hnx _ _ ⟨rfl, z, rfl, hz, fun h => absurd h hin⟩
      · obtain ⟨rfl, z', rfl, hz', hend⟩ := h
        walk_at "rd"
        refine rd_itn (fun hin => ?_) (fun hin => ?_)
        · walk_at "rd"
          obtain ⟨c, hc, hc2⟩ := hend hin
          refine ⟨e3.trans e4, T4, hq4, F, fs ++ [z'], _, _, rfl, hp4, hnd, hlb, ?_, nodup_snoc hfs fun hz => ?_, fun y hy => ?_⟩
          · rw [List.length_append]
            show F.length + (fs.length + 1) = i + 1
            omega
          · obtain ⟨_, j, c', hj, hc', hc2'⟩ := hfe z' hz
            have := endW_inj hc2 hc2'
            exact xyz_ne hj hc' hc this.symm
          · rcases List.mem_append.mp hy with hy | hy
            · obtain ⟨h1, j, c', hj, h2⟩ := hfe y hy
              exact ⟨h1, j, c', by omega, h2⟩
            · rw [List.mem_singleton.mp hy]
              exact ⟨hin, i, c, by omega, hc, hc2⟩
        · walk_at "rd"
          refine ⟨(e3.trans e4).own hpn hp4, T4.own hpt hpl, (upd_ne hqp.symm).trans hq4, F ++ [z'], fs, _, _, rfl, ?_, nodup_snoc hnd hin, fun y hy => ?_, ?_, hfs, fun y hy => ?_⟩
          · rw [List.map_append]
            exact upd_same
          · rcases List.mem_append.mp hy with h | h
            · exact hlb y h
            · rw [List.mem_singleton.mp h]
              exact hz'
          · rw [List.length_append]
            show F.length + 1 + fs.length = i + 1
            omega
          · obtain ⟨h1, j, c', hj, h2⟩ := hfe y hy
            exact ⟨List.mem_append_left _ h1, j, c', by omega, h2⟩
    · obtain ⟨e3, T3, hq3, F, fs, a, b, rfl, hp3, hnd, hlb, hlen, hfs, hfe⟩ := h
      obtain ⟨x, y, z, r, hF, h1, h2, h3, h4, h5⟩ := labels_shape hnd hlb hlen hfs fun y hy => by
        obtain ⟨h1, j, c, _, _, h2⟩ := hfe y hy
        exact ⟨h1, c, h2⟩
      walk_at "rd"
      refine ⟨by show 4 ≤ sizeLine; decide, fun ka nk => ?_⟩
      have hkp : p ≠ ka := (Nw.of nk).lst hp3
      have e4 := e3.newR (o := .lst (ksL.map V.str)) nk
      have T4 := T3.upd (o := .lst (ksL.map V.str)) nk
      walk_at "rd"
      refine rd_cat (xs := F.map V.str) (ys := ksL.map V.str) ((upd_ne hkp).trans hp3) upd_same ?_ fun pa npa => ?_
      · rw [List.length_map, List.length_map]
        refine Nat.le_trans (show _ ≤ 100 by show F.length + 4 ≤ 100; have : F.length + fs.length = 4 := hlen; omega) (by decide)
      · refine q pa r x y z _ ((e3.trans (.new nk)).back ?_ (.of npa)) h1 h2 h3 h4 h5 ?_ (e4.newR npa) (T4.upd npa)
        · have := (T4.ne (.of npa)).1
          simpa using this
        · rw [← hF, List.map_append]
          exact upd_same
end

open PySem PySem.Spec PyProof.Rows L2

section
variable {T : List (Addr × Str)} {P : Program} {w : World} {K : PySem.W.Frag} {mg : Str → Option Value} {base : Heap}
theorem ok_law_lag (D : Def K mg "_law_lag" s_law_lag ["tape"]) (G_law_take : Ok P w K mg base 2 "_law_take" ["tape", "many"] (spTake T)) : Ok P w K mg base 3 "_law_lag" ["tape"] (spInt T 0 100) := by
  refine D.ok sc_law_lag (fun vs H Q E h => ?_) (fun cdv f A outer s H vs Q E hr h => ?_)
  · obtain ⟨l, t, rfl, _⟩ := h
    rfl
  · obtain ⟨l, t, rfl, hT, q⟩ := h
    refine ⟨_, (pss_one (ps_ret (pe_ix (ix_U K rfl) (pe_lst (pa_cons pe_int (pa_cons pe_int (pa_cons pe_int (pa_cons pe_int (pa_cons pe_int (pa_cons pe_int (pa_cons pe_int (pa_cons (pe_callO G_law_take (hr.mono (by decide)) (by rfl) (pa_cons (pv 0) (pa_cons pe_int pa_nil))) pa_nil))))))))) (pe_callO G_law_take (hr.mono (by decide)) (by rfl) (pa_cons (pv 0) (pa_cons pe_int pa_nil))) (fun _ _ => rfl)))), ?_⟩
    walk_at "rd"
    refine ⟨l, t, 101, rfl, by decide, by decide, hT, fun d H1 hd0 hd1 e1 T1 => ?_⟩
    walk_at "rd"
    refine ⟨by show 8 ≤ sizeLine; decide, fun p np => ?_⟩
    have hpt := T1.ne (.of np)
    walk_at "rd"
    refine ⟨l, t, 8, rfl, by decide, by decide, T1.upd np, fun i H2 h0 h1 e2 T2 => ?_⟩
    have hp := e2.lst (p := p) (by simpa using hpt.1) upd_same
    obtain ⟨c, hc1, hc2⟩ := at_inV (xs := [V.int 0, .int 1, .int 2, .int 3, .int 5, .int 9, .int 100, .int d]) h0 (by show i < 8; omega)
    have hm := List.mem_of_getElem? hc2
    have e3 := (e1.trans (.new np)).trans e2
    have fin : ∀ n : Int, c = .int n → 0 ≤ n → n ≤ 100 → rIx K (.ref p) (.int i) H2 Q := fun n e a b => by
      subst e
      exact rd_ixL (SqL.of hp) hc1 (q n H2 a b e3 T2)
    simp only [List.mem_cons, List.not_mem_nil, or_false] at hm
    rcases hm with h | h | h | h | h | h | h | h
    · exact fin _ h (by decide) (by decide)
    · exact fin _ h (by decide) (by decide)
    · exact fin _ h (by decide) (by decide)
    · exact fin _ h (by decide) (by decide)
    · exact fin _ h (by decide) (by decide)
    · exact fin _ h (by decide) (by decide)
    · exact fin _ h (by decide) (by decide)
    · exact fin _ h (by omega) (by omega)
theorem ok_law_life (D : Def K mg "_law_life" s_law_life ["tape"]) (G_law_take : Ok P w K mg base 2 "_law_take" ["tape", "many"] (spTake T)) : Ok P w K mg base 3 "_law_life" ["tape"] (spInt T 1 1000) := by
  refine D.ok sc_law_life (fun vs H Q E h => ?_) (fun cdv f A outer s H vs Q E hr h => ?_)
  · obtain ⟨l, t, rfl, _⟩ := h
    rfl
  · obtain ⟨l, t, rfl, hT, q⟩ := h
    refine ⟨_, (pss_one (ps_ret (pe_ix (ix_U K rfl) (pe_lst (pa_cons pe_int (pa_cons pe_int (pa_cons pe_int (pa_cons pe_int (pa_cons pe_int (pa_cons pe_int (pa_cons pe_int (pa_cons (pe_op (op_plus K rfl) pe_int (pe_callO G_law_take (hr.mono (by decide)) (by rfl) (pa_cons (pv 0) (pa_cons pe_int pa_nil)))) pa_nil))))))))) (pe_callO G_law_take (hr.mono (by decide)) (by rfl) (pa_cons (pv 0) (pa_cons pe_int pa_nil))) (fun _ _ => rfl)))), ?_⟩
    walk_at "rd"
    refine ⟨l, t, 1000, rfl, by decide, by decide, hT, fun d H1 hd0 hd1 e1 T1 => ?_⟩
    walk_at "rd"
    refine ⟨by show 8 ≤ sizeLine; decide, fun p np => ?_⟩
    have hpt := T1.ne (.of np)
    walk_at "rd"
    refine ⟨l, t, 8, rfl, by decide, by decide, T1.upd np, fun i H2 h0 h1 e2 T2 => ?_⟩
    have hp := e2.lst (p := p) (by simpa using hpt.1) upd_same
    obtain ⟨c, hc1, hc2⟩ := at_inV (xs := [V.int 1, .int 2, .int 3, .int 5, .int 8, .int 20, .int 1000, .int (1 + d)]) h0 (by show i < 8; omega)
    have hm := List.mem_of_getElem? hc2
    have e3 := (e1.trans (.new np)).trans e2
    have fin : ∀ n : Int, c = .int n → 1 ≤ n → n ≤ 1000 → rIx K (.ref p) (.int i) H2 Q := fun n e a b => by
      subst e
      exact rd_ixL (SqL.of hp) hc1 (q n H2 a b e3 T2)
    simp only [List.mem_cons, List.not_mem_nil, or_false] at hm
    rcases hm with h | h | h | h | h | h | h | h
    · exact fin _ h (by decide) (by decide)
    · exact fin _ h (by decide) (by decide)
    · exact fin _ h (by decide) (by decide)
    · exact fin _ h (by decide) (by decide)
    · exact fin _ h (by decide) (by decide)
    · exact fin _ h (by decide) (by decide)
    · exact fin _ h (by decide) (by decide)
    · exact fin _ h (by omega) (by omega)
theorem ok_law_zones (D : Def K mg "_law_zones" s_law_zones ["tape", "most"]) (mb : ∀ x ∈ bltns, mg x = none) (G_law_take : Ok P w K mg base 2 "_law_take" ["tape", "many"] (spTake T)) (G_law_labels : Ok P w K mg base 5 "_law_labels" ["tape"] (spLabels T)) (G_law_lag : Ok P w K mg base 3 "_law_lag" ["tape"] (spInt T 0 100)) : Ok P w K mg base 6 "_law_zones" ["tape", "most"] (spZones T) := by
  refine D.ok sc_law_zones (fun vs H Q E h => ?_) (fun cdv f A outer s H vs Q E hr h => ?_)
  · obtain ⟨l, t, m, rfl, _⟩ := h
    rfl
  · obtain ⟨l, t, m, rfl, hm0, hm5, hT, q⟩ := h
    refine ⟨_, (pss_cons (ps_asg (pe_slice (sl_U K rfl) (pe_callO G_law_labels (hr.mono (by decide)) (by rfl) (pa_cons (pv 0) pa_nil)) po_none (po_some pe_int)) (pg_tupU (n := 3) K rfl rfl (pgs_cons (pg_name (i := 2) sc_law_zones.nd rfl (.inl rfl)) (pgs_cons (pg_name (i := 3) sc_law_zones.nd rfl (.inl rfl)) (pgs_cons (pg_name (i := 4) sc_law_zones.nd rfl (.inl rfl)) pgs_nil)))))
   (pss_cons (ps_set (i := 5) sc_law_zones.nd rfl (.inl rfl) (pe_lst (pa_cons (pv 2) (pa_cons (pe_op (op_plus K rfl) (pe_op (op_plus K rfl) (pv 3) pe_str) (pv 2)) (pa_cons (pe_op (op_plus K rfl) (pe_op (op_plus K rfl) (pe_op (op_plus K rfl) (pe_op (op_plus K rfl) (pv 4) pe_str) (pv 3)) pe_str) (pv 2)) (pa_cons (pv 3) (pa_cons (pv 4) (pa_cons (pe_op (op_plus K rfl) (pe_op (op_plus K rfl) (pv 4) pe_str) (pv 2)) pa_nil))))))))
   (pss_cons (ps_set (i := 6) sc_law_zones.nd rfl (.inl rfl) (pe_lst pa_nil))
   (pss_cons (ps_for PassesOwn.never rfl (pi_range1 (by rfl) (mb _ (by decide)) (pa_cons pe_int pa_nil)) (pg_name (i := 7) sc_law_zones.nd rfl (.inl rfl)) (pss_one (ps_if (PW.pt (pw_and (pt_cmpR op_lt (pe_callB (call_lenU K rfl) (by rfl) (mb _ (by decide)) (by decide +kernel) (pa_cons (pv 6) pa_nil)) (pv 1) (nomark _)) (pw_and1 (pt_cmpR (op_eqU K rfl hr.units) (pe_callO G_law_take (hr.mono (by decide)) (by rfl) (pa_cons (pv 0) (pa_cons pe_int pa_nil))) pe_int (nomark _))))) (pss_one (ps_expr (pe_bm PySem.F.plainAttrs_list PySem.F.slot_list_append PySem.F.type_list_append mt_append (pv 6) (pa_cons (pe_ix (ix_U K rfl) (pv 5) (pv 7) (fun _ _ => rfl)) pa_nil)))) pss_nil)))
   (pss_one (ps_ret (pe_op (op_plus K rfl) (pe_lst (pa_cons (pe_tup (pa_cons pe_str (pa_cons (pe_callO G_law_lag (hr.mono (by decide)) (by rfl) (pa_cons (pv 0) pa_nil)) pa_nil))) pa_nil)) (pe_lc (own := [("name", 8)]) (g := gName 8) (tt := tYes) rfl sc_law_zones.nd (pi_seq K rfl (pe_callB (call_sortedU K rfl hr.units) (by rfl) (mb _ (by decide)) (by decide +kernel) (pa_cons (pv 6) pa_nil))) (blkOk_by (N := N_law_zones) (sc := defScope s_law_zones) (by decide +kernel)) (fun _ _ _ _ _ => (pg_name (i := 8) sc_law_zones.nd rfl (Or.inl rfl))) (fun _ _ _ _ _ => pts_nil) (fun _ _ _ _ _ => (pe_tup (pa_cons (pv 8) (pa_cons (pe_callO G_law_lag (hr.mono (by decide)) (by rfl) (pa_cons (pv 0) pa_nil)) pa_nil)))))))))))), ?_⟩
    refine rd_seq ?_
    walk_at "rdn"
    refine ⟨l, t, rfl, hT, fun lp r a b c H1 nlp h1 h2 h3 hlb hrl hlp e1 T1 => ?_⟩
    walk_at "rdn"
    refine rd_slL (SqL.of hlp) fun sp nsp => ?_
    have hcut : cutV ((a :: b :: c :: r).map V.str) none (some 3) = [V.str a, .str b, .str c] := by
      unfold cutV
      rw [show HT.sIx ((a :: b :: c :: r).map V.str).length 0 none = 0 from rfl]
      have e : HT.sIx ((a :: b :: c :: r).map V.str).length ((a :: b :: c :: r).map V.str).length (some 3) = 3 := by
        unfold HT.sIx
        simp only [List.length_map, List.length_cons]
        split <;> omega
      rw [e]
      rfl
    rw [hcut]
    have e2 := e1.newR (o := .lst [V.str a, .str b, .str c]) nsp
    have T2 := T1.upd (o := .lst [V.str a, .str b, .str c]) nsp
    have hsp : (upd H1 sp (.lst [V.str a, .str b, .str c])) sp = some (.lst [V.str a, .str b, .str c]) := upd_same
    show gTupU _ _ _ _ _ (upd H1 sp (.lst [V.str a, .str b, .str c])) _
    generalize upd H1 sp (.lst [V.str a, .str b, .str c]) = H2 at e2 T2 hsp ⊢
    refine rd_glst (SqL.of hsp) rfl ?_
    walk_at "rdn"
    have hl3 : ∀ y ∈ [a, b, c], labelB y = true := fun y hy => hlb y (by
      simp only [List.mem_cons, List.not_mem_nil, or_false] at hy ⊢
      rcases hy with h | h | h
      · exact .inl h
      · exact .inr (.inl h)
      · exact .inr (.inr (.inl h)))
    have la := label_len (hl3 a (by simp))
    have lb := label_len (hl3 b (by simp))
    have lc := label_len (hl3 c (by simp))
    have hpz := pool_zone hl3
    have hpn := pool_nodup hl3 h1 h2 h3
    refine rd_seq ?_
    walk_at "rdn"
    refine ⟨by show 6 ≤ sizeLine; decide, fun pp npp => ?_⟩
    show gName 5 (.ref pp) _ (upd H2 pp (.lst ((poolL a b c).map V.str))) _
    have e3 := e2.newR (o := .lst ((poolL a b c).map V.str)) npp
    have T3 := T2.upd (o := .lst ((poolL a b c).map V.str)) npp
    obtain ⟨hpt, hpl⟩ := T2.ne (.of npp)
    have hpp : (upd H2 pp (.lst ((poolL a b c).map V.str))) pp = some (.lst ((poolL a b c).map V.str)) := upd_same
    generalize upd H2 pp (.lst ((poolL a b c).map V.str)) = H3 at e3 T3 hpp ⊢
    walk_at "rdn"
    refine rd_seq ?_
    walk_at "rdn"
    refine ⟨by show 0 ≤ sizeLine; decide, fun np nnp => ?_⟩
    obtain ⟨hnt, hnl⟩ := T3.ne (.of nnp)
    have hnpp : pp ≠ np := (Nw.of nnp).lst hpp
    have e4 := e3.newR (o := .lst []) nnp
    have hnw : Nw H np := e3.back (by simpa using hnt) (.of nnp)
    have T4 := T3.upd (o := .lst []) nnp
    have hpp4 := (upd_ne (o := .lst []) hnpp).trans hpp
    have hn4 : (upd H3 np (.lst [])) np = some (.lst (([] : List Str).map V.str)) := upd_same
    generalize upd H3 np (.lst []) = H4 at e4 T4 hpp4 hn4 ⊢
    walk_at "rdn"
    refine rd_cut (fun σ H5 => Ext T [t] H H5 ∧ Tape l H5 t ∧ ∃ (ns : List Str) (y : Option V), σ = [some (.ref t), some (.int m), some (.str a), some (.str b), some (.str c), some (.ref pp), some (.ref np), y, none] ∧ H5 np = some (.lst (ns.map V.str)) ∧ (ns.length : Int) ≤ m ∧ ns.Sublist (poolL a b c)) (fun nx' hnx => ?_) (fun σ H5 h => ?_)
    · walk_at "rd"
      refine ⟨by decide, by decide, ?_⟩
      refine forg_range (fun i σ H5 => Ext T [t] H H5 ∧ Tape l H5 t ∧ H5 pp = some (.lst ((poolL a b c).map V.str)) ∧ ∃ (ns : List Str) (y : Option V), σ = [some (.ref t), some (.int m), some (.str a), some (.str b), some (.str c), some (.ref pp), some (.ref np), y, none] ∧ H5 np = some (.lst (ns.map V.str)) ∧ (ns.length : Int) ≤ m ∧ ns.Sublist ((poolL a b c).take i))
        ⟨e4, T4, hpp4, [], none, rfl, hn4, hm0, by simp⟩ (fun i σ H5 hi h => ?_) (fun σ H5 h => ?_)
      · obtain ⟨e5, T5, hpp5, ns, y, rfl, hn5, hml, hsub⟩ := h
        have hi6 : i < 6 := hi
        obtain ⟨z, hz⟩ : ∃ z, (poolL a b c)[i]? = some z := ⟨_, List.getElem?_eq_getElem (show i < 6 from hi6)⟩
        have htk : (poolL a b c).take (i + 1) = (poolL a b c).take i ++ [z] := by rw [List.take_add_one, hz]; rfl
        have hns6 : ns.length ≤ 6 := Nat.le_trans hsub.length_le (by rw [List.length_take]; exact Nat.min_le_right _ _)
        walk_at "rd"
        refine rd_ite (fun hlt => ?_) (fun hlt => ?_)
        · walk_at "rd"
          refine ⟨l, t, 2, rfl, by decide, by decide, T5, fun d H6 h0 h1' e6 T6 => ?_⟩
          have hpp6 := e6.lst (by simpa using hpt) hpp5
          have hn6 := e6.lst (by simpa using hnt) hn5
          walk_at "rd"
          refine rd_ite (fun hd => ?_) (fun hd => ?_)
          · walk_at "rd"
            refine rd_ixL (v := .str z) (SqL.of hpp6) (by
              rw [Int.zero_add]
              exact atI_nat (by rw [List.getElem?_map, hz]; rfl)) ?_
            walk_at "rd"
            refine ⟨(e5.trans e6).own hnw hn6, T6.own hnt hnl, (upd_ne hnpp).trans hpp6, ns ++ [z], _, rfl, ?_, ?_, ?_⟩
            · rw [List.map_append]
              exact upd_same
            · rw [List.length_append]
              rw [List.length_map] at hlt
              show ((ns.length + 1 : Nat) : Int) ≤ m
              omega
            · rw [htk]
              exact hsub.append (List.Sublist.refl _)
          · walk_at "rd"
            exact ⟨e5.trans e6, T6, hpp6, ns, _, rfl, hn6, hml, by rw [htk]; exact hsub.trans (List.sublist_append_left _ _)⟩
        · walk_at "rd"
          exact ⟨e5, T5, hpp5, ns, _, rfl, hn5, hml, by rw [htk]; exact hsub.trans (List.sublist_append_left _ _)⟩
      · obtain ⟨e5, T5, hpp5, ns, y, rfl, hn5, hml, hsub⟩ := h
        exact hnx _ _ ⟨e5, T5, ns, y, rfl, hn5, hml, hsub.trans (List.take_sublist _ _)⟩
    · obtain ⟨e5, T5, ns, y, rfl, hn5, hml, hsub⟩ := h
      clear hT e1 T1 e2 T2 e3 T3 e4 T4 hpp4 hn4 hpp hsp hlp
      have hnz : ∀ z ∈ ns, zoneB z := fun z hz => hpz z (hsub.subset hz)
      have hnn : ns.Nodup := hpn.sublist hsub
      walk_at "rd"
      refine ⟨l, t, rfl, T5, fun lag H6 hl0 hl1 e6 T6 => ?_⟩
      walk_at "rd"
      refine ⟨by show 2 ≤ sizeLine; decide, fun ta nta => ?_⟩
      walk_at "rd"
      refine ⟨by show 1 ≤ sizeLine; decide, fun la nla => ?_⟩
      have e7 : Ext T [t] H (upd (upd H6 ta (.tup [V.str (Str.ofString "."), .int lag])) la (.lst [.ref ta])) := ((e5.trans e6).newR nta).newR nla
      have T7 : Tape l (upd (upd H6 ta (.tup [V.str (Str.ofString "."), .int lag])) la (.lst [.ref ta])) t := (T6.upd nta).upd nla
      have hta : ta ≠ la := fun e => by
        rw [← e, upd_same] at nla
        cases nla
      have hla7 : Ls (upd (upd H6 ta (.tup [V.str (Str.ofString "."), .int lag])) la (.lst [.ref ta])) la [siD (dotS, lag)] :=
        ⟨_, upd_same, .cons (.new2 (.str _ (name_ok dot_name)) (.int _) ((upd_ne hta).trans upd_same)) .nil⟩
      have hn7 : (upd (upd H6 ta (.tup [V.str (Str.ofString "."), .int lag])) la (.lst [.ref ta])) np = some (.lst (ns.map V.str)) := by
        have hn6 := e6.lst (by simpa using hnt) hn5
        have a1 : np ≠ ta := (Nw.of nta).lst hn6
        have a2 := (upd_ne (o := .tup [V.str (Str.ofString "."), .int lag]) a1).trans hn6
        exact (upd_ne ((Nw.of nla).lst a2)).trans a2
      have hlt7 : la ≠ t ∧ la ≠ l := (T6.upd nta).ne (.of nla)
      generalize upd (upd H6 ta (.tup [V.str (Str.ofString "."), .int lag])) la (.lst [.ref ta]) = H7 at e7 T7 hla7 hn7 ⊢
      clear nla nta
      walk_at "rd"
      refine rd_sortI (ds := ns.map .str) ⟨_, hn7, ImAll.strs fun z hz => name_ok (zone_name (hnz z hz))⟩ (alike_s ns) (sortable_s ns) (depth_s ns) fun sa ys nsa hys => ?_
      rw [srtS_eq] at hys
      have hys := hys.strs'
      subst hys
      obtain ⟨hst, hsl⟩ := T7.ne (.of nsa)
      have hsla : la ≠ sa := by
        obtain ⟨_, h, _⟩ := hla7
        exact (Nw.of nsa).lst h
      have e8 := e7.newR (o := .lst ((srtS ns).map V.str)) nsa
      have T8 := T7.upd (o := .lst ((srtS ns).map V.str)) nsa
      have hla8 := hla7.ext (T := T) (ms := []) (Ext.new (o := .lst ((srtS ns).map V.str)) nsa) (by simp) Lsts.nil
      have hs8 : (upd H7 sa (.lst ((srtS ns).map V.str))) sa = some (.lst ((srtS ns).map V.str)) := upd_same
      refine ⟨sa, rfl, .inl ⟨⟨_, SqL.of hs8⟩, ?_⟩⟩
      show LcG _ _ _ _ _ _ (upd H7 sa (.lst ((srtS ns).map V.str))) _
      generalize upd H7 sa (.lst ((srtS ns).map V.str)) = H8 at e8 T8 hla8 hs8 ⊢
      clear e7 T7 hla7 hn7 nsa
      have hsz : ((srtS ns).map V.str).length < sizeLine := by
        rw [List.length_map, (srtS_perm ns).length_eq]
        exact Nat.lt_of_le_of_lt (show _ ≤ 5 by omega) (by decide)
      refine lcg_im T [t] walk_list ((srtS ns).map V.str) rfl (fun i H x H' y => y) (fun H' => Tape l H' t) T8 (fun D o h => T8.upd h) (fun D H' nD T' ys u h => T'.own (T8.ne nD).1 (T8.ne nD).2) (fun H' T' => T'.lsts) (fun H' e _ => e.seqL (by simpa using hst) (SqL.of hs8)) hsz (fun _ => true) ZRel (fun i x hx H' e' T' R S h1 h2 => ?_) (fun D H9 ds nD e9 T9 hD hds => ?_)
      · rw [List.getElem?_map] at hx
        obtain ⟨z, hz, rfl⟩ := Option.map_eq_some_iff.mp hx
        refine rd_name ⟨wipe1, ?_⟩
        walk_at "rd"
        refine ⟨l, t, rfl, T', fun n H9 hn0 hn1 e9 T9 => ?_⟩
        walk_at "rd"
        refine ⟨by show 2 ≤ sizeLine; decide, fun tz ntz => ?_⟩
        have hzo := name_ok (zone_name (hnz z ((srtS_perm ns).mem_iff.mp (List.mem_of_getElem? hz))))
        exact h1 rfl _ (siD (z, n)) _ (e9.newR ntz) (T9.upd ntz) (.new2 (.str _ hzo) (.int _) upd_same) ⟨z, n, rfl, rfl, hn0, hn1⟩
      · rw [filtT] at hds
        obtain ⟨rest, rfl, hr1, hr2⟩ := zrel_all hds
        have hla9 := hla8.ext e9 (by simpa using hlt7.1) T8.lsts
        obtain ⟨x1, a1, a2⟩ := hla9
        obtain ⟨x2, b1, b2⟩ := hD
        have hx1 : x1.length = 1 := a2.len
        have hx2 : x2.length ≤ 5 := by
          rw [b2.len, List.length_map]
          have := congrArg List.length hr1
          rw [List.length_map, (srtS_perm ns).length_eq] at this
          omega
        refine rd_cat a1 b1 (Nat.le_trans (show _ ≤ 100 by omega) (by decide)) fun pa npa => ?_
        have e10 := e8.trans e9
        refine q pa lag rest ns _ (e10.back (by simpa using (T9.ne (.of npa)).1) (.of npa)) hr1 hnn hml hnz (fun r hr => ?_) ⟨x1 ++ x2, upd_same, ?_⟩ (e10.newR npa) (T9.upd npa)
        · rcases List.mem_cons.mp hr with e | hr
          · rw [e]
            exact ⟨hl0, hl1⟩
          · exact hr2 r hr
        · exact ImAll.ext (T := T) (ms := []) (.new npa) Lsts.nil _ _ (a2.app b2)
end

open PySem PySem.Spec PyProof.Rows L2
/-! ### a realm drawn -/
structure RmOk (R : Rm) (m : Int) : Prop where
  zs : ∃ (lag : Int) (rest : List (Str × Int)) (ns : List Str), R.zs = (dotS, lag) :: rest ∧ rest.map (·.1) = srtS ns ∧ ns.Nodup ∧ (ns.length : Int) ≤ m ∧ ∀ z ∈ ns, zoneB z
  lags : ∀ r ∈ R.zs, 0 ≤ r.2 ∧ r.2 ≤ 100
  ss : ∃ l, R.ss.Sublist (srtSS l)
  ssn : R.ss.Nodup
  ssok : ∀ p ∈ R.ss, nameB p.1 = true ∧ idB p.2 = true
  used : ∀ z ∈ R.zs, ∃ p ∈ R.ss, endsB p.1 z.1 = true
  slen : (R.ss.length : Int) ≤ m + 2
  an : ∃ ys, R.an = srtS ys ∧ ys.Nodup ∧ (∀ y ∈ ys, idB y = true) ∧ 1 ≤ ys.length ∧ ys.length ≤ 3
section
variable (T : List (Addr × Str))
def spRealm : Sp := fun vs H Q _ => ∃ (l t : Addr) (m : Int), vs = [.ref t, .int m] ∧ 0 ≤ m ∧ m ≤ 5 ∧ Tape l H t ∧ ∀ (v : V) (R : Rm) (H' : Hp), RmOk R m → Im H' v (rmD R) → Ext T [t] H H' → Tape l H' t → Q v H'
end
theorem rd_appLs {H : Hp} {Q : VK} {p : Addr} {ds : List PyData} {v : V} {d : PyData} (h : Ls H p ds) (hv : Im H v d) (c : ds.length < sizeLine) (q : ∀ xs, H p = some (.lst xs) → Ls (upd H p (.lst (xs ++ [v]))) p (ds ++ [d]) → Q .non (upd H p (.lst (xs ++ [v])))) : rAppend (.ref p) [v] H Q := by
  obtain ⟨xs, h1, h2⟩ := h
  refine rd_app h1 (by rw [h2.len]; exact c) (q xs h1 ⟨_, upd_same, ?_⟩)
  have e : Ext [] [p] H (upd H p (.lst (xs ++ [v]))) := Ext.mut (by simp) h1
  have hl : Lsts H [p] := fun b hb => ⟨xs, by rw [List.mem_singleton.mp hb]; exact h1⟩
  exact (ImAll.ext e hl _ _ h2).snoc (Im.ext e hl _ _ hv)
theorem Ls.list {H : Hp} {p : Addr} {ds : List PyData} (h : Ls H p ds) : ∃ xs, H p = some (.lst xs) ∧ ImAll H xs ds := h
theorem lsts_one {H : Hp} {p : Addr} {xs : List V} (h : H p = some (.lst xs)) : Lsts H [p] := fun b hb => ⟨xs, by rw [List.mem_singleton.mp hb]; exact h⟩
theorem Ls.new {H : Hp} {p q : Addr} {o : HO} {ds : List PyData} (h : Ls H p ds) (hq : H q = none) : Ls (upd H q o) p ds := h.ext (T := []) (ms := []) (.new hq) (by simp) Lsts.nil
theorem Im.new {H : Hp} {q : Addr} {o : HO} {v : V} {d : PyData} (h : Im H v d) (hq : H q = none) : Im (upd H q o) v d := Im.ext (T := []) (ms := []) (.new hq) Lsts.nil _ _ h
theorem ImAll.new {H : Hp} {q : Addr} {o : HO} {vs : List V} {ds : List PyData} (h : ImAll H vs ds) (hq : H q = none) : ImAll (upd H q o) vs ds := ImAll.ext (T := []) (ms := []) (.new hq) Lsts.nil _ _ h
theorem Ls.ne {H : Hp} {p q : Addr} {ds : List PyData} (h : Ls H p ds) (hq : H q = none) : p ≠ q := by
  obtain ⟨xs, h1, _⟩ := h
  exact (Nw.of hq).lst h1
theorem ends_self (n : Str) : endsB n n = true := by
  unfold endsB
  rw [decide_eq_true (show n = n from rfl)]
  simp
theorem ends_dot (n : Str) : endsB n dotS = true := by
  unfold endsB
  rw [decide_eq_true (show dotS = dotS from rfl)]
  rfl
theorem ends_app (a z : Str) : endsB (a ++ (dotS ++ z)) z = true := by
  unfold endsB
  rw [(endswith_iff _ _).mpr ⟨sg a, (sg_app a (dotS ++ z)).symm⟩]
  simp
theorem mem_ssD {r : Str × Str} {l : List (Str × Str)} : ssD r ∈ l.map ssD ↔ r ∈ l := by
  constructor
  · intro h
    obtain ⟨x, hx, e⟩ := List.mem_map.mp h
    rw [← ssD_inj e]
    exact hx
  · exact fun h => List.mem_map_of_mem h
theorem mem_slD {r : Sl} {l : List Sl} : slD r ∈ l.map slD ↔ r ∈ l := by
  constructor
  · intro h
    obtain ⟨x, hx, e⟩ := List.mem_map.mp h
    rw [← slD_inj e]
    exact hx
  · exact fun h => List.mem_map_of_mem h
open PySem PySem.Spec PyProof.Rows L2
theorem rd_ixLs {K : PySem.W.Frag} {H : Hp} {Q : VK} {p : Addr} {ds : List PyData} {i : Int} {d : PyData} (h : Ls H p ds) (a : atI ds i = some d) (q : ∀ u, Im H u d → Q u H) : rIx K (.ref p) (.int i) H Q := by
  obtain ⟨xs, h1, h2⟩ := h
  have key : ∃ u, atI xs i = some u ∧ Im H u d := by
    unfold atI at a ⊢
    cases e : ixN ds.length i with
    | none =>
      rw [e] at a
      cases a
    | some k =>
      rw [e] at a
      obtain ⟨u, e1, e2⟩ := h2.get (i := k) (by simpa using a)
      exact ⟨u, by rw [h2.len, e]; simpa using e1, e2⟩
  obtain ⟨u, h3, h4⟩ := key
  exact rd_ixL (SqL.of h1) h3 (q u h4)
theorem rd_ixSs {K : PySem.W.Frag} {H : Hp} {Q : VK} {v : V} {ds : List PyData} {i : Int} {z : Str} (h : Im H v (.tuple ds)) (a : atI ds i = some (.str z)) (q : Q (.str z) H) : rIx K v (.int i) H Q := rd_ixI h a fun u hu => by
  rw [hu.str']
  exact q
theorem last_map {α β : Type} {f : α → β} {l : List α} {x : α} (h : l.getLast? = some x) : atI (l.map f) (-1) = some (f x) := at_last (by rw [List.getLast?_map, h]; rfl)
theorem last_some {α : Type} {l : List α} (h : l ≠ []) : ∃ x, l.getLast? = some x ∧ x ∈ l := ⟨l.getLast h, List.getLast?_eq_some_getLast h, List.getLast_mem h⟩

open PySem PySem.Spec PyProof.Rows L2

section
variable {T : List (Addr × Str)} {P : Program} {w : World} {K : PySem.W.Frag} {mg : Str → Option Value} {base : Heap}
theorem ok_law_realm (D : Def K mg "_law_realm" s_law_realm ["tape", "most"]) (mb : ∀ x ∈ bltns, mg x = none) (G_law_take : Ok P w K mg base 2 "_law_take" ["tape", "many"] (spTake T)) (G_law_zones : Ok P w K mg base 6 "_law_zones" ["tape", "most"] (spZones T))
    (G_law_label : Ok P w K mg base 4 "_law_label" ["tape"] (spLabel T)) (G_law_id : Ok P w K mg base 3 "_law_id" ["tape"] (spId T)) (G_law_ids : Ok P w K mg base 4 "_law_ids" ["tape", "many"] (spIds T)) : Ok P w K mg base 7 "_law_realm" ["tape", "most"] (spRealm T) := by
  refine D.ok sc_law_realm (fun vs H Q E h => ?_) (fun cdv f A outer s H vs Q E hr h => ?_)
  · obtain ⟨l, t, m, rfl, _⟩ := h
    rfl
  · obtain ⟨l, t, m, rfl, hm0, hm5, hT, q⟩ := h
    refine ⟨_, (pss_cons (ps_set (i := 2) sc_law_realm.nd rfl (.inl rfl) (pe_callO G_law_zones (hr.mono (by decide)) (by rfl) (pa_cons (pv 0) (pa_cons (pv 1) pa_nil))))
   (pss_cons (ps_set (i := 3) sc_law_realm.nd rfl (.inl rfl) (pe_lst pa_nil))
   (pss_cons (ps_for PassesOwn.never rfl (pi_seq K rfl (pv 2)) (pg_tupU (n := 2) K rfl rfl (pgs_cons (pg_name (i := 4) sc_law_realm.nd rfl (.inl rfl)) (pgs_cons (pg_name (i := 5) sc_law_realm.nd rfl (.inl rfl)) pgs_nil))) (pss_cons (ps_set (i := 6) sc_law_realm.nd rfl (.inl rfl) (pv 4))
   (pss_cons (ps_if (pt_cmpR (op_eqU K rfl hr.units) (pe_callO G_law_take (hr.mono (by decide)) (by rfl) (pa_cons (pv 0) (pa_cons pe_int pa_nil))) pe_int (nomark _)) (pss_one (ps_set (i := 6) sc_law_realm.nd rfl (.inl rfl) (pe_op (op_plus K rfl) (pe_callO G_law_label (hr.mono (by decide)) (by rfl) (pa_cons (pv 0) pa_nil)) (pe_ifExp (pt_cmpR (op_eqU K rfl hr.units) (pv 4) pe_str (nomark _)) pe_str (pe_op (op_plus K rfl) pe_str (pv 4)))))) pss_nil)
   (pss_one (ps_expr (pe_bm PySem.F.plainAttrs_list PySem.F.slot_list_append PySem.F.type_list_append mt_append (pv 3) (pa_cons (pe_tup (pa_cons (pv 6) (pa_cons (pe_callO G_law_id (hr.mono (by decide)) (by rfl) (pa_cons (pv 0) pa_nil)) pa_nil))) pa_nil)))))))
   (pss_cons (ps_if (pt_cmpR (op_eqU K rfl hr.units) (pe_callO G_law_take (hr.mono (by decide)) (by rfl) (pa_cons (pv 0) (pa_cons pe_int pa_nil))) pe_int (nomark _)) (pss_one (ps_expr (pe_bm PySem.F.plainAttrs_list PySem.F.slot_list_append PySem.F.type_list_append mt_append (pv 3) (pa_cons (pe_tup (pa_cons (pe_ix (ix_U K rfl) (pe_ix (ix_U K rfl) (pv 2) (pe_un un_neg pe_int) (fun _ _ => rfl)) pe_int (fun _ _ => rfl)) (pa_cons (pe_callO G_law_id (hr.mono (by decide)) (by rfl) (pa_cons (pv 0) pa_nil)) pa_nil))) pa_nil)))) pss_nil)
   (pss_cons (ps_set (i := 7) sc_law_realm.nd rfl (.inl rfl) (pe_lst pa_nil))
   (pss_cons (ps_for PassesOwn.never rfl (pi_seq K rfl (pe_callB (call_sortedU K rfl hr.units) (by rfl) (mb _ (by decide)) (by decide +kernel) (pa_cons (pv 3) pa_nil))) (pg_name (i := 8) sc_law_realm.nd rfl (.inl rfl)) (pss_one (ps_if (pt_cmpR (op_ninW K rfl (Room.units65 hr)) (pv 8) (pv 7) rfl) (pss_one (ps_expr (pe_bm PySem.F.plainAttrs_list PySem.F.slot_list_append PySem.F.type_list_append mt_append (pv 7) (pa_cons (pv 8) pa_nil)))) pss_nil)))
   (pss_cons (ps_set (i := 9) sc_law_realm.nd rfl (.inl rfl) (pe_callTy (call_tupU K rfl) (by rfl) (mb _ (by decide)) (by decide +kernel) (pa_cons (pe_callB (call_sortedU K rfl hr.units) (by rfl) (mb _ (by decide)) (by decide +kernel) (pa_cons (pe_callO G_law_ids (hr.mono (by decide)) (by rfl) (pa_cons (pv 0) (pa_cons (pe_op (op_plus K rfl) pe_int (pe_callO G_law_take (hr.mono (by decide)) (by rfl) (pa_cons (pv 0) (pa_cons pe_int pa_nil)))) pa_nil))) pa_nil)) pa_nil)))
   (pss_one (ps_ret (pe_tup (pa_cons (pe_callTy (call_tupU K rfl) (by rfl) (mb _ (by decide)) (by decide +kernel) (pa_cons (pv 2) pa_nil)) (pa_cons (pv 9) (pa_cons (pe_callTy (call_tupU K rfl) (by rfl) (mb _ (by decide)) (by decide +kernel) (pa_cons (pv 7) pa_nil)) pa_nil))))))))))))), ?_⟩
    refine rd_seq ?_
    walk_at "rdn"
    refine ⟨l, t, m, rfl, hm0, hm5, hT, fun zp lag rest ns H1 nzp hr1 hnn hnm hnz hlag hzp e1 T1 => ?_⟩
    obtain ⟨zs, hzs⟩ : ∃ zs, zs = (dotS, lag) :: rest := ⟨_, rfl⟩
    rw [← hzs] at hzp hlag
    have hzpt : zp ≠ t := (hT.ne nzp).1
    have hzlen : zs.length ≤ 6 := by
      have := congrArg List.length hr1
      rw [List.length_map, (srtS_perm ns).length_eq] at this
      rw [hzs, List.length_cons]
      omega
    have hzn : ∀ r ∈ zs, r.1 = dotS ∨ zoneB r.1 := fun r hr => by
      rw [hzs] at hr
      rcases List.mem_cons.mp hr with e | hr
      · exact .inl (by rw [e])
      · exact .inr (hnz _ ((srtS_perm ns).mem_iff.mp (by rw [← hr1]; exact List.mem_map_of_mem hr)))
    walk_at "rdn"
    refine rd_seq ?_
    walk_at "rdn"
    refine ⟨by show 0 ≤ sizeLine; decide, fun sp nsp => ?_⟩
    have hspn : Nw H sp := e1.back (by simpa using (T1.ne (.of nsp)).1) (.of nsp)
    obtain ⟨hspt, hspl⟩ := T1.ne (.of nsp)
    have hzsp := hzp.ne nsp
    have e2 := e1.newR (o := .lst []) nsp
    have T2 := T1.upd (o := .lst []) nsp
    have hz2 := hzp.new (o := .lst []) nsp
    have hs2 : Ls (upd H1 sp (.lst [])) sp (([] : List (Str × Str)).map ssD) := ⟨[], upd_same, .nil⟩
    generalize upd H1 sp (.lst []) = H2 at e2 T2 hz2 hs2 ⊢
    clear nsp hzp
    walk_at "rdn"
    -- the sets, zone by zone
    refine rd_cut (fun σ H3 => Ext T [t] H H3 ∧ Tape l H3 t ∧ Ls H3 zp (zs.map siD) ∧ ∃ (ss : List (Str × Str)) (a b c : Option V), σ = [some (.ref t), some (.int m), some (.ref zp), some (.ref sp), a, b, c, none, none, none] ∧ Ls H3 sp (ss.map ssD) ∧ ss.length = zs.length ∧ (∀ p ∈ ss, nameB p.1 = true ∧ idB p.2 = true) ∧ ∀ z ∈ zs, ∃ p ∈ ss, endsB p.1 z.1 = true) (fun nx' hnx => ?_) (fun σ H3 h => ?_)
    · walk_at "rd"
      obtain ⟨xs, hx1, hx2⟩ := hz2.list
      refine .inl ⟨⟨_, SqL.of hx1⟩, ?_⟩
      refine forg_list (xs := xs) (fun i σ H3 => Ext T [t] H H3 ∧ Tape l H3 t ∧ H3 zp = some (.lst xs) ∧ ImAll H3 xs (zs.map siD) ∧ ∃ (ss : List (Str × Str)) (a b c : Option V), σ = [some (.ref t), some (.int m), some (.ref zp), some (.ref sp), a, b, c, none, none, none] ∧ Ls H3 sp (ss.map ssD) ∧ ss.length = i ∧ (∀ p ∈ ss, nameB p.1 = true ∧ idB p.2 = true) ∧ ∀ z ∈ zs.take i, ∃ p ∈ ss, endsB p.1 z.1 = true)
        ⟨e2, T2, hx1, hx2, [], none, none, none, rfl, hs2, rfl, by simp, by simp⟩ (fun i σ H3 _ h => SqL.of h.2.2.1) (fun i x σ H3 hx h => ?_) (fun σ H3 h => ?_)
      · obtain ⟨e3, T3, hz3, hi3, ss, a, b, c, rfl, hs3, hsl, hso, hsu⟩ := h
        obtain ⟨dz, hdz, hxz⟩ := hi3.get' hx
        rw [List.getElem?_map] at hdz
        obtain ⟨z, hz, rfl⟩ := Option.map_eq_some_iff.mp hdz
        have hzm := List.mem_of_getElem? hz
        have hzz := hzn z hzm
        have hznm : nameB z.1 = true := hzz.elim (fun e => by rw [e]; exact dot_name) zone_name
        refine rd_gpair (d1 := .str z.1) (d2 := .int z.2) hxz fun v1 v2 h1 h2 => ?_
        rw [h1.str', h2.int']
        refine rd_seq ?_
        walk_at "rdn"
        -- the name
        refine rd_cut (fun σ H4 => Ext T [t] H3 H4 ∧ Tape l H4 t ∧ ∃ n : Str, σ = [some (.ref t), some (.int m), some (.ref zp), some (.ref sp), some (.str z.1), some (.int z.2), some (.str n), none, none, none] ∧ nameB n = true ∧ endsB n z.1 = true) (fun nx2 hnx2 => ?_) (fun σ H4 h => ?_)
        · walk_at "rd"
          refine ⟨l, t, 2, rfl, by decide, by decide, T3, fun d H4 h0 h1 e4 T4 => ?_⟩
          walk_at "rd"
          refine rd_ite (fun hd => ?_) (fun hd => ?_)
          · walk_at "rd"
            refine ⟨l, t, rfl, T4, fun la H5 hla e5 T5 => ?_⟩
            have hla8 := label_len hla
            have hzl := name_len hznm
            walk_at "rd"
            refine rd_ite (fun hdot => ?_) (fun hdot => ?_)
            · walk_at "rd"
              refine rd_plusS ?_ ?_
              · rw [show (Str.ofString "").length = 0 by decide +kernel]
                exact Nat.le_trans (show _ ≤ 100 by omega) (by decide)
              walk_at "rd"
              have e0 : la ++ Str.ofString "" = la := sg_inj (by rw [sg_app, show sg (Str.ofString "") = [] by decide +kernel, List.append_nil])
              rw [e0]
              exact hnx2 _ _ ⟨e4.trans e5, T5, la, rfl, label_name hla, by rw [show z.1 = dotS from hdot]; exact ends_dot la⟩
            · walk_at "rd"
              exact hnx2 _ _ ⟨e4.trans e5, T5, la ++ (dotS ++ z.1), rfl, name_cons hla (hzz.resolve_left hdot), ends_app la z.1⟩
          · walk_at "rd"
            exact hnx2 _ _ ⟨e4, T4, z.1, rfl, hznm, ends_self z.1⟩
        · obtain ⟨e4, T4, n, rfl, hn, hne⟩ := h
          have hs4 := hs3.ext e4 (by simpa using hspt) T3.lsts
          have hz4 := e4.lst (by simpa using hzpt) hz3
          have hi4 := ImAll.ext e4 T3.lsts _ _ hi3
          have e34 := e3.trans e4
          clear e3 T3 hs3 hz3 hi3 hxz e4
          obtain ⟨sx, hsx, _⟩ := hs4.list
          walk_at "rd"
          refine ⟨l, t, rfl, T4, fun k H5 hk e5 T5 => ?_⟩
          have hs5 := hs4.ext e5 (by simpa using hspt) T4.lsts
          have hz5 := e5.lst (by simpa using hzpt) hz4
          have hi5 := ImAll.ext e5 T4.lsts _ _ hi4
          walk_at "rd"
          refine ⟨by show 2 ≤ sizeLine; decide, fun ta nta => ?_⟩
          refine rd_nil ?_
          have e6 := (e34.trans e5).newR (o := .tup [V.str n, .str k]) nta
          have T6 := T5.upd (o := .tup [V.str n, .str k]) nta
          have hs6 := hs5.new (o := .tup [V.str n, .str k]) nta
          have hz6 := (upd_ne (o := .tup [V.str n, .str k]) ((Nw.of nta).lst hz5)).trans hz5
          have hi6 := hi5.new (o := .tup [V.str n, .str k]) nta
          have ht6 : Im (upd H5 ta (.tup [V.str n, .str k])) (.ref ta) (ssD (n, k)) := .new2 (.str _ (name_ok hn)) (.str _ (id_ok hk)) upd_same
          generalize upd H5 ta (.tup [V.str n, .str k]) = H6 at e6 T6 hs6 hz6 hi6 ht6 ⊢
          refine rd_appLs hs6 ht6 ?_ fun ys hy hs7 => ?_
          · rw [List.length_map, hsl]
            refine Nat.lt_of_le_of_lt (show i ≤ 100 from ?_) (by decide)
            have := (List.getElem?_eq_some_iff.mp hx).1
            have := hi6.len
            rw [List.length_map] at this
            omega
          · have e7 : Ext T [sp] H6 (upd H6 sp (.lst (ys ++ [.ref ta]))) := Ext.mut (by simp) hy
            refine ⟨e6.own hspn hy, T6.own hspt hspl, (upd_ne hzsp).trans hz6, ImAll.ext e7 (lsts_one hy) _ _ hi6, ss ++ [(n, k)], _, _, _, rfl, ?_, ?_, fun p hp => ?_, fun z' hz' => ?_⟩
            · rw [List.map_append]
              exact hs7
            · rw [List.length_append, hsl]
              rfl
            · rcases List.mem_append.mp hp with h | h
              · exact hso p h
              · rw [List.mem_singleton.mp h]
                exact ⟨hn, hk⟩
            · rw [List.take_add_one, hz] at hz'
              rcases List.mem_append.mp hz' with h | h
              · obtain ⟨p, hp, h2⟩ := hsu z' h
                exact ⟨p, List.mem_append_left _ hp, h2⟩
              · rw [List.mem_singleton.mp (show z' ∈ [z] from h)]
                exact ⟨(n, k), by simp, hne⟩
      · obtain ⟨e3, T3, hz3, hi3, ss, a, b, c, rfl, hs3, hsl, hso, hsu⟩ := h
        have hlx : xs.length = zs.length := by rw [hx2.len, List.length_map]
        rw [hlx] at hsl hsu
        rw [List.take_length] at hsu
        exact hnx _ _ ⟨e3, T3, ⟨xs, hz3, hi3⟩, ss, a, b, c, rfl, hs3, hsl, hso, hsu⟩
    · obtain ⟨e3, T3, hz3, ss, a, b, c, rfl, hs3, hsl, hso, hsu⟩ := h
      clear e1 T1 e2 T2 hz2 hs2
      -- one set more
      refine rd_cut (fun σ H4 => Ext T [t] H H4 ∧ Tape l H4 t ∧ Ls H4 zp (zs.map siD) ∧ ∃ (ss : List (Str × Str)), σ = [some (.ref t), some (.int m), some (.ref zp), some (.ref sp), a, b, c, none, none, none] ∧ Ls H4 sp (ss.map ssD) ∧ ss.length ≤ zs.length + 1 ∧ (∀ p ∈ ss, nameB p.1 = true ∧ idB p.2 = true) ∧ ∀ z ∈ zs, ∃ p ∈ ss, endsB p.1 z.1 = true) (fun nx' hnx => ?_) (fun σ H4 h => ?_)
      · walk_at "rd"
        refine ⟨l, t, 3, rfl, by decide, by decide, T3, fun d H4 h0 h1 e4 T4 => ?_⟩
        have hs4 := hs3.ext e4 (by simpa using hspt) T3.lsts
        have hz4 := hz3.ext e4 (by simpa using hzpt) T3.lsts
        walk_at "rd"
        refine rd_ite (fun hd => ?_) (fun hd => ?_)
        · obtain ⟨sx, hsx, _⟩ := hs4.list
          obtain ⟨zx, hzx, hzi⟩ := hz4.list
          walk_at "rd"
          obtain ⟨z, hz1, hz2⟩ := last_some (l := zs) (by rw [hzs]; simp)
          have hznm : nameB z.1 = true := (hzn z hz2).elim (fun e => by rw [e]; exact dot_name) zone_name
          refine rd_ixLs hz4 (last_map hz1) fun u hu => ?_
          walk_at "rd"
          refine rd_ixSs (z := z.1) hu rfl ?_
          walk_at "rd"
          refine ⟨l, t, rfl, T4, fun k H5 hk e5 T5 => ?_⟩
          have hs5 := hs4.ext e5 (by simpa using hspt) T4.lsts
          have hz5 := hz4.ext e5 (by simpa using hzpt) T4.lsts
          walk_at "rd"
          refine ⟨by show 2 ≤ sizeLine; decide, fun ta nta => ?_⟩
          refine rd_nil ?_
          have e6 := ((e3.trans e4).trans e5).newR (o := .tup [V.str z.1, .str k]) nta
          have T6 := T5.upd (o := .tup [V.str z.1, .str k]) nta
          have hs6 := hs5.new (o := .tup [V.str z.1, .str k]) nta
          have hz6 := hz5.new (o := .tup [V.str z.1, .str k]) nta
          have ht6 : Im (upd H5 ta (.tup [V.str z.1, .str k])) (.ref ta) (ssD (z.1, k)) := .new2 (.str _ (name_ok hznm)) (.str _ (id_ok hk)) upd_same
          generalize upd H5 ta (.tup [V.str z.1, .str k]) = H6 at e6 T6 hs6 hz6 ht6 ⊢
          refine rd_appLs hs6 ht6 ?_ fun ys hy hs7 => ?_
          · rw [List.length_map, hsl]
            exact Nat.lt_of_le_of_lt (show zs.length ≤ 100 by omega) (by decide)
          · have e7 : Ext T [sp] H6 (upd H6 sp (.lst (ys ++ [.ref ta]))) := Ext.mut (by simp) hy
            refine hnx _ _ ⟨e6.own hspn hy, T6.own hspt hspl, hz6.ext e7 (by simpa using hzsp) (lsts_one hy), ss ++ [(z.1, k)], rfl, ?_, ?_, fun p hp => ?_, fun z' hz' => ?_⟩
            · rw [List.map_append]
              exact hs7
            · rw [List.length_append, hsl]
              exact Nat.le_refl _
            · rcases List.mem_append.mp hp with h | h
              · exact hso p h
              · rw [List.mem_singleton.mp h]
                exact ⟨hznm, hk⟩
            · obtain ⟨p, hp, h2⟩ := hsu z' hz'
              exact ⟨p, List.mem_append_left _ hp, h2⟩
        · walk_at "rd"
          exact hnx _ _ ⟨e3.trans e4, T4, hz4, ss, rfl, hs4, by omega, hso, hsu⟩
      · obtain ⟨e4, T4, hz4, ss, rfl, hs4, hsl, hso, hsu⟩ := h
        clear e3 T3 hz3 hs3
        refine rd_seq ?_
        walk_at "rdn"
        refine ⟨by show 0 ≤ sizeLine; decide, fun kp nkp => ?_⟩
        obtain ⟨hkt, hkl'⟩ := T4.ne (.of nkp)
        have hkn : Nw H kp := e4.back (by simpa using hkt) (.of nkp)
        have hzk := hz4.ne nkp
        have e5 := e4.newR (o := .lst []) nkp
        have T5 := T4.upd (o := .lst []) nkp
        have hz5 := hz4.new (o := .lst []) nkp
        have hs5 := hs4.new (o := .lst []) nkp
        have hk5 : Ls (upd H4 kp (.lst [])) kp (([] : List (Str × Str)).map ssD) := ⟨[], upd_same, .nil⟩
        generalize upd H4 kp (.lst []) = H5 at e5 T5 hz5 hs5 hk5 ⊢
        walk_at "rdn"
        refine rd_cut (fun σ H6 => Ext T [t] H H6 ∧ Tape l H6 t ∧ Ls H6 zp (zs.map siD) ∧ ∃ (ks : List (Str × Str)) (d : Option V), σ = [some (.ref t), some (.int m), some (.ref zp), some (.ref sp), a, b, c, some (.ref kp), d, none] ∧ Ls H6 kp (ks.map ssD) ∧ ks.Nodup ∧ ks.Sublist (srtSS ss) ∧ ∀ r ∈ srtSS ss, r ∈ ks) (fun nx' hnx => ?_) (fun σ H6 h => ?_)
        · walk_at "rd"
          refine rd_sortI hs5 (alike_ss ss) (sortable_ss ss) (depth_ss ss) fun sa ys nsa hys => ?_
          rw [srtSS_eq] at hys
          have hsak := hk5.ne nsa
          have hst := (T5.ne (.of nsa)).1
          have e6 := e5.newR (o := .lst ys) nsa
          have T6 := T5.upd (o := .lst ys) nsa
          have hz6 := hz5.new (o := .lst ys) nsa
          have hk6 := hk5.new (o := .lst ys) nsa
          have hy6 := hys.new (o := .lst ys) nsa
          have hsa6 : (upd H5 sa (.lst ys)) sa = some (.lst ys) := upd_same
          refine ⟨sa, rfl, .inl ⟨⟨_, SqL.of hsa6⟩, ?_⟩⟩
          show ForG _ _ _ _ _ (upd H5 sa (.lst ys))
          generalize upd H5 sa (.lst ys) = H6 at e6 T6 hz6 hk6 hy6 hsa6 ⊢
          refine forg_list (xs := ys) (fun i σ H7 => Ext T [t] H H7 ∧ Tape l H7 t ∧ Ls H7 zp (zs.map siD) ∧ H7 sa = some (.lst ys) ∧ ImAll H7 ys ((srtSS ss).map ssD) ∧ ∃ (ks : List (Str × Str)) (d : Option V), σ = [some (.ref t), some (.int m), some (.ref zp), some (.ref sp), a, b, c, some (.ref kp), d, none] ∧ Ls H7 kp (ks.map ssD) ∧ ks.Nodup ∧ ks.Sublist ((srtSS ss).take i) ∧ ∀ r ∈ (srtSS ss).take i, r ∈ ks)
            ⟨e6, T6, hz6, hsa6, hy6, [], none, rfl, hk6, by simp, by simp, by simp⟩ (fun i σ H7 _ h => SqL.of h.2.2.2.1) (fun i x σ H7 hx h => ?_) (fun σ H7 h => ?_)
          · obtain ⟨e7, T7, hz7, hsa7, hy7, ks, d, rfl, hk7, hkn7, hks, hkm⟩ := h
            obtain ⟨dr, hdr, hxr⟩ := hy7.get' hx
            rw [List.getElem?_map] at hdr
            obtain ⟨r, hr, rfl⟩ := Option.map_eq_some_iff.mp hdr
            have htk : (srtSS ss).take (i + 1) = (srtSS ss).take i ++ [r] := by rw [List.take_add_one, hr]; rfl
            have hkl : ks.length ≤ 7 := by
              have h1 := hks.length_le
              rw [List.length_take, (srtSS_perm ss).length_eq] at h1
              have := Nat.min_le_right i ss.length
              omega
            have hdk : PyData.depth (.list (ks.map ssD)) ≤ 64 := by
              show PyData.depthAll (ks.map ssD) + 1 ≤ 64
              have := dep_map dep_ss ks
              omega
            refine rd_name ?_
            refine rd_if ?_
            refine rd_T ?_
            refine rd_op ?_
            refine rd_var rfl ?_
            refine rd_var rfl ?_
            refine rd_ninWL (b := decide (r ∈ ks)) hxr hk7 (Nat.le_trans (dep_ss r) (by decide)) hdk (mem_ssD.trans decide_eq_true_iff.symm) ?_
            refine ⟨_, rfl, ?_⟩
            refine rd_itn (fun hin => ?_) (fun hin => ?_)
            · walk_at "rd"
              refine ⟨e7, T7, hz7, hsa7, hy7, ks, _, rfl, hk7, hkn7, by rw [htk]; exact hks.trans (List.sublist_append_left _ _), fun r' hr' => ?_⟩
              rw [htk] at hr'
              rcases List.mem_append.mp hr' with h | h
              · exact hkm r' h
              · rw [List.mem_singleton.mp h]
                exact hin
            · obtain ⟨kx, hkx, _⟩ := hk7.list
              refine rd_drop ?_
              refine rd_bm ?_
              refine rd_var rfl ?_
              refine rd_tyL hkx ?_
              refine rd_cons ?_
              refine rd_var rfl ?_
              refine rd_nil ?_
              refine rd_appLs hk7 hxr ?_ fun ys2 hy2 hk8 => ?_
              · rw [List.length_map]
                exact Nat.lt_of_le_of_lt hkl (by decide)
              · have e8 : Ext T [kp] H7 (upd H7 kp (.lst (ys2 ++ [x]))) := Ext.mut (by simp) hy2
                refine ⟨e7.own hkn hy2, T7.own hkt hkl', hz7.ext e8 (by simpa using hzk) (lsts_one hy2), (upd_ne hsak.symm).trans hsa7, ImAll.ext e8 (lsts_one hy2) _ _ hy7, ks ++ [r], _, rfl, ?_, nodup_snoc hkn7 hin, ?_, fun r' hr' => ?_⟩
                · rw [List.map_append]
                  exact hk8
                · rw [htk]
                  exact hks.append (List.Sublist.refl _)
                · rw [htk] at hr'
                  rcases List.mem_append.mp hr' with h | h
                  · exact List.mem_append_left _ (hkm r' h)
                  · exact List.mem_append_right _ h
          · obtain ⟨e7, T7, hz7, hsa7, hy7, ks, d, rfl, hk7, hkn7, hks, hkm⟩ := h
            have hly : ys.length = (srtSS ss).length := by rw [hy7.len, List.length_map]
            rw [hly, List.take_length] at hks hkm
            exact hnx _ _ ⟨e7, T7, hz7, ks, d, rfl, hk7, hkn7, hks, hkm⟩
        · obtain ⟨e6, T6, hz6, ks, d, rfl, hk6, hkn6, hks, hkm⟩ := h
          clear e4 T4 hz4 hs4 e5 T5 hz5 hs5 hk5
          walk_at "rd"
          refine ⟨l, t, 3, rfl, by decide, by decide, T6, fun d2 H7 h0 h1 e7 T7 => ?_⟩
          have hz7 := hz6.ext e7 (by simpa using hzpt) T6.lsts
          have hk7 := hk6.ext e7 (by simpa using hkt) T6.lsts
          walk_at "rd"
          refine ⟨l, t, 1 + d2, rfl, by omega, by omega, T7, fun ip ids H8 nip hil hin hid hip e8 T8 => ?_⟩
          have hz8 := hz7.ext e8 (by simpa using hzpt) T7.lsts
          have hk8 := hk7.ext e8 (by simpa using hkt) T7.lsts
          walk_at "rd"
          refine rd_sortI (ds := ids.map .str) ⟨_, hip, ImAll.strs fun z hz => id_ok (hid z hz)⟩ (alike_s ids) (sortable_s ids) (depth_s ids) fun sa ys nsa hys => ?_
          rw [srtS_eq] at hys
          have e9 := ((e6.trans e7).trans e8).newR (o := .lst ys) nsa
          have T9 := T8.upd (o := .lst ys) nsa
          have hz9 := hz8.new (o := .lst ys) nsa
          have hk9 := hk8.new (o := .lst ys) nsa
          have hy9 := hys.new (o := .lst ys) nsa
          have hs9 : (upd H8 sa (.lst ys)) sa = some (.lst ys) := upd_same
          show tNil _ (upd H8 sa (.lst ys)) _
          generalize upd H8 sa (.lst ys) = H9 at e9 T9 hz9 hk9 hy9 hs9 ⊢
          walk_at "rd"
          refine rd_tupL (SqL.of hs9) fun ta nta => ?_
          have e10 := e9.newR (o := .tup ys) nta
          have T10 := T9.upd (o := .tup ys) nta
          have hz10 := hz9.new (o := .tup ys) nta
          have hk10 := hk9.new (o := .tup ys) nta
          have ha10 : Im (upd H9 ta (.tup ys)) (.ref ta) (.tuple ((srtS ids).map .str)) := .tup upd_same (hy9.new nta)
          show gName 9 _ _ (upd H9 ta (.tup ys)) _
          generalize upd H9 ta (.tup ys) = H10 at e10 T10 hz10 hk10 ha10 ⊢
          obtain ⟨zx, hzx, hzi⟩ := hz10.list
          walk_at "rd"
          refine rd_tupL (SqL.of hzx) fun tz ntz => ?_
          have e11 := e10.newR (o := .tup zx) ntz
          have T11 := T10.upd (o := .tup zx) ntz
          have hk11 := hk10.new (o := .tup zx) ntz
          have ha11 := ha10.new (o := .tup zx) ntz
          have hz11 : Im (upd H10 tz (.tup zx)) (.ref tz) (.tuple (zs.map siD)) := .tup upd_same (hzi.new ntz)
          show tCons _ _ _ (upd H10 tz (.tup zx)) _
          generalize upd H10 tz (.tup zx) = H11 at e11 T11 hk11 ha11 hz11 ⊢
          obtain ⟨kx, hkx, hki⟩ := hk11.list
          walk_at "rd"
          refine rd_tupL (SqL.of hkx) fun tk ntk => ?_
          have e12 := e11.newR (o := .tup kx) ntk
          have T12 := T11.upd (o := .tup kx) ntk
          have ha12 := ha11.new (o := .tup kx) ntk
          have hz12 := hz11.new (o := .tup kx) ntk
          have hk12 : Im (upd H11 tk (.tup kx)) (.ref tk) (.tuple (ks.map ssD)) := .tup upd_same (hki.new ntk)
          show tNil _ (upd H11 tk (.tup kx)) _
          generalize upd H11 tk (.tup kx) = H12 at e12 T12 ha12 hz12 hk12 ⊢
          walk_at "rd"
          refine ⟨by show 3 ≤ sizeLine; decide, fun r nr => ?_⟩
          have hmem : ∀ r, r ∈ ks → r ∈ ss := fun r hr => (srtSS_perm ss).mem_iff.mp (hks.subset hr)
          refine q (.ref r) ⟨zs, srtS ids, ks⟩ _ ⟨⟨lag, rest, ns, hzs, hr1, hnn, hnm, hnz⟩, hlag, ⟨ss, hks⟩, hkn6, fun p hp => hso p (hmem p hp), fun z hz => ?_, ?_, ⟨ids, rfl, hin, hid, by omega, by omega⟩⟩ (.new3 (hz12.new nr) (ha12.new nr) (hk12.new nr) upd_same) (e12.newR nr) (T12.upd nr)
          · obtain ⟨p, hp, h⟩ := hsu z hz
            exact ⟨p, hkm p ((srtSS_perm ss).mem_iff.mpr hp), h⟩
          · have h1 := hks.length_le
            rw [(srtSS_perm ss).length_eq] at h1
            have h2 : (zs.length : Int) ≤ m + 1 := by
              have := congrArg List.length hr1
              rw [List.length_map, (srtS_perm ns).length_eq] at this
              rw [hzs, List.length_cons]
              omega
            show (ks.length : Int) ≤ m + 2
            omega
end

open PySem PySem.Spec PyProof.Rows L2
open PySem.W (EachIs sort_maps dataLe AllAlike Sortable)
mutual
theorem Im.inj {H : Hp} : ∀ (d e : PyData) (v : V), Im H v d → Im H v e → d = e
  | .none, e, v, h1, h2 => by
    cases h1
    cases h2
    rfl
  | .bool _, e, v, h1, h2 => by cases h1
  | .list _, e, v, h1, h2 => by cases h1
  | .dict _, e, v, h1, h2 => by cases h1
  | .int i, e, v, h1, h2 => by
    cases h1
    cases h2
    rfl
  | .str x, e, v, h1, h2 => by
    cases h1
    cases h2
    rfl
  | .tuple ds, e, v, h1, h2 => by
    cases h1 with
    | tup a b =>
      cases h2 with
      | tup c d =>
        have e1 := a.symm.trans c
        injection e1 with e1
        injection e1 with e1
        subst e1
        rw [ImAll.inj ds _ _ b d]
theorem ImAll.inj {H : Hp} : ∀ (ds es : List PyData) (vs : List V), ImAll H vs ds → ImAll H vs es → ds = es
  | [], es, vs, h1, h2 => by
    cases h1
    cases h2
    rfl
  | d :: ds, es, vs, h1, h2 => by
    cases h1 with
    | cons a b =>
      cases h2 with
      | cons c d =>
        rw [Im.inj _ _ _ a c, ImAll.inj _ _ _ b d]
end
/-- a comprehension whose items are told by a relation that no heap changes -/
theorem lcg_rel (T : List (Addr × Str)) (ms : List Addr) {σ : L2.St} {H : Hp} {Q : VK} {J : It} {n : Nat} {G : Hp → Prop} {Y : Nat → Hp → V → Hp → Prop} {g : TG} {tt : TT} {te : TE} {vs : List Nat} (w : Walk J n G Y) (xs : List V) (hn : n = xs.length) (hY : ∀ i H x H', Y i H x H' → H' = H ∧ xs[i]? = some x)
    (hDm : ∀ D, H D = none → D ∉ ms) (hG : ∀ H', Ext T ms H H' → G H') (hl : xs.length < sizeLine) (p : V → Bool) (Rel : V → V → Prop)
    (step : ∀ (i : Nat) (x : V), xs[i]? = some x → ∀ H', Ext T ms H H' → ∀ (R : V → Hp → Prop) (S : Hp → Prop), (p x = true → ∀ v H2, Ext T ms H' H2 → Rel v x → R v H2) → (p x = false → ∀ H2, Ext T ms H' H2 → S H2) →
      g x (wipe σ vs) H' fun σ2 H2 => wipe σ2 vs = wipe σ vs ∧ tt σ2 H2 fun b H3 => if b = true then te σ2 H3 R else S H3)
    (q : ∀ D H2 ys, Nw H D → Ext T ms H H2 → H2 D = some (.lst ys) → EachIs Rel ys (xs.filter p) → Q (.ref D) H2) : LcG J g tt te vs σ H Q := fun D hD => by
  refine lc_it w (fun i H2 => Ext T ms H H2 ∧ ∃ ys, H2 D = some (.lst ys) ∧ EachIs Rel ys ((xs.take i).filter p)) ⟨.new hD, [], upd_same, .nil⟩ (fun i H2 _ h => hG H2 h.1) (fun i x H1 H' hi h y => ?_) (fun H1 h => ?_)
  · obtain ⟨e1, e2⟩ := hY i H1 x H' y
    subst e1
    obtain ⟨h1, ys, h3, h4⟩ := h
    have et : xs.take (i + 1) = xs.take i ++ [x] := by rw [List.take_add_one, e2]; rfl
    refine step i x e2 H' h1 _ _ (fun hp v H2 e hr => ?_) (fun hp H2 e => ?_)
    · have h5 := e.lst (hDm D hD) h3
      refine ⟨ys, h5, ?_, (h1.trans e).own (.of hD) h5, ys ++ [v], upd_same, ?_⟩
      · refine Nat.lt_of_le_of_lt ?_ hl
        rw [h4.length]
        exact Nat.le_trans (List.length_filter_le _ _) (by rw [List.length_take]; exact Nat.min_le_right _ _)
      · rw [et, List.filter_append, List.filter_cons_of_pos hp]
        exact PySem.W.each_snoc hr h4
    · refine ⟨h1.trans e, ys, e.lst (hDm D hD) h3, ?_⟩
      rw [et, List.filter_append, List.filter_cons_of_neg (by rw [hp]; decide), List.filter_nil, List.append_nil]
      exact h4
  · obtain ⟨h1, ys, h3, h4⟩ := h
    rw [hn, List.take_length] at h4
    exact q D H1 ys (.of hD) h1 h3 h4
/-! ### the law's chain, slots, home -/
def isD (p : Int × Str) : PyData := .tuple [.int p.1, .str p.2]
def onZ (n : Str) (z : Str × Int) : Bool := !decide (z.1 = dotS) && endsB n z.1
def chF (R : Rm) (n : Str) : List (Int × Str) := (0, dotS) :: ((R.zs.filter (onZ n)).map fun z => ((z.1.length : Int), z.1))
def srtIS (l : List (Int × Str)) : List (Int × Str) := l.mergeSort fun a b => dataLe false id (isD a) (isD b)
theorem srtIS_eq (l : List (Int × Str)) : srtD (l.map isD) = (srtIS l).map isD := (sort_maps isD fun _ _ _ _ => rfl).symm
theorem srtIS_perm (l : List (Int × Str)) : (srtIS l).Perm l := List.mergeSort_perm _ _
theorem alike_is (l : List (Int × Str)) : AllAlike (l.map isD) := fun d hd e he => by
  obtain ⟨y, _, rfl⟩ := List.mem_map.mp hd
  obtain ⟨z, _, rfl⟩ := List.mem_map.mp he
  rfl
theorem sortable_is (l : List (Int × Str)) : Sortable (l.map isD) := .inl fun d hd => by
  obtain ⟨y, _, rfl⟩ := List.mem_map.mp hd
  exact ⟨_, _, rfl⟩
theorem depth_is (l : List (Int × Str)) : ∀ d ∈ l.map isD, d.depth ≤ 60 := fun d hd => by
  obtain ⟨y, _, rfl⟩ := List.mem_map.mp hd
  show 0 + 1 ≤ 60
  omega
def chL (R : Rm) (n : Str) : List Str := (srtIS (chF R n)).map (·.2)
theorem chL_mem {R : Rm} {n z : Str} : z ∈ chL R n ↔ z = dotS ∨ ∃ y ∈ R.zs, onZ n y = true ∧ y.1 = z := by
  unfold chL
  rw [((srtIS_perm (chF R n)).map _).mem_iff]
  unfold chF
  simp only [List.map_cons, List.mem_cons, List.map_map, List.mem_map, List.mem_filter, Function.comp_apply]
  constructor
  · rintro (h | ⟨y, ⟨h1, h2⟩, h3⟩)
    · exact .inl h
    · exact .inr ⟨y, h1, h2, h3⟩
  · rintro (h | ⟨y, h1, h2, h3⟩)
    · exact .inl h
    · exact .inr ⟨y, ⟨h1, h2⟩, h3⟩
theorem chL_len (R : Rm) (n : Str) : (chL R n).length = 1 + (R.zs.filter (onZ n)).length := by
  unfold chL
  rw [List.length_map, (srtIS_perm (chF R n)).length_eq]
  unfold chF
  rw [List.length_cons, List.length_map]
  omega
def slotsR (R : Rm) : List Sl := (.k dotS :: R.zs.tail.flatMap fun z => [.k z.1, .l z.1, .h z.1]) ++ R.ss.map fun p => .s p.1 p.2
def homeR (R : Rm) : Sl → Str
  | .k z => z
  | .s n _ => (chL R n).getLast?.getD dotS
  | .l z => (chL R z).dropLast.getLast?.getD dotS
  | .h z => (chL R z).dropLast.getLast?.getD dotS
theorem at_last2 {α : Type} {l : List α} {v : α} (h : l.dropLast.getLast? = some v) : atI l (-2) = some v := by
  obtain ⟨r, e⟩ := List.getLast?_eq_some_iff.mp h
  have hl : l ≠ [] := fun z => by rw [z] at h; cases h
  have e2 := List.dropLast_concat_getLast hl
  rw [e] at e2
  obtain ⟨x, e3⟩ : ∃ x, l = r ++ [v, x] := ⟨l.getLast hl, by rw [List.append_assoc] at e2; exact e2.symm⟩
  rw [e3]
  unfold atI
  have h1 : ixN (r ++ [v, x]).length (-2) = some r.length := by
    unfold ixN
    rw [List.length_append]
    simp only [List.length_cons, List.length_nil]
    rw [if_neg (by decide), if_pos (by omega)]
    congr 1
    omega
  rw [h1]
  simp
theorem cutV_from {α : Type} (l : List V) {i : Int} (h0 : 0 ≤ i) : cutV l (some i) none = l.drop i.toNat := by
  unfold cutV
  rw [HT.sIx_none]
  have e : HT.sIx l.length 0 (some i) = min i.toNat l.length := by
    obtain ⟨k, rfl⟩ := Int.eq_ofNat_of_zero_le h0
    exact HT.sIx_nat l.length 0 k
  rw [e, List.take_of_length_le (by rw [List.length_drop]; omega)]
  by_cases h : i.toNat ≤ l.length
  · rw [Nat.min_eq_left h]
  · rw [Nat.min_eq_right (by omega), List.drop_length, List.drop_eq_nil_of_le (by omega)]
theorem cutV_to (l : List V) {i : Int} (h0 : 0 ≤ i) : cutV l none (some i) = l.take i.toNat := by
  unfold cutV
  have e0 : HT.sIx l.length 0 none = 0 := HT.sIx_none ..
  have e : HT.sIx l.length l.length (some i) = min i.toNat l.length := by
    obtain ⟨k, rfl⟩ := Int.eq_ofNat_of_zero_le h0
    exact HT.sIx_nat l.length l.length k
  rw [e0, e]
  show (l.drop 0).take (min i.toNat l.length - 0) = _
  rw [List.drop_zero, Nat.sub_zero]
  by_cases h : i.toNat ≤ l.length
  · rw [Nat.min_eq_left h]
  · rw [Nat.min_eq_right (by omega), List.take_length, List.take_of_length_le (by omega)]
/-- a realm as the drawing functions read it -/
structure RmIn (R : Rm) : Prop where
  ne : ∃ lag rest, R.zs = (dotS, lag) :: rest ∧ ∀ r ∈ rest, r.1 ≠ dotS
  len : R.zs.length ≤ 6
  nm : ∀ z ∈ R.zs, nameB z.1 = true
  nd : (R.zs.map (·.1)).Nodup
  sok : ∀ p ∈ R.ss, nameB p.1 = true ∧ idB p.2 = true
  sn : R.ss.Nodup
  slen : R.ss.length ≤ 7
  an : ∃ a r, R.an = a :: r ∧ idB a = true
section
variable (T : List (Addr × Str))
def spChainL : Sp := fun vs H Q _ => ∃ (v : V) (R : Rm) (n : Str), vs = [v, .str n] ∧ Im H v (rmD R) ∧ RmIn R ∧ nameB n = true ∧ ∀ (p : Addr) (H' : Hp), Nw H p → Ext T [] H H' → H' p = some (.lst ((chL R n).map V.str)) → Q (.ref p) H'
def spSlots : Sp := fun vs H Q _ => ∃ (v : V) (R : Rm), vs = [v] ∧ Im H v (rmD R) ∧ RmIn R ∧ ∀ (p : Addr) (H' : Hp), Nw H p → Ext T [] H H' → Ls H' p ((slotsR R).map slD) → Q (.ref p) H'
def spHome : Sp := fun vs H Q _ => ∃ (v u : V) (R : Rm) (s : Sl), vs = [v, u] ∧ Im H v (rmD R) ∧ Im H u (slD s) ∧ RmIn R ∧ s ∈ slotsR R ∧ ∀ (H' : Hp), Ext T [] H H' → homeR R s ∈ R.zs.map (·.1) → Q (.str (homeR R s)) H'
end
theorem RmOk.rin {R : Rm} {m : Int} (h : RmOk R m) (hm : m ≤ 5) : RmIn R := by
  obtain ⟨lag, rest, ns, e1, e2, e3, e4, e5⟩ := h.zs
  have hmem : ∀ z, z ∈ rest.map (·.1) ↔ z ∈ ns := fun z => by rw [e2]; exact (srtS_perm ns).mem_iff
  have hr : ∀ r ∈ rest, zoneB r.1 := fun r hr => e5 _ ((hmem _).mp (List.mem_map_of_mem hr))
  have hlen : rest.length = ns.length := by
    have := congrArg List.length e2
    rw [List.length_map, (srtS_perm ns).length_eq] at this
    exact this
  refine ⟨⟨lag, rest, e1, fun r hr' => zone_ne (hr r hr')⟩, ?_, fun z hz => ?_, ?_, h.ssok, h.ssn, ?_, ?_⟩
  · rw [e1, List.length_cons]
    omega
  · rw [e1] at hz
    rcases List.mem_cons.mp hz with e | hz
    · rw [e]
      exact dot_name
    · exact zone_name (hr z hz)
  · rw [e1, List.map_cons, List.nodup_cons, e2]
    refine ⟨fun hd => ?_, (srtS_perm ns).nodup_iff.mpr e3⟩
    exact zone_ne (e5 _ ((srtS_perm ns).mem_iff.mp hd)) rfl
  · have := h.slen
    omega
  · obtain ⟨ys, h1, h2, h3, h4, h5⟩ := h.an
    cases e : srtS ys with
    | nil =>
      have := (srtS_perm ys).length_eq
      rw [e] at this
      simp only [List.length_nil] at this
      omega
    | cons a r =>
      exact ⟨a, r, by rw [h1, e], h3 a ((srtS_perm ys).mem_iff.mp (by rw [e]; simp))⟩

open PySem PySem.Spec PyProof.Rows L2

section
variable {T : List (Addr × Str)} {P : Program} {w : World} {K : PySem.W.Frag} {mg : Str → Option Value} {base : Heap}
theorem ok_law_chain (D : Def K mg "_law_chain" s_law_chain ["realm", "name"]) (mb : ∀ x ∈ bltns, mg x = none) : Ok P w K mg base 1 "_law_chain" ["realm", "name"] (spChainL T) := by
  refine D.ok sc_law_chain (fun vs H Q E h => ?_) (fun cdv f A outer s H vs Q E hr h => ?_)
  · obtain ⟨v, R, n, rfl, _⟩ := h
    rfl
  · obtain ⟨v, R, n, rfl, hv, hR, hn, q⟩ := h
    refine ⟨_, (pss_cons (ps_set (i := 2) sc_law_chain.nd rfl (.inl rfl) (pe_lst (pa_cons (pe_tup (pa_cons pe_int (pa_cons pe_str pa_nil))) pa_nil)))
   (pss_cons (ps_for PassesOwn.never rfl (pi_seq K rfl (pe_ix (ix_U K rfl) (pv 0) pe_int (fun _ _ => rfl))) (pg_tupU (n := 2) K rfl rfl (pgs_cons (pg_name (i := 3) sc_law_chain.nd rfl (.inl rfl)) (pgs_cons (pg_name (i := 4) sc_law_chain.nd rfl (.inl rfl)) pgs_nil))) (pss_one (ps_if (PW.pt (pw_and (pt_cmpR (op_neU K rfl hr.units) (pv 3) pe_str (nomark _)) (pw_and1 (PW.pt (pw_or (pt_cmpR (op_eqU K rfl hr.units) (pv 1) (pv 3) (nomark _)) (pw_or1 (pt_E (pe_m1 PySem.F.slot_str_endswith PySem.F.type_str_endswith mt_endsU (pv 1) (pe_op (op_plus K rfl) pe_str (pv 3)))))))))) (pss_one (ps_expr (pe_bm PySem.F.plainAttrs_list PySem.F.slot_list_append PySem.F.type_list_append mt_append (pv 2) (pa_cons (pe_tup (pa_cons (pe_callB (call_lenU K rfl) (by rfl) (mb _ (by decide)) (by decide +kernel) (pa_cons (pv 3) pa_nil)) (pa_cons (pv 3) pa_nil))) pa_nil)))) pss_nil)))
   (pss_one (ps_ret (pe_lc (own := [("pair", 5)]) (g := gName 5) (tt := tYes) rfl sc_law_chain.nd (pi_seq K rfl (pe_callB (call_sortedU K rfl hr.units) (by rfl) (mb _ (by decide)) (by decide +kernel) (pa_cons (pv 2) pa_nil))) (blkOk_by (N := N_law_chain) (sc := defScope s_law_chain) (by decide +kernel)) (fun _ _ _ _ _ => (pg_name (i := 5) sc_law_chain.nd rfl (Or.inl rfl))) (fun _ _ _ _ _ => pts_nil) (fun _ _ _ _ _ => (pe_ix (ix_U K rfl) (pv 5) pe_int (fun _ _ => rfl)))))))), ?_⟩
    refine rd_seq ?_
    walk_at "rdn"
    refine ⟨by show 2 ≤ sizeLine; decide, fun ta nta => ?_⟩
    walk_at "rdn"
    refine ⟨by show 1 ≤ sizeLine; decide, fun fp nfp => ?_⟩
    have hta : ta ≠ fp := fun e => by
      rw [← e, upd_same] at nfp
      cases nfp
    have e1 : Ext T [] H (upd (upd H ta (.tup [V.int 0, .str (Str.ofString ".")])) fp (.lst [.ref ta])) := (Ext.new nta).newR nfp
    have hfn : Nw H fp := (Ext.new (T := T) (ms := []) nta).back (by simp) (.of nfp)
    have hv1 := (hv.new (o := .tup [V.int 0, .str (Str.ofString ".")]) nta).new (o := .lst [.ref ta]) nfp
    have hf1 : Ls (upd (upd H ta (.tup [V.int 0, .str (Str.ofString ".")])) fp (.lst [.ref ta])) fp ([((0 : Int), dotS)].map isD) :=
      ⟨_, upd_same, .cons (.new2 (.int _) (.str _ (name_ok dot_name)) ((upd_ne hta).trans upd_same)) .nil⟩
    show gName 2 _ _ (upd (upd H ta (.tup [V.int 0, .str (Str.ofString ".")])) fp (.lst [.ref ta])) _
    generalize upd (upd H ta (.tup [V.int 0, .str (Str.ofString ".")])) fp (.lst [.ref ta]) = H1 at e1 hv1 hf1 ⊢
    walk_at "rdn"
    refine rd_cut (fun σ H2 => Ext T [] H H2 ∧ ∃ (a b : Option V), σ = [some v, some (.str n), some (.ref fp), a, b, none] ∧ Ls H2 fp ((chF R n).map isD)) (fun nx' hnx => ?_) (fun σ H2 h => ?_)
    · walk_at "rd"
      refine rd_ixI (d := .tuple (R.zs.map siD)) hv1 rfl fun u hu => ?_
      obtain ⟨zp, xs, rfl, hzp, hzi⟩ := hu.tup'
      refine ⟨zp, rfl, .inr ⟨⟨_, SqT.of hzp⟩, ?_⟩⟩
      refine forg_tup (xs := xs) (fun i σ H2 => Ext T [] H H2 ∧ SqP H2 zp xs ∧ ImAll H2 xs (R.zs.map siD) ∧ ∃ (a b : Option V), σ = [some v, some (.str n), some (.ref fp), a, b, none] ∧ Ls H2 fp (((0, dotS) :: (((R.zs.take i).filter (onZ n)).map fun z => ((z.1.length : Int), z.1))).map isD))
        ⟨e1, hzp, hzi, none, none, rfl, hf1⟩ (fun i σ H2 _ h => SqT.of h.2.1) (fun i x σ H2 hx h => ?_) (fun σ H2 h => ?_)
      · obtain ⟨e2, hzp2, hzi2, a, b, rfl, hf2⟩ := h
        obtain ⟨dz, hdz, hxz⟩ := hzi2.get' hx
        rw [List.getElem?_map] at hdz
        obtain ⟨z, hz, rfl⟩ := Option.map_eq_some_iff.mp hdz
        have hznm := hR.nm z (List.mem_of_getElem? hz)
        have hzl := name_len hznm
        have htk : (R.zs.take (i + 1)).filter (onZ n) = (R.zs.take i).filter (onZ n) ++ [z].filter (onZ n) := by
          rw [List.take_add_one, hz, List.filter_append]
          rfl
        have hcnt : ((R.zs.take i).filter (onZ n)).length ≤ 6 := Nat.le_trans (List.length_filter_le _ _) (Nat.le_trans (by rw [List.length_take]; exact Nat.min_le_right _ _) hR.len)
        rw [htk]
        refine rd_gpair (d1 := .str z.1) (d2 := .int z.2) hxz fun v1 v2 h1 h2 => ?_
        rw [h1.str', h2.int']
        have no : onZ n z = false → Ls H2 fp (((0, dotS) :: ((((R.zs.take i).filter (onZ n) ++ [z].filter (onZ n))).map fun z => ((z.1.length : Int), z.1))).map isD) := fun h => by
          rw [show [z].filter (onZ n) = [] by rw [List.filter_cons, h]; rfl, List.append_nil]
          exact hf2
        have yes : onZ n z = true → (tDrop (tBM K "list" rAppend (tVar 2) (tCons (tTup (tCons (tCB (rLenU K) (tCons (tVar 3) tNil)) (tCons (tVar 3) tNil))) tNil))) ⟨fun σ H2 => Ext T [] H H2 ∧ SqP H2 zp xs ∧ ImAll H2 xs (R.zs.map siD) ∧ ∃ (a b : Option V), σ = [some v, some (.str n), some (.ref fp), a, b, none] ∧ Ls H2 fp (((0, dotS) :: ((((R.zs.take i).filter (onZ n) ++ [z].filter (onZ n))).map fun z => ((z.1.length : Int), z.1))).map isD), Q, nx', fun σ H2 => Ext T [] H H2 ∧ SqP H2 zp xs ∧ ImAll H2 xs (R.zs.map siD) ∧ ∃ (a b : Option V), σ = [some v, some (.str n), some (.ref fp), a, b, none] ∧ Ls H2 fp (((0, dotS) :: ((((R.zs.take i).filter (onZ n) ++ [z].filter (onZ n))).map fun z => ((z.1.length : Int), z.1))).map isD)⟩ [some v, some (.str n), some (.ref fp), some (.str z.1), some (.int z.2), none] H2 := fun h => by
          obtain ⟨fx, hfx, _⟩ := hf2.list
          walk_at "rd"
          refine ⟨by show 2 ≤ sizeLine; decide, fun tb ntb => ?_⟩
          refine rd_nil ?_
          have e3 := e2.newR (o := .tup [V.int z.1.length, .str z.1]) ntb
          have hf3 := hf2.new (o := .tup [V.int z.1.length, .str z.1]) ntb
          have hzi3 := hzi2.new (o := .tup [V.int z.1.length, .str z.1]) ntb
          have hzp3 := (upd_ne (o := .tup [V.int z.1.length, .str z.1]) ((Nw.of ntb).sqp hzp2)).trans hzp2
          have ht3 : Im (upd H2 tb (.tup [V.int z.1.length, .str z.1])) (.ref tb) (isD (z.1.length, z.1)) := .new2 (.int _) (.str _ (name_ok hznm)) upd_same
          generalize upd H2 tb (.tup [V.int z.1.length, .str z.1]) = H3 at e3 hf3 hzi3 hzp3 ht3 ⊢
          refine rd_appLs hf3 ht3 ?_ fun ys hy hf4 => ?_
          · rw [List.length_map, List.length_cons, List.length_map]
            exact Nat.lt_of_le_of_lt (show _ ≤ 100 by omega) (by decide)
          · have e4 : Ext T [fp] H3 (upd H3 fp (.lst (ys ++ [.ref tb]))) := Ext.mut (by simp) hy
            refine ⟨e3.own hfn hy, ?_, ImAll.ext e4 (lsts_one hy) _ _ hzi3, _, _, rfl, ?_⟩
            · refine (upd_ne fun e => ?_).trans hzp3
              rw [e] at hzp3
              have := hy.symm.trans hzp3
              cases this
            · rw [show [z].filter (onZ n) = [z] by rw [List.filter_cons, h]; rfl, List.map_append]
              rw [← List.cons_append, List.map_append]
              exact hf4
        walk_at "rd"
        refine rd_itn (fun hdot => ?_) (fun hdot => ?_)
        · walk_at "rd"
          exact ⟨e2, hzp2, hzi2, _, _, rfl, no (by unfold onZ; rw [decide_eq_true (show z.1 = dotS from hdot)]; rfl)⟩
        · walk_at "rd"
          have hd0 : decide (z.1 = dotS) = false := decide_eq_false hdot
          refine rd_ite (fun heq => ?_) (fun heq => ?_)
          · refine iteT ?_
            exact yes (by unfold onZ; rw [hd0, show n = z.1 from heq, ends_self]; rfl)
          · walk_at "rd"
            cases hw : Txt.endswith n (Str.ofString "." ++ z.1) with
            | true =>
              refine iteT ?_
              refine yes ?_
              unfold onZ endsB
              rw [hd0, show Txt.endswith n (dotS ++ z.1) = true from hw]
              simp
            | false =>
              refine iteF ?_
              walk_at "rd"
              refine ⟨e2, hzp2, hzi2, _, _, rfl, no ?_⟩
              unfold onZ endsB
              rw [hd0, show Txt.endswith n (dotS ++ z.1) = false from hw, decide_eq_false heq]
              rfl
      · obtain ⟨e2, _, hzi2, a, b, rfl, hf2⟩ := h
        rw [show xs.length = R.zs.length by rw [hzi2.len, List.length_map], List.take_length] at hf2
        exact hnx _ _ ⟨e2, a, b, rfl, hf2⟩
    · obtain ⟨e2, a, b, rfl, hf2⟩ := h
      walk_at "rd"
      refine rd_sortI hf2 (alike_is _) (sortable_is _) (depth_is _) fun sa ys nsa hys => ?_
      rw [srtIS_eq] at hys
      have e3 := e2.newR (o := .lst ys) nsa
      have hy3 := hys.new (o := .lst ys) nsa
      have hs3 : (upd H2 sa (.lst ys)) sa = some (.lst ys) := upd_same
      refine ⟨sa, rfl, .inl ⟨⟨_, SqL.of hs3⟩, ?_⟩⟩
      show LcG _ _ _ _ _ _ (upd H2 sa (.lst ys)) _
      generalize upd H2 sa (.lst ys) = H3 at e3 hy3 hs3 ⊢
      have hyl : ys.length ≤ 7 := by
        rw [hy3.len, List.length_map, (srtIS_perm _).length_eq]
        unfold chF
        rw [List.length_cons, List.length_map]
        have := List.length_filter_le (onZ n) R.zs
        have := hR.len
        omega
      refine lcg_rel T [] walk_list ys rfl (fun i H x H' y => y) (by simp) (fun H' e => e.seqL (by simp) (SqL.of hs3)) (Nat.lt_of_le_of_lt hyl (by decide)) (fun _ => true) (fun v x => ∃ r : Int × Str, Im H3 x (isD r) ∧ v = .str r.2) (fun i x hx H' e' R S h1 h2 => ?_) (fun D H4 us nD e4 hD hus => ?_)
      · obtain ⟨dr, hdr, hxr⟩ := hy3.get' hx
        rw [List.getElem?_map] at hdr
        obtain ⟨r, hr, rfl⟩ := Option.map_eq_some_iff.mp hdr
        refine rd_name ⟨wipe1, ?_⟩
        walk_at "rd"
        refine rd_ixSs (z := r.2) (Im.ext e' Lsts.nil _ _ hxr) rfl ?_
        exact h1 rfl _ _ .refl ⟨r, hxr, rfl⟩
      · rw [filtT] at hus
        have hu : us = (chL R n).map V.str := by
          unfold chL
          have key : ∀ {us ys : List V} {rs : List (Int × Str)}, ImAll H3 ys (rs.map isD) → PySem.W.EachIs (fun v x => ∃ r : Int × Str, Im H3 x (isD r) ∧ v = .str r.2) us ys → us = (rs.map (·.2)).map V.str := by
            intro us ys rs
            induction rs generalizing us ys with
            | nil =>
              intro h1 h2
              cases h1
              cases h2
              rfl
            | cons r rs ih =>
              intro h1 h2
              cases h1 with
              | cons a b =>
                cases h2 with
                | cons c d =>
                  obtain ⟨r', c1, c2⟩ := c
                  have e := Im.inj _ _ _ a c1
                  injection e with e
                  injection e with _ e
                  injection e with e _
                  injection e with e
                  rw [ih b d, c2, List.map_cons, List.map_cons, e]
          exact key hy3 hus
        rw [hu] at hD
        exact q D H4 (e3.back (by simp) nD) (e3.trans e4) hD
end

open PySem PySem.Spec PyProof.Rows L2

section
variable {T : List (Addr × Str)} {P : Program} {w : World} {K : PySem.W.Frag} {mg : Str → Option Value} {base : Heap}
theorem kw_ok : PyData.strOk "keys" = true ∧ PyData.strOk "link" = true ∧ PyData.strOk "hosts" = true ∧ PyData.strOk "set" = true := by decide +kernel
theorem ok_law_slots (D : Def K mg "_law_slots" s_law_slots ["realm"]) (mb : ∀ x ∈ bltns, mg x = none) : Ok P w K mg base 1 "_law_slots" ["realm"] (spSlots T) := by
  refine D.ok sc_law_slots (fun vs H Q E h => ?_) (fun cdv f A outer s H vs Q E hr h => ?_)
  · obtain ⟨v, R, rfl, _⟩ := h
    rfl
  · obtain ⟨v, R, rfl, hv, hR, q⟩ := h
    refine ⟨_, (pss_cons (ps_set (i := 1) sc_law_slots.nd rfl (.inl rfl) (pe_lst (pa_cons (pe_tup (pa_cons pe_str (pa_cons pe_str pa_nil))) pa_nil)))
   (pss_cons (ps_for PassesOwn.never rfl (pi_seq K rfl (pe_slice (sl_U K rfl) (pe_ix (ix_U K rfl) (pv 0) pe_int (fun _ _ => rfl)) (po_some pe_int) po_none)) (pg_tupU (n := 2) K rfl rfl (pgs_cons (pg_name (i := 2) sc_law_slots.nd rfl (.inl rfl)) (pgs_cons (pg_name (i := 3) sc_law_slots.nd rfl (.inl rfl)) pgs_nil))) (pss_one (ps_set (i := 1) sc_law_slots.nd rfl (.inl rfl) (pe_op (op_plus K rfl) (pv 1) (pe_lst (pa_cons (pe_tup (pa_cons pe_str (pa_cons (pv 2) pa_nil))) (pa_cons (pe_tup (pa_cons pe_str (pa_cons (pv 2) pa_nil))) (pa_cons (pe_tup (pa_cons pe_str (pa_cons (pv 2) pa_nil))) pa_nil))))))))
   (pss_one (ps_ret (pe_op (op_plus K rfl) (pv 1) (pe_lc (own := [("name", 4), ("kind", 5)]) (tt := tYes) rfl sc_law_slots.nd (pi_seq K rfl (pe_ix (ix_U K rfl) (pv 0) pe_int (fun _ _ => rfl))) (blkOk_by (N := N_law_slots) (sc := defScope s_law_slots) (by decide +kernel)) (fun _ _ _ _ _ => (pg_tupU (n := 2) K rfl rfl (pgs_cons (pg_name (i := 4) sc_law_slots.nd rfl (Or.inl rfl)) (pgs_cons (pg_name (i := 5) sc_law_slots.nd rfl (Or.inl rfl)) pgs_nil)))) (fun _ _ _ _ _ => pts_nil) (fun _ _ _ _ _ => (pe_tup (pa_cons pe_str (pa_cons (pv 4) (pa_cons (pv 5) pa_nil))))))))))), ?_⟩
    refine rd_seq ?_
    walk_at "rdn"
    refine ⟨by show 2 ≤ sizeLine; decide, fun ta nta => ?_⟩
    walk_at "rdn"
    refine ⟨by show 1 ≤ sizeLine; decide, fun fp nfp => ?_⟩
    have hta : ta ≠ fp := fun e => by
      rw [← e, upd_same] at nfp
      cases nfp
    have e1 : Ext T [] H (upd (upd H ta (.tup [V.str (Str.ofString "keys"), .str (Str.ofString ".")])) fp (.lst [.ref ta])) := (Ext.new nta).newR nfp
    have hv1 := (hv.new (o := .tup [V.str (Str.ofString "keys"), .str (Str.ofString ".")]) nta).new (o := .lst [.ref ta]) nfp
    have hf1 : Ls (upd (upd H ta (.tup [V.str (Str.ofString "keys"), .str (Str.ofString ".")])) fp (.lst [.ref ta])) fp ([Sl.k dotS].map slD) :=
      ⟨_, upd_same, .cons (.new2 (.str _ kw_ok.1) (.str _ (name_ok dot_name)) ((upd_ne hta).trans upd_same)) .nil⟩
    show gName 1 _ _ (upd (upd H ta (.tup [V.str (Str.ofString "keys"), .str (Str.ofString ".")])) fp (.lst [.ref ta])) _
    generalize upd (upd H ta (.tup [V.str (Str.ofString "keys"), .str (Str.ofString ".")])) fp (.lst [.ref ta]) = H1 at e1 hv1 hf1 ⊢
    walk_at "rdn"
    obtain ⟨lag, rest, hz, _⟩ := hR.ne
    have hrl : rest.length ≤ 5 := by
      have := hR.len
      rw [hz, List.length_cons] at this
      omega
    refine rd_cut (fun σ H2 => Ext T [] H H2 ∧ Im H2 v (rmD R) ∧ ∃ (p : Addr) (a b : Option V), σ = [some v, some (.ref p), a, b, none, none] ∧ Ls H2 p ((Sl.k dotS :: R.zs.tail.flatMap fun z => [.k z.1, .l z.1, .h z.1]).map slD)) (fun nx' hnx => ?_) (fun σ H2 h => ?_)
    · walk_at "rd"
      refine rd_ixI (d := .tuple (R.zs.map siD)) hv1 rfl fun u hu => ?_
      obtain ⟨zp, xs, rfl, hzp, hzi⟩ := hu.tup'
      have hxl : xs.length = 1 + rest.length := by
        rw [hzi.len, List.length_map, hz, List.length_cons]
        omega
      walk_at "rd"
      refine rd_slT (SqT.of hzp) (fun h => ?_) fun sp nsp => ?_
      · have h0 := h.1
        rw [show HT.sIx xs.length 0 (some 1) = min 1 xs.length from HT.sIx_nat xs.length 0 1] at h0
        omega
      rw [cutV_from (α := V) xs (by decide), show Int.toNat 1 = 1 from rfl]
      have e2 := e1.newR (o := .tup (xs.drop 1)) nsp
      have hv2 := hv1.new (o := .tup (xs.drop 1)) nsp
      have hf2 := hf1.new (o := .tup (xs.drop 1)) nsp
      have hi2 := (hzi.drop 1).new (o := .tup (xs.drop 1)) nsp
      have hs2 : SqP (upd H1 sp (.tup (xs.drop 1))) sp (xs.drop 1) := upd_same
      have ed : R.zs.drop 1 = R.zs.tail := List.drop_one
      rw [← List.map_drop, ed] at hi2
      show ∃ a, _ ∧ ((_ ∧ ForG _ _ _ _ _ (upd H1 sp (.tup (xs.drop 1)))) ∨ (_ ∧ ForG _ _ _ _ _ (upd H1 sp (.tup (xs.drop 1)))))
      generalize upd H1 sp (.tup (xs.drop 1)) = H2 at e2 hv2 hf2 hi2 hs2 ⊢
      generalize xs.drop 1 = ys at hi2 hs2
      refine ⟨sp, rfl, .inr ⟨⟨_, SqT.of hs2⟩, ?_⟩⟩
      refine forg_tup (xs := ys) (fun i σ H3 => Ext T [] H H3 ∧ Im H3 v (rmD R) ∧ SqP H3 sp ys ∧ ImAll H3 ys (R.zs.tail.map siD) ∧ ∃ (p : Addr) (a b : Option V), σ = [some v, some (.ref p), a, b, none, none] ∧ Ls H3 p ((Sl.k dotS :: (R.zs.tail.take i).flatMap fun z => [.k z.1, .l z.1, .h z.1]).map slD))
        ⟨e2, hv2, hs2, hi2, fp, none, none, rfl, hf2⟩ (fun i σ H3 _ h => SqT.of h.2.2.1) (fun i x σ H3 hx h => ?_) (fun σ H3 h => ?_)
      · obtain ⟨e3, hv3, hs3, hi3, p, a, b, rfl, hp3⟩ := h
        obtain ⟨dz, hdz, hxz⟩ := hi3.get' hx
        rw [List.getElem?_map] at hdz
        obtain ⟨z, hzz, rfl⟩ := Option.map_eq_some_iff.mp hdz
        have hznm := hR.nm z (List.mem_of_mem_tail (List.mem_of_getElem? hzz))
        have hcl : ((Sl.k dotS :: (R.zs.tail.take i).flatMap fun z => [Sl.k z.1, .l z.1, .h z.1]).map slD).length ≤ 100 := by
          rw [List.length_map, List.length_cons, List.length_flatMap]
          have : ((R.zs.tail.take i).map fun z => ([Sl.k z.1, .l z.1, .h z.1] : List Sl).length).sum ≤ (R.zs.tail.take i).length * 3 := by
            have h := sum_le (B := 3) (l := (R.zs.tail.take i).map fun z => ([Sl.k z.1, .l z.1, .h z.1] : List Sl).length) fun x hx => by
              obtain ⟨y, _, rfl⟩ := List.mem_map.mp hx
              exact Nat.le_refl 3
            rw [List.length_map] at h
            exact h
          have h2 : (R.zs.tail.take i).length ≤ 6 := by
            rw [List.length_take, List.length_tail]
            have := hR.len
            omega
          omega
        refine rd_gpair (d1 := .str z.1) (d2 := .int z.2) hxz fun v1 v2 h1 h2 => ?_
        rw [h1.str', h2.int']
        walk_at "rd"
        refine ⟨by show 2 ≤ sizeLine; decide, fun t1 n1 => ?_⟩
        walk_at "rd"
        refine ⟨by show 2 ≤ sizeLine; decide, fun t2 n2 => ?_⟩
        walk_at "rd"
        refine ⟨by show 2 ≤ sizeLine; decide, fun t3 n3 => ?_⟩
        walk_at "rd"
        refine ⟨by show 3 ≤ sizeLine; decide, fun la nla => ?_⟩
        have i1 : Im (upd H3 t1 (.tup [V.str (Str.ofString "keys"), .str z.1])) (.ref t1) (slD (.k z.1)) := .new2 (.str _ kw_ok.1) (.str _ (name_ok hznm)) upd_same
        have x1 := e3.newR (o := .tup [V.str (Str.ofString "keys"), .str z.1]) n1
        have v1 := hv3.new (o := .tup [V.str (Str.ofString "keys"), .str z.1]) n1
        have p1 := hp3.new (o := .tup [V.str (Str.ofString "keys"), .str z.1]) n1
        have s1 := (upd_ne (o := .tup [V.str (Str.ofString "keys"), .str z.1]) ((Nw.of n1).sqp hs3)).trans hs3
        have a1 := hi3.new (o := .tup [V.str (Str.ofString "keys"), .str z.1]) n1
        generalize upd H3 t1 (.tup [V.str (Str.ofString "keys"), .str z.1]) = H4 at n2 n3 nla i1 x1 v1 p1 s1 a1 ⊢
        have i2 : Im (upd H4 t2 (.tup [V.str (Str.ofString "link"), .str z.1])) (.ref t2) (slD (.l z.1)) := .new2 (.str _ kw_ok.2.1) (.str _ (name_ok hznm)) upd_same
        have i1 := i1.new (o := .tup [V.str (Str.ofString "link"), .str z.1]) n2
        have x2 := x1.newR (o := .tup [V.str (Str.ofString "link"), .str z.1]) n2
        have v2 := v1.new (o := .tup [V.str (Str.ofString "link"), .str z.1]) n2
        have p2 := p1.new (o := .tup [V.str (Str.ofString "link"), .str z.1]) n2
        have s2 := (upd_ne (o := .tup [V.str (Str.ofString "link"), .str z.1]) ((Nw.of n2).sqp s1)).trans s1
        have a2 := a1.new (o := .tup [V.str (Str.ofString "link"), .str z.1]) n2
        generalize upd H4 t2 (.tup [V.str (Str.ofString "link"), .str z.1]) = H5 at n3 nla i1 i2 x2 v2 p2 s2 a2 ⊢
        have i3 : Im (upd H5 t3 (.tup [V.str (Str.ofString "hosts"), .str z.1])) (.ref t3) (slD (.h z.1)) := .new2 (.str _ kw_ok.2.2.1) (.str _ (name_ok hznm)) upd_same
        have i1 := i1.new (o := .tup [V.str (Str.ofString "hosts"), .str z.1]) n3
        have i2 := i2.new (o := .tup [V.str (Str.ofString "hosts"), .str z.1]) n3
        have x3 := x2.newR (o := .tup [V.str (Str.ofString "hosts"), .str z.1]) n3
        have v3 := v2.new (o := .tup [V.str (Str.ofString "hosts"), .str z.1]) n3
        have p3 := p2.new (o := .tup [V.str (Str.ofString "hosts"), .str z.1]) n3
        have s3 := (upd_ne (o := .tup [V.str (Str.ofString "hosts"), .str z.1]) ((Nw.of n3).sqp s2)).trans s2
        have a3 := a2.new (o := .tup [V.str (Str.ofString "hosts"), .str z.1]) n3
        generalize upd H5 t3 (.tup [V.str (Str.ofString "hosts"), .str z.1]) = H6 at nla i1 i2 i3 x3 v3 p3 s3 a3 ⊢
        have l4 : Ls (upd H6 la (.lst [.ref t1, .ref t2, .ref t3])) la ([Sl.k z.1, .l z.1, .h z.1].map slD) := ⟨_, upd_same, .cons (i1.new nla) (.cons (i2.new nla) (.cons (i3.new nla) .nil))⟩
        have x4 := x3.newR (o := .lst [V.ref t1, .ref t2, .ref t3]) nla
        have v4 := v3.new (o := .lst [V.ref t1, .ref t2, .ref t3]) nla
        have p4 := p3.new (o := .lst [V.ref t1, .ref t2, .ref t3]) nla
        have s4 := (upd_ne (o := .lst [V.ref t1, .ref t2, .ref t3]) ((Nw.of nla).sqp s3)).trans s3
        have a4 := a3.new (o := .lst [V.ref t1, .ref t2, .ref t3]) nla
        show rPlus _ _ _ (upd H6 la (.lst [.ref t1, .ref t2, .ref t3])) _
        generalize upd H6 la (.lst [.ref t1, .ref t2, .ref t3]) = H7 at l4 x4 v4 p4 s4 a4 ⊢
        obtain ⟨px, hpx, hpi⟩ := p4.list
        obtain ⟨lx, hlx, hli⟩ := l4.list
        have hl3 : lx.length = 3 := hli.len
        refine rd_cat hpx hlx (Nat.le_trans (show _ ≤ 200 by rw [hpi.len]; omega) (by decide)) fun p' np' => ?_
        refine rd_name ⟨x4.newR np', v4.new np', (upd_ne ((Nw.of np').sqp s4)).trans s4, a4.new np', p', _, _, rfl, px ++ lx, upd_same, ?_⟩
        rw [List.take_add_one, hzz, List.flatMap_append, ← List.cons_append, List.map_append]
        exact (hpi.new np').app (hli.new np')
      · obtain ⟨e3, hv3, hs3, hi3, p, a, b, rfl, hp3⟩ := h
        rw [show ys.length = R.zs.tail.length by rw [hi3.len, List.length_map], List.take_length] at hp3
        exact hnx _ _ ⟨e3, hv3, p, a, b, rfl, hp3⟩
    · obtain ⟨e2, hv2, p, a, b, rfl, hp2⟩ := h
      walk_at "rd"
      refine rd_ixI (d := .tuple (R.ss.map ssD)) hv2 rfl fun u hu => ?_
      obtain ⟨sp, xs, rfl, hsp, hsi⟩ := hu.tup'
      refine ⟨sp, rfl, .inr ⟨⟨_, SqT.of hsp⟩, ?_⟩⟩
      have hxl : xs.length ≤ 7 := by
        rw [hsi.len, List.length_map]
        exact hR.slen
      refine lcg_im T [] walk_tup xs rfl (fun i H x H' y => y) (fun _ => True) trivial (fun _ _ _ => trivial) (fun _ _ _ _ _ _ _ => trivial) (fun _ _ => Lsts.nil) (fun H' e _ => e.seqT (by simp) (SqT.of hsp)) (Nat.lt_of_le_of_lt hxl (by decide)) (fun _ => true) (fun d x => ∃ r : Str × Str, Im H2 x (ssD r) ∧ d = slD (.s r.1 r.2)) (fun i x hx H' e' _ R' S h1 h2 => ?_) (fun D H3 ds nD e3 _ hD hds => ?_)
      · obtain ⟨dr, hdr, hxr⟩ := hsi.get' hx
        rw [List.getElem?_map] at hdr
        obtain ⟨r, hr, rfl⟩ := Option.map_eq_some_iff.mp hdr
        have hro := hR.sok r (List.mem_of_getElem? hr)
        refine rd_gpair (d1 := .str r.1) (d2 := .str r.2) (Im.ext e' Lsts.nil _ _ hxr) fun v1 v2 g1 g2 => ?_
        rw [g1.str', g2.str']
        refine ⟨rfl, ?_⟩
        walk_at "rd"
        refine ⟨by show 3 ≤ sizeLine; decide, fun tt nt => ?_⟩
        exact h1 rfl _ _ _ (.new nt) trivial (.new3 (.str _ kw_ok.2.2.2) (.str _ (name_ok hro.1)) (.str _ (id_ok hro.2)) upd_same) ⟨r, hxr, rfl⟩
      · rw [filtT] at hds
        have hd : ds = (R.ss.map fun p => Sl.s p.1 p.2).map slD := by
          have key : ∀ {ds : List PyData} {xs : List V} {rs : List (Str × Str)}, ImAll H2 xs (rs.map ssD) → PySem.W.EachIs (fun d x => ∃ r : Str × Str, Im H2 x (ssD r) ∧ d = slD (.s r.1 r.2)) ds xs → ds = (rs.map fun p => Sl.s p.1 p.2).map slD := by
            intro ds xs rs
            induction rs generalizing ds xs with
            | nil =>
              intro h1 h2
              cases h1
              cases h2
              rfl
            | cons r rs ih =>
              intro h1 h2
              cases h1 with
              | cons a b =>
                cases h2 with
                | cons c d =>
                  obtain ⟨r', c1, c2⟩ := c
                  have e := ssD_inj (Im.inj _ _ _ a c1)
                  rw [ih b d, c2, ← e]
                  rfl
          exact key hsi hds
        rw [hd] at hD
        have hp3 := hp2.ext e3 (by simp) Lsts.nil
        obtain ⟨px, hpx, hpi⟩ := hp3.list
        obtain ⟨dx, hdx, hdi⟩ := hD.list
        refine rd_cat hpx hdx ?_ fun p' np' => ?_
        · rw [hpi.len, hdi.len, List.length_map, List.length_map, List.length_map, List.length_cons, List.length_flatMap]
          have : ((R.zs.tail).map fun z => ([Sl.k z.1, .l z.1, .h z.1] : List Sl).length).sum ≤ (R.zs.tail).length * 3 := by
            have h := sum_le (B := 3) (l := (R.zs.tail).map fun z => ([Sl.k z.1, .l z.1, .h z.1] : List Sl).length) fun x hx => by
              obtain ⟨y, _, rfl⟩ := List.mem_map.mp hx
              exact Nat.le_refl 3
            rw [List.length_map] at h
            exact h
          have h2 : (R.zs.tail).length ≤ 6 := by
            rw [List.length_tail]
            have := hR.len
            omega
          have := hR.slen
          exact Nat.le_trans (show _ ≤ 200 by omega) (by decide)
        · refine q p' _ ((e2.trans e3).back (by simp) (.of np')) ((e2.trans e3).newR np') ⟨px ++ dx, upd_same, ?_⟩
          unfold slotsR
          rw [List.map_append]
          exact (hpi.new np').app (hdi.new np')
theorem ok_law_home (D : Def K mg "_law_home" s_law_home ["realm", "slot"]) (G_law_chain : Ok P w K mg base 1 "_law_chain" ["realm", "name"] (spChainL T)) : Ok P w K mg base 2 "_law_home" ["realm", "slot"] (spHome T) := by
  refine D.ok sc_law_home (fun vs H Q E h => ?_) (fun cdv f A outer s H vs Q E hr h => ?_)
  · obtain ⟨v, u, R, s, rfl, _⟩ := h
    rfl
  · obtain ⟨v, u, R, sl, rfl, hv, hu, hR, hs, q⟩ := h
    refine ⟨_, (pss_cons (ps_if (pt_cmpR (op_eqU K rfl hr.units) (pe_ix (ix_U K rfl) (pv 1) pe_int (fun _ _ => rfl)) pe_str (nomark _)) (pss_one (ps_ret (pe_ix (ix_U K rfl) (pv 1) pe_int (fun _ _ => rfl)))) pss_nil)
   (pss_cons (ps_set (i := 2) sc_law_home.nd rfl (.inl rfl) (pe_callO G_law_chain (hr.mono (by decide)) (by rfl) (pa_cons (pv 0) (pa_cons (pe_ix (ix_U K rfl) (pv 1) pe_int (fun _ _ => rfl)) pa_nil))))
   (pss_one (ps_ret (pe_ifExp (pt_cmpR (op_eqU K rfl hr.units) (pe_ix (ix_U K rfl) (pv 1) pe_int (fun _ _ => rfl)) pe_str (nomark _)) (pe_ix (ix_U K rfl) (pv 2) (pe_un un_neg pe_int) (fun _ _ => rfl)) (pe_ix (ix_U K rfl) (pv 2) (pe_un un_neg pe_int) (fun _ _ => rfl))))))), ?_⟩
    refine rd_seq ?_
    have hz0 : ∀ z ∈ R.zs.map (·.1), nameB z = true := fun z hz => by
      obtain ⟨y, hy, rfl⟩ := List.mem_map.mp hz
      exact hR.nm y hy
    have hdotm : dotS ∈ R.zs.map (·.1) := by
      obtain ⟨lag, rest, e, _⟩ := hR.ne
      rw [e]
      simp
    have hchm : ∀ n z, z ∈ chL R n → z ∈ R.zs.map (·.1) := fun n z h => by
      rcases chL_mem.mp h with h | ⟨y, hy, _, h⟩
      · rw [h]
        exact hdotm
      · rw [← h]
        exact List.mem_map_of_mem hy
    have hlast : ∀ n, ∃ z, (chL R n).getLast? = some z ∧ z ∈ chL R n := fun n => last_some fun e => by
      have := chL_len R n
      rw [e] at this
      simp only [List.length_nil] at this
      omega
    have hlast2 : ∀ y ∈ R.zs.tail, ∃ z, (chL R y.1).dropLast.getLast? = some z ∧ z ∈ chL R y.1 := fun y hy => by
      have hy2 : y ∈ R.zs.filter (onZ y.1) := List.mem_filter.mpr ⟨List.mem_of_mem_tail hy, by
        obtain ⟨lag, rest, e, h⟩ := hR.ne
        rw [e] at hy
        unfold onZ
        rw [decide_eq_false (h y hy), ends_self]
        rfl⟩
      have := List.length_pos_of_mem hy2
      have h2 := chL_len R y.1
      obtain ⟨z, h3, h4⟩ := last_some (l := (chL R y.1).dropLast) fun e => by
        have h5 := congrArg List.length e
        rw [List.length_dropLast] at h5
        simp only [List.length_nil] at h5
        omega
      exact ⟨z, h3, List.dropLast_subset _ h4⟩
    have hnk : ∀ x ∈ R.zs.tail, nameB x.1 = true := fun x hx => hR.nm x (List.mem_of_mem_tail hx)
    have hcase : (∃ z ∈ R.zs.map (·.1), sl = .k z) ∨ (∃ y ∈ R.zs.tail, sl = .l y.1 ∨ sl = .h y.1) ∨ ∃ p ∈ R.ss, sl = .s p.1 p.2 := by
      unfold slotsR at hs
      rcases List.mem_append.mp hs with hs | hs
      · rcases List.mem_cons.mp hs with hs | hs
        · exact .inl ⟨dotS, hdotm, hs⟩
        · obtain ⟨y, hy, h⟩ := List.mem_flatMap.mp hs
          simp only [List.mem_cons, List.not_mem_nil, or_false] at h
          rcases h with h | h | h
          · exact .inl ⟨y.1, List.mem_map_of_mem (List.mem_of_mem_tail hy), h⟩
          · exact .inr (.inl ⟨y, hy, .inl h⟩)
          · exact .inr (.inl ⟨y, hy, .inr h⟩)
      · obtain ⟨p, hp, h⟩ := List.mem_map.mp hs
        exact .inr (.inr ⟨p, hp, h.symm⟩)
    rcases hcase with ⟨z, hz, rfl⟩ | ⟨y, hy, hsl⟩ | ⟨p, hp, rfl⟩
    · have hu : Im H u (.tuple [.str (Str.ofString "keys"), .str z]) := hu
      walk_at "rdn"
      refine rd_ixSs hu rfl ?_
      walk_at "rdn"
      refine rd_ite (fun _ => ?_) (fun h => absurd rfl h)
      walk_at "rdn"
      refine rd_ixSs hu rfl ?_
      exact q H .refl hz
    · obtain ⟨kw, hk1, hk2, hu, hq⟩ : ∃ kw : Str, ¬ kw = Str.ofString "keys" ∧ ¬ kw = Str.ofString "set" ∧ Im H u (.tuple [.str kw, .str y.1]) ∧ homeR R sl = (chL R y.1).dropLast.getLast?.getD dotS := by
        rcases hsl with rfl | rfl
        · exact ⟨"link", by decide +kernel, by decide +kernel, hu, rfl⟩
        · exact ⟨"hosts", by decide +kernel, by decide +kernel, hu, rfl⟩
      rw [hq] at q
      obtain ⟨z, hz1, hz2⟩ := hlast2 y hy
      rw [hz1] at q
      walk_at "rdn"
      refine rd_ixSs hu rfl ?_
      walk_at "rdn"
      refine rd_ite (fun h => absurd h hk1) (fun _ => ?_)
      walk_at "rd"
      refine rd_ixSs hu rfl ?_
      walk_at "rd"
      refine ⟨v, R, y.1, rfl, hv, hR, hnk y hy, fun cp H1 np e1 hcp => ?_⟩
      walk_at "rd"
      refine rd_ixSs (Im.ext e1 Lsts.nil _ _ hu) rfl ?_
      walk_at "rd"
      refine rd_ite (fun h => absurd h hk2) (fun _ => ?_)
      walk_at "rd"
      refine rd_ixL (v := .str z) (SqL.of hcp) (at_last2 (by rw [← List.map_dropLast, List.getLast?_map, hz1]; rfl)) ?_
      exact q H1 e1 (hchm _ _ hz2)
    · have hu : Im H u (.tuple [.str (Str.ofString "set"), .str p.1, .str p.2]) := hu
      obtain ⟨z, hz1, hz2⟩ := hlast p.1
      have hq : homeR R (.s p.1 p.2) = (chL R p.1).getLast?.getD dotS := rfl
      rw [hq, hz1] at q
      walk_at "rdn"
      refine rd_ixSs hu rfl ?_
      walk_at "rdn"
      refine rd_ite (fun h => absurd h (by decide +kernel)) (fun _ => ?_)
      walk_at "rd"
      refine rd_ixSs hu rfl ?_
      walk_at "rd"
      refine ⟨v, R, p.1, rfl, hv, hR, (hR.sok p hp).1, fun cp H1 np e1 hcp => ?_⟩
      walk_at "rd"
      refine rd_ixSs (Im.ext e1 Lsts.nil _ _ hu) rfl ?_
      walk_at "rd"
      refine rd_ite (fun _ => ?_) (fun h => absurd rfl h)
      walk_at "rd"
      refine rd_ixL (v := .str z) (SqL.of hcp) (at_last (by rw [List.getLast?_map, hz1]; rfl)) ?_
      exact q H1 e1 (hchm _ _ hz2)
end

open PySem PySem.Spec PyProof.Rows L2
open PySem.W (EachIs)
/-! ### the keys of the zones: a list of pairs whose seconds are lists -/
def PoolRow (H : Hp) (ms : List Addr) (v : V) (r : Str × List Str) : Prop := ∃ ta pa, v = .ref ta ∧ H ta = some (.tup [.str r.1, .ref pa]) ∧ H pa = some (.lst (r.2.map V.str)) ∧ pa ∉ ms
def Pools (H : Hp) (t a : Addr) (ps : List (Str × List Str)) : Prop := ∃ xs, H a = some (.lst xs) ∧ a ≠ t ∧ EachIs (PoolRow H [t]) xs ps
theorem PoolRow.ext {T : List (Addr × Str)} {ms ms' : List Addr} {H H' : Hp} {v : V} {r : Str × List Str} (h : PoolRow H ms v r) (e : Ext T ms' H H') (hs : ∀ b ∈ ms', b ∈ ms) (hl : Lsts H ms') : PoolRow H' ms v r := by
  obtain ⟨ta, pa, e1, e2, e3, e4⟩ := h
  exact ⟨ta, pa, e1, SqP.ext (xs := [.str r.1, .ref pa]) e2 e hl, e.lst (fun hb => e4 (hs _ hb)) e3, e4⟩
theorem rows_ext {T : List (Addr × Str)} {ms ms' : List Addr} {H H' : Hp} {xs : List V} {ps : List (Str × List Str)} (h : EachIs (PoolRow H ms) xs ps) (e : Ext T ms' H H') (hs : ∀ b ∈ ms', b ∈ ms) (hl : Lsts H ms') : EachIs (PoolRow H' ms) xs ps := h.mono fun _ _ x => x.ext e hs hl
theorem rows_weak {ms ms' : List Addr} {H : Hp} {xs : List V} {ps : List (Str × List Str)} (h : EachIs (PoolRow H ms) xs ps) (hs : ∀ b ∈ ms', b ∈ ms) : EachIs (PoolRow H ms') xs ps := h.mono fun _ _ ⟨ta, pa, e1, e2, e3, e4⟩ => ⟨ta, pa, e1, e2, e3, fun hb => e4 (hs _ hb)⟩
theorem Pools.ext {T : List (Addr × Str)} {H H' : Hp} {l t a : Addr} {ps : List (Str × List Str)} (h : Pools H t a ps) (e : Ext T [t] H H') (hT : Tape l H t) : Pools H' t a ps := by
  obtain ⟨xs, h1, h2, h3⟩ := h
  exact ⟨xs, e.lst (by simpa using h2) h1, h2, rows_ext h3 e (fun _ h => h) hT.lsts⟩
theorem Pools.new {H : Hp} {t a q : Addr} {o : HO} {ps : List (Str × List Str)} (h : Pools H t a ps) (hq : H q = none) : Pools (upd H q o) t a ps := by
  obtain ⟨xs, h1, h2, h3⟩ := h
  have e : Ext [] [] H (upd H q o) := .new hq
  exact ⟨xs, e.lst (by simp) h1, h2, rows_ext h3 e (by simp) Lsts.nil⟩
theorem Pools.ext0 {T : List (Addr × Str)} {H H' : Hp} {t a : Addr} {ps : List (Str × List Str)} (h : Pools H t a ps) (e : Ext T [] H H') : Pools H' t a ps := by
  obtain ⟨xs, h1, h2, h3⟩ := h
  exact ⟨xs, e.lst (by simp) h1, h2, rows_ext h3 e (by simp) Lsts.nil⟩
structure PsOk (R : Rm) (ps : List (Str × List Str)) : Prop where
  nm : ps.map (·.1) = R.zs.map (·.1)
  nd : ∀ p ∈ ps, p.2.Nodup
  ok : ∀ p ∈ ps, ∀ y ∈ p.2, idB y = true
  len : ∀ p ∈ ps, p.2.length = 3
structure ItmOk (s : Sl) (i : Itm) : Prop where
  c : ∃ cs : List Str, i.c = srtS cs ∧ cs.Nodup ∧ (∀ y ∈ cs, idB y = true) ∧ cs.length ≤ 4
  g : ∃ gs : List Str, i.g = srtS gs ∧ gs.Nodup ∧ (∀ y ∈ gs, idB y = true) ∧ gs.length ≤ 3
  li : 1 ≤ i.li ∧ i.li ≤ 1000
  ab : 0 ≤ i.a ∧ i.a ≤ i.b ∧ i.b ≤ 10000
  h : ∀ z, s = .h z → i.g = [] ∧ i.a = 0 ∧ i.b = 10000
section
variable (T : List (Addr × Str))
def spPools : Sp := fun vs H Q _ => ∃ (l t : Addr) (v : V) (R : Rm), vs = [.ref t, v] ∧ Tape l H t ∧ Im H v (rmD R) ∧ RmIn R ∧ ∀ (a : Addr) (ps : List (Str × List Str)) (H' : Hp), Nw H a → Pools H' t a ps → PsOk R ps → Ext T [t] H H' → Tape l H' t → Q (.ref a) H'
def spPool : Sp := fun vs H Q _ => ∃ (t a : Addr) (ps : List (Str × List Str)) (z : Str) (ks : List Str), vs = [.ref a, .str z] ∧ Pools H t a ps ∧ ps.length ≤ 6 ∧ (ps.map (·.1)).Nodup ∧ (z, ks) ∈ ps ∧
  ∀ (pa : Addr) (H' : Hp), pa ≠ t → H pa = some (.lst (ks.map V.str)) → Ext T [] H H' → Q (.ref pa) H'
def spItem : Sp := fun vs H Q _ => ∃ (ca sa : Addr) (cs gs : List Str) (li : Int), vs = [.ref ca, .int li, .ref sa] ∧ H ca = some (.lst (cs.map V.str)) ∧ H sa = some (.lst (gs.map V.str)) ∧ (∀ y ∈ cs, idB y = true) ∧ (∀ y ∈ gs, idB y = true) ∧
  ∀ (v : V) (H' : Hp), Ext T [] H H' → Im H' v (itD ⟨srtS cs, li, srtS gs, 0, 10000⟩) → Q v H'
def spFirst : Sp := fun vs H Q _ => ∃ (l t pa : Addr) (v u : V) (R : Rm) (ps : List (Str × List Str)) (s : Sl), vs = [.ref t, v, .ref pa, u] ∧ Tape l H t ∧ Im H v (rmD R) ∧ RmIn R ∧ Pools H t pa ps ∧ PsOk R ps ∧ Im H u (slD s) ∧ s ∈ slotsR R ∧
  ∀ (x : V) (i : Itm) (H' : Hp), ItmOk s i → Im H' x (itD i) → Ext T [t] H H' → Tape l H' t → Q x H'
end
theorem filter_key {ps : List (Str × List Str)} {z : Str} {ks : List Str} (hn : (ps.map (·.1)).Nodup) (hm : (z, ks) ∈ ps) : ps.filter (fun p => decide (p.1 = z)) = [(z, ks)] := by
  induction ps with
  | nil => cases hm
  | cons p ps ih =>
    rw [List.map_cons, List.nodup_cons] at hn
    rcases List.mem_cons.mp hm with e | hm
    · subst e
      rw [List.filter_cons_of_pos (by simp), List.filter_eq_nil_iff.mpr]
      intro y hy h
      have h2 : y.1 = z := of_decide_eq_true h
      exact hn.1 (List.mem_map.mpr ⟨y, hy, h2⟩)
    · rw [List.filter_cons_of_neg, ih hn.2 hm]
      intro h
      have h2 : p.1 = z := of_decide_eq_true h
      exact hn.1 (List.mem_map.mpr ⟨_, hm, h2.symm⟩)
theorem filter_others {ks : List Str} {a : Str} (hn : ks.Nodup) : ks.length ≤ (ks.filter fun k => !decide (k = a)).length + 1 := by
  induction ks with
  | nil => simp
  | cons k ks ih =>
    rw [List.nodup_cons] at hn
    by_cases h : k = a
    · rw [List.filter_cons_of_neg (by simp [h])]
      have : ks.filter (fun k => !decide (k = a)) = ks := List.filter_eq_self.mpr fun x hx => by
        simp only [Bool.not_eq_true', decide_eq_false_iff_not]
        intro e
        rw [← h] at e
        rw [e] at hx
        exact hn.1 hx
      rw [this]
      simp
    · rw [List.filter_cons_of_pos (by simp [h])]
      have := ih hn.2
      simp only [List.length_cons]
      omega

open PySem PySem.Spec PyProof.Rows L2

section
variable {T : List (Addr × Str)} {P : Program} {w : World} {K : PySem.W.Frag} {mg : Str → Option Value} {base : Heap}
theorem ok_law_item (D : Def K mg "_law_item" s_law_item ["content", "life", "signers"]) (mb : ∀ x ∈ bltns, mg x = none) : Ok P w K mg base 1 "_law_item" ["content", "life", "signers"] (spItem T) := by
  refine D.ok sc_law_item (fun vs H Q E h => ?_) (fun cdv f A outer s H vs Q E hr h => ?_)
  · obtain ⟨ca, sa, cs, gs, li, rfl, _⟩ := h
    rfl
  · obtain ⟨ca, sa, cs, gs, li, rfl, hc, hg, hco, hgo, q⟩ := h
    refine ⟨_, (pss_one (ps_ret (pe_tup (pa_cons (pe_callTy (call_tupU K rfl) (by rfl) (mb _ (by decide)) (by decide +kernel) (pa_cons (pe_callB (call_sortedU K rfl hr.units) (by rfl) (mb _ (by decide)) (by decide +kernel) (pa_cons (pv 0) pa_nil)) pa_nil)) (pa_cons (pv 1) (pa_cons (pe_callTy (call_tupU K rfl) (by rfl) (mb _ (by decide)) (by decide +kernel) (pa_cons (pe_callB (call_sortedU K rfl hr.units) (by rfl) (mb _ (by decide)) (by decide +kernel) (pa_cons (pv 2) pa_nil)) pa_nil)) (pa_cons pe_int (pa_cons pe_int pa_nil)))))))), ?_⟩
    walk_at "rd"
    refine rd_sortI (ds := cs.map .str) ⟨_, hc, ImAll.strs fun z hz => id_ok (hco z hz)⟩ (alike_s cs) (sortable_s cs) (depth_s cs) fun s1 ys n1 hys => ?_
    rw [srtS_eq] at hys
    have e1 : Ext T [] H (upd H s1 (.lst ys)) := .new n1
    have hg1 := (upd_ne (o := .lst ys) ((Nw.of n1).lst hg)).trans hg
    have hy1 := hys.new (o := .lst ys) n1
    have hs1 : (upd H s1 (.lst ys)) s1 = some (.lst ys) := upd_same
    show tNil _ (upd H s1 (.lst ys)) _
    generalize upd H s1 (.lst ys) = H1 at e1 hg1 hy1 hs1 ⊢
    walk_at "rd"
    refine rd_tupL (SqL.of hs1) fun t1 nt1 => ?_
    have e2 := e1.newR (o := .tup ys) nt1
    have hg2 := (upd_ne (o := .tup ys) ((Nw.of nt1).lst hg1)).trans hg1
    have hc2 : Im (upd H1 t1 (.tup ys)) (.ref t1) (.tuple ((srtS cs).map .str)) := .tup upd_same (hy1.new nt1)
    show tCons _ _ _ (upd H1 t1 (.tup ys)) _
    generalize upd H1 t1 (.tup ys) = H2 at e2 hg2 hc2 ⊢
    walk_at "rd"
    refine rd_sortI (ds := gs.map .str) ⟨_, hg2, ImAll.strs fun z hz => id_ok (hgo z hz)⟩ (alike_s gs) (sortable_s gs) (depth_s gs) fun s3 zs n3 hzs => ?_
    rw [srtS_eq] at hzs
    have e3 := e2.newR (o := .lst zs) n3
    have hc3 := hc2.new (o := .lst zs) n3
    have hz3 := hzs.new (o := .lst zs) n3
    have hs3 : (upd H2 s3 (.lst zs)) s3 = some (.lst zs) := upd_same
    show tNil _ (upd H2 s3 (.lst zs)) _
    generalize upd H2 s3 (.lst zs) = H3 at e3 hc3 hz3 hs3 ⊢
    walk_at "rd"
    refine rd_tupL (SqL.of hs3) fun t4 nt4 => ?_
    have e4 := e3.newR (o := .tup zs) nt4
    have hc4 := hc3.new (o := .tup zs) nt4
    have hg4 : Im (upd H3 t4 (.tup zs)) (.ref t4) (.tuple ((srtS gs).map .str)) := .tup upd_same (hz3.new nt4)
    show tCons _ _ _ (upd H3 t4 (.tup zs)) _
    generalize upd H3 t4 (.tup zs) = H4 at e4 hc4 hg4 ⊢
    walk_at "rd"
    refine ⟨by show 5 ≤ sizeLine; decide, fun r nr => ?_⟩
    exact q _ _ (e4.newR nr) (.tup upd_same (.cons (hc4.new nr) (.cons (.int _) (.cons (hg4.new nr) (.cons (.int _) (.cons (.int _) .nil))))))
theorem ok_law_pool (D : Def K mg "_law_pool" s_law_pool ["pools", "zone"]) (mb : ∀ x ∈ bltns, mg x = none) : Ok P w K mg base 1 "_law_pool" ["pools", "zone"] (spPool T) := by
  refine D.ok sc_law_pool (fun vs H Q E h => ?_) (fun cdv f A outer s H vs Q E hr h => ?_)
  · obtain ⟨t, a, ps, z, ks, rfl, _⟩ := h
    rfl
  · obtain ⟨t, a, ps, z, ks, rfl, hP, hpl, hnd, hm, q⟩ := h
    obtain ⟨xs, ha, hat, hrows⟩ := hP
    refine ⟨_, (pss_one (ps_ret (pe_ix (ix_U K rfl) (pe_lc (own := [("name", 2), ("pool", 3)]) rfl sc_law_pool.nd (pi_seq K rfl (pv 0)) (blkOk_by (N := N_law_pool) (sc := defScope s_law_pool) (by decide +kernel)) (fun _ _ _ _ _ => (pg_tupU (n := 2) K rfl rfl (pgs_cons (pg_name (i := 2) sc_law_pool.nd rfl (Or.inl rfl)) (pgs_cons (pg_name (i := 3) sc_law_pool.nd rfl (Or.inl rfl)) pgs_nil)))) (fun _ _ _ _ _ => (pts_one (pt_cmpR (op_eqU K rfl hr.units) (pv 2) (pv 1) (nomark _)))) (fun _ _ _ _ _ => (pv 3))) pe_int (fun _ _ => rfl)))), ?_⟩
    walk_at "rd"
    have hxl : xs.length ≤ 6 := by
      rw [hrows.length]
      exact hpl
    refine lcg_rel T [] walk_list xs rfl (fun i H x H' y => y) (by simp) (fun H' e => e.seqL (by simp) (SqL.of ha)) (Nat.lt_of_le_of_lt hxl (by decide)) (fun x => match x with | .ref b => (match H b with | some (.tup [.str u, _]) => decide (u = z) | _ => false) | _ => false) (fun v x => ∃ r ta pa, x = .ref ta ∧ v = .ref pa ∧ H ta = some (.tup [.str r, .ref pa]) ∧ pa ≠ t) (fun i x hx H' e' R S h1 h2 => ?_) (fun D H1 us nD e1 hD hus => ?_)
    · obtain ⟨r, _, ta, pa, rfl, hta, hpa, hpt⟩ : ∃ r ∈ ps, PoolRow H [t] x r := hrows.left x (List.mem_of_getElem? hx)
      have hta' := e'.tup (by simp) hta
      refine rd_gtup (SqT.of hta') rfl ?_
      walk_at "rd"
      refine ⟨rfl, ?_⟩
      walk_at "rd"
      refine rd_ite (fun hz => ?_) (fun hz => ?_)
      · walk_at "rd"
        exact h1 (by simp only [hta]; exact decide_eq_true hz) _ _ .refl ⟨r.1, ta, pa, rfl, rfl, hta, by simpa using hpt⟩
      · exact h2 (by simp only [hta]; exact decide_eq_false hz) _ .refl
    · have key : ∀ {xs : List V} {ps : List (Str × List Str)}, PySem.W.EachIs (PoolRow H [t]) xs ps → PySem.W.EachIs (PoolRow H [t]) (xs.filter fun x => match x with | .ref b => (match H b with | some (.tup [.str u, _]) => decide (u = z) | _ => false) | _ => false) (ps.filter fun p => decide (p.1 = z)) := by
        intro xs ps h
        induction h with
        | nil => exact .nil
        | cons a b ih =>
          obtain ⟨ta, pa, rfl, hta, hpa, hpt⟩ := a
          rename_i r _ _
          by_cases hz : r.1 = z
          · rw [List.filter_cons_of_pos (by simp only [hta]; exact decide_eq_true hz), List.filter_cons_of_pos (by exact decide_eq_true hz)]
            exact .cons ⟨ta, pa, rfl, hta, hpa, hpt⟩ ih
          · rw [List.filter_cons_of_neg (by simp only [hta]; simp [hz]), List.filter_cons_of_neg (by simp [hz])]
            exact ih
      have h3 := key hrows
      rw [filter_key hnd hm] at h3
      generalize xs.filter _ = fx at h3 hus
      cases h3 with
      | cons a b =>
        cases b
        cases hus with
        | cons c d =>
          cases d
          obtain ⟨ta, pa, e1', hta, hpa, hpt⟩ := a
          obtain ⟨r, ta', pa', e2', rfl, hta2, hpt2⟩ := c
          rw [e1'] at e2'
          injection e2' with e2'
          subst e2'
          rw [hta] at hta2
          injection hta2 with hta2
          injection hta2 with hta2
          injection hta2 with _ hta2
          injection hta2 with hta2 _
          injection hta2 with hta2
          subst hta2
          walk_at "rd"
          exact q pa H1 hpt2 hpa e1
end

open PySem PySem.Spec PyProof.Rows L2

section
variable {T : List (Addr × Str)} {P : Program} {w : World} {K : PySem.W.Frag} {mg : Str → Option Value} {base : Heap}
theorem at_zero {α : Type} (x : α) (l : List α) : atI (x :: l) 0 = some x := atI_nat (j := 0) rfl
theorem ok_law_pools (D : Def K mg "_law_pools" s_law_pools ["tape", "realm"]) (mb : ∀ x ∈ bltns, mg x = none) (G_law_ids : Ok P w K mg base 4 "_law_ids" ["tape", "many"] (spIds T)) : Ok P w K mg base 5 "_law_pools" ["tape", "realm"] (spPools T) := by
  refine D.ok sc_law_pools (fun vs H Q E h => ?_) (fun cdv f A outer s H vs Q E hr h => ?_)
  · obtain ⟨l, t, v, R, rfl, _⟩ := h
    rfl
  · obtain ⟨l, t, v, R, rfl, hT, hv, hR, q⟩ := h
    refine ⟨_, (pss_cons (ps_set (i := 2) sc_law_pools.nd rfl (.inl rfl) (pe_lst pa_nil))
   (pss_cons (ps_for PassesOwn.never rfl (pi_seq K rfl (pe_ix (ix_U K rfl) (pv 1) pe_int (fun _ _ => rfl))) (pg_tupU (n := 2) K rfl rfl (pgs_cons (pg_name (i := 3) sc_law_pools.nd rfl (.inl rfl)) (pgs_cons (pg_name (i := 4) sc_law_pools.nd rfl (.inl rfl)) pgs_nil))) (pss_cons (ps_set (i := 5) sc_law_pools.nd rfl (.inl rfl) (pe_callO G_law_ids (hr.mono (by decide)) (by rfl) (pa_cons (pv 0) (pa_cons pe_int pa_nil))))
   (pss_cons (ps_if (pt_cmpR (op_eqU K rfl hr.units) (pv 3) pe_str (nomark _)) (pss_one (ps_set (i := 5) sc_law_pools.nd rfl (.inl rfl) (pe_op (op_plus K rfl) (pe_lst (pa_cons (pe_ix (ix_U K rfl) (pe_ix (ix_U K rfl) (pv 1) pe_int (fun _ _ => rfl)) pe_int (fun _ _ => rfl)) pa_nil)) (pe_slice (sl_U K rfl) (pe_lc (own := [("key", 6)]) (g := gName 6) rfl sc_law_pools.nd (pi_seq K rfl (pv 5)) (blkOk_by (N := N_law_pools) (sc := defScope s_law_pools) (by decide +kernel)) (fun _ _ _ _ _ => (pg_name (i := 6) sc_law_pools.nd rfl (Or.inl rfl))) (fun _ _ _ _ _ => (pts_one (pt_cmpR (op_neU K rfl hr.units) (pv 6) (pe_ix (ix_U K rfl) (pe_ix (ix_U K rfl) (pv 1) pe_int (fun _ _ => rfl)) pe_int (fun _ _ => rfl)) (nomark _)))) (fun _ _ _ _ _ => (pv 6))) po_none (po_some pe_int))))) pss_nil)
   (pss_one (ps_expr (pe_bm PySem.F.plainAttrs_list PySem.F.slot_list_append PySem.F.type_list_append mt_append (pv 2) (pa_cons (pe_tup (pa_cons (pv 3) (pa_cons (pv 5) pa_nil))) pa_nil)))))))
   (pss_one (ps_ret (pv 2))))), ?_⟩
    refine rd_seq ?_
    walk_at "rdn"
    refine ⟨by show 0 ≤ sizeLine; decide, fun pp npp => ?_⟩
    have hpn : Nw H pp := .of npp
    obtain ⟨hpt, hpl⟩ := hT.ne hpn
    have e1 : Ext T [t] H (upd H pp (.lst [])) := .new npp
    have T1 := hT.upd (o := .lst []) npp
    have hv1 := hv.new (o := .lst []) npp
    have hp1 : (upd H pp (.lst [])) pp = some (.lst []) := upd_same
    generalize upd H pp (.lst []) = H1 at e1 T1 hv1 hp1 ⊢
    walk_at "rdn"
    obtain ⟨anc, anr, han, haid⟩ := hR.an
    refine rd_cut (fun σ H2 => Ext T [t] H H2 ∧ Tape l H2 t ∧ ∃ (xs : List V) (ps : List (Str × List Str)) (a b c d : Option V), σ = [some (.ref t), some v, some (.ref pp), a, b, c, d] ∧ H2 pp = some (.lst xs) ∧ PySem.W.EachIs (PoolRow H2 [t, pp]) xs ps ∧ PsOk R ps) (fun nx' hnx => ?_) (fun σ H2 h => ?_)
    · walk_at "rd"
      refine rd_ixI (d := .tuple (R.zs.map siD)) hv1 rfl fun u hu => ?_
      obtain ⟨zp, zx, rfl, hzp, hzi⟩ := hu.tup'
      refine ⟨zp, rfl, .inr ⟨⟨_, SqT.of hzp⟩, ?_⟩⟩
      refine forg_tup (xs := zx) (fun i σ H2 => Ext T [t] H H2 ∧ Tape l H2 t ∧ Im H2 v (rmD R) ∧ SqP H2 zp zx ∧ ImAll H2 zx (R.zs.map siD) ∧ ∃ (xs : List V) (ps : List (Str × List Str)) (a b c d : Option V), σ = [some (.ref t), some v, some (.ref pp), a, b, c, d] ∧ H2 pp = some (.lst xs) ∧ PySem.W.EachIs (PoolRow H2 [t, pp]) xs ps ∧ ps.map (·.1) = (R.zs.take i).map (·.1) ∧ (∀ p ∈ ps, p.2.Nodup) ∧ (∀ p ∈ ps, ∀ y ∈ p.2, idB y = true) ∧ ∀ p ∈ ps, p.2.length = 3)
        ⟨e1, T1, hv1, hzp, hzi, [], [], none, none, none, none, rfl, hp1, .nil, rfl, by simp, by simp, by simp⟩ (fun i σ H2 _ h => SqT.of h.2.2.2.1) (fun i x σ H2 hx h => ?_) (fun σ H2 h => ?_)
      · obtain ⟨e2, T2, hv2, hzp2, hzi2, xs, ps, a, b, c, d, rfl, hp2, hrows, hnm, hnd, hok, hl3⟩ := h
        obtain ⟨dz, hdz, hxz⟩ := hzi2.get' hx
        rw [List.getElem?_map] at hdz
        obtain ⟨z, hz, rfl⟩ := Option.map_eq_some_iff.mp hdz
        have hznm := hR.nm z (List.mem_of_getElem? hz)
        have hpsl : ps.length ≤ 6 := by
          have := congrArg List.length hnm
          rw [List.length_map, List.length_map, List.length_take] at this
          have := hR.len
          omega
        refine rd_gpair (d1 := .str z.1) (d2 := .int z.2) hxz fun v1 v2 h1 h2 => ?_
        rw [h1.str', h2.int']
        refine rd_seq ?_
        walk_at "rdn"
        refine ⟨l, t, 3, rfl, by decide, by decide, T2, fun ip ids H3 nip hil hin hid hip e3 T3 => ?_⟩
        have hipt : ip ≠ t := (T2.ne nip).1
        have hipp : ip ≠ pp := fun e => nip.lst (e ▸ hp2) rfl
        have hv3 := Im.ext e3 T2.lsts _ _ hv2
        have hzp3 := hzp2.ext e3 T2.lsts
        have hzi3 := ImAll.ext e3 T2.lsts _ _ hzi2
        have hp3 := e3.lst (by simpa using hpt) hp2
        have hrows3 := rows_ext hrows e3 (by simp) T2.lsts
        have e03 := e2.trans e3
        clear e2 T2 hv2 hzp2 hzi2 hp2 hrows hxz h1 h2
        walk_at "rdn"
        refine rd_cut (fun σ H4 => Ext T [t] H H4 ∧ Tape l H4 t ∧ Im H4 v (rmD R) ∧ SqP H4 zp zx ∧ ImAll H4 zx (R.zs.map siD) ∧ H4 pp = some (.lst xs) ∧ PySem.W.EachIs (PoolRow H4 [t, pp]) xs ps ∧ ∃ (ka : Addr) (ks : List Str) (d : Option V), σ = [some (.ref t), some v, some (.ref pp), some (.str z.1), some (.int z.2), some (.ref ka), d] ∧ H4 ka = some (.lst (ks.map V.str)) ∧ ka ≠ t ∧ ka ≠ pp ∧ ks.Nodup ∧ (∀ y ∈ ks, idB y = true) ∧ ks.length = 3) (fun nx2 hnx2 => ?_) (fun σ H4 h => ?_)
        · walk_at "rd"
          refine rd_ite (fun hdot => ?_) (fun hdot => ?_)
          · walk_at "rd"
            refine rd_ixI (d := .tuple (R.an.map .str)) hv3 rfl fun u1 hu1 => ?_
            walk_at "rd"
            refine rd_ixSs (z := anc) hu1 (by rw [han]; exact at_zero _ _) ?_
            walk_at "rd"
            refine ⟨by show 1 ≤ sizeLine; decide, fun la nla => ?_⟩
            have hlp : pp ≠ la := (Nw.of nla).lst hp3
            have hli : ip ≠ la := (Nw.of nla).lst hip
            have hlt := (T3.ne (.of nla)).1
            have e4 := e03.newR (o := .lst [V.str anc]) nla
            have T4 := T3.upd (o := .lst [V.str anc]) nla
            have hv4 := hv3.new (o := .lst [V.str anc]) nla
            have hzp4 := (upd_ne (o := .lst [V.str anc]) ((Nw.of nla).sqp hzp3)).trans hzp3
            have hzi4 := hzi3.new (o := .lst [V.str anc]) nla
            have hp4 := (upd_ne (o := .lst [V.str anc]) hlp).trans hp3
            have hip4 := (upd_ne (o := .lst [V.str anc]) hli).trans hip
            have hrows4 := rows_ext hrows3 (Ext.new (T := T) (ms := []) (o := .lst [V.str anc]) nla) (by simp) Lsts.nil
            have hla4 : (upd H3 la (.lst [V.str anc])) la = some (.lst [V.str anc]) := upd_same
            show tSl _ _ _ _ _ (upd H3 la (.lst [V.str anc])) _
            generalize upd H3 la (.lst [V.str anc]) = H4 at e4 T4 hv4 hzp4 hzi4 hp4 hip4 hrows4 hla4 ⊢
            walk_at "rd"
            have hids3 : ids.length = 3 := by omega
            refine lcg_list T [] (SqL.of hip4) (fun v => match v with | .str k => !decide (k = anc) | _ => false) id (by rw [List.length_map, hids3]; decide) (by simp) (by simp) (fun x hx H5 e5 R' S h1 h2 => ?_) (fun D H5 nD e5 hD => ?_)
            · obtain ⟨k, hk, rfl⟩ := List.mem_map.mp hx
              walk_at "rd"
              refine rd_ixI (d := .tuple (R.an.map .str)) (Im.ext e5 Lsts.nil _ _ hv4) rfl fun u1 hu1 => ?_
              walk_at "rd"
              refine rd_ixSs (z := anc) hu1 (by rw [han]; exact at_zero _ _) ?_
              walk_at "rd"
              refine rd_itn (fun hk => ?_) (fun hk => ?_)
              · exact h2 (by show (!decide (k = anc)) = false; rw [decide_eq_true hk]; rfl) _ .refl
              · walk_at "rd"
                exact h1 (by show (!decide (k = anc)) = true; rw [decide_eq_false hk]; rfl) _ .refl
            · have hfm : ((ids.map V.str).filter fun v => match v with | .str k => !decide (k = anc) | _ => false).map id = (ids.filter fun k => !decide (k = anc)).map V.str := by
                rw [List.map_id, List.filter_map]
                rfl
              rw [hfm] at hD
              have hDl : (ids.filter fun k => !decide (k = anc)).length ≤ 3 := by
                have := List.length_filter_le (fun k => !decide (k = anc)) ids
                omega
              have e05 := e4.trans e5.any
              have T5 := T4.ext e5
              have hv5 := Im.ext e5 Lsts.nil _ _ hv4
              have hzp5 : SqP H5 zp zx := SqP.ext hzp4 e5 Lsts.nil
              have hzi5 := ImAll.ext e5 Lsts.nil _ _ hzi4
              have hp5 := e5.lst (by simp) hp4
              have hla5 := e5.lst (by simp) hla4
              have hrows5 := rows_ext hrows4 e5 (by simp) Lsts.nil
              walk_at "rd"
              refine rd_slL (SqL.of hD) fun s6 ns6 => ?_
              rw [cutV_to _ (by decide), show Int.toNat 2 = 2 from rfl, ← List.map_take]
              have hlp6 : pp ≠ s6 := (Nw.of ns6).lst hp5
              have hla6' : la ≠ s6 := (Nw.of ns6).lst hla5
              have e6 := e05.newR (o := .lst (((ids.filter fun k => !decide (k = anc)).take 2).map V.str)) ns6
              have T6 := T5.upd (o := .lst (((ids.filter fun k => !decide (k = anc)).take 2).map V.str)) ns6
              have hv6 := hv5.new (o := .lst (((ids.filter fun k => !decide (k = anc)).take 2).map V.str)) ns6
              have hzp6 := (upd_ne (o := .lst (((ids.filter fun k => !decide (k = anc)).take 2).map V.str)) ((Nw.of ns6).sqp hzp5)).trans hzp5
              have hzi6 := hzi5.new (o := .lst (((ids.filter fun k => !decide (k = anc)).take 2).map V.str)) ns6
              have hp6 := (upd_ne (o := .lst (((ids.filter fun k => !decide (k = anc)).take 2).map V.str)) hlp6).trans hp5
              have hla6 := (upd_ne (o := .lst (((ids.filter fun k => !decide (k = anc)).take 2).map V.str)) hla6').trans hla5
              have hrows6 := rows_ext hrows5 (Ext.new (T := T) (ms := []) (o := .lst (((ids.filter fun k => !decide (k = anc)).take 2).map V.str)) ns6) (by simp) Lsts.nil
              have hs6 : (upd H5 s6 (.lst (((ids.filter fun k => !decide (k = anc)).take 2).map V.str))) s6 = some (.lst (((ids.filter fun k => !decide (k = anc)).take 2).map V.str)) := upd_same
              show rPlus _ _ _ (upd H5 s6 (.lst (((ids.filter fun k => !decide (k = anc)).take 2).map V.str))) _
              generalize upd H5 s6 (.lst (((ids.filter fun k => !decide (k = anc)).take 2).map V.str)) = H6 at e6 T6 hv6 hzp6 hzi6 hp6 hla6 hrows6 hs6 ⊢
              refine rd_cat hla6 hs6 ?_ fun ka nka => ?_
              · rw [List.length_map, List.length_take]
                exact Nat.le_trans (show _ ≤ 100 by simp only [List.length_cons, List.length_nil]; omega) (by decide)
              refine rd_name ?_
              have hkt := (T6.ne (.of nka)).1
              refine hnx2 _ _ ⟨e6.newR nka, T6.upd nka, hv6.new nka, (upd_ne ((Nw.of nka).sqp hzp6)).trans hzp6, hzi6.new nka, (upd_ne ((Nw.of nka).lst hp6)).trans hp6, rows_ext hrows6 (Ext.new (T := T) (ms := []) nka) (by simp) Lsts.nil, ka, anc :: (ids.filter fun k => !decide (k = anc)).take 2, _, rfl, upd_same, hkt, ((Nw.of nka).lst hp6).symm, ?_, fun y hy => ?_, ?_⟩
              · rw [List.nodup_cons]
                refine ⟨fun hm => ?_, (hin.sublist List.filter_sublist).sublist (List.take_sublist _ _)⟩
                have := (List.mem_filter.mp (List.mem_of_mem_take hm)).2
                simp at this
              · rcases List.mem_cons.mp hy with e | hy
                · rw [e]
                  exact haid
                · exact hid y (List.mem_filter.mp (List.mem_of_mem_take hy)).1
              · have := filter_others (a := anc) hin
                rw [List.length_cons, List.length_take]
                omega
          · walk_at "rd"
            exact hnx2 _ _ ⟨e03, T3, hv3, hzp3, hzi3, hp3, hrows3, ip, ids, _, rfl, hip, hipt, hipp, hin, hid, by omega⟩
        · obtain ⟨e4, T4, hv4, hzp4, hzi4, hp4, hrows4, ka, ks, d, rfl, hka, hkt, hkp, hkn, hki, hk3⟩ := h
          walk_at "rd"
          refine ⟨by show 2 ≤ sizeLine; decide, fun ta nta => ?_⟩
          have e5 := e4.newR (o := .tup [V.str z.1, .ref ka]) nta
          have T5 := T4.upd (o := .tup [V.str z.1, .ref ka]) nta
          have hv5 := hv4.new (o := .tup [V.str z.1, .ref ka]) nta
          have hzp5 := (upd_ne (o := .tup [V.str z.1, .ref ka]) ((Nw.of nta).sqp hzp4)).trans hzp4
          have hzi5 := hzi4.new (o := .tup [V.str z.1, .ref ka]) nta
          have hp5 := (upd_ne (o := .tup [V.str z.1, .ref ka]) ((Nw.of nta).lst hp4)).trans hp4
          have hka5 := (upd_ne (o := .tup [V.str z.1, .ref ka]) ((Nw.of nta).lst hka)).trans hka
          have hrows5 := rows_ext hrows4 (Ext.new (T := T) (ms := []) (o := .tup [V.str z.1, .ref ka]) nta) (by simp) Lsts.nil
          have hta5 : (upd H4 ta (.tup [V.str z.1, .ref ka])) ta = some (.tup [V.str z.1, .ref ka]) := upd_same
          refine rd_nil ?_
          generalize upd H4 ta (.tup [V.str z.1, .ref ka]) = H5 at e5 T5 hv5 hzp5 hzi5 hp5 hka5 hrows5 hta5 ⊢
          refine rd_app hp5 ?_ ?_
          · rw [hrows5.length]
            exact Nat.lt_of_le_of_lt (show ps.length ≤ 100 by omega) (by decide)
          · have e6 : Ext T [pp] H5 (upd H5 pp (.lst (xs ++ [.ref ta]))) := Ext.mut (by simp) hp5
            have hrow : PoolRow H5 [t, pp] (.ref ta) (z.1, ks) := ⟨ta, ka, rfl, hta5, hka5, by simp [hkt, hkp]⟩
            refine ⟨e5.own hpn hp5, T5.own hpt hpl, Im.ext e6 (lsts_one hp5) _ _ hv5, SqP.ext hzp5 e6 (lsts_one hp5), ImAll.ext e6 (lsts_one hp5) _ _ hzi5, xs ++ [.ref ta], ps ++ [(z.1, ks)], _, _, _, _, rfl, upd_same, rows_ext (PySem.W.each_snoc hrow hrows5) e6 (by simp) (lsts_one hp5), ?_, fun p hp => ?_, fun p hp => ?_, fun p hp => ?_⟩
            · rw [List.map_append, hnm, List.take_add_one, hz, List.map_append]
              rfl
            · rcases List.mem_append.mp hp with h | h
              · exact hnd p h
              · rw [List.mem_singleton.mp h]
                exact hkn
            · rcases List.mem_append.mp hp with h | h
              · exact hok p h
              · rw [List.mem_singleton.mp h]
                exact hki
            · rcases List.mem_append.mp hp with h | h
              · exact hl3 p h
              · rw [List.mem_singleton.mp h]
                exact hk3
      · obtain ⟨e2, T2, hv2, hzp2, hzi2, xs, ps, a, b, c, d, rfl, hp2, hrows, hnm, hnd, hok, hl3⟩ := h
        rw [show zx.length = R.zs.length by rw [hzi2.len, List.length_map], List.take_length] at hnm
        exact hnx _ _ ⟨e2, T2, xs, ps, a, b, c, d, rfl, hp2, hrows, hnm, hnd, hok, hl3⟩
    · obtain ⟨e2, T2, xs, ps, a, b, c, d, rfl, hp2, hrows, hps⟩ := h
      walk_at "rd"
      exact q pp ps H2 hpn ⟨xs, hp2, hpt, rows_weak hrows (by simp)⟩ hps e2 T2
end

open PySem PySem.Spec PyProof.Rows L2
open PySem.W (EachIs)
/-! ### what is made new, the heap told by what it keeps -/
section
variable {T : List (Addr × Str)} {H H' : Hp}
theorem Im.x {v : V} {d : PyData} (h : Im H v d) (e : Ext T [] H H') : Im H' v d := Im.ext e Lsts.nil _ _ h
theorem ImAll.x {vs : List V} {ds : List PyData} (h : ImAll H vs ds) (e : Ext T [] H H') : ImAll H' vs ds := ImAll.ext e Lsts.nil _ _ h
theorem Ls.x {a : Addr} {ds : List PyData} (h : Ls H a ds) (e : Ext T [] H H') : Ls H' a ds := h.ext e (by simp) Lsts.nil
theorem SqP.x {a : Addr} {xs : List V} (h : SqP H a xs) (e : Ext T [] H H') : SqP H' a xs := SqP.ext h e Lsts.nil
theorem lst.x {a : Addr} {xs : List V} (h : H a = some (.lst xs)) (e : Ext T [] H H') : H' a = some (.lst xs) := e.lst (by simp) h
theorem Im.y {l t : Addr} {v : V} {d : PyData} (h : Im H v d) (e : Ext T [t] H H') (hT : Tape l H t) : Im H' v d := Im.ext e hT.lsts _ _ h
theorem ImAll.y {l t : Addr} {vs : List V} {ds : List PyData} (h : ImAll H vs ds) (e : Ext T [t] H H') (hT : Tape l H t) : ImAll H' vs ds := ImAll.ext e hT.lsts _ _ h
theorem Ls.y {l t a : Addr} {ds : List PyData} (h : Ls H a ds) (e : Ext T [t] H H') (ha : a ≠ t) (hT : Tape l H t) : Ls H' a ds := h.ext e (by simpa using ha) hT.lsts
theorem lst.y {t a : Addr} {xs : List V} (h : H a = some (.lst xs)) (e : Ext T [t] H H') (ha : a ≠ t) : H' a = some (.lst xs) := e.lst (by simpa using ha) h
end
section
variable (T : List (Addr × Str)) {K : PySem.W.Frag} {H : Hp} {Q : VK}
theorem allocT {xs : List V} (hl : xs.length ≤ 1000) (q : ∀ p H', Nw H p → Ext T [] H H' → H' p = some (.tup xs) → Q (.ref p) H') : xs.length ≤ sizeLine ∧ ∀ p, H p = none → Q (.ref p) (upd H p (.tup xs)) :=
  ⟨Nat.le_trans hl (by decide), fun p hp => q p _ (.of hp) (.new hp) upd_same⟩
theorem allocL {xs : List V} (hl : xs.length ≤ 1000) (q : ∀ p H', Nw H p → Ext T [] H H' → H' p = some (.lst xs) → Q (.ref p) H') : xs.length ≤ sizeLine ∧ ∀ p, H p = none → Q (.ref p) (upd H p (.lst xs)) :=
  ⟨Nat.le_trans hl (by decide), fun p hp => q p _ (.of hp) (.new hp) upd_same⟩
theorem rd_takeS {a : Addr} {zs : List Str} {i : Int} (h : H a = some (.lst (zs.map V.str))) (h0 : 0 ≤ i) (q : ∀ p H', Nw H p → Ext T [] H H' → H' p = some (.lst ((zs.take i.toNat).map V.str)) → Q (.ref p) H') : rSlU K (.ref a) none (some i) H Q :=
  rd_slL (SqL.of h) fun p hp => q p _ (.of hp) (.new hp) (by rw [cutV_to _ h0, ← List.map_take]; exact upd_same)
theorem rd_dropS {a : Addr} {zs : List Str} {i : Int} (h : H a = some (.lst (zs.map V.str))) (h0 : 0 ≤ i) (q : ∀ p H', Nw H p → Ext T [] H H' → H' p = some (.lst ((zs.drop i.toNat).map V.str)) → Q (.ref p) H') : rSlU K (.ref a) (some i) none H Q :=
  rd_slL (SqL.of h) fun p hp => q p _ (.of hp) (.new hp) (by rw [cutV_from (α := V) _ h0, ← List.map_drop]; exact upd_same)
theorem rd_tupA {p : Addr} {ys : List V} (h : H p = some (.lst ys)) (q : ∀ l H', Nw H l → Ext T [] H H' → H' l = some (.tup ys) → Q (.ref l) H') : rTupOf K [.ref p] H Q := rd_tupL (SqL.of h) fun l hl => q l _ (.of hl) (.new hl) upd_same
theorem rd_tupFA {p : Addr} {ys : List V} (h : H p = some (.lst ys)) (q : ∀ l H' o, Nw H l → Ext T [] H H' → o.dict = none → H' l = some (.frz o (.tup ys)) → Q (.ref l) H') : rTupF K [.ref p] H Q := rd_tupF (SqL.of h) fun l o hl ho => q l _ o (.of hl) (.new hl) ho upd_same
theorem rd_listA {p : Addr} {ys : List V} (h : SqT K H p ys) (q : ∀ l H', Nw H l → Ext T [] H H' → H' l = some (.lst ys) → Q (.ref l) H') : rListOf K [.ref p] H Q := rd_listT h fun l hl => q l _ (.of hl) (.new hl) upd_same
theorem rd_catA {a b : Addr} {xs ys : List V} (h1 : H a = some (.lst xs)) (h2 : H b = some (.lst ys)) (c : xs.length + ys.length ≤ 1000) (q : ∀ p H', Nw H p → Ext T [] H H' → H' p = some (.lst (xs ++ ys)) → Q (.ref p) H') : rPlus K (.ref a) (.ref b) H Q :=
  rd_cat h1 h2 (Nat.le_trans c (by decide)) fun p hp => q p _ (.of hp) (.new hp) upd_same
theorem rd_sortA {a : Addr} {ds : List PyData} (h : Ls H a ds) (h1 : PySem.W.AllAlike ds) (h2 : PySem.W.Sortable ds) (h3 : ∀ d ∈ ds, d.depth ≤ 60) (q : ∀ p H' ys, Nw H p → Ext T [] H H' → H' p = some (.lst ys) → ImAll H' ys (srtD ds) → Q (.ref p) H') : rSortD K [.ref a] H Q :=
  rd_sortI h h1 h2 h3 fun p ys hp hy => q p _ ys (.of hp) (.new hp) upd_same (hy.new hp)
end
/-! ### a state: its items' tuple is a plain one -/
def StAt (H : Hp) (v : V) (s : Sta) : Prop := ∃ (a ia : Addr) (oa : V) (xs : List V) (o : Obj), v = .ref a ∧ H a = some (.tup [.ref ia, oa]) ∧ H ia = some (.frz o (.tup xs)) ∧ o.dict = none ∧ ImAll H xs (s.its.map rowD2) ∧ Im H oa (.tuple (s.on.map ssD))
theorem StAt.ext {T : List (Addr × Str)} {ms : List Addr} {H H' : Hp} {v : V} {s : Sta} (h : StAt H v s) (e : Ext T ms H H') (hm : Lsts H ms) : StAt H' v s := by
  obtain ⟨a, ia, oa, xs, o, e1, e2, e3, e4, e5, e6⟩ := h
  refine ⟨a, ia, oa, xs, o, e1, SqP.ext (xs := [.ref ia, oa]) e2 e hm, e.keep ia _ (fun hb => ?_) (fun _ z => by cases z) e3, e4, ImAll.ext e hm _ _ e5, Im.ext e hm _ _ e6⟩
  obtain ⟨ys, hy⟩ := hm ia hb
  rw [e3] at hy
  cases hy
theorem StAt.x {T : List (Addr × Str)} {H H' : Hp} {v : V} {s : Sta} (h : StAt H v s) (e : Ext T [] H H') : StAt H' v s := h.ext e Lsts.nil
theorem StAt.y {T : List (Addr × Str)} {H H' : Hp} {l t : Addr} {v : V} {s : Sta} (h : StAt H v s) (e : Ext T [t] H H') (hT : Tape l H t) : StAt H' v s := h.ext e hT.lsts
structure StaOk (R : Rm) (s : Sta) : Prop where
  nm : s.its.map (·.1) = slotsR R
  ok : ∀ r ∈ s.its, ItmOk r.1 r.2
  on : s.on.length ≤ 100
section
variable (T : List (Addr × Str))
def spStart : Sp := fun vs H Q _ => ∃ (l t pa : Addr) (v : V) (R : Rm) (ps : List (Str × List Str)), vs = [.ref t, v, .ref pa] ∧ Tape l H t ∧ Im H v (rmD R) ∧ RmIn R ∧ Pools H t pa ps ∧ PsOk R ps ∧
  ∀ (x : V) (s : Sta) (H' : Hp), StaOk R s → s.on.length ≤ 20 → StAt H' x s → Ext T [t] H H' → Tape l H' t → Q x H'
def spAt : Sp := fun vs H Q _ => ∃ (v u : V) (s : Sta) (sl : Sl) (i : Itm), vs = [v, u] ∧ StAt H v s ∧ Im H u (slD sl) ∧ (sl, i) ∈ s.its ∧ (s.its.map (·.1)).Nodup ∧ s.its.length ≤ 100 ∧ ∀ (x : V) (H' : Hp), Ext T [] H H' → Im H' x (itD i) → Q x H'
def spAfter : Sp := fun vs H Q _ => ∃ (v u : V) (s : Sta) (d : Dd), vs = [v, u] ∧ StAt H v s ∧ Im H u (ddD d) ∧ s.its.length ≤ 100 ∧ s.on.length ≤ 500 ∧ ∀ (x : V) (H' : Hp), Ext T [] H H' → StAt H' x (aft s d) → Q x H'
end
theorem nodup_mapI {α β : Type} {f : α → β} (hf : ∀ a b, f a = f b → a = b) : ∀ {l : List α}, l.Nodup → (l.map f).Nodup
  | [], _ => by simp
  | x :: l, h => by
    rw [List.nodup_cons] at h
    rw [List.map_cons, List.nodup_cons]
    refine ⟨fun hm => ?_, nodup_mapI hf h.2⟩
    obtain ⟨y, hy, e⟩ := List.mem_map.mp hm
    rw [hf _ _ e] at hy
    exact h.1 hy
theorem slots_nodup {R : Rm} (h : RmIn R) : (slotsR R).Nodup := by
  unfold slotsR
  obtain ⟨lag, rest, e, hr⟩ := h.ne
  have hnd := h.nd
  rw [e, List.map_cons, List.nodup_cons] at hnd
  have ht : R.zs.tail = rest := by rw [e]; rfl
  rw [ht, List.nodup_append]
  refine ⟨?_, ?_, ?_⟩
  · rw [List.nodup_cons]
    refine ⟨fun hm => ?_, ?_⟩
    · obtain ⟨y, hy, h2⟩ := List.mem_flatMap.mp hm
      simp only [List.mem_cons, List.not_mem_nil, or_false, Sl.k.injEq, reduceCtorEq] at h2
      exact hr y hy h2.symm
    · have key : ∀ {rest : List (Str × Int)}, (rest.map (·.1)).Nodup → (rest.flatMap fun z => [Sl.k z.1, .l z.1, .h z.1]).Nodup := by
        intro rest
        induction rest with
        | nil => intro _; simp
        | cons z rest ih =>
          intro hn
          rw [List.map_cons, List.nodup_cons] at hn
          rw [List.flatMap_cons, List.nodup_append]
          refine ⟨by simp, ih hn.2, fun a ha b hb e => ?_⟩
          subst e
          obtain ⟨y, hy, h2⟩ := List.mem_flatMap.mp hb
          have : z.1 = y.1 := by
            simp only [List.mem_cons, List.not_mem_nil, or_false] at ha h2
            rcases ha with rfl | rfl | rfl <;> simp at h2 <;> exact h2
          exact hn.1 (by rw [this]; exact List.mem_map_of_mem hy)
      exact key hnd.2
  · exact nodup_mapI (fun a b h => by
      injection h with h1 h2
      exact Prod.ext h1 h2) h.sn
  · intro a ha b hb e
    subst e
    obtain ⟨p, _, rfl⟩ := List.mem_map.mp hb
    rcases List.mem_cons.mp ha with h2 | h2
    · cases h2
    · obtain ⟨y, _, h3⟩ := List.mem_flatMap.mp h2
      simp at h3
open PySem PySem.Spec PyProof.Rows L2
/-- an object made at p: what the new heap keeps -/
theorem alL {T : List (Addr × Str)} {H : Hp} {p : Addr} (h : H p = none) (xs : List V) : Nw H p ∧ Ext T [] H (upd H p (.lst xs)) ∧ (upd H p (.lst xs)) p = some (.lst xs) := ⟨.of h, .new h, upd_same⟩
theorem alT {T : List (Addr × Str)} {H : Hp} {p : Addr} (h : H p = none) (xs : List V) : Nw H p ∧ Ext T [] H (upd H p (.tup xs)) ∧ (upd H p (.tup xs)) p = some (.tup xs) := ⟨.of h, .new h, upd_same⟩

open PySem PySem.Spec PyProof.Rows L2

section
variable {T : List (Addr × Str)} {P : Program} {w : World} {K : PySem.W.Frag} {mg : Str → Option Value} {base : Heap}
def sL : List Str := ["s1", "s2"]
theorem sL_ok : sL.Nodup ∧ ∀ y ∈ sL, idB y = true := by decide +kernel
theorem srtS_nil : srtS [] = [] := List.mergeSort_nil
theorem ok_law_first_item (D : Def K mg "_law_first_item" s_law_first_item ["tape", "realm", "pools", "slot"]) (mb : ∀ x ∈ bltns, mg x = none) (G_law_take : Ok P w K mg base 2 "_law_take" ["tape", "many"] (spTake T)) (G_law_life : Ok P w K mg base 3 "_law_life" ["tape"] (spInt T 1 1000))
    (G_law_home : Ok P w K mg base 2 "_law_home" ["realm", "slot"] (spHome T)) (G_law_pool : Ok P w K mg base 1 "_law_pool" ["pools", "zone"] (spPool T)) (G_law_item : Ok P w K mg base 1 "_law_item" ["content", "life", "signers"] (spItem T)) (G_law_ids : Ok P w K mg base 4 "_law_ids" ["tape", "many"] (spIds T)) :
    Ok P w K mg base 5 "_law_first_item" ["tape", "realm", "pools", "slot"] (spFirst T) := by
  refine D.ok sc_law_first_item (fun vs H Q E h => ?_) (fun cdv f A outer s H vs Q E hr h => ?_)
  · obtain ⟨l, t, pa, v, u, R, ps, sl, rfl, _⟩ := h
    rfl
  · obtain ⟨l, t, pa, v, u, R, ps, sl, rfl, hT, hv, hR, hP, hps, hu, hs, q⟩ := h
    refine ⟨_, (pss_cons (ps_set (i := 4) sc_law_first_item.nd rfl (.inl rfl) (pe_callO G_law_life (hr.mono (by decide)) (by rfl) (pa_cons (pv 0) pa_nil)))
   (pss_cons (ps_set (i := 5) sc_law_first_item.nd rfl (.inl rfl) (pe_callO G_law_pool (hr.mono (by decide)) (by rfl) (pa_cons (pv 2) (pa_cons (pe_callO G_law_home (hr.mono (by decide)) (by rfl) (pa_cons (pv 1) (pa_cons (pv 3) pa_nil))) pa_nil))))
   (pss_cons (ps_if (pt_cmpR (op_eqU K rfl hr.units) (pe_ix (ix_U K rfl) (pv 3) pe_int (fun _ _ => rfl)) pe_str (nomark _)) (pss_cons (ps_set (i := 6) sc_law_first_item.nd rfl (.inl rfl) (pe_slice (sl_U K rfl) (pv 5) po_none (po_some (pe_op (op_plus K rfl) pe_int (pe_callO G_law_take (hr.mono (by decide)) (by rfl) (pa_cons (pv 0) (pa_cons pe_int pa_nil)))))))
   (pss_one (ps_ret (pe_callO G_law_item (hr.mono (by decide)) (by rfl) (pa_cons (pv 6) (pa_cons (pv 4) (pa_cons (pe_slice (sl_U K rfl) (pv 5) po_none (po_some pe_int)) pa_nil))))))) pss_nil)
   (pss_cons (ps_if (pt_cmpR (op_eqU K rfl hr.units) (pe_ix (ix_U K rfl) (pv 3) pe_int (fun _ _ => rfl)) pe_str (nomark _)) (pss_one (ps_ret (pe_callO G_law_item (hr.mono (by decide)) (by rfl) (pa_cons (pe_slice (sl_U K rfl) (pe_callO G_law_pool (hr.mono (by decide)) (by rfl) (pa_cons (pv 2) (pa_cons (pe_ix (ix_U K rfl) (pv 3) pe_int (fun _ _ => rfl)) pa_nil))) po_none (po_some pe_int)) (pa_cons (pv 4) (pa_cons (pe_slice (sl_U K rfl) (pv 5) po_none (po_some pe_int)) pa_nil)))))) pss_nil)
   (pss_cons (ps_if (pt_cmpR (op_eqU K rfl hr.units) (pe_ix (ix_U K rfl) (pv 3) pe_int (fun _ _ => rfl)) pe_str (nomark _)) (pss_one (ps_ret (pe_callO G_law_item (hr.mono (by decide)) (by rfl) (pa_cons (pe_slice (sl_U K rfl) (pe_lst (pa_cons pe_str (pa_cons pe_str pa_nil))) po_none (po_some (pe_op (op_plus K rfl) pe_int (pe_callO G_law_take (hr.mono (by decide)) (by rfl) (pa_cons (pv 0) (pa_cons pe_int pa_nil)))))) (pa_cons (pv 4) (pa_cons (pe_lst pa_nil) pa_nil)))))) pss_nil)
   (pss_one (ps_ret (pe_callO G_law_item (hr.mono (by decide)) (by rfl) (pa_cons (pe_callO G_law_ids (hr.mono (by decide)) (by rfl) (pa_cons (pv 0) (pa_cons (pe_callO G_law_take (hr.mono (by decide)) (by rfl) (pa_cons (pv 0) (pa_cons pe_int pa_nil))) pa_nil))) (pa_cons (pv 4) (pa_cons (pe_slice (sl_U K rfl) (pv 5) po_none (po_some pe_int)) pa_nil))))))))))), ?_⟩
    refine rd_seq ?_
    walk_at "rdn"
    refine ⟨l, t, rfl, hT, fun li H1 hl0 hl1 e1 T1 => ?_⟩
    have hv1 := hv.y e1 hT
    have hu1 := hu.y e1 hT
    have hP1 := hP.ext e1 hT
    walk_at "rdn"
    refine rd_seq ?_
    walk_at "rdn"
    refine ⟨v, u, R, sl, rfl, hv1, hu1, hR, hs, fun H2 e2 hh => ?_⟩
    have hv2 := hv1.x e2
    have hu2 := hu1.x e2
    have hP2 := hP1.ext0 e2
    have T2 := T1.ext e2
    have e02 := e1.trans e2.any
    walk_at "rdn"
    have hpn : (ps.map (·.1)).Nodup := by rw [hps.nm]; exact hR.nd
    have hpl : ps.length ≤ 6 := by
      have := congrArg List.length hps.nm
      rw [List.length_map, List.length_map] at this
      have := hR.len
      omega
    have pick : ∀ z ∈ R.zs.map (·.1), ∃ ks, (z, ks) ∈ ps := fun z hz => by
      rw [← hps.nm] at hz
      obtain ⟨p, hp, e⟩ := List.mem_map.mp hz
      exact ⟨p.2, by rw [← e]; exact hp⟩
    obtain ⟨ks, hks⟩ := pick _ hh
    refine ⟨t, pa, ps, _, ks, rfl, hP2, hpl, hpn, hks, fun oa H3 hot hoa e3 => ?_⟩
    have hv3 := hv2.x e3
    have hu3 := hu2.x e3
    have hP3 := hP2.ext0 e3
    have T3 := T2.ext e3
    have e03 := e02.trans e3.any
    have ho3 := lst.x hoa e3
    have hk3 : ks.length = 3 := hps.len _ hks
    have hkn : ks.Nodup := hps.nd _ hks
    have hki : ∀ y ∈ ks, idB y = true := hps.ok _ hks
    clear hT hv hP hu e1 T1 hv1 hu1 hP1 e2 hv2 hu2 hP2 T2 e02 e3
    walk_at "rdn"
    -- the last step of each way
    have fin : ∀ (ca sa : Addr) (cs gs : List Str) (H4 : Hp), Ext T [t] H H4 → Tape l H4 t → H4 ca = some (.lst (cs.map V.str)) → H4 sa = some (.lst (gs.map V.str)) → cs.Nodup → gs.Nodup → (∀ y ∈ cs, idB y = true) → (∀ y ∈ gs, idB y = true) → cs.length ≤ 4 → gs.length ≤ 3 → (∀ z, sl = .h z → gs = []) →
        spItem T [.ref ca, .int li, .ref sa] H4 Q E0 := fun ca sa cs gs H4 e4 T4 hc hg n1 n2 o1 o2 l1 l2 hh => by
      refine ⟨ca, sa, cs, gs, li, rfl, hc, hg, o1, o2, fun x H5 e5 hx => ?_⟩
      refine q x _ H5 ⟨⟨cs, rfl, n1, o1, l1⟩, ⟨gs, rfl, n2, o2, l2⟩, ⟨hl0, hl1⟩, ⟨show (0 : Int) ≤ 0 by decide, show (0 : Int) ≤ 10000 by decide, show (10000 : Int) ≤ 10000 by decide⟩, fun z e => ⟨?_, rfl, rfl⟩⟩ hx (e4.trans e5.any) (T4.ext e5)
      rw [hh z e]
      exact srtS_nil
    have k1n : (ks.take 1).Nodup := hkn.sublist (List.take_sublist _ _)
    have k1i : ∀ y ∈ ks.take 1, idB y = true := fun y hy => hki y (List.mem_of_mem_take hy)
    have k1l : (ks.take 1).length ≤ 3 := by rw [List.length_take]; omega
    cases sl with
    | k z =>
      have hu3 : Im H3 u (.tuple [.str (Str.ofString "keys"), .str z]) := hu3
      walk_at "rd"
      refine rd_ixSs hu3 rfl ?_
      walk_at "rd"
      refine rd_ite (fun _ => ?_) (fun h => absurd rfl h)
      walk_at "rd"
      refine ⟨l, t, 2, rfl, by decide, by decide, T3, fun d H4 h0 h1 e4 T4 => ?_⟩
      have ho4 := lst.y ho3 e4 hot
      walk_at "rd"
      refine rd_takeS T ho4 (by omega) fun ca H5 nca e5 hca => ?_
      have ho5 := lst.x ho4 e5
      walk_at "rd"
      refine rd_takeS T ho5 (by decide) fun sa H6 _ e6 hsa => ?_
      walk_at "rd"
      exact fin ca sa _ _ H6 (((e03.trans e4).trans e5.any).trans e6.any) ((T4.ext e5).ext e6) (lst.x hca e6) hsa (hkn.sublist (List.take_sublist _ _)) k1n (fun y hy => hki y (List.mem_of_mem_take hy)) k1i (by rw [List.length_take]; omega) k1l (fun z h => by cases h)
    | l z =>
      have hu3 : Im H3 u (.tuple [.str (Str.ofString "link"), .str z]) := hu3
      walk_at "rd"
      refine rd_ixSs hu3 rfl ?_
      walk_at "rd"
      refine rd_ite (fun h => absurd h (by decide +kernel)) (fun _ => ?_)
      walk_at "rd"
      refine rd_ixSs hu3 rfl ?_
      walk_at "rd"
      refine rd_ite (fun _ => ?_) (fun h => absurd rfl h)
      walk_at "rd"
      refine rd_ixSs hu3 rfl ?_
      walk_at "rd"
      have hzm : z ∈ R.zs.map (·.1) := by
        unfold slotsR at hs
        rcases List.mem_append.mp hs with hs | hs
        · rcases List.mem_cons.mp hs with hs | hs
          · cases hs
          · obtain ⟨y, hy, h⟩ := List.mem_flatMap.mp hs
            simp at h
            rw [h]
            exact List.mem_map_of_mem (List.mem_of_mem_tail hy)
        · obtain ⟨p, _, h⟩ := List.mem_map.mp hs
          cases h
      obtain ⟨k2, hk2⟩ := pick _ hzm
      refine ⟨t, pa, ps, z, k2, rfl, hP3, hpl, hpn, hk2, fun pa2 H4 _ hpa2 e4 => ?_⟩
      have ho4 := lst.x ho3 e4
      walk_at "rd"
      refine rd_takeS T (lst.x hpa2 e4) (by decide) fun ca H5 nca e5 hca => ?_
      have ho5 := lst.x ho4 e5
      walk_at "rd"
      refine rd_takeS T ho5 (by decide) fun sa H6 _ e6 hsa => ?_
      walk_at "rd"
      exact fin ca sa _ _ H6 (((e03.trans e4.any).trans e5.any).trans e6.any) (((T3.ext e4).ext e5).ext e6) (lst.x hca e6) hsa ((hps.nd _ hk2).sublist (List.take_sublist _ _)) k1n (fun y hy => hps.ok _ hk2 y (List.mem_of_mem_take hy)) k1i (by rw [List.length_take]; have := hps.len _ hk2; omega) k1l (fun z h => by cases h)
    | h z =>
      have hu3 : Im H3 u (.tuple [.str (Str.ofString "hosts"), .str z]) := hu3
      walk_at "rd"
      refine rd_ixSs hu3 rfl ?_
      walk_at "rd"
      refine rd_ite (fun h => absurd h (by decide +kernel)) (fun _ => ?_)
      walk_at "rd"
      refine rd_ixSs hu3 rfl ?_
      walk_at "rd"
      refine rd_ite (fun h => absurd h (by decide +kernel)) (fun _ => ?_)
      walk_at "rd"
      refine rd_ixSs hu3 rfl ?_
      walk_at "rd"
      refine rd_ite (fun _ => ?_) (fun h => absurd rfl h)
      walk_at "rd"
      refine ⟨by show 2 ≤ sizeLine; decide, fun la nla => ?_⟩
      obtain ⟨nla, e4, hla⟩ := alL (T := T) nla (sL.map V.str)
      show tNoPart _ (upd H3 la (.lst (sL.map V.str))) _
      generalize upd H3 la _ = H4 at e4 hla ⊢
      have T4 := T3.ext e4
      have hlt := (T3.ne nla).1
      walk_at "rd"
      refine ⟨l, t, 2, rfl, by decide, by decide, T4, fun d H5 h0 h1 e5 T5 => ?_⟩
      walk_at "rd"
      refine rd_takeS T (lst.y hla e5 hlt) (by omega) fun ca H6 nca e6 hca => ?_
      walk_at "rd"
      refine ⟨by show 0 ≤ sizeLine; decide, fun sa nsa => ?_⟩
      obtain ⟨_, e7, hsa⟩ := alL (T := T) nsa []
      generalize upd H6 sa _ = H7 at e7 hsa ⊢
      walk_at "rd"
      exact fin ca sa _ [] H7 ((((e03.trans e4.any).trans e5).trans e6.any).trans e7.any) ((T5.ext e6).ext e7) (lst.x hca e7) hsa (sL_ok.1.sublist (List.take_sublist _ _)) (by simp) (fun y hy => sL_ok.2 y (List.mem_of_mem_take hy)) (by simp) (by rw [List.length_take]; exact Nat.le_trans (Nat.min_le_right _ _) (by decide)) (by simp) (fun _ _ => rfl)
    | s n k =>
      have hu3 : Im H3 u (.tuple [.str (Str.ofString "set"), .str n, .str k]) := hu3
      walk_at "rd"
      refine rd_ixSs hu3 rfl ?_
      walk_at "rd"
      refine rd_ite (fun h => absurd h (by decide +kernel)) (fun _ => ?_)
      walk_at "rd"
      refine rd_ixSs hu3 rfl ?_
      walk_at "rd"
      refine rd_ite (fun h => absurd h (by decide +kernel)) (fun _ => ?_)
      walk_at "rd"
      refine rd_ixSs hu3 rfl ?_
      walk_at "rd"
      refine rd_ite (fun h => absurd h (by decide +kernel)) (fun _ => ?_)
      walk_at "rd"
      refine ⟨l, t, 4, rfl, by decide, by decide, T3, fun d H4 h0 h1 e4 T4 => ?_⟩
      have ho4 := lst.y ho3 e4 hot
      walk_at "rd"
      refine ⟨l, t, d, rfl, h0, by omega, T4, fun ca ids H5 nca hil hin hid hca e5 T5 => ?_⟩
      have ho5 := lst.y ho4 e5 hot
      walk_at "rd"
      refine rd_takeS T ho5 (by decide) fun sa H6 _ e6 hsa => ?_
      walk_at "rd"
      exact fin ca sa _ _ H6 (((e03.trans e4).trans e5).trans e6.any) (T5.ext e6) (lst.x hca e6) hsa hin k1n hid k1i (by omega) k1l (fun z h => by cases h)
end

open PySem PySem.Spec PyProof.Rows L2

section
variable {T : List (Addr × Str)} {P : Program} {w : World} {K : PySem.W.Frag} {mg : Str → Option Value} {base : Heap}
theorem s9_ok : PyData.strOk "s1" = true ∧ PyData.strOk "s2" = true ∧ PyData.strOk "t9" = true := by decide +kernel
theorem slots_len {R : Rm} (h : RmIn R) : (slotsR R).length ≤ 30 := by
  unfold slotsR
  rw [List.length_append, List.length_cons, List.length_map, List.length_flatMap]
  have h1 : ((R.zs.tail).map fun z => ([Sl.k z.1, .l z.1, .h z.1] : List Sl).length).sum ≤ (R.zs.tail).length * 3 := by
    have h := sum_le (B := 3) (l := (R.zs.tail).map fun z => ([Sl.k z.1, .l z.1, .h z.1] : List Sl).length) fun x hx => by
      obtain ⟨y, _, rfl⟩ := List.mem_map.mp hx
      exact Nat.le_refl 3
    rw [List.length_map] at h
    exact h
  have h2 : (R.zs.tail).length ≤ 5 := by
    rw [List.length_tail]
    have := h.len
    omega
  have := h.slen
  omega
theorem rows_of {R : Rm} {H : Hp} : ∀ {ds : List PyData} {xs : List V} {sls : List Sl}, ImAll H xs (sls.map slD) → PySem.W.EachIs (fun d x => ∃ (s : Sl) (i : Itm), Im H x (slD s) ∧ d = rowD2 (s, i) ∧ ItmOk s i) ds xs → ∃ its : List (Sl × Itm), ds = its.map rowD2 ∧ its.map (·.1) = sls ∧ ∀ r ∈ its, ItmOk r.1 r.2 := by
  intro ds xs sls
  induction sls generalizing ds xs with
  | nil =>
    intro h1 h2
    cases h1
    cases h2
    exact ⟨[], rfl, rfl, by simp⟩
  | cons s sls ih =>
    intro h1 h2
    cases h1 with
    | cons a b =>
      cases h2 with
      | cons c d =>
        obtain ⟨its, e1, e2, h3⟩ := ih b d
        obtain ⟨s', i, c1, c2, c3⟩ := c
        have e := slD_inj (Im.inj _ _ _ a c1)
        subst e
        refine ⟨(s, i) :: its, by rw [e1, c2]; rfl, by rw [List.map_cons, e2], fun r hr => ?_⟩
        rcases List.mem_cons.mp hr with h | h
        · rw [h]
          exact c3
        · exact h3 r h
theorem ok_law_start (D : Def K mg "_law_start" s_law_start ["tape", "realm", "pools"]) (mb : ∀ x ∈ bltns, mg x = none) (G_law_take : Ok P w K mg base 2 "_law_take" ["tape", "many"] (spTake T)) (G_law_slots : Ok P w K mg base 1 "_law_slots" ["realm"] (spSlots T))
    (G_law_first_item : Ok P w K mg base 5 "_law_first_item" ["tape", "realm", "pools", "slot"] (spFirst T)) : Ok P w K mg base 6 "_law_start" ["tape", "realm", "pools"] (spStart T) := by
  refine D.ok sc_law_start (fun vs H Q E h => ?_) (fun cdv f A outer s H vs Q E hr h => ?_)
  · obtain ⟨l, t, pa, v, R, ps, rfl, _⟩ := h
    rfl
  · obtain ⟨l, t, pa, v, R, ps, rfl, hT, hv, hR, hP, hps, q⟩ := h
    refine ⟨_, (pss_cons (ps_setLc (i := 3) (own := [("slot", 7)]) (g := gName 7) (tt := tYes) rfl sc_law_start.nd rfl rfl (sw_true rfl rfl rfl (by decide +kernel)) (pi_seq K rfl (pe_callO G_law_slots (hr.mono (by decide)) (by rfl) (pa_cons (pv 1) pa_nil))) (blkOk_by (N := N_law_start) (sc := defScope s_law_start) (by decide +kernel)) (fun _ _ _ _ _ => (pg_name (i := 7) sc_law_start.nd rfl (Or.inl rfl))) (fun _ _ _ _ _ => pts_nil) (fun _ _ _ _ _ => (pe_tup (pa_cons (pv 7) (pa_cons (pe_callO G_law_first_item (hr.mono (by decide)) (by rfl) (pa_cons (pv 0) (pa_cons (pv 1) (pa_cons (pv 2) (pa_cons (pv 7) pa_nil))))) pa_nil)))))
   (pss_cons (ps_set (i := 4) sc_law_start.nd rfl (.inl rfl) (pe_lst pa_nil))
   (pss_cons (ps_for PassesOwn.never rfl (pi_seq K rfl (pe_slice (sl_U K rfl) (pe_ix (ix_U K rfl) (pv 1) pe_int (fun _ _ => rfl)) (po_some pe_int) po_none)) (pg_tupU (n := 2) K rfl rfl (pgs_cons (pg_name (i := 5) sc_law_start.nd rfl (.inl rfl)) (pgs_cons (pg_name (i := 6) sc_law_start.nd rfl (.inl rfl)) pgs_nil))) (pss_cons (ps_set (i := 4) sc_law_start.nd rfl (.inl rfl) (pe_op (op_plus K rfl) (pv 4) (pe_lst (pa_cons (pe_tup (pa_cons pe_str (pa_cons (pv 5) pa_nil))) (pa_cons (pe_tup (pa_cons pe_str (pa_cons (pv 5) pa_nil))) pa_nil)))))
   (pss_one (ps_if (pt_cmpR (op_eqU K rfl hr.units) (pe_callO G_law_take (hr.mono (by decide)) (by rfl) (pa_cons (pv 0) (pa_cons pe_int pa_nil))) pe_int (nomark _)) (pss_one (ps_expr (pe_bm PySem.F.plainAttrs_list PySem.F.slot_list_append PySem.F.type_list_append mt_append (pv 4) (pa_cons (pe_tup (pa_cons pe_str (pa_cons (pv 5) pa_nil))) pa_nil)))) pss_nil))))
   (pss_one (ps_ret (pe_tup (pa_cons (pe_callTy (call_tupF K rfl) (by rfl) (mb _ (by decide)) (by decide +kernel) (pa_cons (pv 3) pa_nil)) (pa_cons (pe_callTy (call_tupU K rfl) (by rfl) (mb _ (by decide)) (by decide +kernel) (pa_cons (pe_callB (call_sortedU K rfl hr.units) (by rfl) (mb _ (by decide)) (by decide +kernel) (pa_cons (pv 4) pa_nil)) pa_nil)) pa_nil)))))))), ?_⟩
    refine rd_seq ?_
    walk_at "rdn"
    refine ⟨v, R, rfl, hv, hR, fun sp H1 nsp e1 hsp => ?_⟩
    have hv1 := hv.x e1
    have hP1 := hP.ext0 e1
    have T1 := hT.ext e1
    have hst := (hT.ne nsp).1
    obtain ⟨xs, hxs, hxi⟩ := hsp.list
    have hxl : xs.length ≤ 30 := by
      rw [hxi.len, List.length_map]
      exact slots_len hR
    walk_at "rdn"
    refine lcg_im T [t] walk_list xs rfl (fun i H x H' y => y) (fun H' => Tape l H' t) T1 (fun D o h => T1.upd h) (fun D H' nD T' ys u h => T'.own (T1.ne nD).1 (T1.ne nD).2) (fun H' T' => T'.lsts) (fun H' e _ => e.seqL (by simpa using hst) (SqL.of hxs)) (Nat.lt_of_le_of_lt hxl (by decide)) (fun _ => true) (fun d x => ∃ (s : Sl) (i : Itm), Im H1 x (slD s) ∧ d = rowD2 (s, i) ∧ ItmOk s i) (fun i x hx H' e' T' R' S h1 h2 => ?_) (fun D H2 ds nD e2 T2 hD hds => ?_)
    · obtain ⟨dr, hdr, hxr⟩ := hxi.get' hx
      rw [List.getElem?_map] at hdr
      obtain ⟨sl, hsl, rfl⟩ := Option.map_eq_some_iff.mp hdr
      refine rd_name ⟨wipe1, ?_⟩
      walk_at "rd"
      refine ⟨l, t, pa, v, x, R, ps, sl, rfl, T', hv1.y e' T1, hR, hP1.ext e' T1, hps, hxr.y e' T1, List.mem_of_getElem? hsl, fun y it H3 hit hy e3 T3 => ?_⟩
      walk_at "rd"
      refine ⟨by show 2 ≤ sizeLine; decide, fun ta nta => ?_⟩
      obtain ⟨_, e4, hta⟩ := alT (T := T) nta [x, y]
      show R' (.ref ta) (upd H3 ta (.tup [x, y]))
      generalize upd H3 ta _ = H4 at e4 hta ⊢
      have e34 := e3.trans e4.any
      exact h1 rfl _ (rowD2 (sl, it)) H4 e34 (T3.ext e4) (.new2 ((hxr.y e' T1).ext e34 T'.lsts) (hy.x e4) hta) ⟨sl, it, hxr, rfl, hit⟩
    · rw [filtT] at hds
      obtain ⟨its, rfl, hi1, hi2⟩ := rows_of (R := R) hxi hds
      have hv2 := hv1.y e2 T1
      have hDt := (T1.ne nD).1
      have hDn : Nw H D := e1.back (by simp) nD
      have e02 : Ext T [t] H H2 := e1.any.trans e2
      clear e1 hsp hP hP1 hv hv1 hxs hxi
      walk_at "rdn"
      refine rd_seq ?_
      walk_at "rdn"
      refine ⟨by show 0 ≤ sizeLine; decide, fun op nop => ?_⟩
      have hnop : Nw H op := e02.back (by simpa using (T2.ne (.of nop)).1) (.of nop)
      have hDop := hD.ne nop
      obtain ⟨_, e3, hop⟩ := alL (T := T) nop []
      show gName 4 _ _ (upd H2 op (.lst [])) _
      generalize upd H2 op _ = H3 at e3 hop ⊢
      have hv3 := hv2.x e3
      have T3 := T2.ext e3
      have hD3 := hD.x e3
      have e03 := e02.trans e3.any
      have hop3 : Ls H3 op (([] : List (Str × Str)).map ssD) := ⟨_, hop, .nil⟩
      walk_at "rdn"
      obtain ⟨lag, rest, hz, _⟩ := hR.ne
      have hrl : rest.length ≤ 5 := by
        have := hR.len
        rw [hz, List.length_cons] at this
        omega
      have htl : R.zs.tail = rest := by rw [hz]; rfl
      refine rd_cut (fun σ H4 => Ext T [t] H H4 ∧ Tape l H4 t ∧ Ls H4 D (its.map rowD2) ∧ ∃ (p : Addr) (on : List (Str × Str)) (a b : Option V), σ = [some (.ref t), some v, some (.ref pa), some (.ref D), some (.ref p), a, b, none] ∧ Ls H4 p (on.map ssD) ∧ on.length ≤ 15) (fun nx' hnx => ?_) (fun σ H4 h => ?_)
      · walk_at "rd"
        refine rd_ixI (d := .tuple (R.zs.map siD)) hv3 rfl fun u hu => ?_
        obtain ⟨zp, zx, rfl, hzp, hzi⟩ := hu.tup'
        have hzl : zx.length = 1 + rest.length := by
          rw [hzi.len, List.length_map, hz, List.length_cons]
          omega
        walk_at "rd"
        refine rd_slT (SqT.of hzp) (fun h => ?_) fun sp2 nsp2 => ?_
        · have h0 := h.1
          rw [show HT.sIx zx.length 0 (some 1) = min 1 zx.length from HT.sIx_nat zx.length 0 1] at h0
          omega
        rw [cutV_from (α := V) zx (by decide), show Int.toNat 1 = 1 from rfl]
        obtain ⟨_, e4, hs4⟩ := alT (T := T) nsp2 (zx.drop 1)
        show ∃ a, _ ∧ ((_ ∧ ForG _ _ _ _ _ (upd H3 sp2 (.tup (zx.drop 1)))) ∨ (_ ∧ ForG _ _ _ _ _ (upd H3 sp2 (.tup (zx.drop 1)))))
        generalize upd H3 sp2 _ = H4 at e4 hs4 ⊢
        have hi4 := (hzi.drop 1).x e4
        have ed : R.zs.drop 1 = R.zs.tail := List.drop_one
        rw [← List.map_drop, ed] at hi4
        generalize zx.drop 1 = ys at hi4 hs4
        refine ⟨sp2, rfl, .inr ⟨⟨_, SqT.of hs4⟩, ?_⟩⟩
        have e04 := e03.trans e4.any
        have T4 := T3.ext e4
        refine forg_tup (xs := ys) (fun i σ H5 => Ext T [t] H H5 ∧ Tape l H5 t ∧ SqP H5 sp2 ys ∧ ImAll H5 ys (R.zs.tail.map siD) ∧ Ls H5 D (its.map rowD2) ∧ ∃ (p : Addr) (on : List (Str × Str)) (a b : Option V), σ = [some (.ref t), some v, some (.ref pa), some (.ref D), some (.ref p), a, b, none] ∧ Ls H5 p (on.map ssD) ∧ on.length ≤ 3 * i)
          ⟨e04, T4, hs4, hi4, hD3.x e4, op, [], none, none, rfl, hop3.x e4, by simp⟩ (fun i σ H5 _ h => SqT.of h.2.2.1) (fun i x σ H5 hx h => ?_) (fun σ H5 h => ?_)
        · obtain ⟨e5, T5, hs5, hi5, hD5, p, on, a, b, rfl, hp5, hon⟩ := h
          obtain ⟨dz, hdz, hxz⟩ := hi5.get' hx
          rw [List.getElem?_map] at hdz
          obtain ⟨z, hzz, rfl⟩ := Option.map_eq_some_iff.mp hdz
          have hznm := hR.nm z (List.mem_of_mem_tail (List.mem_of_getElem? hzz))
          have hi5' : i < 5 := by
            have := (List.getElem?_eq_some_iff.mp hzz).1
            rw [htl] at this
            omega
          refine rd_gpair (d1 := .str z.1) (d2 := .int z.2) hxz fun v1 v2 g1 g2 => ?_
          rw [g1.str', g2.int']
          walk_at "rd"
          refine ⟨by show 2 ≤ sizeLine; decide, fun t1 n1 => ?_⟩
          obtain ⟨_, x1, h1⟩ := alT (T := T) n1 [.str (Str.ofString "s1"), .str z.1]
          show tCons _ _ _ (upd H5 t1 (.tup [.str (Str.ofString "s1"), .str z.1])) _
          generalize upd H5 t1 _ = H6 at x1 h1 ⊢
          walk_at "rd"
          refine ⟨by show 2 ≤ sizeLine; decide, fun t2 n2 => ?_⟩
          obtain ⟨_, x2, h2⟩ := alT (T := T) n2 [.str (Str.ofString "s2"), .str z.1]
          show tNil _ (upd H6 t2 (.tup [.str (Str.ofString "s2"), .str z.1])) _
          generalize upd H6 t2 _ = H7 at x2 h2 ⊢
          walk_at "rd"
          refine ⟨by show 2 ≤ sizeLine; decide, fun la nla => ?_⟩
          obtain ⟨_, x3, h3⟩ := alL (T := T) nla [.ref t1, .ref t2]
          show rPlus _ _ _ (upd H7 la (.lst [.ref t1, .ref t2])) _
          generalize upd H7 la _ = H8 at x3 h3 ⊢
          have i1 : Im H8 (.ref t1) (ssD (Str.ofString "s1", z.1)) := ((Im.new2 (.str _ s9_ok.1) (.str _ (name_ok hznm)) h1).x x2).x x3
          have i2 : Im H8 (.ref t2) (ssD (Str.ofString "s2", z.1)) := (Im.new2 (.str _ s9_ok.2.1) (.str _ (name_ok hznm)) h2).x x3
          have hp8 := ((hp5.x x1).x x2).x x3
          have x13 := (x1.trans x2).trans x3
          obtain ⟨px, hpx, hpi⟩ := hp8.list
          have hpl : px.length = on.length := by rw [hpi.len, List.length_map]
          refine rd_catA T hpx h3 (by rw [hpl]; simp only [List.length_cons, List.length_nil]; omega) fun p' H9 np' x4 hp' => ?_
          have hp9 : Ls H9 p' ((on ++ [(Str.ofString "s1", z.1), (Str.ofString "s2", z.1)]).map ssD) := ⟨_, hp', by rw [List.map_append]; exact (hpi.x x4).app (.cons (i1.x x4) (.cons (i2.x x4) .nil))⟩
          have x14 := x13.trans x4
          have e9 := e5.trans x14.any
          have T9 := T5.ext x14
          have hs9 := SqP.x hs5 x14
          have hi9 := hi5.x x14
          have hD9 := hD5.x x14
          have hpn9 : Nw H p' := (e5.trans x13.any).back (by simpa using ((T5.ext x13).ne np').1) np'
          have hDp9 : D ≠ p' := fun e => by
            obtain ⟨dx, hdx, _⟩ := (hD5.x x13).list
            exact np'.lst (e ▸ hdx) rfl
          refine rd_name ?_
          refine rd_if ?_
          walk_at "rd"
          refine ⟨l, t, 3, rfl, by decide, by decide, T9, fun d H10 h0 h1' e10 T10 => ?_⟩
          have hpt9 := ((T5.ext x13).ne np').1
          have hpl9 := ((T5.ext x13).ne np').2
          have hp10 := hp9.y e10 hpt9 T9
          have hs10 := SqP.ext hs9 e10 T9.lsts
          have hi10 := hi9.y e10 T9
          have hD10 := hD9.y e10 hDt T9
          have e010 := e9.trans e10
          walk_at "rd"
          refine rd_ite (fun hd => ?_) (fun hd => ?_)
          · obtain ⟨px2, hpx2, _⟩ := hp10.list
            walk_at "rd"
            refine ⟨by show 2 ≤ sizeLine; decide, fun t3 n3 => ?_⟩
            obtain ⟨_, x5, h5⟩ := alT (T := T) n3 [.str (Str.ofString "t9"), .str z.1]
            refine rd_nil ?_
            generalize upd H10 t3 _ = H11 at x5 h5 ⊢
            have i3 : Im H11 (.ref t3) (ssD (Str.ofString "t9", z.1)) := Im.new2 (.str _ s9_ok.2.2) (.str _ (name_ok hznm)) h5
            refine rd_appLs (hp10.x x5) i3 ?_ fun ws hw hp12 => ?_
            · rw [List.length_map, List.length_append]
              exact Nat.lt_of_le_of_lt (show _ ≤ 100 by simp only [List.length_cons, List.length_nil]; omega) (by decide)
            · have x6 : Ext T [p'] H11 (upd H11 p' (.lst (ws ++ [.ref t3]))) := Ext.mut (by simp) hw
              refine ⟨(e010.trans x5.any).own hpn9 hw, (T10.ext x5).own hpt9 hpl9, SqP.ext (SqP.x hs10 x5) x6 (lsts_one hw), ImAll.ext x6 (lsts_one hw) _ _ (hi10.x x5), (hD10.x x5).ext x6 (by simpa using hDp9) (lsts_one hw), p', on ++ [(Str.ofString "s1", z.1), (Str.ofString "s2", z.1)] ++ [(Str.ofString "t9", z.1)], _, _, rfl, ?_, ?_⟩
              · rw [List.map_append]
                exact hp12
              · simp only [List.length_append, List.length_cons, List.length_nil]
                omega
          · walk_at "rd"
            exact ⟨e010, T10, hs10, hi10, hD10, p', _, _, _, rfl, hp10, by simp only [List.length_append, List.length_cons, List.length_nil]; omega⟩
        · obtain ⟨e5, T5, hs5, hi5, hD5, p, on, a, b, rfl, hp5, hon⟩ := h
          exact hnx _ _ ⟨e5, T5, hD5, p, on, a, b, rfl, hp5, by
            have : ys.length = rest.length := by rw [hi5.len, List.length_map, htl]
            omega⟩
      · obtain ⟨e4, T4, hD4, p, on, a, b, rfl, hp4, hon⟩ := h
        obtain ⟨dx, hdx, hdi⟩ := hD4.list
        walk_at "rd"
        refine rd_tupFA T hdx fun ti H5 o nti e5 hod hti => ?_
        have hdi5 := hdi.x e5
        walk_at "rd"
        refine rd_sortA T (hp4.x e5) (alike_ss on) (sortable_ss on) (depth_ss on) fun sa H6 ys nsa e6 hsa hys => ?_
        rw [srtSS_eq] at hys
        walk_at "rd"
        refine rd_tupA T hsa fun to H7 nto e7 hto => ?_
        walk_at "rd"
        refine ⟨by show 2 ≤ sizeLine; decide, fun r nr => ?_⟩
        obtain ⟨_, e8, hr8⟩ := alT (T := T) nr [.ref ti, .ref to]
        generalize upd H7 r _ = H8 at e8 hr8 ⊢
        have e58 := (e6.trans e7).trans e8
        refine q (.ref r) ⟨its, srtSS on⟩ H8 ⟨hi1, hi2, ?_⟩ ?_ ⟨r, ti, .ref to, dx, o, rfl, hr8, e58.keep ti _ (by simp) (fun _ z => by cases z) hti, hod, hdi5.x e58, (Im.tup hto (hys.x e7)).x e8⟩ ((e4.trans e5.any).trans e58.any) (((T4.ext e5).ext e58))
        · show (srtSS on).length ≤ 100
          rw [(srtSS_perm on).length_eq]
          omega
        · show (srtSS on).length ≤ 20
          rw [(srtSS_perm on).length_eq]
          omega
end

open PySem PySem.Spec PyProof.Rows L2
open PySem.W (EachIs)
/-! ### items of data that pass a test -/
open Classical in
noncomputable def pIm (H : Hp) {α : Type} (f : α → PyData) (c : α → Bool) (x : V) : Bool := decide (∃ a, Im H x (f a) ∧ c a = true)
theorem pIm_eq {H : Hp} {α : Type} {f : α → PyData} {c : α → Bool} {x : V} {a : α} (hf : ∀ a b, f a = f b → a = b) (h : Im H x (f a)) : pIm H f c x = c a := by
  unfold pIm
  cases hc : c a with
  | true => exact @decide_eq_true _ (Classical.propDecidable _) ⟨a, h, hc⟩
  | false =>
    refine @decide_eq_false _ (Classical.propDecidable _) fun ⟨b, h1, h2⟩ => ?_
    have := hf _ _ (Im.inj _ _ _ h h1)
    rw [← this, hc] at h2
    cases h2
theorem each_filter {H : Hp} {α : Type} {f : α → PyData} {c : α → Bool} (hf : ∀ a b, f a = f b → a = b) : ∀ {xs : List V} {as : List α}, ImAll H xs (as.map f) → EachIs (fun x a => Im H x (f a)) (xs.filter (pIm H f c)) (as.filter c)
  | xs, [], h => by
    cases h
    exact .nil
  | xs, a :: as, h => by
    cases h with
    | cons h1 h2 =>
      have e := pIm_eq (c := c) hf h1
      cases hc : c a with
      | true =>
        rw [List.filter_cons_of_pos (by rw [e, hc]), List.filter_cons_of_pos hc]
        exact .cons h1 (each_filter hf h2)
      | false =>
        rw [List.filter_cons_of_neg (by rw [e, hc]; decide), List.filter_cons_of_neg (by rw [hc]; decide)]
        exact each_filter hf h2
theorem each_comp {α β γ : Type} {R : α → β → Prop} {S : β → γ → Prop} : ∀ {as : List α} {bs : List β} {cs : List γ}, EachIs R as bs → EachIs S bs cs → EachIs (fun a c => ∃ b, R a b ∧ S b c) as cs
  | _, _, _, .nil, .nil => .nil
  | _, _, _, .cons a s, .cons b t => .cons ⟨_, a, b⟩ (each_comp s t)
theorem rowD2_inj {a b : Sl × Itm} (h : rowD2 a = rowD2 b) : a = b := by
  unfold rowD2 at h
  injection h with h
  injection h with h1 h
  injection h with h2 _
  exact Prod.ext (slD_inj h1) (itD_inj h2)
theorem filter_fst {its : List (Sl × Itm)} {sl : Sl} {i : Itm} (hn : (its.map (·.1)).Nodup) (hm : (sl, i) ∈ its) : its.filter (fun r => decide (r.1 = sl)) = [(sl, i)] := by
  induction its with
  | nil => cases hm
  | cons p ps ih =>
    rw [List.map_cons, List.nodup_cons] at hn
    rcases List.mem_cons.mp hm with e | hm
    · subst e
      rw [List.filter_cons_of_pos (by simp), List.filter_eq_nil_iff.mpr]
      intro y hy h
      have h2 : y.1 = sl := of_decide_eq_true h
      exact hn.1 (List.mem_map.mpr ⟨y, hy, h2⟩)
    · rw [List.filter_cons_of_neg, ih hn.2 hm]
      intro h
      have h2 : p.1 = sl := of_decide_eq_true h
      exact hn.1 (List.mem_map.mpr ⟨_, hm, h2.symm⟩)
theorem SqF {K : PySem.W.Frag} {H : Hp} {a : Addr} {o : Obj} {xs : List V} (h : H a = some (.frz o (.tup xs))) : SqT K H a xs := .inl (.inr ⟨o, h⟩)
theorem frz.x {T : List (Addr × Str)} {H H' : Hp} {a : Addr} {o : Obj} {u : HO} (h : H a = some (.frz o u)) (e : Ext T [] H H') : H' a = some (.frz o u) := e.keep a _ (by simp) (fun _ z => by cases z) h

open PySem PySem.Spec PyProof.Rows L2

section
variable {T : List (Addr × Str)} {P : Program} {w : World} {K : PySem.W.Frag} {mg : Str → Option Value} {base : Heap}
theorem ok_law_at (D : Def K mg "_law_at" s_law_at ["state", "slot"]) (mb : ∀ x ∈ bltns, mg x = none) : Ok P w K mg base 1 "_law_at" ["state", "slot"] (spAt T) := by
  refine D.ok sc_law_at (fun vs H Q E h => ?_) (fun cdv f A outer s H vs Q E hr h => ?_)
  · obtain ⟨v, u, s, sl, i, rfl, _⟩ := h
    rfl
  · obtain ⟨v, u, s, sl, i, rfl, hv, hu, hm, hnd, hl, q⟩ := h
    refine ⟨_, (pss_one (ps_ret (pe_ix (ix_U K rfl) (pe_lc (own := [("name", 2), ("item", 3)]) rfl sc_law_at.nd (pi_seq K rfl (pe_ix (ix_U K rfl) (pv 0) pe_int (fun _ _ => rfl))) (blkOk_by (N := N_law_at) (sc := defScope s_law_at) (by decide +kernel)) (fun _ _ _ _ _ => (pg_tupU (n := 2) K rfl rfl (pgs_cons (pg_name (i := 2) sc_law_at.nd rfl (Or.inl rfl)) (pgs_cons (pg_name (i := 3) sc_law_at.nd rfl (Or.inl rfl)) pgs_nil)))) (fun _ _ _ _ _ => (pts_one (pt_cmpR (op_eqU K rfl hr.units) (pv 2) (pv 1) (nomark _)))) (fun _ _ _ _ _ => (pv 3))) pe_int (fun _ _ => rfl)))), ?_⟩
    obtain ⟨a, ia, oa, xs, o, rfl, ha, hia, hod, hxi, hoa⟩ := hv
    walk_at "rd"
    refine rd_ixT (v := .ref ia) (SqT.of ha) rfl ?_
    refine ⟨ia, rfl, .inr ⟨⟨_, SqF hia⟩, ?_⟩⟩
    have hxl : xs.length ≤ 100 := by
      rw [hxi.len, List.length_map]
      exact hl
    refine lcg_rel T [] walk_tup xs rfl (fun i H x H' y => y) (by simp) (fun H' e => SqF (frz.x hia e)) (Nat.lt_of_le_of_lt hxl (by decide)) (pIm H rowD2 fun r => decide (r.1 = sl)) (fun v x => ∃ r, Im H x (rowD2 r) ∧ Im H v (itD r.2)) (fun i x hx H' e' R S h1 h2 => ?_) (fun D H1 us nD e1 hD hus => ?_)
    · obtain ⟨dr, hdr, hxr⟩ := hxi.get' hx
      rw [List.getElem?_map] at hdr
      obtain ⟨r, hr, rfl⟩ := Option.map_eq_some_iff.mp hdr
      obtain ⟨ta, y1, y2, rfl, hta, g1, g2⟩ := hxr.pair'
      have hp := pIm_eq (c := fun r : Sl × Itm => decide (r.1 = sl)) (fun a b => rowD2_inj) hxr
      refine rd_gtup (SqT.of (SqP.x hta e')) rfl ?_
      walk_at "rd"
      refine ⟨rfl, ?_⟩
      walk_at "rd"
      refine rd_eqI (b := decide (r.1 = sl)) (g1.x e') (hu.x e') (Nat.le_trans (dep_sl _) (by decide)) (Nat.le_trans (dep_sl _) (by decide)) (Iff.trans ⟨fun e => slD_inj e, fun e => by rw [e]⟩ decide_eq_true_iff.symm) ?_
      refine ⟨_, rfl, ?_⟩
      refine rd_ite (fun hz => ?_) (fun hz => ?_)
      · walk_at "rd"
        exact h1 (hp.trans (decide_eq_true hz)) _ _ .refl ⟨r, hxr, g2⟩
      · exact h2 (hp.trans (decide_eq_false hz)) _ .refl
    · have h3 := each_comp hus (each_filter (c := fun r : Sl × Itm => decide (r.1 = sl)) (fun a b => rowD2_inj) hxi)
      rw [filter_fst hnd hm] at h3
      cases h3 with
      | cons a b =>
        cases b
        obtain ⟨x, ⟨r, c1, c2⟩, c3⟩ := a
        have e := rowD2_inj (Im.inj _ _ _ c1 c3)
        subst e
        walk_at "rd"
        exact q _ H1 e1 (c2.x e1)
theorem ok_law_after (D : Def K mg "_law_after" s_law_after ["state", "deed"]) (mb : ∀ x ∈ bltns, mg x = none) : Ok P w K mg base 1 "_law_after" ["state", "deed"] (spAfter T) := by
  refine D.ok sc_law_after (fun vs H Q E h => ?_) (fun cdv f A outer s H vs Q E hr h => ?_)
  · obtain ⟨v, u, s, d, rfl, _⟩ := h
    rfl
  · obtain ⟨v, u, s, d, rfl, hv, hu, hl, hol, q⟩ := h
    refine ⟨_, (pss_cons (ps_if (pt_cmpR (op_eqU K rfl hr.units) (pe_ix (ix_U K rfl) (pv 1) pe_int (fun _ _ => rfl)) pe_str (nomark _)) (pss_one (ps_ret (pe_tup (pa_cons (pe_callTy (call_tupF K rfl) (by rfl) (mb _ (by decide)) (by decide +kernel) (pa_cons (pe_lc (own := [("slot", 4), ("item", 5)]) (tt := tYes) rfl sc_law_after.nd (pi_seq K rfl (pe_ix (ix_U K rfl) (pv 0) pe_int (fun _ _ => rfl))) (blkOk_by (N := N_law_after) (sc := defScope s_law_after) (by decide +kernel)) (fun _ _ _ _ _ => (pg_tupU (n := 2) K rfl rfl (pgs_cons (pg_name (i := 4) sc_law_after.nd rfl (Or.inl rfl)) (pgs_cons (pg_name (i := 5) sc_law_after.nd rfl (Or.inl rfl)) pgs_nil)))) (fun _ _ _ _ _ => pts_nil) (fun _ _ _ _ _ => (pe_tup (pa_cons (pv 4) (pa_cons (pe_ifExp (pt_cmpR (op_eqU K rfl hr.units) (pv 4) (pe_ix (ix_U K rfl) (pv 1) pe_int (fun _ _ => rfl)) (nomark _)) (pe_ix (ix_U K rfl) (pv 1) pe_int (fun _ _ => rfl)) (pv 5)) pa_nil))))) pa_nil)) (pa_cons (pe_ix (ix_U K rfl) (pv 0) pe_int (fun _ _ => rfl)) pa_nil))))) pss_nil)
   (pss_cons (ps_set (i := 2) sc_law_after.nd rfl (.inr rfl) (pe_tup (pa_cons (pe_ix (ix_U K rfl) (pv 1) pe_int (fun _ _ => rfl)) (pa_cons (pe_ix (ix_U K rfl) (pv 1) pe_int (fun _ _ => rfl)) pa_nil))))
   (pss_cons (ps_if (pt_cmpR (op_eqU K rfl hr.units) (pe_ix (ix_U K rfl) (pv 1) pe_int (fun _ _ => rfl)) pe_str (nomark _)) (pss_one (ps_ret (pe_tup (pa_cons (pe_ix (ix_U K rfl) (pv 0) pe_int (fun _ _ => rfl)) (pa_cons (pe_callTy (call_tupU K rfl) (by rfl) (mb _ (by decide)) (by decide +kernel) (pa_cons (pe_callB (call_sortedU K rfl hr.units) (by rfl) (mb _ (by decide)) (by decide +kernel) (pa_cons (pe_op (op_plus K rfl) (pe_callTy (call_listU K rfl) (by rfl) (mb _ (by decide)) (by decide +kernel) (pa_cons (pe_ix (ix_U K rfl) (pv 0) pe_int (fun _ _ => rfl)) pa_nil)) (pe_lst (pa_cons (pv 2) pa_nil))) pa_nil)) pa_nil)) pa_nil))))) pss_nil)
   (pss_one (ps_ret (pe_tup (pa_cons (pe_ix (ix_U K rfl) (pv 0) pe_int (fun _ _ => rfl)) (pa_cons (pe_callTy (call_tupU K rfl) (by rfl) (mb _ (by decide)) (by decide +kernel) (pa_cons (pe_lc (own := [("other", 3)]) (g := gName 3) rfl sc_law_after.nd (pi_seq K rfl (pe_ix (ix_U K rfl) (pv 0) pe_int (fun _ _ => rfl))) (blkOk_by (N := N_law_after) (sc := defScope s_law_after) (by decide +kernel)) (fun _ _ _ _ _ => (pg_name (i := 3) sc_law_after.nd rfl (Or.inl rfl))) (fun _ _ _ _ _ => (pts_one (pt_cmpR (op_neU K rfl hr.units) (pv 3) (pv 2) (nomark _)))) (fun _ _ _ _ _ => (pv 3))) pa_nil)) pa_nil)))))))), ?_⟩
    obtain ⟨a, ia, oa, xs, o, rfl, ha, hia, hod, hxi, hoa⟩ := hv
    have hxl : xs.length ≤ 100 := by
      rw [hxi.len, List.length_map]
      exact hl
    cases d with
    | put sl it =>
      have hu : Im H u (.tuple [.str (Str.ofString "put"), slD sl, itD it]) := hu
      walk_at "rd"
      refine rd_ixSs hu rfl ?_
      walk_at "rd"
      refine rd_ite (fun _ => ?_) (fun h => absurd rfl h)
      walk_at "rd"
      refine rd_ixT (v := .ref ia) (SqT.of ha) rfl ?_
      refine ⟨ia, rfl, .inr ⟨⟨_, SqF hia⟩, ?_⟩⟩
      refine lcg_im T [] walk_tup xs rfl (fun i H x H' y => y) (fun _ => True) trivial (fun _ _ _ => trivial) (fun _ _ _ _ _ _ _ => trivial) (fun _ _ => Lsts.nil) (fun H' e _ => SqF (frz.x hia e)) (Nat.lt_of_le_of_lt hxl (by decide)) (fun _ => true) (fun d x => ∃ r, Im H x (rowD2 r) ∧ d = rowD2 (r.1, if r.1 = sl then it else r.2)) (fun i x hx H' e' _ R S h1 h2 => ?_) (fun D H1 ds nD e1 _ hD hds => ?_)
      · obtain ⟨dr, hdr, hxr⟩ := hxi.get' hx
        rw [List.getElem?_map] at hdr
        obtain ⟨r, hr, rfl⟩ := Option.map_eq_some_iff.mp hdr
        obtain ⟨ta, y1, y2, rfl, hta, g1, g2⟩ := hxr.pair'
        refine rd_gtup (SqT.of (SqP.x hta e')) rfl ?_
        walk_at "rd"
        refine ⟨rfl, ?_⟩
        walk_at "rd"
        refine rd_ixI (d := slD sl) (hu.x e') rfl fun u1 hu1 => ?_
        refine rd_eqI (b := decide (r.1 = sl)) (g1.x e') hu1 (Nat.le_trans (dep_sl _) (by decide)) (Nat.le_trans (dep_sl _) (by decide)) (Iff.trans ⟨fun e => slD_inj e, fun e => by rw [e]⟩ decide_eq_true_iff.symm) ?_
        refine ⟨_, rfl, ?_⟩
        have fin : ∀ (y : V) (j : Itm), Im H' y (itD j) → (if r.1 = sl then it else r.2) = j → (tNil ((wipe (start N_law_after [.ref a, u]) [4, 5]).set 4 (some y1) |>.set 5 (some y2)) H' fun xs H1 => (y1 :: y :: xs).length ≤ sizeLine ∧ ∀ p, H1 p = none → R (.ref p) (upd H1 p (.tup (y1 :: y :: xs)))) := fun y j hy hj => by
          refine rd_nil ?_
          refine ⟨by show 2 ≤ sizeLine; decide, fun tb ntb => ?_⟩
          obtain ⟨_, e4, htb⟩ := alT (T := T) ntb [y1, y]
          generalize upd H' tb _ = H4 at e4 htb ⊢
          exact h1 rfl _ _ H4 e4 trivial (.new2 ((g1.x e').x e4) (hy.x e4) htb) ⟨r, hxr, by rw [hj]; rfl⟩
        refine rd_ite (fun hz => ?_) (fun hz => ?_)
        · walk_at "rd"
          refine rd_ixI (d := itD it) (hu.x e') rfl fun u2 hu2 => ?_
          exact fin u2 it hu2 (if_pos hz)
        · walk_at "rd"
          exact fin y2 r.2 (g2.x e') (if_neg hz)
      · rw [filtT] at hds
        have hd : ds = ((s.its.map fun r => (r.1, if r.1 = sl then it else r.2)) : List (Sl × Itm)).map rowD2 := by
          have key : ∀ {ds : List PyData} {xs : List V} {rs : List (Sl × Itm)}, ImAll H xs (rs.map rowD2) → PySem.W.EachIs (fun d x => ∃ r, Im H x (rowD2 r) ∧ d = rowD2 (r.1, if r.1 = sl then it else r.2)) ds xs → ds = ((rs.map fun r => (r.1, if r.1 = sl then it else r.2)) : List (Sl × Itm)).map rowD2 := by
            intro ds xs rs
            induction rs generalizing ds xs with
            | nil =>
              intro h1 h2
              cases h1
              cases h2
              rfl
            | cons r rs ih =>
              intro h1 h2
              cases h1 with
              | cons a b =>
                cases h2 with
                | cons c d =>
                  obtain ⟨r', c1, c2⟩ := c
                  have e := rowD2_inj (Im.inj _ _ _ a c1)
                  rw [ih b d, c2, ← e]
                  rfl
          exact key hxi hds
        rw [hd] at hD
        obtain ⟨dx, hdx, hdi⟩ := hD.list
        walk_at "rd"
        refine rd_tupFA T hdx fun ti H2 o2 nti e2 hod2 hti => ?_
        walk_at "rd"
        have e12 := e1.trans e2
        refine rd_ixT (v := oa) (SqT.of (SqP.x (xs := [.ref ia, oa]) ha e12)) rfl ?_
        walk_at "rd"
        refine ⟨by show 2 ≤ sizeLine; decide, fun r nr => ?_⟩
        obtain ⟨_, e3, hr3⟩ := alT (T := T) nr [.ref ti, oa]
        generalize upd H2 r _ = H3 at e3 hr3 ⊢
        exact q _ H3 (e12.trans e3) ⟨r, ti, oa, dx, o2, rfl, hr3, frz.x hti e3, hod2, (hdi.x e2).x e3, (hoa.x e12).x e3⟩
    | on x z =>
      have hu : Im H u (.tuple [.str (Str.ofString "on"), .str x, .str z]) := hu
      obtain ⟨b, ox, rfl, hob, hoi⟩ := hoa.tup'
      have hxz : PyData.strOk x = true ∧ PyData.strOk z = true := by
        have h := Im.lay _ _ hu
        have h : (PyData.strOk (Str.ofString "on") && (PyData.strOk x && (PyData.strOk z && true))) = true := h
        simp only [Bool.and_eq_true] at h
        exact ⟨h.2.1, h.2.2.1⟩
      walk_at "rd"
      refine rd_ixSs hu rfl ?_
      walk_at "rd"
      refine rd_ite (fun h => absurd h (by decide +kernel)) (fun _ => ?_)
      walk_at "rd"
      refine rd_ixSs hu rfl ?_
      walk_at "rd"
      refine rd_ixSs hu rfl ?_
      walk_at "rd"
      refine ⟨by show 2 ≤ sizeLine; decide, fun tr ntr => ?_⟩
      obtain ⟨_, e1, htr⟩ := alT (T := T) ntr [.str x, .str z]
      show gName 2 _ _ (upd H tr (.tup [.str x, .str z])) _
      generalize upd H tr _ = H1 at e1 htr ⊢
      walk_at "rd"
      refine rd_ixSs (hu.x e1) rfl ?_
      walk_at "rd"
      refine rd_ite (fun _ => ?_) (fun h => absurd rfl h)
      walk_at "rd"
      refine rd_ixT (v := .ref ia) (SqT.of (SqP.x (xs := [.ref ia, .ref b]) ha e1)) rfl ?_
      walk_at "rd"
      refine rd_ixT (v := .ref b) (SqT.of (SqP.x (xs := [.ref ia, .ref b]) ha e1)) rfl ?_
      walk_at "rd"
      refine rd_listA T (SqT.of (SqP.x hob e1)) fun la H2 nla e2 hla => ?_
      walk_at "rd"
      refine ⟨by show 1 ≤ sizeLine; decide, fun lb nlb => ?_⟩
      obtain ⟨_, e3, hlb⟩ := alL (T := T) nlb [.ref tr]
      show rPlus _ _ _ (upd H2 lb (.lst [.ref tr])) _
      generalize upd H2 lb _ = H3 at e3 hlb ⊢
      have hol2 : ox.length ≤ 500 := by
        rw [hoi.len, List.length_map]
        exact hol
      refine rd_catA T (lst.x hla e3) hlb (by simp only [List.length_cons, List.length_nil]; omega) fun lc H4 nlc e4 hlc => ?_
      walk_at "rd"
      have e14 := ((e1.trans e2).trans e3).trans e4
      have hrow : Im H4 (.ref tr) (ssD (x, z)) := (((Im.new2 (.str _ hxz.1) (.str _ hxz.2) htr).x e2).x e3).x e4
      refine rd_sortA T (ds := (s.on ++ [(x, z)]).map ssD) ⟨_, hlc, by rw [List.map_append]; exact (hoi.x e14).app (.cons hrow .nil)⟩ (alike_ss _) (sortable_ss _) (depth_ss _) fun sa H5 ys nsa e5 hsa hys => ?_
      rw [srtSS_eq] at hys
      walk_at "rd"
      refine rd_tupA T hsa fun to H6 nto e6 hto => ?_
      walk_at "rd"
      refine ⟨by show 2 ≤ sizeLine; decide, fun r nr => ?_⟩
      obtain ⟨_, e7, hr7⟩ := alT (T := T) nr [.ref ia, .ref to]
      generalize upd H6 r _ = H7 at e7 hr7 ⊢
      have e17 := ((e14.trans e5).trans e6).trans e7
      exact q _ H7 e17 ⟨r, ia, .ref to, xs, o, rfl, hr7, frz.x hia e17, hod, hxi.x e17, (Im.tup hto (hys.x e6)).x e7⟩
    | off x z =>
      have hu : Im H u (.tuple [.str (Str.ofString "off"), .str x, .str z]) := hu
      obtain ⟨b, ox, rfl, hob, hoi⟩ := hoa.tup'
      have hxz : PyData.strOk x = true ∧ PyData.strOk z = true := by
        have h := Im.lay _ _ hu
        have h : (PyData.strOk (Str.ofString "off") && (PyData.strOk x && (PyData.strOk z && true))) = true := h
        simp only [Bool.and_eq_true] at h
        exact ⟨h.2.1, h.2.2.1⟩
      walk_at "rd"
      refine rd_ixSs hu rfl ?_
      walk_at "rd"
      refine rd_ite (fun h => absurd h (by decide +kernel)) (fun _ => ?_)
      walk_at "rd"
      refine rd_ixSs hu rfl ?_
      walk_at "rd"
      refine rd_ixSs hu rfl ?_
      walk_at "rd"
      refine ⟨by show 2 ≤ sizeLine; decide, fun tr ntr => ?_⟩
      obtain ⟨_, e1, htr⟩ := alT (T := T) ntr [.str x, .str z]
      show gName 2 _ _ (upd H tr (.tup [.str x, .str z])) _
      generalize upd H tr _ = H1 at e1 htr ⊢
      have hrow : Im H1 (.ref tr) (ssD (x, z)) := Im.new2 (.str _ hxz.1) (.str _ hxz.2) htr
      walk_at "rd"
      refine rd_ixSs (hu.x e1) rfl ?_
      walk_at "rd"
      refine rd_ite (fun h => absurd h (by decide +kernel)) (fun _ => ?_)
      walk_at "rd"
      refine rd_ixT (v := .ref ia) (SqT.of (SqP.x (xs := [.ref ia, .ref b]) ha e1)) rfl ?_
      walk_at "rd"
      refine rd_ixT (v := .ref b) (SqT.of (SqP.x (xs := [.ref ia, .ref b]) ha e1)) rfl ?_
      refine ⟨b, rfl, .inr ⟨⟨_, SqT.of (SqP.x hob e1)⟩, ?_⟩⟩
      have hol2 : ox.length ≤ 500 := by
        rw [hoi.len, List.length_map]
        exact hol
      refine lcg_rel T [] walk_tup ox rfl (fun i H x H' y => y) (by simp) (fun H' e => SqT.of (SqP.x (SqP.x hob e1) e)) (Nat.lt_of_le_of_lt hol2 (by decide)) (pIm H ssD fun p => !decide (p = (x, z))) (fun v x => v = x) (fun i y hy H' e' R S h1 h2 => ?_) (fun D H2 us nD e2 hD hus => ?_)
      · obtain ⟨dr, hdr, hyr⟩ := hoi.get' hy
        rw [List.getElem?_map] at hdr
        obtain ⟨r, hr, rfl⟩ := Option.map_eq_some_iff.mp hdr
        have hp := pIm_eq (c := fun p : Str × Str => !decide (p = (x, z))) (fun a b => ssD_inj) hyr
        refine rd_name ⟨wipe1, ?_⟩
        walk_at "rd"
        refine rd_neI (b := decide (r = (x, z))) ((hyr.x e1).x e') (hrow.x e') (Nat.le_trans (dep_ss _) (by decide)) (Nat.le_trans (dep_ss _) (by decide)) (Iff.trans ⟨fun e => ssD_inj e, fun e => by rw [e]⟩ decide_eq_true_iff.symm) ?_
        refine ⟨_, rfl, ?_⟩
        refine rd_itn (fun hz => ?_) (fun hz => ?_)
        · exact h2 (hp.trans (by show (!decide (r = (x, z))) = false; rw [decide_eq_true hz]; rfl)) _ .refl
        · walk_at "rd"
          exact h1 (hp.trans (by show (!decide (r = (x, z))) = true; rw [decide_eq_false hz]; rfl)) _ _ .refl rfl
      · have hus2 : us = ox.filter (pIm H ssD fun p => !decide (p = (x, z))) := by
          have key : ∀ {us vs : List V}, PySem.W.EachIs (fun v x => v = x) us vs → us = vs := by
            intro us vs h
            induction h with
            | nil => rfl
            | cons a b ih => rw [a, ih]
          exact key hus
        have him : ImAll H us ((s.on.filter fun p => !decide (p = (x, z))).map ssD) := by
          rw [hus2]
          have key : ∀ {xs : List V} {as : List (Str × Str)}, PySem.W.EachIs (fun x a => Im H x (ssD a)) xs as → ImAll H xs (as.map ssD) := by
            intro xs as h
            induction h with
            | nil => exact .nil
            | cons a b ih => exact .cons a ih
          exact key (each_filter (c := fun p : Str × Str => !decide (p = (x, z))) (fun a b => ssD_inj) hoi)
        walk_at "rd"
        refine rd_tupA T hD fun to H3 nto e3 hto => ?_
        walk_at "rd"
        refine ⟨by show 2 ≤ sizeLine; decide, fun r nr => ?_⟩
        obtain ⟨_, e4, hr4⟩ := alT (T := T) nr [.ref ia, .ref to]
        generalize upd H3 r _ = H4 at e4 hr4 ⊢
        have e14 := ((e1.trans e2).trans e3).trans e4
        exact q _ H4 e14 ⟨r, ia, .ref to, xs, o, rfl, hr4, frz.x hia e14, hod, hxi.x e14, (Im.tup hto (((him.x e1).x e2).x e3)).x e4⟩
end

open PySem PySem.Spec PyProof.Rows L2
open PySem.W (EachIs)
/-! ### deeds drawn -/
def DdOk (R : Rm) : Dd → Prop
  | .put s i => s ∈ slotsR R ∧ ItmOk s i
  | .on x z => idB x = true ∧ z ∈ R.zs.tail.map (·.1)
  | .off x z => idB x = true ∧ z ∈ R.zs.tail.map (·.1)
theorem aft_on (s : Sta) (d : Dd) : (aft s d).on.length ≤ s.on.length + 1 := by
  cases d with
  | put sl i => exact Nat.le_succ _
  | on x z =>
    show (srtSS _).length ≤ _
    rw [(srtSS_perm _).length_eq, List.length_append]
    exact Nat.le_refl _
  | off x z => exact Nat.le_succ_of_le (List.length_filter_le _ _)
theorem aft_ok {R : Rm} {s : Sta} {d : Dd} (h : StaOk R s) (hd : DdOk R d) (hl : s.on.length + 1 ≤ 100) : StaOk R (aft s d) := by
  refine ⟨(aft_keys s d).trans h.nm, ?_, Nat.le_trans (aft_on s d) hl⟩
  cases d with
  | put sl i =>
    intro r hr
    obtain ⟨y, hy, e⟩ := List.mem_map.mp (show r ∈ s.its.map (fun r => (r.1, if r.1 = sl then i else r.2)) from hr)
    rw [← e]
    by_cases h2 : y.1 = sl
    · show ItmOk y.1 (if y.1 = sl then i else y.2)
      rw [if_pos h2, h2]
      exact hd.2
    · show ItmOk y.1 (if y.1 = sl then i else y.2)
      rw [if_neg h2]
      exact h.ok y hy
  | on x z => exact h.ok
  | off x z => exact h.ok
theorem sta_len {R : Rm} {s : Sta} (hR : RmIn R) (h : StaOk R s) (hl : (slotsR R).length ≤ 30) : s.its.length ≤ 100 := by
  have := congrArg List.length h.nm
  rw [List.length_map] at this
  omega
theorem sta_nodup {R : Rm} {s : Sta} (hR : RmIn R) (h : StaOk R s) : (s.its.map (·.1)).Nodup := by
  rw [h.nm]
  exact slots_nodup hR
theorem sta_find {R : Rm} {s : Sta} {sl : Sl} (h : StaOk R s) (hs : sl ∈ slotsR R) : ∃ i, (sl, i) ∈ s.its := by
  rw [← h.nm] at hs
  obtain ⟨r, hr, e⟩ := List.mem_map.mp hs
  exact ⟨r.2, by rw [← e]; exact hr⟩
section
variable (T : List (Addr × Str))
def spServer : Sp := fun vs H Q _ => ∃ (l t : Addr) (v u : V) (R : Rm) (s : Sta), vs = [.ref t, v, u] ∧ Tape l H t ∧ Im H v (rmD R) ∧ RmIn R ∧ 1 < R.zs.length ∧ StAt H u s ∧ s.on.length ≤ 100 ∧
  ∀ (x : V) (d : Dd) (H' : Hp), DdOk R d → Im H' x (ddD d) → Ext T [t] H H' → Tape l H' t → Q x H'
def spMixed : Sp := fun vs H Q _ => ∃ (l t pa : Addr) (v u x : V) (R : Rm) (ps : List (Str × List Str)) (s : Sl) (i : Itm), vs = [.ref t, v, .ref pa, u, x] ∧ Tape l H t ∧ Im H v (rmD R) ∧ RmIn R ∧ Pools H t pa ps ∧ PsOk R ps ∧ Im H u (slD s) ∧ s ∈ slotsR R ∧ (∀ z, s ≠ .h z) ∧ Im H x (itD i) ∧ ItmOk s i ∧
  ∀ (y : V) (j : Itm) (H' : Hp), ItmOk s j → Im H' y (itD j) → Ext T [t] H H' → Tape l H' t → Q y H'
def spDeed : Sp := fun vs H Q _ => ∃ (l t pa : Addr) (v u : V) (R : Rm) (ps : List (Str × List Str)) (s : Sta), vs = [.ref t, v, .ref pa, u] ∧ Tape l H t ∧ Im H v (rmD R) ∧ RmIn R ∧ Pools H t pa ps ∧ PsOk R ps ∧ StAt H u s ∧ StaOk R s ∧
  ∀ (x : V) (d : Dd) (H' : Hp), DdOk R d → Im H' x (ddD d) → Ext T [t] H H' → Tape l H' t → Q x H'
def spDeeds : Sp := fun vs H Q _ => ∃ (l t pa : Addr) (v u : V) (R : Rm) (ps : List (Str × List Str)) (s : Sta) (m : Int), vs = [.ref t, v, .ref pa, u, .int m] ∧ Tape l H t ∧ Im H v (rmD R) ∧ RmIn R ∧ Pools H t pa ps ∧ PsOk R ps ∧ StAt H u s ∧ StaOk R s ∧ s.on.length ≤ 50 ∧ 0 ≤ m ∧ m ≤ 20 ∧
  ∀ (x : V) (ds : List Dd) (H' : Hp), (∀ d ∈ ds, DdOk R d) → (ds.length : Int) = m → Im H' x (.tuple (ds.map ddD)) → Ext T [t] H H' → Tape l H' t → Q x H'
end
def s4L : List Str := ["s1", "s2", "s3", "t9"]
theorem s4_ok : ∀ y ∈ s4L, idB y = true := by decide +kernel
def hostL : List (List Str) := [["s1"], ["s2"], ["s1", "s3"], ["s3"], ["s2", "t9"]]
theorem host_ok : ∀ c ∈ hostL, c.Nodup ∧ (∀ y ∈ c, idB y = true) ∧ c.length ≤ 4 := by decide +kernel
theorem zin {R : Rm} (h : RmIn R) {z : Str} (hz : z ∈ R.zs.tail.map (·.1)) : nameB z = true ∧ Sl.h z ∈ slotsR R := by
  obtain ⟨y, hy, rfl⟩ := List.mem_map.mp hz
  refine ⟨h.nm y (List.mem_of_mem_tail hy), ?_⟩
  unfold slotsR
  refine List.mem_append_left _ (List.mem_cons_of_mem _ (List.mem_flatMap.mpr ⟨y, hy, by simp⟩))

open PySem PySem.Spec PyProof.Rows L2

section
variable {T : List (Addr × Str)} {P : Program} {w : World} {K : PySem.W.Frag} {mg : Str → Option Value} {base : Heap}
theorem ok_law_server_deed (D : Def K mg "_law_server_deed" s_law_server_deed ["tape", "realm", "state"]) (mb : ∀ x ∈ bltns, mg x = none) (G_law_take : Ok P w K mg base 2 "_law_take" ["tape", "many"] (spTake T)) (G_law_life : Ok P w K mg base 3 "_law_life" ["tape"] (spInt T 1 1000))
    (G_law_item : Ok P w K mg base 1 "_law_item" ["content", "life", "signers"] (spItem T)) : Ok P w K mg base 4 "_law_server_deed" ["tape", "realm", "state"] (spServer T) := by
  refine D.ok sc_law_server_deed (fun vs H Q E h => ?_) (fun cdv f A outer s H vs Q E hr h => ?_)
  · obtain ⟨l, t, v, u, R, s, rfl, _⟩ := h
    rfl
  · obtain ⟨l, t, v, u, R, s, rfl, hT, hv, hR, hR1, hu, hon, q⟩ := h
    refine ⟨_, (pss_cons (ps_setLc (i := 4) (own := [("zone", 3), ("lag", 9)]) (tt := tYes) rfl sc_law_server_deed.nd rfl rfl (sw_true rfl rfl rfl (by decide +kernel)) (pi_seq K rfl (pe_slice (sl_U K rfl) (pe_ix (ix_U K rfl) (pv 1) pe_int (fun _ _ => rfl)) (po_some pe_int) po_none)) (blkOk_by (N := N_law_server_deed) (sc := defScope s_law_server_deed) (by decide +kernel)) (fun _ _ _ _ _ => (pg_tupU (n := 2) K rfl rfl (pgs_cons (pg_name (i := 3) sc_law_server_deed.nd rfl (Or.inl rfl)) (pgs_cons (pg_name (i := 9) sc_law_server_deed.nd rfl (Or.inl rfl)) pgs_nil)))) (fun _ _ _ _ _ => pts_nil) (fun _ _ _ _ _ => (pv 3)))
   (pss_cons (ps_set (i := 3) sc_law_server_deed.nd rfl (.inl rfl) (pe_ix (ix_U K rfl) (pv 4) (pe_callO G_law_take (hr.mono (by decide)) (by rfl) (pa_cons (pv 0) (pa_cons (pe_callB (call_lenU K rfl) (by rfl) (mb _ (by decide)) (by decide +kernel) (pa_cons (pv 4) pa_nil)) pa_nil))) (fun _ _ => rfl)))
   (pss_cons (ps_set (i := 5) sc_law_server_deed.nd rfl (.inl rfl) (pe_ix (ix_U K rfl) (pe_lst (pa_cons pe_str (pa_cons pe_str (pa_cons pe_str (pa_cons pe_str pa_nil))))) (pe_callO G_law_take (hr.mono (by decide)) (by rfl) (pa_cons (pv 0) (pa_cons pe_int pa_nil))) (fun _ _ => rfl)))
   (pss_cons (ps_if (pt_cmpR (op_eqU K rfl hr.units) (pe_callO G_law_take (hr.mono (by decide)) (by rfl) (pa_cons (pv 0) (pa_cons pe_int pa_nil))) pe_int (nomark _)) (pss_cons (ps_set (i := 6) sc_law_server_deed.nd rfl (.inl rfl) (pe_ifExp (pt_cmpR (op_inW K rfl (Room.units65 hr)) (pe_tup (pa_cons (pv 5) (pa_cons (pv 3) pa_nil))) (pe_ix (ix_U K rfl) (pv 2) pe_int (fun _ _ => rfl)) rfl) pe_str pe_str))
   (pss_one (ps_ret (pe_tup (pa_cons (pv 6) (pa_cons (pv 5) (pa_cons (pv 3) pa_nil))))))) pss_nil)
   (pss_cons (ps_set (i := 7) sc_law_server_deed.nd rfl (.inl rfl) (pe_tup (pa_cons pe_str (pa_cons (pv 3) pa_nil))))
   (pss_cons (ps_set (i := 8) sc_law_server_deed.nd rfl (.inl rfl) (pe_ix (ix_U K rfl) (pe_lst (pa_cons (pe_lst (pa_cons pe_str pa_nil)) (pa_cons (pe_lst (pa_cons pe_str pa_nil)) (pa_cons (pe_lst (pa_cons pe_str (pa_cons pe_str pa_nil))) (pa_cons (pe_lst (pa_cons pe_str pa_nil)) (pa_cons (pe_lst (pa_cons pe_str (pa_cons pe_str pa_nil))) pa_nil)))))) (pe_callO G_law_take (hr.mono (by decide)) (by rfl) (pa_cons (pv 0) (pa_cons pe_int pa_nil))) (fun _ _ => rfl)))
   (pss_one (ps_ret (pe_tup (pa_cons pe_str (pa_cons (pv 7) (pa_cons (pe_callO G_law_item (hr.mono (by decide)) (by rfl) (pa_cons (pv 8) (pa_cons (pe_callO G_law_life (hr.mono (by decide)) (by rfl) (pa_cons (pv 0) pa_nil)) (pa_cons (pe_lst pa_nil) pa_nil)))) pa_nil)))))))))))), ?_⟩
    refine rd_seq ?_
    walk_at "rdn"
    refine rd_ixI (d := .tuple (R.zs.map siD)) hv rfl fun u1 hu1 => ?_
    obtain ⟨zp, zx, rfl, hzp, hzi⟩ := hu1.tup'
    have hzl : zx.length = R.zs.length := by rw [hzi.len, List.length_map]
    walk_at "rdn"
    refine rd_slT (SqT.of hzp) (fun h => ?_) fun sp nsp => ?_
    · have h0 := h.1
      rw [show HT.sIx zx.length 0 (some 1) = min 1 zx.length from HT.sIx_nat zx.length 0 1] at h0
      omega
    rw [cutV_from (α := V) zx (by decide), show Int.toNat 1 = 1 from rfl]
    obtain ⟨_, e1, hs1⟩ := alT (T := T) nsp (zx.drop 1)
    show ∃ a, _ ∧ ((_ ∧ LcG _ _ _ _ _ _ (upd H sp (.tup (zx.drop 1))) _) ∨ (_ ∧ LcG _ _ _ _ _ _ (upd H sp (.tup (zx.drop 1))) _))
    generalize upd H sp _ = H1 at e1 hs1 ⊢
    have hi1 := (hzi.drop 1).x e1
    have ed : R.zs.drop 1 = R.zs.tail := List.drop_one
    rw [← List.map_drop, ed] at hi1
    generalize zx.drop 1 = ys at hi1 hs1
    refine ⟨sp, rfl, .inr ⟨⟨_, SqT.of hs1⟩, ?_⟩⟩
    have hyl : ys.length = R.zs.tail.length := by rw [hi1.len, List.length_map]
    have htl : R.zs.tail.length ≤ 5 ∧ 0 < R.zs.tail.length := by
      rw [List.length_tail]
      have := hR.len
      omega
    refine lcg_rel T [] walk_tup ys rfl (fun i H x H' y => y) (by simp) (fun H' e => SqT.of (SqP.x hs1 e)) (Nat.lt_of_le_of_lt (show ys.length ≤ 100 by omega) (by decide)) (fun _ => true) (fun v x => ∃ r, Im H1 x (siD r) ∧ v = .str r.1) (fun i x hx H' e' R' S h1 h2 => ?_) (fun D H2 us nD e2 hD hus => ?_)
    · obtain ⟨dr, hdr, hxr⟩ := hi1.get' hx
      rw [List.getElem?_map] at hdr
      obtain ⟨r, hr, rfl⟩ := Option.map_eq_some_iff.mp hdr
      refine rd_gpair (d1 := .str r.1) (d2 := .int r.2) (hxr.x e') fun v1 v2 g1 g2 => ?_
      rw [g1.str', g2.int']
      refine ⟨rfl, ?_⟩
      walk_at "rd"
      exact h1 rfl _ _ .refl ⟨r, hxr, rfl⟩
    · rw [filtT] at hus
      have hu2 : us = (R.zs.tail.map (·.1)).map V.str := by
        have key : ∀ {us ys : List V} {rs : List (Str × Int)}, ImAll H1 ys (rs.map siD) → PySem.W.EachIs (fun v x => ∃ r, Im H1 x (siD r) ∧ v = .str r.1) us ys → us = (rs.map (·.1)).map V.str := by
          intro us ys rs
          induction rs generalizing us ys with
          | nil =>
            intro h1 h2
            cases h1
            cases h2
            rfl
          | cons r rs ih =>
            intro h1 h2
            cases h1 with
            | cons a b =>
              cases h2 with
              | cons c d =>
                obtain ⟨r', c1, c2⟩ := c
                have e := Im.inj _ _ _ a c1
                injection e with e
                injection e with e _
                injection e with e
                rw [ih b d, c2, List.map_cons, List.map_cons, e]
        exact key hi1 hus
      subst hu2
      have hDn : Nw H D := e1.back (by simp) nD
      have T2 := (hT.ext e1).ext e2
      have e02 := e1.trans e2
      have hDt := (hT.ne hDn).1
      have hu2 := hu.x e02
      clear hv hu hT e1 hi1 hs1 hzp hzi e2
      walk_at "rd"
      refine ⟨l, t, _, rfl, ?_, ?_, T2, fun d0 H3 h00 h01 e3 T3 => ?_⟩
      · rw [List.length_map, List.length_map]
        omega
      · rw [List.length_map, List.length_map]
        omega
      have hD3 := lst.y hD e3 hDt
      have hu3 := hu2.y e3 T2
      obtain ⟨c, hc1, hc2, hc3⟩ := at_in (l := (R.zs.tail.map (·.1)).map V.str) h00 h01
      obtain ⟨z, hz, rfl⟩ := List.mem_map.mp hc3
      have hzz := zin hR hz
      refine rd_ixL (SqL.of hD3) hc1 ?_
      walk_at "rd"
      refine ⟨by show 4 ≤ sizeLine; decide, fun la nla => ?_⟩
      obtain ⟨nla, e4, hla⟩ := alL (T := T) nla (s4L.map V.str)
      have hlat := (T3.ne nla).1
      show tCall _ _ _ _ _ (upd H3 la (.lst (s4L.map V.str))) _
      generalize upd H3 la _ = H4 at e4 hla ⊢
      have T4 := T3.ext e4
      walk_at "rd"
      refine ⟨l, t, 4, rfl, by decide, by decide, T4, fun d1 H5 h10 h11 e5 T5 => ?_⟩
      obtain ⟨c, hc1, hc2, hc3⟩ := at_in (l := s4L.map V.str) h10 (by show d1 < 4; omega)
      obtain ⟨x, hx, rfl⟩ := List.mem_map.mp hc3
      have hxo := s4_ok x hx
      refine rd_ixL (SqL.of (lst.y hla e5 hlat)) hc1 ?_
      have hu5 := (hu3.x e4).y e5 T4
      have e05 := ((e02.any.trans e3).trans e4.any).trans e5
      clear e02 hu2 T2 hD e3 T3 hD3 hu3 e4 T4 hla e5
      walk_at "rd"
      refine ⟨l, t, 2, rfl, by decide, by decide, T5, fun d2 H6 h20 h21 e6 T6 => ?_⟩
      have hu6 := hu5.y e6 T5
      have e06 := e05.trans e6
      walk_at "rd"
      refine rd_ite (fun hd => ?_) (fun hd => ?_)
      · walk_at "rd"
        refine ⟨by show 2 ≤ sizeLine; decide, fun tr ntr => ?_⟩
        obtain ⟨_, e7, htr⟩ := alT (T := T) ntr [.str x, .str z]
        show tOp _ _ _ _ (upd H6 tr (.tup [.str x, .str z])) _
        generalize upd H6 tr _ = H7 at e7 htr ⊢
        have hu7 := hu6.x e7
        obtain ⟨a, ia, oa, xs, o, rfl, ha, hia, hod, hxi, hoa⟩ := hu7
        walk_at "rd"
        refine rd_ixT (v := oa) (SqT.of ha) rfl ?_
        have hrow : Im H7 (.ref tr) (ssD (x, z)) := Im.new2 (.str _ (id_ok hxo)) (.str _ (name_ok hzz.1)) htr
        have hdep : PyData.depth (.tuple (s.on.map ssD)) ≤ 64 := by
          show PyData.depthAll (s.on.map ssD) + 1 ≤ 64
          have := dep_map dep_ss s.on
          omega
        refine rd_inWI (b := decide ((x, z) ∈ s.on)) hrow hoa (Nat.le_trans (dep_ss _) (by decide)) hdep (mem_ssD.trans decide_eq_true_iff.symm) ?_
        refine ⟨_, rfl, ?_⟩
        have e07 := e06.trans e7.any
        have T7 := T6.ext e7
        refine rd_ite (fun hin => ?_) (fun hin => ?_)
        · walk_at "rd"
          refine ⟨by show 3 ≤ sizeLine; decide, fun r nr => ?_⟩
          obtain ⟨_, e8, hr8⟩ := alT (T := T) nr [.str (Str.ofString "off"), .str x, .str z]
          generalize upd H7 r _ = H8 at e8 hr8 ⊢
          exact q _ (.off x z) H8 ⟨hxo, hz⟩ (.new3 (.str _ (by decide +kernel)) (.str _ (id_ok hxo)) (.str _ (name_ok hzz.1)) hr8) (e07.trans e8.any) (T7.ext e8)
        · walk_at "rd"
          refine ⟨by show 3 ≤ sizeLine; decide, fun r nr => ?_⟩
          obtain ⟨_, e8, hr8⟩ := alT (T := T) nr [.str (Str.ofString "on"), .str x, .str z]
          generalize upd H7 r _ = H8 at e8 hr8 ⊢
          exact q _ (.on x z) H8 ⟨hxo, hz⟩ (.new3 (.str _ (by decide +kernel)) (.str _ (id_ok hxo)) (.str _ (name_ok hzz.1)) hr8) (e07.trans e8.any) (T7.ext e8)
      · walk_at "rd"
        refine ⟨by show 2 ≤ sizeLine; decide, fun tr ntr => ?_⟩
        obtain ⟨_, e7, htr⟩ := alT (T := T) ntr [.str (Str.ofString "hosts"), .str z]
        show gName 7 _ _ (upd H6 tr (.tup [.str (Str.ofString "hosts"), .str z])) _
        generalize upd H6 tr _ = H7 at e7 htr ⊢
        have T7 := T6.ext e7
        have e07 := e06.trans e7.any
        have hslo : Im H7 (.ref tr) (slD (.h z)) := Im.new2 (.str _ kw_ok.2.2.1) (.str _ (name_ok hzz.1)) htr
        walk_at "rd"
        refine ⟨by show 1 ≤ sizeLine; decide, fun a1 n1 => ?_⟩
        obtain ⟨m1, x1, h1⟩ := alL (T := T) n1 [.str (Str.ofString "s1")]
        show tCons _ _ _ (upd H7 a1 (.lst [.str (Str.ofString "s1")])) _
        generalize upd H7 a1 _ = G1 at x1 h1 ⊢
        walk_at "rd"
        refine ⟨by show 1 ≤ sizeLine; decide, fun a2 n2 => ?_⟩
        obtain ⟨m2, x2, h2⟩ := alL (T := T) n2 [.str (Str.ofString "s2")]
        show tCons _ _ _ (upd G1 a2 (.lst [.str (Str.ofString "s2")])) _
        generalize upd G1 a2 _ = G2 at x2 h2 ⊢
        walk_at "rd"
        refine ⟨by show 2 ≤ sizeLine; decide, fun a3 n3 => ?_⟩
        obtain ⟨m3, x3, h3⟩ := alL (T := T) n3 [.str (Str.ofString "s1"), .str (Str.ofString "s3")]
        show tCons _ _ _ (upd G2 a3 (.lst [.str (Str.ofString "s1"), .str (Str.ofString "s3")])) _
        generalize upd G2 a3 _ = G3 at x3 h3 ⊢
        walk_at "rd"
        refine ⟨by show 1 ≤ sizeLine; decide, fun a4 n4 => ?_⟩
        obtain ⟨m4, x4, h4⟩ := alL (T := T) n4 [.str (Str.ofString "s3")]
        show tCons _ _ _ (upd G3 a4 (.lst [.str (Str.ofString "s3")])) _
        generalize upd G3 a4 _ = G4 at x4 h4 ⊢
        walk_at "rd"
        refine ⟨by show 2 ≤ sizeLine; decide, fun a5 n5 => ?_⟩
        obtain ⟨m5, x5, h5⟩ := alL (T := T) n5 [.str (Str.ofString "s2"), .str (Str.ofString "t9")]
        show tNil _ (upd G4 a5 (.lst [.str (Str.ofString "s2"), .str (Str.ofString "t9")])) _
        generalize upd G4 a5 _ = G5 at x5 h5 ⊢
        walk_at "rd"
        refine ⟨by show 5 ≤ sizeLine; decide, fun a6 n6 => ?_⟩
        obtain ⟨m6, x6, h6⟩ := alL (T := T) n6 [.ref a1, .ref a2, .ref a3, .ref a4, .ref a5]
        show tCall _ _ _ _ _ (upd G5 a6 (.lst [.ref a1, .ref a2, .ref a3, .ref a4, .ref a5])) _
        generalize upd G5 a6 _ = G6 at x6 h6 ⊢
        have T1' := T7.ext x1
        have T2' := T1'.ext x2
        have T3' := T2'.ext x3
        have T4' := T3'.ext x4
        have T5' := T4'.ext x5
        have T6' := T5'.ext x6
        have xx := ((((x1.trans x2).trans x3).trans x4).trans x5).trans x6
        walk_at "rd"
        refine ⟨l, t, 5, rfl, by decide, by decide, T6', fun d3 G7 h30 h31 x7 T7' => ?_⟩
        have h67 := lst.y h6 x7 (T5'.ne m6).1
        have slo7 := (hslo.x xx).y x7 T6'
        have e0g := (e07.trans xx.any).trans x7
        have pick : ∃ (ca : Addr) (cs : List Str), cs ∈ hostL ∧ G7 ca = some (.lst (cs.map V.str)) ∧ atI [V.ref a1, .ref a2, .ref a3, .ref a4, .ref a5] d3 = some (.ref ca) := by
          obtain ⟨c, hc1, hc2⟩ := at_inV (xs := [V.ref a1, .ref a2, .ref a3, .ref a4, .ref a5]) h30 (by show d3 < 5; omega)
          have hm := List.mem_of_getElem? hc2
          simp only [List.mem_cons, List.not_mem_nil, or_false] at hm
          rcases hm with rfl | rfl | rfl | rfl | rfl
          · exact ⟨a1, ["s1"], by simp [hostL], lst.y (lst.x (lst.x (lst.x (lst.x (lst.x h1 x2) x3) x4) x5) x6) x7 (T7.ne m1).1, hc1⟩
          · exact ⟨a2, ["s2"], by simp [hostL], lst.y (lst.x (lst.x (lst.x (lst.x h2 x3) x4) x5) x6) x7 (T1'.ne m2).1, hc1⟩
          · exact ⟨a3, ["s1", "s3"], by simp [hostL], lst.y (lst.x (lst.x (lst.x h3 x4) x5) x6) x7 (T2'.ne m3).1, hc1⟩
          · exact ⟨a4, ["s3"], by simp [hostL], lst.y (lst.x (lst.x h4 x5) x6) x7 (T3'.ne m4).1, hc1⟩
          · exact ⟨a5, ["s2", "t9"], by simp [hostL], lst.y (lst.x h5 x6) x7 (T4'.ne m5).1, hc1⟩
        obtain ⟨ca, cs, hcs, hca, hat⟩ := pick
        obtain ⟨hc1, hc2, hc3⟩ := host_ok cs hcs
        have hct : ca ≠ t := fun e => by
          obtain ⟨ns', pos, rs', st', bud, q1, _⟩ := T7'
          rw [e, q1] at hca
          injection hca with hca
          injection hca with hca
          match cs, hca with
          | [], hca => cases hca
          | y :: cs, hca =>
            rw [List.map_cons] at hca
            injection hca with hca _
            cases hca
        refine rd_ixL (SqL.of h67) hat ?_
        walk_at "rd"
        refine ⟨l, t, rfl, T7', fun li G8 hl0 hl1 x8 T8' => ?_⟩
        have hca8 := lst.y hca x8 hct
        have slo8 := slo7.y x8 T7'
        walk_at "rd"
        refine ⟨by show 0 ≤ sizeLine; decide, fun ea nea => ?_⟩
        obtain ⟨_, x9, h9⟩ := alL (T := T) nea []
        refine rd_nil ?_
        generalize upd G8 ea _ = G9 at x9 h9 ⊢
        refine ⟨ca, ea, cs, [], li, rfl, lst.x hca8 x9, h9, hc2, by simp, fun y G10 x10 hy => ?_⟩
        walk_at "rd"
        refine ⟨by show 3 ≤ sizeLine; decide, fun r nr => ?_⟩
        obtain ⟨_, x11, h11⟩ := alT (T := T) nr [.str (Str.ofString "put"), .ref tr, y]
        generalize upd G10 r _ = G11 at x11 h11 ⊢
        refine q _ (.put (.h z) ⟨srtS cs, li, srtS [], 0, 10000⟩) G11 ⟨hzz.2, ⟨cs, rfl, hc1, hc2, hc3⟩, ⟨[], rfl, by simp, by simp, by simp⟩, ⟨hl0, hl1⟩, ⟨show (0 : Int) ≤ 0 by decide, show (0 : Int) ≤ 10000 by decide, show (10000 : Int) ≤ 10000 by decide⟩, fun _ _ => ⟨srtS_nil, rfl, rfl⟩⟩ ?_ ((((e0g.trans x8).trans x9.any).trans x10.any).trans x11.any) (((T8'.ext x9).ext x10).ext x11)
        exact .new3 (.str _ (by decide +kernel)) (((slo8.x x9).x x10).x x11) (hy.x x11) h11
end

open PySem PySem.Spec PyProof.Rows L2
open PySem.W (EachIs)
/-! ### lists of ids -/
structure CL (H : Hp) (t a : Addr) (n : Nat) (cs : List Str) : Prop where
  at_ : H a = some (.lst (cs.map V.str))
  ne : a ≠ t
  nd : cs.Nodup
  ok : ∀ y ∈ cs, idB y = true
  len : cs.length ≤ n
section
variable {T : List (Addr × Str)} {K : PySem.W.Frag} {H H' : Hp} {Q : VK} {l t a : Addr} {n : Nat} {cs : List Str}
theorem CL.x (h : CL H t a n cs) (e : Ext T [] H H') : CL H' t a n cs := ⟨lst.x h.at_ e, h.ne, h.nd, h.ok, h.len⟩
theorem CL.y (h : CL H t a n cs) (e : Ext T [t] H H') : CL H' t a n cs := ⟨lst.y h.at_ e h.ne, h.ne, h.nd, h.ok, h.len⟩
theorem CL.sub {ds : List Str} (h : CL H t a n cs) (hs : ds.Sublist cs) (p : Addr) (hp : H' p = some (.lst (ds.map V.str))) (hn : p ≠ t) : CL H' t p n ds := ⟨hp, hn, h.nd.sublist hs, fun y hy => h.ok y (hs.subset hy), Nat.le_trans hs.length_le h.len⟩
theorem CL.wide {m : Nat} (h : CL H t a n cs) (hm : n ≤ m) : CL H t a m cs := ⟨h.at_, h.ne, h.nd, h.ok, Nat.le_trans h.len hm⟩
theorem cutV_mid (xs : List V) {i j : Int} (h0 : 0 ≤ i) (h1 : 0 ≤ j) : cutV xs (some i) (some j) = (xs.take j.toNat).drop i.toNat := by
  unfold cutV
  have e0 : HT.sIx xs.length 0 (some i) = min i.toNat xs.length := by
    obtain ⟨k, rfl⟩ := Int.eq_ofNat_of_zero_le h0
    exact HT.sIx_nat xs.length 0 k
  have e1 : HT.sIx xs.length xs.length (some j) = min j.toNat xs.length := by
    obtain ⟨k, rfl⟩ := Int.eq_ofNat_of_zero_le h1
    exact HT.sIx_nat xs.length xs.length k
  rw [e0, e1]
  generalize i.toNat = a
  generalize j.toNat = b
  rw [List.drop_take]
  by_cases ha : a ≤ xs.length
  · rw [Nat.min_eq_left ha]
    by_cases hb : b ≤ xs.length
    · rw [Nat.min_eq_left hb]
    · rw [Nat.min_eq_right (by omega), List.take_of_length_le (by rw [List.length_drop]; omega), List.take_of_length_le (by rw [List.length_drop]; omega)]
  · have e3 : min a xs.length = xs.length := by omega
    rw [e3, List.drop_length, List.drop_eq_nil_of_le (by omega), List.take_nil, List.take_nil]
theorem CL.take {i : Int} (h : CL H t a n cs) (hT : Tape l H t) (h0 : 0 ≤ i) (q : ∀ p H', Nw H p → Ext T [] H H' → CL H' t p n (cs.take i.toNat) → Q (.ref p) H') : rSlU K (.ref a) none (some i) H Q :=
  rd_takeS T h.at_ h0 fun p H' np e hp => q p H' np e (h.sub (List.take_sublist _ _) p hp (hT.ne np).1)
theorem CL.mid {i j : Int} (h : CL H t a n cs) (hT : Tape l H t) (h0 : 0 ≤ i) (h1 : 0 ≤ j) (q : ∀ p H', Nw H p → Ext T [] H H' → CL H' t p n ((cs.take j.toNat).drop i.toNat) → Q (.ref p) H') : rSlU K (.ref a) (some i) (some j) H Q :=
  rd_slL (SqL.of h.at_) fun p hp => q p _ (.of hp) (.new hp) (h.sub ((List.drop_sublist _ _).trans (List.take_sublist _ _)) p (by rw [cutV_mid _ h0 h1, ← List.map_take, ← List.map_drop]; exact upd_same) (hT.ne (.of hp)).1)
end
theorem srt_nd {cs : List Str} (h : cs.Nodup) : (srtS cs).Nodup := (srtS_perm cs).nodup_iff.mpr h
theorem itm_c {s : Sl} {i : Itm} (h : ItmOk s i) : i.c.Nodup ∧ (∀ y ∈ i.c, idB y = true) ∧ i.c.length ≤ 4 := by
  obtain ⟨cs, e, h1, h2, h3⟩ := h.c
  rw [e]
  exact ⟨srt_nd h1, fun y hy => h2 y ((srtS_perm cs).mem_iff.mp hy), by rw [(srtS_perm cs).length_eq]; exact h3⟩
theorem itm_g {s : Sl} {i : Itm} (h : ItmOk s i) : i.g.Nodup ∧ (∀ y ∈ i.g, idB y = true) ∧ i.g.length ≤ 3 := by
  obtain ⟨cs, e, h1, h2, h3⟩ := h.g
  rw [e]
  exact ⟨srt_nd h1, fun y hy => h2 y ((srtS_perm cs).mem_iff.mp hy), by rw [(srtS_perm cs).length_eq]; exact h3⟩
/-- the word and the name of a slot -/
theorem sl_word (s : Sl) : ∃ (kw z : Str) (r : List PyData), slD s = .tuple (.str kw :: .str z :: r) ∧ ((kw = Str.ofString "link") ↔ ∃ z, s = .l z) ∧ ((kw = Str.ofString "set") ↔ ∃ n k, s = .s n k) ∧ (∀ y, s = .l y → z = y) := by
  cases s with
  | k z => exact ⟨"keys", z, [], rfl, no_iff (by decide +kernel) (fun ⟨_, h⟩ => by cases h), no_iff (by decide +kernel) (fun ⟨_, _, h⟩ => by cases h), fun y h => by cases h⟩
  | l z => exact ⟨"link", z, [], rfl, ⟨fun _ => ⟨z, rfl⟩, fun _ => rfl⟩, no_iff (by decide +kernel) (fun ⟨_, _, h⟩ => by cases h), fun y h => by injection h⟩
  | h z => exact ⟨"hosts", z, [], rfl, no_iff (by decide +kernel) (fun ⟨_, h⟩ => by cases h), no_iff (by decide +kernel) (fun ⟨_, _, h⟩ => by cases h), fun y h => by cases h⟩
  | s n k => exact ⟨"set", n, [.str k], rfl, no_iff (by decide +kernel) (fun ⟨_, h⟩ => by cases h), ⟨fun _ => ⟨n, k, rfl⟩, fun _ => rfl⟩, fun y h => by cases h⟩
open PySem PySem.Spec PyProof.Rows L2
theorem pick_cl {H : Hp} {t : Addr} {n : Nat} {as : List Addr} (h : ∀ a ∈ as, ∃ gs, CL H t a n gs) {i : Int} (h0 : 0 ≤ i) (h1 : i < as.length) : ∃ a gs, atI (as.map V.ref) i = some (.ref a) ∧ CL H t a n gs := by
  obtain ⟨c, hc1, hc2, hc3⟩ := at_in (l := as.map V.ref) h0 (by rw [List.length_map]; exact h1)
  obtain ⟨a, ha, rfl⟩ := List.mem_map.mp hc3
  obtain ⟨gs, hg⟩ := h a ha
  exact ⟨a, gs, hc1, hg⟩

open PySem PySem.Spec PyProof.Rows L2

section
variable {T : List (Addr × Str)} {P : Program} {w : World} {K : PySem.W.Frag} {mg : Str → Option Value} {base : Heap}
theorem at_one {α : Type} (x y : α) (l : List α) : atI (x :: y :: l) 1 = some y := atI_nat (j := 1) rfl
theorem ok_law_mixed (D : Def K mg "_law_mixed" s_law_mixed ["tape", "realm", "pools", "slot", "item"]) (mb : ∀ x ∈ bltns, mg x = none) (G_law_take : Ok P w K mg base 2 "_law_take" ["tape", "many"] (spTake T)) (G_law_life : Ok P w K mg base 3 "_law_life" ["tape"] (spInt T 1 1000))
    (G_law_home : Ok P w K mg base 2 "_law_home" ["realm", "slot"] (spHome T)) (G_law_pool : Ok P w K mg base 1 "_law_pool" ["pools", "zone"] (spPool T)) (G_law_ids : Ok P w K mg base 4 "_law_ids" ["tape", "many"] (spIds T)) :
    Ok P w K mg base 5 "_law_mixed" ["tape", "realm", "pools", "slot", "item"] (spMixed T) := by
  refine D.ok sc_law_mixed (fun vs H Q E h => ?_) (fun cdv f A outer s H vs Q E hr h => ?_)
  · obtain ⟨l, t, pa, v, u, x, R, ps, sl, i, rfl, _⟩ := h
    rfl
  · obtain ⟨l, t, pa, v, u, x, R, ps, sl, i, rfl, hT, hv, hR, hP, hps, hu, hs, hnh, hx, hi, q⟩ := h
    refine ⟨_, (pss_cons (ps_set (i := 5) sc_law_mixed.nd rfl (.inl rfl) (pe_callO G_law_pool (hr.mono (by decide)) (by rfl) (pa_cons (pv 2) (pa_cons (pe_callO G_law_home (hr.mono (by decide)) (by rfl) (pa_cons (pv 1) (pa_cons (pv 3) pa_nil))) pa_nil))))
   (pss_cons (ps_set (i := 6) sc_law_mixed.nd rfl (.inl rfl) (pe_ifExp (pt_cmpR (op_eqU K rfl hr.units) (pe_ix (ix_U K rfl) (pv 3) pe_int (fun _ _ => rfl)) pe_str (nomark _)) (pe_callO G_law_pool (hr.mono (by decide)) (by rfl) (pa_cons (pv 2) (pa_cons (pe_ix (ix_U K rfl) (pv 3) pe_int (fun _ _ => rfl)) pa_nil))) (pv 5)))
   (pss_cons (ps_set (i := 7) sc_law_mixed.nd rfl (.inl rfl) (pe_callTy (call_listU K rfl) (by rfl) (mb _ (by decide)) (by decide +kernel) (pa_cons (pe_ix (ix_U K rfl) (pv 4) pe_int (fun _ _ => rfl)) pa_nil)))
   (pss_cons (ps_set (i := 8) sc_law_mixed.nd rfl (.inl rfl) (pe_callTy (call_listU K rfl) (by rfl) (mb _ (by decide)) (by decide +kernel) (pa_cons (pe_ix (ix_U K rfl) (pv 4) pe_int (fun _ _ => rfl)) pa_nil)))
   (pss_cons (ps_set (i := 9) sc_law_mixed.nd rfl (.inl rfl) (pe_callO G_law_take (hr.mono (by decide)) (by rfl) (pa_cons (pv 0) (pa_cons pe_int pa_nil))))
   (pss_cons (ps_if (pt_cmpR (op_eqU K rfl hr.units) (pe_ix (ix_U K rfl) (pv 3) pe_int (fun _ _ => rfl)) pe_str (nomark _)) (pss_cons (ps_set (i := 7) sc_law_mixed.nd rfl (.inl rfl) (pe_ifExp (pt_cmpR (op_eqU K rfl hr.units) (pv 9) pe_int (nomark _)) (pe_callO G_law_ids (hr.mono (by decide)) (by rfl) (pa_cons (pv 0) (pa_cons (pe_callO G_law_take (hr.mono (by decide)) (by rfl) (pa_cons (pv 0) (pa_cons pe_int pa_nil))) pa_nil))) (pv 7)))
   (pss_one (ps_set (i := 8) sc_law_mixed.nd rfl (.inl rfl) (pe_ix (ix_U K rfl) (pe_lst (pa_cons (pe_slice (sl_U K rfl) (pv 5) po_none (po_some pe_int)) (pa_cons (pe_slice (sl_U K rfl) (pv 5) (po_some pe_int) (po_some pe_int)) (pa_cons (pe_slice (sl_U K rfl) (pv 5) po_none (po_some pe_int)) (pa_cons (pe_slice (sl_U K rfl) (pv 5) (po_some pe_int) (po_some pe_int)) (pa_cons (pv 8) (pa_cons (pe_slice (sl_U K rfl) (pv 5) po_none (po_some pe_int)) pa_nil))))))) (pe_callO G_law_take (hr.mono (by decide)) (by rfl) (pa_cons (pv 0) (pa_cons pe_int pa_nil))) (fun _ _ => rfl))))) (pss_one (ps_if (pt_cmpR op_lt (pv 9) pe_int (nomark _)) (pss_one (ps_set (i := 7) sc_law_mixed.nd rfl (.inl rfl) (pe_ix (ix_U K rfl) (pe_lst (pa_cons (pe_slice (sl_U K rfl) (pv 6) po_none (po_some pe_int)) (pa_cons (pe_slice (sl_U K rfl) (pv 6) (po_some pe_int) (po_some pe_int)) (pa_cons (pe_slice (sl_U K rfl) (pv 6) po_none (po_some pe_int)) pa_nil)))) (pv 9) (fun _ _ => rfl)))) (pss_one (ps_if (pt_cmpR (op_eqU K rfl hr.units) (pv 9) pe_int (nomark _)) (pss_one (ps_set (i := 7) sc_law_mixed.nd rfl (.inl rfl) (pe_op (op_plus K rfl) (pe_slice (sl_U K rfl) (pv 6) (po_some pe_int) (po_some pe_int)) (pe_slice (sl_U K rfl) (pv 6) (po_some pe_int) (po_some pe_int))))) pss_nil)))))
   (pss_cons (ps_if (PW.pt (pw_and (pt_cmpR (op_neU K rfl hr.units) (pe_ix (ix_U K rfl) (pv 3) pe_int (fun _ _ => rfl)) pe_str (nomark _)) (pw_and1 (pt_cmpR (op_eqU K rfl hr.units) (pe_callO G_law_take (hr.mono (by decide)) (by rfl) (pa_cons (pv 0) (pa_cons pe_int pa_nil))) pe_int (nomark _))))) (pss_one (ps_set (i := 8) sc_law_mixed.nd rfl (.inl rfl) (pe_ix (ix_U K rfl) (pe_lst (pa_cons (pe_slice (sl_U K rfl) (pv 5) po_none (po_some pe_int)) (pa_cons (pe_slice (sl_U K rfl) (pv 5) (po_some pe_int) (po_some pe_int)) (pa_cons (pe_slice (sl_U K rfl) (pv 5) po_none (po_some pe_int)) pa_nil)))) (pe_callO G_law_take (hr.mono (by decide)) (by rfl) (pa_cons (pv 0) (pa_cons pe_int pa_nil))) (fun _ _ => rfl)))) pss_nil)
   (pss_cons (ps_set (i := 10) sc_law_mixed.nd rfl (.inl rfl) (pe_ifExp (pt_cmpR (op_eqU K rfl hr.units) (pe_callO G_law_take (hr.mono (by decide)) (by rfl) (pa_cons (pv 0) (pa_cons pe_int pa_nil))) pe_int (nomark _)) (pe_ix (ix_U K rfl) (pv 4) pe_int (fun _ _ => rfl)) (pe_callO G_law_life (hr.mono (by decide)) (by rfl) (pa_cons (pv 0) pa_nil))))
   (pss_one (ps_ret (pe_tup (pa_cons (pe_callTy (call_tupU K rfl) (by rfl) (mb _ (by decide)) (by decide +kernel) (pa_cons (pe_callB (call_sortedU K rfl hr.units) (by rfl) (mb _ (by decide)) (by decide +kernel) (pa_cons (pv 7) pa_nil)) pa_nil)) (pa_cons (pv 10) (pa_cons (pe_callTy (call_tupU K rfl) (by rfl) (mb _ (by decide)) (by decide +kernel) (pa_cons (pe_callB (call_sortedU K rfl hr.units) (by rfl) (mb _ (by decide)) (by decide +kernel) (pa_cons (pv 8) pa_nil)) pa_nil)) (pa_cons (pe_ix (ix_U K rfl) (pv 4) pe_int (fun _ _ => rfl)) (pa_cons (pe_ix (ix_U K rfl) (pv 4) pe_int (fun _ _ => rfl)) pa_nil)))))))))))))))), ?_⟩
    refine rd_seq ?_
    walk_at "rdn"
    refine ⟨v, u, R, sl, rfl, hv, hu, hR, hs, fun H1 e1 hh => ?_⟩
    have hpn : (ps.map (·.1)).Nodup := by rw [hps.nm]; exact hR.nd
    have hpl : ps.length ≤ 6 := by
      have := congrArg List.length hps.nm
      rw [List.length_map, List.length_map] at this
      have := hR.len
      omega
    have pick : ∀ z ∈ R.zs.map (·.1), ∃ ks, (z, ks) ∈ ps := fun z hz => by
      rw [← hps.nm] at hz
      obtain ⟨p, hp, e⟩ := List.mem_map.mp hz
      exact ⟨p.2, by rw [← e]; exact hp⟩
    obtain ⟨ks, hks⟩ := pick _ hh
    have hP1 := hP.ext0 e1
    walk_at "rdn"
    refine ⟨t, pa, ps, _, ks, rfl, hP1, hpl, hpn, hks, fun oa H2 hot hoa e2 => ?_⟩
    have cl : ∀ (z : Str) (k2 : List Str) (H' : Hp) (b : Addr), (z, k2) ∈ ps → H' b = some (.lst (k2.map V.str)) → b ≠ t → CL H' t b 3 k2 := fun z k2 H' b hm hb hn => ⟨hb, hn, hps.nd _ hm, hps.ok _ hm, Nat.le_of_eq (hps.len _ hm)⟩
    have ho2 := cl _ ks H2 oa hks (lst.x hoa e2) hot
    have e02 := e1.trans e2
    have T2 := hT.ext e02
    have hu2 := hu.x e02
    have hx2 := hx.x e02
    have hP2 := hP1.ext0 e2
    clear hoa hP1 hP hT e1 e2
    obtain ⟨kw, zz, rr, hsl, hkl, hks', hzz⟩ := sl_word sl
    rw [hsl] at hu hu2
    walk_at "rdn"
    -- the keys
    refine rd_cut (fun σ H3 => Ext T [] H2 H3 ∧ ∃ (ka : Addr) (k2 : List Str), σ = [some (.ref t), some v, some (.ref pa), some u, some x, some (.ref oa), some (.ref ka), none, none, none, none] ∧ CL H3 t ka 3 k2) (fun nx' hnx => ?_) (fun σ H3 h => ?_)
    · walk_at "rd"
      refine rd_ixSs hu2 (at_zero _ _) ?_
      walk_at "rd"
      refine rd_ite (fun hk => ?_) (fun hk => ?_)
      · walk_at "rd"
        refine rd_ixSs (z := zz) hu2 (at_one _ _ _) ?_
        walk_at "rd"
        obtain ⟨z, rfl⟩ := hkl.mp hk
        have hz := hzz z rfl
        subst hz
        have hzm : zz ∈ R.zs.map (·.1) := by
          unfold slotsR at hs
          rcases List.mem_append.mp hs with hs | hs
          · rcases List.mem_cons.mp hs with hs | hs
            · cases hs
            · obtain ⟨y, hy, h⟩ := List.mem_flatMap.mp hs
              simp at h
              rw [h]
              exact List.mem_map_of_mem (List.mem_of_mem_tail hy)
          · obtain ⟨p, _, h⟩ := List.mem_map.mp hs
            cases h
        obtain ⟨k2, hk2⟩ := pick _ hzm
        refine ⟨t, pa, ps, zz, k2, rfl, hP2, hpl, hpn, hk2, fun pa2 H3 hpt2 hpa2 e3 => ?_⟩
        walk_at "rd"
        exact hnx _ _ ⟨e3, pa2, k2, rfl, cl _ _ _ _ hk2 (lst.x hpa2 e3) hpt2⟩
      · walk_at "rd"
        exact hnx _ _ ⟨.refl, oa, ks, rfl, ho2⟩
    · obtain ⟨e3, ka, k2, rfl, hk3⟩ := h
      have T3 := T2.ext e3
      have hu3 := hu2.x e3
      have hx3 := hx2.x e3
      have ho3 := ho2.x e3
      have e03 := e02.trans e3
      clear e02 T2 hu2 hx2 ho2 e3 hP2
      have hx3 : Im H3 x (.tuple [.tuple (i.c.map .str), .int i.li, .tuple (i.g.map .str), .int i.a, .int i.b]) := hx3
      obtain ⟨ic1, ic2, ic3⟩ := itm_c hi
      obtain ⟨ig1, ig2, ig3⟩ := itm_g hi
      refine rd_seq ?_
      walk_at "rdn"
      refine rd_ixI (d := .tuple (i.c.map .str)) hx3 rfl fun u1 hu1 => ?_
      obtain ⟨ct, cx, rfl, hct, hcx⟩ := hu1.tup'
      have hcx2 := hcx.strs'
      subst hcx2
      walk_at "rdn"
      refine rd_listA T (SqT.of hct) fun ca H4 nca e4 hca => ?_
      have hc4 : CL H4 t ca 4 i.c := ⟨hca, (T3.ne nca).1, ic1, ic2, ic3⟩
      have T4 := T3.ext e4
      have hk4 := hk3.x e4
      have hu4 := hu3.x e4
      have hx4 := hx3.x e4
      have ho4 := ho3.x e4
      have e04 := e03.trans e4
      clear hct hcx hca hu1 e03 T3 hk3 hu3 hx3 ho3 e4
      walk_at "rdn"
      refine rd_seq ?_
      walk_at "rdn"
      refine rd_ixI (d := .tuple (i.g.map .str)) hx4 rfl fun u1 hu1 => ?_
      obtain ⟨ct, cx, rfl, hct, hcx⟩ := hu1.tup'
      have hcx2 := hcx.strs'
      subst hcx2
      walk_at "rdn"
      refine rd_listA T (SqT.of hct) fun sa H5 nsa e5 hsa => ?_
      have hs5 : CL H5 t sa 3 i.g := ⟨hsa, (T4.ne nsa).1, ig1, ig2, ig3⟩
      have T5 := T4.ext e5
      have hc5 := hc4.x e5
      have hk5 := hk4.x e5
      have hu5 := hu4.x e5
      have hx5 := hx4.x e5
      have ho5 := ho4.x e5
      have e05 := e04.trans e5
      clear hct hcx hsa hu1 e04 T4 hc4 hk4 hu4 hx4 ho4 e5
      walk_at "rdn"
      refine rd_seq ?_
      walk_at "rdn"
      refine ⟨l, t, 6, rfl, by decide, by decide, T5, fun d H6 h0 h1 e6 T6 => ?_⟩
      have hs6 := hs5.y e6
      have hc6 := hc5.y e6
      have hk6 := hk5.y e6
      have hu6 := hu5.y e6 T5
      have hx6 := hx5.y e6 T5
      have ho6 := ho5.y e6
      have e06 := e05.any.trans e6
      clear e05 T5 hs5 hc5 hk5 hu5 hx5 ho5 e6
      walk_at "rdn"
      refine rd_cut (fun σ H7 => Ext T [t] H H7 ∧ Tape l H7 t ∧ ∃ (ca sa : Addr) (cs gs : List Str), σ = [some (.ref t), some v, some (.ref pa), some u, some x, some (.ref oa), some (.ref ka), some (.ref ca), some (.ref sa), some (.int d), none] ∧ CL H7 t ca 4 cs ∧ CL H7 t sa 3 gs ∧ Im H7 u (.tuple (.str kw :: .str zz :: rr)) ∧ Im H7 x (.tuple [.tuple (i.c.map .str), .int i.li, .tuple (i.g.map .str), .int i.a, .int i.b]) ∧ CL H7 t oa 3 ks) (fun nx' hnx => ?_) (fun σ H7 h => ?_)
      · walk_at "rd"
        refine rd_ixSs hu6 (at_zero _ _) ?_
        walk_at "rd"
        refine rd_ite (fun hk => ?_) (fun hk => ?_)
        · -- a set
          refine rd_cut (fun σ H7 => Ext T [t] H H7 ∧ Tape l H7 t ∧ ∃ (ca : Addr) (cs : List Str), σ = [some (.ref t), some v, some (.ref pa), some u, some x, some (.ref oa), some (.ref ka), some (.ref ca), some (.ref sa), some (.int d), none] ∧ CL H7 t ca 4 cs ∧ CL H7 t sa 3 i.g ∧ Im H7 u (.tuple (.str kw :: .str zz :: rr)) ∧ Im H7 x (.tuple [.tuple (i.c.map .str), .int i.li, .tuple (i.g.map .str), .int i.a, .int i.b]) ∧ CL H7 t oa 3 ks) (fun nx2 hnx2 => ?_) (fun σ H7 h => ?_)
          · walk_at "rd"
            refine rd_ite (fun hd => ?_) (fun hd => ?_)
            · walk_at "rd"
              refine ⟨l, t, 5, rfl, by decide, by decide, T6, fun d2 H7 h20 h21 e7 T7 => ?_⟩
              walk_at "rd"
              refine ⟨l, t, d2, rfl, h20, by omega, T7, fun ca2 ids H8 nca2 hil hin hid hca2 e8 T8 => ?_⟩
              walk_at "rd"
              have e78 := e7.trans e8
              exact hnx2 _ _ ⟨e06.trans e78, T8, ca2, ids, rfl, ⟨hca2, (T7.ne nca2).1, hin, hid, by omega⟩, hs6.y e78, hu6.y e78 T6, hx6.y e78 T6, ho6.y e78⟩
            · walk_at "rd"
              exact hnx2 _ _ ⟨e06, T6, ca, i.c, rfl, hc6, hs6, hu6, hx6, ho6⟩
          · obtain ⟨e7, T7, ca, cs, rfl, hc7, hs7, hu7, hx7, ho7⟩ := h
            walk_at "rd"
            refine ho7.take (T := T) T7 (by decide) fun p1 G1 _ x1 g1 => ?_
            walk_at "rd"
            refine (ho7.x x1).mid (T := T) (T7.ext x1) (by decide) (by decide) fun p2 G2 _ x2 g2 => ?_
            walk_at "rd"
            have x12 := x1.trans x2
            refine (ho7.x x12).take (T := T) (T7.ext x12) (by decide) fun p3 G3 _ x3 g3 => ?_
            walk_at "rd"
            have x13 := x12.trans x3
            refine (ho7.x x13).mid (T := T) (T7.ext x13) (by decide) (by decide) fun p4 G4 _ x4 g4 => ?_
            walk_at "rd"
            have x14 := x13.trans x4
            refine (ho7.x x14).take (T := T) (T7.ext x14) (by decide) fun p5 G5 _ x5 g5 => ?_
            walk_at "rd"
            have x15 := x14.trans x5
            refine ⟨by show 6 ≤ sizeLine; decide, fun la nla => ?_⟩
            obtain ⟨nla, x6, g6⟩ := alL (T := T) nla ([p1, p2, p3, p4, sa, p5].map V.ref)
            show tCall _ _ _ _ _ (upd G5 la (.lst ([p1, p2, p3, p4, sa, p5].map V.ref))) _
            generalize upd G5 la _ = G6 at x6 g6 ⊢
            have x16 := x15.trans x6
            have T16 := T7.ext x16
            have hlt := ((T7.ext x15).ne nla).1
            walk_at "rd"
            refine ⟨l, t, 6, rfl, by decide, by decide, T16, fun d2 G7 h20 h21 x7 T17 => ?_⟩
            obtain ⟨a, gs, ha1, ha2⟩ := pick_cl (H := G7) (t := t) (n := 3) (as := [p1, p2, p3, p4, sa, p5]) (fun a ha => by
              simp only [List.mem_cons, List.not_mem_nil, or_false] at ha
              rcases ha with rfl | rfl | rfl | rfl | rfl | rfl
              · exact ⟨_, (((((g1.x x2).x x3).x x4).x x5).x x6).y x7⟩
              · exact ⟨_, ((((g2.x x3).x x4).x x5).x x6).y x7⟩
              · exact ⟨_, (((g3.x x4).x x5).x x6).y x7⟩
              · exact ⟨_, ((g4.x x5).x x6).y x7⟩
              · exact ⟨_, (hs7.x x16).y x7⟩
              · exact ⟨_, (g5.x x6).y x7⟩) h20 (by show d2 < 6; omega)
            refine rd_ixL (SqL.of (lst.y g6 x7 hlt)) ha1 ?_
            walk_at "rd"
            exact hnx _ _ ⟨(e7.trans x16.any).trans x7, T17, ca, a, cs, gs, rfl, (hc7.x x16).y x7, ha2, (hu7.x x16).y x7 T16, (hx7.x x16).y x7 T16, (ho7.x x16).y x7⟩
        · walk_at "rd"
          refine rd_ite (fun hd => ?_) (fun hd => ?_)
          · walk_at "rd"
            refine hk6.take (T := T) T6 (by decide) fun p1 G1 _ x1 g1 => ?_
            walk_at "rd"
            refine (hk6.x x1).mid (T := T) (T6.ext x1) (by decide) (by decide) fun p2 G2 _ x2 g2 => ?_
            walk_at "rd"
            have x12 := x1.trans x2
            refine (hk6.x x12).take (T := T) (T6.ext x12) (by decide) fun p3 G3 _ x3 g3 => ?_
            walk_at "rd"
            have x13 := x12.trans x3
            refine ⟨by show 3 ≤ sizeLine; decide, fun la nla => ?_⟩
            obtain ⟨nla, x6, g6⟩ := alL (T := T) nla ([p1, p2, p3].map V.ref)
            show tVar _ _ (upd G3 la (.lst ([p1, p2, p3].map V.ref))) _
            generalize upd G3 la _ = G6 at x6 g6 ⊢
            have x16 := x13.trans x6
            walk_at "rd"
            obtain ⟨a, gs, ha1, ha2⟩ := pick_cl (H := G6) (t := t) (n := 3) (as := [p1, p2, p3]) (fun a ha => by
              simp only [List.mem_cons, List.not_mem_nil, or_false] at ha
              rcases ha with rfl | rfl | rfl
              · exact ⟨_, ((g1.x x2).x x3).x x6⟩
              · exact ⟨_, (g2.x x3).x x6⟩
              · exact ⟨_, g3.x x6⟩) h0 (by show d < 3; omega)
            refine rd_ixL (SqL.of g6) ha1 ?_
            walk_at "rd"
            exact hnx _ _ ⟨e06.trans x16.any, T6.ext x16, a, sa, gs, i.g, rfl, ha2.wide (by decide), hs6.x x16, hu6.x x16, hx6.x x16, ho6.x x16⟩
          · walk_at "rd"
            refine rd_ite (fun hd3 => ?_) (fun hd3 => ?_)
            · walk_at "rd"
              refine hk6.mid (T := T) T6 (by decide) (by decide) fun p1 G1 np1 x1 g1 => ?_
              walk_at "rd"
              refine (hk6.x x1).mid (T := T) (T6.ext x1) (by decide) (by decide) fun p2 G2 np2 x2 g2 => ?_
              have g1' := g1.x x2
              refine rd_catA T g1'.at_ g2.at_ ?_ fun p3 G3 np3 x3 hp3 => ?_
              · rw [List.length_map, List.length_map]
                have := g1'.len
                have := g2.len
                omega
              walk_at "rd"
              have x13 := (x1.trans x2).trans x3
              rw [← List.map_append] at hp3
              refine hnx _ _ ⟨e06.trans x13.any, T6.ext x13, p3, sa, _, i.g, rfl, ⟨hp3, (((T6.ext x1).ext x2).ne np3).1, ?_, fun y hy => ?_, ?_⟩, hs6.x x13, hu6.x x13, hx6.x x13, ho6.x x13⟩
              · have hn := hk6.nd
                match k2, hn with
                | [], _ => simp
                | [a], _ => simp
                | [a, b], _ => simp
                | a :: b :: c :: r, hn =>
                  simp only [List.nodup_cons, List.mem_cons, not_or] at hn
                  show ([c] ++ [b]).Nodup
                  simp
                  exact fun e => hn.2.1.1 e.symm
              · rcases List.mem_append.mp hy with h | h
                · exact g1.ok y h
                · exact g2.ok y h
              · rw [List.length_append]
                have := hk6.len
                rw [List.length_drop, List.length_take, List.length_drop, List.length_take]
                show min 3 k2.length - 2 + (min 2 k2.length - 1) ≤ 4
                omega
            · walk_at "rd"
              exact hnx _ _ ⟨e06, T6, ca, sa, i.c, i.g, rfl, hc6, hs6, hu6, hx6, ho6⟩
      · obtain ⟨e7, T7, ca, sa, cs, gs, rfl, hc7, hs7, hu7, hx7, ho7⟩ := h
        clear e06 T6 hs6 hc6 hk6 hu6 hx6 ho6
        refine rd_cut (fun σ H8 => Ext T [t] H H8 ∧ Tape l H8 t ∧ ∃ (sa : Addr) (gs : List Str), σ = [some (.ref t), some v, some (.ref pa), some u, some x, some (.ref oa), some (.ref ka), some (.ref ca), some (.ref sa), some (.int d), none] ∧ CL H8 t ca 4 cs ∧ CL H8 t sa 3 gs ∧ Im H8 x (.tuple [.tuple (i.c.map .str), .int i.li, .tuple (i.g.map .str), .int i.a, .int i.b])) (fun nx' hnx => ?_) (fun σ H8 h => ?_)
        · walk_at "rd"
          refine rd_ixSs hu7 (at_zero _ _) ?_
          walk_at "rd"
          refine rd_itn (fun hk => ?_) (fun hk => ?_)
          · walk_at "rd"
            exact hnx _ _ ⟨e7, T7, sa, gs, rfl, hc7, hs7, hx7⟩
          · walk_at "rd"
            refine ⟨l, t, 2, rfl, by decide, by decide, T7, fun d2 H8 h20 h21 e8 T8 => ?_⟩
            have hc8 := hc7.y e8
            have hs8 := hs7.y e8
            have hx8 := hx7.y e8 T7
            have ho8 := ho7.y e8
            have e08 := e7.trans e8
            walk_at "rd"
            refine rd_ite (fun hd => ?_) (fun hd => ?_)
            · walk_at "rd"
              refine ho8.take (T := T) T8 (by decide) fun p1 G1 _ x1 g1 => ?_
              walk_at "rd"
              refine (ho8.x x1).mid (T := T) (T8.ext x1) (by decide) (by decide) fun p2 G2 _ x2 g2 => ?_
              walk_at "rd"
              have x12 := x1.trans x2
              refine (ho8.x x12).take (T := T) (T8.ext x12) (by decide) fun p3 G3 _ x3 g3 => ?_
              walk_at "rd"
              have x13 := x12.trans x3
              refine ⟨by show 3 ≤ sizeLine; decide, fun la nla => ?_⟩
              obtain ⟨nla, x6, g6⟩ := alL (T := T) nla ([p1, p2, p3].map V.ref)
              show tCall _ _ _ _ _ (upd G3 la (.lst ([p1, p2, p3].map V.ref))) _
              generalize upd G3 la _ = G6 at x6 g6 ⊢
              have x16 := x13.trans x6
              have T16 := T8.ext x16
              have hlt := ((T8.ext x13).ne nla).1
              walk_at "rd"
              refine ⟨l, t, 3, rfl, by decide, by decide, T16, fun d3 G7 h30 h31 x7 T17 => ?_⟩
              obtain ⟨a, gs, ha1, ha2⟩ := pick_cl (H := G7) (t := t) (n := 3) (as := [p1, p2, p3]) (fun a ha => by
                simp only [List.mem_cons, List.not_mem_nil, or_false] at ha
                rcases ha with rfl | rfl | rfl
                · exact ⟨_, (((g1.x x2).x x3).x x6).y x7⟩
                · exact ⟨_, ((g2.x x3).x x6).y x7⟩
                · exact ⟨_, (g3.x x6).y x7⟩) h30 (by show d3 < 3; omega)
              refine rd_ixL (SqL.of (lst.y g6 x7 hlt)) ha1 ?_
              walk_at "rd"
              exact hnx _ _ ⟨(e08.trans x16.any).trans x7, T17, a, gs, rfl, (hc8.x x16).y x7, ha2, (hx8.x x16).y x7 T16⟩
            · walk_at "rd"
              exact hnx _ _ ⟨e08, T8, sa, gs, rfl, hc8, hs8, hx8⟩
        · obtain ⟨e8, T8, sa, gs, rfl, hc8, hs8, hx8⟩ := h
          clear e7 T7 hc7 hs7 hu7 hx7 ho7
          refine rd_cut (fun σ H9 => Ext T [t] H H9 ∧ Tape l H9 t ∧ ∃ (li : Int), σ = [some (.ref t), some v, some (.ref pa), some u, some x, some (.ref oa), some (.ref ka), some (.ref ca), some (.ref sa), some (.int d), some (.int li)] ∧ 1 ≤ li ∧ li ≤ 1000 ∧ CL H9 t ca 4 cs ∧ CL H9 t sa 3 gs ∧ Im H9 x (.tuple [.tuple (i.c.map .str), .int i.li, .tuple (i.g.map .str), .int i.a, .int i.b])) (fun nx' hnx => ?_) (fun σ H9 h => ?_)
          · walk_at "rd"
            refine ⟨l, t, 2, rfl, by decide, by decide, T8, fun d2 H9 h20 h21 e9 T9 => ?_⟩
            have hx9 := hx8.y e9 T8
            walk_at "rd"
            refine rd_ite (fun hd => ?_) (fun hd => ?_)
            · walk_at "rd"
              refine rd_ixI (d := .int i.li) hx9 rfl fun u1 hu1 => ?_
              rw [hu1.int']
              walk_at "rd"
              exact hnx _ _ ⟨e8.trans e9, T9, i.li, rfl, hi.li.1, hi.li.2, hc8.y e9, hs8.y e9, hx9⟩
            · walk_at "rd"
              refine ⟨l, t, rfl, T9, fun li H10 hl0 hl1 e10 T10 => ?_⟩
              walk_at "rd"
              exact hnx _ _ ⟨(e8.trans e9).trans e10, T10, li, rfl, hl0, hl1, (hc8.y e9).y e10, (hs8.y e9).y e10, hx9.y e10 T9⟩
          · obtain ⟨e9, T9, li, rfl, hl0, hl1, hc9, hs9, hx9⟩ := h
            walk_at "rd"
            refine rd_sortA T (ds := cs.map .str) ⟨_, hc9.at_, ImAll.strs fun z hz => id_ok (hc9.ok z hz)⟩ (alike_s cs) (sortable_s cs) (depth_s cs) fun s1 G1 ys n1 x1 hs1 hys => ?_
            rw [srtS_eq] at hys
            walk_at "rd"
            refine rd_tupA T hs1 fun t1 G2 nt1 x2 ht1 => ?_
            have hct := Im.tup ht1 (hys.x x2)
            have x12 := x1.trans x2
            walk_at "rd"
            refine rd_sortA T (ds := gs.map .str) ⟨_, (hs9.x x12).at_, ImAll.strs fun z hz => id_ok (hs9.ok z hz)⟩ (alike_s gs) (sortable_s gs) (depth_s gs) fun s3 G3 zs n3 x3 hs3 hzs => ?_
            rw [srtS_eq] at hzs
            walk_at "rd"
            refine rd_tupA T hs3 fun t3 G4 nt3 x4 ht3 => ?_
            have hgt := Im.tup ht3 (hzs.x x4)
            have x14 := (x12.trans x3).trans x4
            have hx10 := hx9.x x14
            walk_at "rd"
            refine rd_ixI (d := .int i.a) hx10 rfl fun u1 hu1 => ?_
            rw [hu1.int']
            walk_at "rd"
            refine rd_ixI (d := .int i.b) hx10 rfl fun u1 hu1 => ?_
            rw [hu1.int']
            walk_at "rd"
            refine ⟨by show 5 ≤ sizeLine; decide, fun r nr => ?_⟩
            obtain ⟨_, x5, h5⟩ := alT (T := T) nr [.ref t1, .int li, .ref t3, .int i.a, .int i.b]
            generalize upd G4 r _ = G5 at x5 h5 ⊢
            have x15 := x14.trans x5
            refine q _ ⟨srtS cs, li, srtS gs, i.a, i.b⟩ G5 ⟨⟨cs, rfl, hc9.nd, hc9.ok, hc9.len⟩, ⟨gs, rfl, hs9.nd, hs9.ok, hs9.len⟩, ⟨hl0, hl1⟩, hi.ab, fun z e => absurd e (hnh z)⟩ (.tup h5 (.cons (((hct.x x3).x x4).x x5) (.cons (.int _) (.cons (hgt.x x5) (.cons (.int _) (.cons (.int _) .nil)))))) (e9.trans x15.any) (T9.ext x15)
end

open PySem PySem.Spec PyProof.Rows L2

section
variable {T : List (Addr × Str)} {P : Program} {w : World} {K : PySem.W.Frag} {mg : Str → Option Value} {base : Heap}
theorem ok_law_deed (D : Def K mg "_law_deed" s_law_deed ["tape", "realm", "pools", "state"]) (mb : ∀ x ∈ bltns, mg x = none) (G_law_take : Ok P w K mg base 2 "_law_take" ["tape", "many"] (spTake T)) (G_law_slots : Ok P w K mg base 1 "_law_slots" ["realm"] (spSlots T))
    (G_law_server_deed : Ok P w K mg base 4 "_law_server_deed" ["tape", "realm", "state"] (spServer T)) (G_law_life : Ok P w K mg base 3 "_law_life" ["tape"] (spInt T 1 1000)) (G_law_item : Ok P w K mg base 1 "_law_item" ["content", "life", "signers"] (spItem T))
    (G_law_at : Ok P w K mg base 1 "_law_at" ["state", "slot"] (spAt T)) (G_law_mixed : Ok P w K mg base 5 "_law_mixed" ["tape", "realm", "pools", "slot", "item"] (spMixed T)) : Ok P w K mg base 6 "_law_deed" ["tape", "realm", "pools", "state"] (spDeed T) := by
  refine D.ok sc_law_deed (fun vs H Q E h => ?_) (fun cdv f A outer s H vs Q E hr h => ?_)
  · obtain ⟨l, t, pa, v, u, R, ps, s, rfl, _⟩ := h
    rfl
  · obtain ⟨l, t, pa, v, u, R, ps, s, rfl, hT, hv, hR, hP, hps, hu, hs, q⟩ := h
    refine ⟨_, (pss_cons (ps_set (i := 4) sc_law_deed.nd rfl (.inl rfl) (pe_callO G_law_slots (hr.mono (by decide)) (by rfl) (pa_cons (pv 1) pa_nil)))
   (pss_cons (ps_if (PW.pt (pw_and (pt_cmpR op_gt (pe_callB (call_lenU K rfl) (by rfl) (mb _ (by decide)) (by decide +kernel) (pa_cons (pe_ix (ix_U K rfl) (pv 1) pe_int (fun _ _ => rfl)) pa_nil)) pe_int (nomark _)) (pw_and1 (pt_cmpR (op_eqU K rfl hr.units) (pe_callO G_law_take (hr.mono (by decide)) (by rfl) (pa_cons (pv 0) (pa_cons pe_int pa_nil))) pe_int (nomark _))))) (pss_one (ps_ret (pe_callO G_law_server_deed (hr.mono (by decide)) (by rfl) (pa_cons (pv 0) (pa_cons (pv 1) (pa_cons (pv 3) pa_nil)))))) pss_nil)
   (pss_cons (ps_set (i := 5) sc_law_deed.nd rfl (.inl rfl) (pe_ix (ix_U K rfl) (pv 4) (pe_callO G_law_take (hr.mono (by decide)) (by rfl) (pa_cons (pv 0) (pa_cons (pe_callB (call_lenU K rfl) (by rfl) (mb _ (by decide)) (by decide +kernel) (pa_cons (pv 4) pa_nil)) pa_nil))) (fun _ _ => rfl)))
   (pss_cons (ps_if (pt_cmpR (op_eqU K rfl hr.units) (pe_ix (ix_U K rfl) (pv 5) pe_int (fun _ _ => rfl)) pe_str (nomark _)) (pss_one (ps_ret (pe_tup (pa_cons pe_str (pa_cons (pv 5) (pa_cons (pe_callO G_law_item (hr.mono (by decide)) (by rfl) (pa_cons (pe_lst (pa_cons pe_str (pa_cons pe_str pa_nil))) (pa_cons (pe_callO G_law_life (hr.mono (by decide)) (by rfl) (pa_cons (pv 0) pa_nil)) (pa_cons (pe_lst pa_nil) pa_nil)))) pa_nil)))))) pss_nil)
   (pss_cons (ps_set (i := 6) sc_law_deed.nd rfl (.inl rfl) (pe_callO G_law_mixed (hr.mono (by decide)) (by rfl) (pa_cons (pv 0) (pa_cons (pv 1) (pa_cons (pv 2) (pa_cons (pv 5) (pa_cons (pe_callO G_law_at (hr.mono (by decide)) (by rfl) (pa_cons (pv 3) (pa_cons (pv 5) pa_nil))) pa_nil)))))))
   (pss_cons (ps_if (pt_cmpR (op_eqU K rfl hr.units) (pe_callO G_law_take (hr.mono (by decide)) (by rfl) (pa_cons (pv 0) (pa_cons pe_int pa_nil))) pe_int (nomark _)) (pss_cons (ps_set (i := 7) sc_law_deed.nd rfl (.inl rfl) (pe_callO G_law_take (hr.mono (by decide)) (by rfl) (pa_cons (pv 0) (pa_cons pe_int pa_nil))))
   (pss_one (ps_set (i := 6) sc_law_deed.nd rfl (.inl rfl) (pe_op (op_plus K rfl) (pe_slice (sl_U K rfl) (pv 6) po_none (po_some pe_int)) (pe_tup (pa_cons (pv 7) (pa_cons (pe_op (op_plus K rfl) (pv 7) (pe_callO G_law_take (hr.mono (by decide)) (by rfl) (pa_cons (pv 0) (pa_cons pe_int pa_nil)))) pa_nil))))))) pss_nil)
   (pss_one (ps_ret (pe_tup (pa_cons pe_str (pa_cons (pv 5) (pa_cons (pv 6) pa_nil)))))))))))), ?_⟩
    refine rd_seq ?_
    walk_at "rdn"
    refine ⟨v, R, rfl, hv, hR, fun sp H1 nsp e1 hsp => ?_⟩
    have hspt := (hT.ne nsp).1
    have hv1 := hv.x e1
    have hP1 := hP.ext0 e1
    have hu1 := hu.x e1
    have T1 := hT.ext e1
    clear hv hP hu hT
    walk_at "rdn"
    have hsl := slots_len hR
    -- the rest of it, behind the first draw
    refine rd_cut (fun σ H2 => Ext T [t] H H2 ∧ Tape l H2 t ∧ σ = [some (.ref t), some v, some (.ref pa), some u, some (.ref sp), none, none, none] ∧ Im H2 v (rmD R) ∧ Pools H2 t pa ps ∧ StAt H2 u s ∧ Ls H2 sp ((slotsR R).map slD)) (fun nx' hnx => ?_) (fun σ H2 h => ?_)
    · walk_at "rd"
      refine rd_ixI (d := .tuple (R.zs.map siD)) hv1 rfl fun u1 hu2 => ?_
      obtain ⟨zp, zx, rfl, hzp, hzi⟩ := hu2.tup'
      walk_at "rd"
      refine rd_lenT (SqT.of hzp) ?_
      walk_at "rd"
      refine rd_ite (fun hz => ?_) (fun hz => ?_)
      · walk_at "rd"
        refine ⟨l, t, 4, rfl, by decide, by decide, T1, fun d H2 h0 h1 e2 T2 => ?_⟩
        walk_at "rd"
        refine rd_ite (fun hd => ?_) (fun hd => ?_)
        · walk_at "rd"
          refine ⟨l, t, v, u, R, s, rfl, T2, hv1.y e2 T1, hR, ?_, hu1.y e2 T1, hs.on, fun x d H3 hd hx e3 T3 => ?_⟩
          · rw [hzi.len, List.length_map] at hz
            have hz : (1 : Int) < (R.zs.length : Int) := hz
            omega
          · exact q x d H3 hd hx ((e1.any.trans e2).trans e3) T3
        · walk_at "rd"
          exact hnx _ _ ⟨e1.any.trans e2, T2, rfl, hv1.y e2 T1, hP1.ext e2 T1, hu1.y e2 T1, hsp.y e2 hspt T1⟩
      · walk_at "rd"
        exact hnx _ _ ⟨e1.any, T1, rfl, hv1, hP1, hu1, hsp⟩
    · obtain ⟨e2, T2, rfl, hv2, hP2, hu2, hsp2⟩ := h
      clear e1 T1 hv1 hP1 hu1 hsp
      obtain ⟨sx, hsx, hsi⟩ := hsp2.list
      have hsxl : sx.length = (slotsR R).length := by rw [hsi.len, List.length_map]
      have hpos : 0 < (slotsR R).length := by
        unfold slotsR
        simp
      refine rd_seq ?_
      walk_at "rdn"
      refine ⟨l, t, _, rfl, by omega, by omega, T2, fun d H3 h0 h1 e3 T3 => ?_⟩
      have hsp3 := hsp2.y e3 hspt T2
      have hv3 := hv2.y e3 T2
      have hP3 := hP2.ext e3 T2
      have hu3 := hu2.y e3 T2
      have e03 := e2.trans e3
      obtain ⟨c, hc1, hc2, hc3⟩ := at_in (l := (slotsR R).map slD) h0 (by rw [List.length_map]; omega)
      obtain ⟨sl, hslm, rfl⟩ := List.mem_map.mp hc3
      clear e2 T2 hv2 hP2 hu2 hsp2 hsx hsi e3
      refine rd_ixLs hsp3 hc1 fun y hy => ?_
      walk_at "rdn"
      by_cases hh : ∃ z, sl = .h z
      · obtain ⟨z, hz⟩ := hh
        subst hz
        have hy' : Im H3 y (.tuple [.str (Str.ofString "hosts"), .str z]) := hy
        refine rd_seq ?_
        walk_at "rdn"
        refine rd_ixSs hy' rfl ?_
        walk_at "rd"
        refine rd_ite (fun _ => ?_) (fun h => absurd rfl h)
        walk_at "rd"
        refine ⟨by show 2 ≤ sizeLine; decide, fun la nla => ?_⟩
        obtain ⟨nla, x1, hla⟩ := alL (T := T) nla (sL.map V.str)
        show tCons _ _ _ (upd H3 la (.lst (sL.map V.str))) _
        generalize upd H3 la _ = G1 at x1 hla ⊢
        have hlt := (T3.ne nla).1
        walk_at "rd"
        refine ⟨l, t, rfl, T3.ext x1, fun li G2 hl0 hl1 x2 T4 => ?_⟩
        walk_at "rd"
        refine ⟨by show 0 ≤ sizeLine; decide, fun ea nea => ?_⟩
        obtain ⟨_, x3, hea⟩ := alL (T := T) nea []
        refine rd_nil ?_
        generalize upd G2 ea _ = G3 at x3 hea ⊢
        refine ⟨la, ea, sL, [], li, rfl, lst.x (lst.y hla x2 hlt) x3, hea, sL_ok.2, by simp, fun it G4 x4 hit => ?_⟩
        walk_at "rd"
        refine ⟨by show 3 ≤ sizeLine; decide, fun r nr => ?_⟩
        obtain ⟨_, x5, hr5⟩ := alT (T := T) nr [.str (Str.ofString "put"), y, it]
        generalize upd G4 r _ = G5 at x5 hr5 ⊢
        refine q _ (.put (.h z) ⟨srtS sL, li, srtS [], 0, 10000⟩) G5 ⟨hslm, ⟨sL, rfl, sL_ok.1, sL_ok.2, by decide⟩, ⟨[], rfl, by simp, by simp, by simp⟩, ⟨hl0, hl1⟩, ⟨show (0 : Int) ≤ 0 by decide, show (0 : Int) ≤ 10000 by decide, show (10000 : Int) ≤ 10000 by decide⟩, fun _ _ => ⟨srtS_nil, rfl, rfl⟩⟩ ?_ (((((e03.trans x1.any).trans x2).trans x3.any).trans x4.any).trans x5.any) (((T4.ext x3).ext x4).ext x5)
        exact .new3 (.str _ (by decide +kernel)) (((((hy.x x1).y x2 (T3.ext x1)).x x3).x x4).x x5) (hit.x x5) hr5
      · have hnh : ∀ z, sl ≠ .h z := fun z e => hh ⟨z, e⟩
        obtain ⟨kw, rr, hsl2, hkw⟩ : ∃ (kw : Str) (rr : List PyData), slD sl = .tuple (.str kw :: rr) ∧ ¬ kw = Str.ofString "hosts" := by
          cases sl with
          | k z => exact ⟨_, _, rfl, by decide +kernel⟩
          | l z => exact ⟨_, _, rfl, by decide +kernel⟩
          | h z => exact absurd rfl (hnh z)
          | s n k => exact ⟨_, _, rfl, by decide +kernel⟩
        have hy' : Im H3 y (.tuple (.str kw :: rr)) := by rw [← hsl2]; exact hy
        refine rd_seq ?_
        walk_at "rdn"
        refine rd_ixSs hy' (at_zero _ _) ?_
        walk_at "rdn"
        refine rd_ite (fun h => absurd h hkw) (fun _ => ?_)
        walk_at "rdn"
        refine rd_seq ?_
        walk_at "rdn"
        obtain ⟨it0, hit0⟩ := sta_find hs hslm
        refine ⟨u, y, s, sl, it0, rfl, hu3, hy, hit0, sta_nodup hR hs, sta_len hR hs hsl, fun x0 G1 x1 hx0 => ?_⟩
        walk_at "rdn"
        have T31 := T3.ext x1
        refine ⟨l, t, pa, v, y, x0, R, ps, sl, it0, rfl, T31, hv3.x x1, hR, hP3.ext0 x1, hps, hy.x x1, hslm, hnh, hx0, hs.ok _ hit0, fun x2 it G2 hit hx2 x3 T4 => ?_⟩
        have hy2 := (hy.x x1).y x3 T31
        have e02 := (e03.trans x1.any).trans x3
        walk_at "rdn"
        refine rd_cut (fun σ G3 => Ext T [t] H G3 ∧ Tape l G3 t ∧ ∃ (x : V) (it : Itm) (a : Option V), σ = [some (.ref t), some v, some (.ref pa), some u, some (.ref sp), some y, some x, a] ∧ ItmOk sl it ∧ Im G3 x (itD it) ∧ Im G3 y (slD sl)) (fun nx' hnx => ?_) (fun σ G3 h => ?_)
        · walk_at "rd"
          refine ⟨l, t, 8, rfl, by decide, by decide, T4, fun d2 G3 h20 h21 x4 T5 => ?_⟩
          have hx3 := hx2.y x4 T4
          have hy3 := hy2.y x4 T4
          walk_at "rd"
          refine rd_ite (fun hd => ?_) (fun hd => ?_)
          · walk_at "rd"
            refine ⟨l, t, 60, rfl, by decide, by decide, T5, fun d3 G4 h30 h31 x5 T6 => ?_⟩
            have hx4 := hx3.y x5 T5
            have hy4 := hy3.y x5 T5
            obtain ⟨xa, xx, rfl, hxa, hxx⟩ := hx4.tup'
            have hx5 : xx.length = 5 := hxx.len
            walk_at "rd"
            refine rd_slT (SqT.of hxa) (fun h => ?_) fun sa nsa => ?_
            · have h0 := h.2
              rw [show HT.sIx xx.length xx.length (some 3) = min 3 xx.length from HT.sIx_nat xx.length xx.length 3] at h0
              omega
            rw [cutV_to _ (by decide), show Int.toNat 3 = 3 from rfl]
            obtain ⟨_, x6, hsa⟩ := alT (T := T) nsa (xx.take 3)
            show tTup _ _ (upd G4 sa (.tup (xx.take 3))) _
            generalize upd G4 sa _ = G5 at x6 hsa ⊢
            walk_at "rd"
            refine ⟨l, t, 200, rfl, by decide, by decide, T6.ext x6, fun d4 G6 h40 h41 x7 T7 => ?_⟩
            walk_at "rd"
            refine ⟨by show 2 ≤ sizeLine; decide, fun tb ntb => ?_⟩
            obtain ⟨_, x8, htb⟩ := alT (T := T) ntb [.int d3, .int (d3 + d4)]
            show rPlus _ _ _ (upd G6 tb (.tup [.int d3, .int (d3 + d4)])) _
            generalize upd G6 tb _ = G7 at x8 htb ⊢
            have hsa7 : SqP G7 sa (xx.take 3) := SqP.x (SqP.ext hsa x7 (T6.ext x6).lsts) x8
            refine rd_catT (SqT.of hsa7) (SqT.of htb) (fun e => ?_) (by simp) ?_ fun tc ntc => ?_
            · have := congrArg List.length e
              rw [List.length_take] at this
              simp only [List.length_nil] at this
              omega
            · rw [List.length_take]
              exact Nat.le_trans (show _ ≤ 100 by simp only [List.length_cons, List.length_nil]; omega) (by decide)
            obtain ⟨_, x9, htc⟩ := alT (T := T) ntc (xx.take 3 ++ [.int d3, .int (d3 + d4)])
            show gName 6 _ _ (upd G7 tc (.tup (xx.take 3 ++ [.int d3, .int (d3 + d4)]))) _
            generalize upd G7 tc _ = G8 at x9 htc ⊢
            refine rd_name ?_
            have hx8 : ImAll G8 (xx.take 3 ++ [.int d3, .int (d3 + d4)]) [.tuple (it.c.map .str), .int it.li, .tuple (it.g.map .str), .int d3, .int (d3 + d4)] :=
              (((((hxx.take 3).x x6).y x7 (T6.ext x6)).x x8).x x9).app (.cons (.int _) (.cons (.int _) .nil))
            refine hnx _ _ ⟨(((((e02.trans x4).trans x5).trans x6.any).trans x7).trans x8.any).trans x9.any, (T7.ext x8).ext x9, .ref tc, ⟨it.c, it.li, it.g, d3, d3 + d4⟩, _, rfl, ⟨hit.c, hit.g, hit.li, ⟨h30, show d3 ≤ d3 + d4 by omega, show d3 + d4 ≤ 10000 by omega⟩, fun z e => absurd e (hnh z)⟩, .tup htc hx8, (((hy4.x x6).y x7 (T6.ext x6)).x x8).x x9⟩
          · walk_at "rd"
            exact hnx _ _ ⟨e02.trans x4, T5, x2, it, _, rfl, hit, hx3, hy3⟩
        · obtain ⟨e4, T5, x, it', a, rfl, hit', hx, hy5⟩ := h
          walk_at "rd"
          refine ⟨by show 3 ≤ sizeLine; decide, fun r nr => ?_⟩
          obtain ⟨_, x5, hr5⟩ := alT (T := T) nr [.str (Str.ofString "put"), y, x]
          generalize upd G3 r _ = G5 at x5 hr5 ⊢
          exact q _ (.put sl it') G5 ⟨hslm, hit'⟩ (.new3 (.str _ (by decide +kernel)) (hy5.x x5) (hx.x x5) hr5) (e4.trans x5.any) (T5.ext x5)
end

open PySem PySem.Spec PyProof.Rows L2
open PySem.W (EachIs)
/-! ### what a new heap keeps, on demand -/
theorem al_of {T : List (Addr × Str)} {H G : Hp} {p : Addr} {o : HO} (np : H p = none) (hG : upd H p o = G) : Nw H p ∧ Ext T [] H G ∧ G p = some o := by
  subst hG
  exact ⟨.of np, .new np, upd_same⟩
section
variable {T : List (Addr × Str)} {H H' H1 : Hp}
theorem SqP.y {l t a : Addr} {xs : List V} (h : SqP H a xs) (e : Ext T [t] H H') (hT : Tape l H t) : SqP H' a xs := SqP.ext h e hT.lsts
theorem tup.x {a : Addr} {xs : List V} (h : H a = some (.tup xs)) (e : Ext T [] H H') : H' a = some (.tup xs) := e.tup (by simp) h
theorem tup.y {l t a : Addr} {xs : List V} (h : H a = some (.tup xs)) (e : Ext T [t] H H') (hT : Tape l H t) : H' a = some (.tup xs) := SqP.ext h e hT.lsts
theorem frz.y {l t a : Addr} {o : Obj} {u : HO} (h : H a = some (.frz o u)) (e : Ext T [t] H H') (hT : Tape l H t) : H' a = some (.frz o u) := e.keep a _ (fun hb => by
  obtain ⟨ys, hy⟩ := hT.lsts a hb
  rw [h] at hy
  cases hy) (fun _ z => by cases z) h
theorem Tape.ne1 {l t q : Addr} (p : Tape l H t) (h : Nw H q) : q ≠ t := (p.ne h).1
theorem Ext.back1 {p t : Addr} (e : Ext T [t] H H1) (hp : p ≠ t) (f : Nw H1 p) : Nw H p := e.back (by simpa using hp) f
theorem Ext.back0 {p : Addr} (e : Ext T [] H H1) (f : Nw H1 p) : Nw H p := e.back (by simp) f
end
theorem Ok.alias {P : Program} {w : World} {K : PySem.W.Frag} {mg : Str → Option Value} {base : Heap} {k : Nat} {x y : Str} {ps : List Str} {sp : Sp} (h : Ok P w K mg base k x ps sp) (e : mg y = mg x) : Ok P w K mg base k y ps sp := by
  obtain ⟨f, fd, F, h1, h2⟩ := h
  exact ⟨f, fd, F, e.trans h1, h2⟩
section
variable (T : List (Addr × Str))
def spBent : Sp := fun vs H Q _ => ∃ (l t pa : Addr) (v u : V) (R : Rm) (ps : List (Str × List Str)) (s : Sta), vs = [.ref t, v, .ref pa, u] ∧ Tape l H t ∧ Im H v (rmD R) ∧ RmIn R ∧ Pools H t pa ps ∧ PsOk R ps ∧ StAt H u s ∧ StaOk R s ∧ s.on.length ≤ 50 ∧
  ∀ (x : V) (s' : Sta) (H' : Hp), StaOk R s' → s'.on = s.on → StAt H' x s' → Ext T [t] H H' → Tape l H' t → Q x H'
end
def bentL : List (List Str) := [[], ["s3"], ["s1", "t9"]]
theorem bent_ok : ∀ c ∈ bentL, c.Nodup ∧ (∀ y ∈ c, idB y = true) ∧ c.length ≤ 4 := by decide +kernel

open PySem PySem.Spec PyProof.Rows L2

section
variable {T : List (Addr × Str)} {P : Program} {w : World} {K : PySem.W.Frag} {mg : Str → Option Value} {base : Heap}
local macro_rules | `(tactic| walk_at "tr") => `(tactic| first
  | assumption
  | exact Ext.refl
  | ((with_reducible refine' Im.x (T := T) (H := ?trH) ?tra ?tre); (case tre => assumption); (case tra => walk_at "tr"))
  | ((with_reducible refine' Im.y (T := T) (H := ?trH) ?tra ?tre ?trt); (case tre => assumption); (case trt => walk_at "tr"); (case tra => walk_at "tr"))
  | ((with_reducible refine' ImAll.x (T := T) (H := ?trH) ?tra ?tre); (case tre => assumption); (case tra => walk_at "tr"))
  | ((with_reducible refine' ImAll.y (T := T) (H := ?trH) ?tra ?tre ?trt); (case tre => assumption); (case trt => walk_at "tr"); (case tra => walk_at "tr"))
  | ((with_reducible refine' Ls.x (T := T) (H := ?trH) ?tra ?tre); (case tre => assumption); (case tra => walk_at "tr"))
  | ((with_reducible refine' Ls.y (T := T) (H := ?trH) ?tra ?tre ?trn ?trt); (case tre => assumption); (case trt => walk_at "tr"); (case trn => walk_at "tr"); (case tra => walk_at "tr"))
  | ((with_reducible refine' SqP.x (T := T) (H := ?trH) ?tra ?tre); (case tre => assumption); (case tra => walk_at "tr"))
  | ((with_reducible refine' SqP.y (T := T) (H := ?trH) ?tra ?tre ?trt); (case tre => assumption); (case trt => walk_at "tr"); (case tra => walk_at "tr"))
  | ((with_reducible refine' StAt.x (T := T) (H := ?trH) ?tra ?tre); (case tre => assumption); (case tra => walk_at "tr"))
  | ((with_reducible refine' StAt.y (T := T) (H := ?trH) ?tra ?tre ?trt); (case tre => assumption); (case trt => walk_at "tr"); (case tra => walk_at "tr"))
  | ((with_reducible refine' Pools.ext0 (T := T) (H := ?trH) ?tra ?tre); (case tre => assumption); (case tra => walk_at "tr"))
  | ((with_reducible refine' Pools.ext (T := T) (H := ?trH) ?tra ?tre ?trt); (case tre => assumption); (case trt => walk_at "tr"); (case tra => walk_at "tr"))
  | ((with_reducible refine' CL.x (T := T) (H := ?trH) ?tra ?tre); (case tre => assumption); (case tra => walk_at "tr"))
  | ((with_reducible refine' CL.y (T := T) (H := ?trH) ?tra ?tre); (case tre => assumption); (case tra => walk_at "tr"))
  | ((with_reducible refine' Tape.ext (T := T) (H := ?trH) ?tra ?tre); (case tre => assumption); (case tra => walk_at "tr"))
  | ((with_reducible refine' lst.x (T := T) (H := ?trH) ?tra ?tre); (case tre => assumption); (case tra => walk_at "tr"))
  | ((with_reducible refine' lst.y (T := T) (H := ?trH) ?tra ?tre ?trn); (case tre => assumption); (case trn => walk_at "tr"); (case tra => walk_at "tr"))
  | ((with_reducible refine' tup.x (T := T) (H := ?trH) ?tra ?tre); (case tre => assumption); (case tra => walk_at "tr"))
  | ((with_reducible refine' tup.y (T := T) (H := ?trH) ?tra ?tre ?trt); (case tre => assumption); (case trt => walk_at "tr"); (case tra => walk_at "tr"))
  | ((with_reducible refine' frz.x (T := T) (H := ?trH) ?tra ?tre); (case tre => assumption); (case tra => walk_at "tr"))
  | ((with_reducible refine' frz.y (T := T) (H := ?trH) ?tra ?tre ?trt); (case tre => assumption); (case trt => walk_at "tr"); (case tra => walk_at "tr"))
  | ((with_reducible refine' Tape.ne1 (H := ?trH) ?trt ?trn); (case trn => assumption); (case trt => walk_at "tr"))
  | ((with_reducible refine' Ext.trans (H1 := ?trH) ?tra (Ext.any ?tre)); (case tre => assumption); (case tra => walk_at "tr"))
  | ((with_reducible refine' Ext.trans (H1 := ?trH) ?tra ?tre); (case tre => assumption); (case tra => walk_at "tr"))
  | ((with_reducible refine' Ext.back1 (T := T) (H1 := ?trH) ?tre ?trn ?tra); (case tra => assumption); (case trn => walk_at "tr"); (case tre => walk_at "tr"))
  | ((with_reducible refine' Ext.back0 (T := T) (H1 := ?trH) ?tre ?tra); (case tra => assumption); (case tre => walk_at "tr"))
  | ((with_reducible refine' SqT.of ?tra); (case tra => walk_at "tr"))
  | ((with_reducible refine' SqL.of ?tra); (case tra => walk_at "tr")))
local macro_rules | `(tactic| walk_at "al") => `(tactic| (refine ⟨by first | (show _ ≤ sizeLine; decide) | walk_at "sz", ?_⟩; intro alp aln; generalize alG : upd _ alp _ = alH; obtain ⟨aln2, alx, alh⟩ := al_of (T := T) aln alG; clear alG aln))
local macro_rules | `(tactic| walk_at "al0") => `(tactic| (intro alp aln; generalize alG : upd _ alp _ = alH; obtain ⟨aln2, alx, alh⟩ := al_of (T := T) aln alG; clear alG aln))

theorem ok_law_deeds (D : Def K mg "_law_deeds" s_law_deeds ["tape", "realm", "pools", "state", "many"]) (mb : ∀ x ∈ bltns, mg x = none) (G_law_deed : Ok P w K mg base 6 "_law_deed" ["tape", "realm", "pools", "state"] (spDeed T)) (G_law_after : Ok P w K mg base 1 "_law_after" ["state", "deed"] (spAfter T)) :
    Ok P w K mg base 7 "_law_deeds" ["tape", "realm", "pools", "state", "many"] (spDeeds T) := by
  refine D.ok sc_law_deeds (fun vs H Q E h => ?_) (fun cdv f A outer s H vs Q E hr h => ?_)
  · obtain ⟨l, t, pa, v, u, R, ps, s, m, rfl, _⟩ := h
    rfl
  · obtain ⟨l, t, pa, v, u, R, ps, s, m, rfl, hT, hv, hR, hP, hps, hu, hs, hon, hm0, hm, q⟩ := h
    refine ⟨_, (pss_cons (ps_set (i := 5) sc_law_deeds.nd rfl (.inl rfl) (pe_lst pa_nil))
   (pss_cons (ps_for PassesOwn.never rfl (pi_range1 (by rfl) (mb _ (by decide)) (pa_cons (pv 4) pa_nil)) (pg_name (i := 6) sc_law_deeds.nd rfl (.inl rfl)) (pss_cons (ps_set (i := 7) sc_law_deeds.nd rfl (.inl rfl) (pe_callO G_law_deed (hr.mono (by decide)) (by rfl) (pa_cons (pv 0) (pa_cons (pv 1) (pa_cons (pv 2) (pa_cons (pv 3) pa_nil))))))
   (pss_cons (ps_expr (pe_bm PySem.F.plainAttrs_list PySem.F.slot_list_append PySem.F.type_list_append mt_append (pv 5) (pa_cons (pv 7) pa_nil)))
   (pss_one (ps_set (i := 3) sc_law_deeds.nd rfl (.inl rfl) (pe_callO G_law_after (hr.mono (by decide)) (by rfl) (pa_cons (pv 3) (pa_cons (pv 7) pa_nil))))))))
   (pss_one (ps_ret (pe_callTy (call_tupU K rfl) (by rfl) (mb _ (by decide)) (by decide +kernel) (pa_cons (pv 5) pa_nil)))))), ?_⟩
    refine rd_seq ?_
    walk_at "rdn"
    walk_at "al"
    rename_i dp H1 ndp e1 hdp
    have hdt : dp ≠ t := by walk_at "tr"
    walk_at "rdn"
    refine rd_cut (fun σ H2 => Ext T [t] H H2 ∧ Tape l H2 t ∧ ∃ (ds : List Dd) (u : V) (a b : Option V), σ = [some (.ref t), some v, some (.ref pa), some u, some (.int m), some (.ref dp), a, b] ∧ Ls H2 dp (ds.map ddD) ∧ (∀ d ∈ ds, DdOk R d) ∧ (ds.length : Int) = m) (fun nx' hnx => ?_) (fun σ H2 h => ?_)
    · walk_at "rd"
      refine ⟨Int.le_trans (by decide) hm0, Int.lt_of_le_of_lt hm (by decide), ?_⟩
      refine forg_range (n := m.toNat) (fun i σ H2 => Ext T [t] H H2 ∧ Tape l H2 t ∧ ∃ (ds : List Dd) (u : V) (s : Sta) (a b : Option V), σ = [some (.ref t), some v, some (.ref pa), some u, some (.int m), some (.ref dp), a, b] ∧ Ls H2 dp (ds.map ddD) ∧ (∀ d ∈ ds, DdOk R d) ∧ ds.length = i ∧ StAt H2 u s ∧ StaOk R s ∧ s.on.length ≤ 50 + i)
        ⟨by walk_at "tr", by walk_at "tr", [], u, s, none, none, rfl, ⟨_, hdp, .nil⟩, by simp, rfl, by walk_at "tr", hs, by omega⟩ (fun i σ H2 hi h => ?_) (fun σ H2 h => ?_)
      · obtain ⟨e2, T2, ds, u', s', a, b, rfl, hds, hok, hl, hu2, hs2, hon2⟩ := h
        walk_at "rd"
        refine ⟨l, t, pa, v, u', R, ps, s', rfl, T2, by walk_at "tr", hR, by walk_at "tr", hps, hu2, hs2, fun x d H3 hd hx e3 T3 => ?_⟩
        have hds3 : Ls H3 dp (ds.map ddD) := by walk_at "tr"
        obtain ⟨dx, hdx, hdi⟩ := hds3.list
        refine rd_name ?_
        refine rd_seq ?_
        refine rd_drop ?_
        refine rd_bm ?_
        refine rd_var rfl ?_
        refine rd_tyL hdx ?_
        refine rd_cons ?_
        refine rd_var rfl ?_
        refine rd_nil ?_
        refine rd_appLs hds3 hx ?_ fun ys hy hds4 => ?_
        · rw [List.length_map, hl]
          exact Nat.lt_of_le_of_lt (show i ≤ 100 by omega) (by decide)
        · have hlsts := lsts_one hy
          have e4 : Ext T [dp] H3 (upd H3 dp (.lst (ys ++ [x]))) := Ext.mut (by simp) hy
          have e04 : Ext T [t] H (upd H3 dp (.lst (ys ++ [x]))) := (e2.trans e3).own ndp hy
          have T4 : Tape l (upd H3 dp (.lst (ys ++ [x]))) t := T3.own hdt (hT.ne ndp).2
          have hx4 := Im.ext e4 hlsts _ _ hx
          have hu4 := StAt.ext (show StAt H3 u' s' by walk_at "tr") e4 hlsts
          clear e4 hlsts hy
          generalize upd H3 dp (.lst (ys ++ [x])) = H4 at e04 T4 hx4 hu4 hds4 ⊢
          walk_at "rd"
          refine ⟨u', x, s', d, rfl, hu4, hx4, sta_len hR hs2 (slots_len hR), by omega, fun y H5 e5 hy5 => ?_⟩
          walk_at "rd"
          refine ⟨by walk_at "tr", by walk_at "tr", ds ++ [d], y, aft s' d, _, _, rfl, ?_, fun d' hd' => ?_, by rw [List.length_append, hl]; rfl, hy5, aft_ok hs2 hd (by omega), ?_⟩
          · rw [List.map_append]
            walk_at "tr"
          · rcases List.mem_append.mp hd' with h | h
            · exact hok d' h
            · rw [List.mem_singleton.mp h]
              exact hd
          · have := aft_on s' d
            omega
      · obtain ⟨e2, T2, ds, u', s', a, b, rfl, hds, hok, hl, hu2, hs2, hon2⟩ := h
        exact hnx _ _ ⟨e2, T2, ds, u', a, b, rfl, hds, hok, by omega⟩
    · obtain ⟨e2, T2, ds, u', a, b, rfl, hds, hok, hl⟩ := h
      obtain ⟨dx, hdx, hdi⟩ := hds.list
      walk_at "rd"
      refine rd_tupA T hdx fun r H3 nr e3 hr3 => ?_
      exact q _ ds H3 hok hl (.tup hr3 (hdi.x e3)) (by walk_at "tr") (by walk_at "tr")
end

open PySem PySem.Spec PyProof.Rows L2

section
variable {T : List (Addr × Str)} {P : Program} {w : World} {K : PySem.W.Frag} {mg : Str → Option Value} {base : Heap}
local macro_rules | `(tactic| walk_at "tr") => `(tactic| first
  | assumption
  | exact Ext.refl
  | ((with_reducible refine' Im.x (T := T) (H := ?trH) ?tra ?tre); (case tre => assumption); (case tra => walk_at "tr"))
  | ((with_reducible refine' Im.y (T := T) (H := ?trH) ?tra ?tre ?trt); (case tre => assumption); (case trt => walk_at "tr"); (case tra => walk_at "tr"))
  | ((with_reducible refine' ImAll.x (T := T) (H := ?trH) ?tra ?tre); (case tre => assumption); (case tra => walk_at "tr"))
  | ((with_reducible refine' ImAll.y (T := T) (H := ?trH) ?tra ?tre ?trt); (case tre => assumption); (case trt => walk_at "tr"); (case tra => walk_at "tr"))
  | ((with_reducible refine' Ls.x (T := T) (H := ?trH) ?tra ?tre); (case tre => assumption); (case tra => walk_at "tr"))
  | ((with_reducible refine' Ls.y (T := T) (H := ?trH) ?tra ?tre ?trn ?trt); (case tre => assumption); (case trt => walk_at "tr"); (case trn => walk_at "tr"); (case tra => walk_at "tr"))
  | ((with_reducible refine' SqP.x (T := T) (H := ?trH) ?tra ?tre); (case tre => assumption); (case tra => walk_at "tr"))
  | ((with_reducible refine' SqP.y (T := T) (H := ?trH) ?tra ?tre ?trt); (case tre => assumption); (case trt => walk_at "tr"); (case tra => walk_at "tr"))
  | ((with_reducible refine' StAt.x (T := T) (H := ?trH) ?tra ?tre); (case tre => assumption); (case tra => walk_at "tr"))
  | ((with_reducible refine' StAt.y (T := T) (H := ?trH) ?tra ?tre ?trt); (case tre => assumption); (case trt => walk_at "tr"); (case tra => walk_at "tr"))
  | ((with_reducible refine' Pools.ext0 (T := T) (H := ?trH) ?tra ?tre); (case tre => assumption); (case tra => walk_at "tr"))
  | ((with_reducible refine' Pools.ext (T := T) (H := ?trH) ?tra ?tre ?trt); (case tre => assumption); (case trt => walk_at "tr"); (case tra => walk_at "tr"))
  | ((with_reducible refine' CL.x (T := T) (H := ?trH) ?tra ?tre); (case tre => assumption); (case tra => walk_at "tr"))
  | ((with_reducible refine' CL.y (T := T) (H := ?trH) ?tra ?tre); (case tre => assumption); (case tra => walk_at "tr"))
  | ((with_reducible refine' Tape.ext (T := T) (H := ?trH) ?tra ?tre); (case tre => assumption); (case tra => walk_at "tr"))
  | ((with_reducible refine' lst.x (T := T) (H := ?trH) ?tra ?tre); (case tre => assumption); (case tra => walk_at "tr"))
  | ((with_reducible refine' lst.y (T := T) (H := ?trH) ?tra ?tre ?trn); (case tre => assumption); (case trn => walk_at "tr"); (case tra => walk_at "tr"))
  | ((with_reducible refine' tup.x (T := T) (H := ?trH) ?tra ?tre); (case tre => assumption); (case tra => walk_at "tr"))
  | ((with_reducible refine' tup.y (T := T) (H := ?trH) ?tra ?tre ?trt); (case tre => assumption); (case trt => walk_at "tr"); (case tra => walk_at "tr"))
  | ((with_reducible refine' frz.x (T := T) (H := ?trH) ?tra ?tre); (case tre => assumption); (case tra => walk_at "tr"))
  | ((with_reducible refine' frz.y (T := T) (H := ?trH) ?tra ?tre ?trt); (case tre => assumption); (case trt => walk_at "tr"); (case tra => walk_at "tr"))
  | ((with_reducible refine' Tape.ne1 (H := ?trH) ?trt ?trn); (case trn => assumption); (case trt => walk_at "tr"))
  | ((with_reducible refine' Ext.trans (H1 := ?trH) ?tra (Ext.any ?tre)); (case tre => assumption); (case tra => walk_at "tr"))
  | ((with_reducible refine' Ext.trans (H1 := ?trH) ?tra ?tre); (case tre => assumption); (case tra => walk_at "tr"))
  | ((with_reducible refine' Ext.back1 (T := T) (H1 := ?trH) ?tre ?trn ?tra); (case tra => assumption); (case trn => walk_at "tr"); (case tre => walk_at "tr"))
  | ((with_reducible refine' Ext.back0 (T := T) (H1 := ?trH) ?tre ?tra); (case tra => assumption); (case tre => walk_at "tr"))
  | ((with_reducible refine' SqT.of ?tra); (case tra => walk_at "tr"))
  | ((with_reducible refine' SqL.of ?tra); (case tra => walk_at "tr")))
local macro_rules | `(tactic| walk_at "al") => `(tactic| (refine ⟨by first | (show _ ≤ sizeLine; decide) | walk_at "sz", ?_⟩; intro alp aln; generalize alG : upd _ alp _ = alH; obtain ⟨aln2, alx, alh⟩ := al_of (T := T) aln alG; clear alG aln))
local macro_rules | `(tactic| walk_at "al0") => `(tactic| (intro alp aln; generalize alG : upd _ alp _ = alH; obtain ⟨aln2, alx, alh⟩ := al_of (T := T) aln alG; clear alG aln))

theorem ok_law_bent_start (D : Def K mg "_law_bent_start" s_law_bent_start ["tape", "realm", "pools", "state"]) (mb : ∀ x ∈ bltns, mg x = none) (G_law_take : Ok P w K mg base 2 "_law_take" ["tape", "many"] (spTake T)) (G_law_slots : Ok P w K mg base 1 "_law_slots" ["realm"] (spSlots T))
    (G_law_at : Ok P w K mg base 1 "_law_at" ["state", "slot"] (spAt T)) (G_law_item : Ok P w K mg base 1 "_law_item" ["content", "life", "signers"] (spItem T)) (G_law_pool : Ok P w K mg base 1 "_law_pool" ["pools", "zone"] (spPool T))
    (G_law_mixed : Ok P w K mg base 5 "_law_mixed" ["tape", "realm", "pools", "slot", "item"] (spMixed T)) (G_law_after : Ok P w K mg base 1 "_law_after" ["state", "deed"] (spAfter T)) : Ok P w K mg base 6 "_law_bent_start" ["tape", "realm", "pools", "state"] (spBent T) := by
  refine D.ok sc_law_bent_start (fun vs H Q E h => ?_) (fun cdv f A outer s H vs Q E hr h => ?_)
  · obtain ⟨l, t, pa, v, u, R, ps, s, rfl, _⟩ := h
    rfl
  · obtain ⟨l, t, pa, v, u, R, ps, s, rfl, hT, hv, hR, hP, hps, hu, hs, hon, q⟩ := h
    refine ⟨_, (pss_cons (ps_if (pt_cmpR op_gt (pe_callO G_law_take (hr.mono (by decide)) (by rfl) (pa_cons (pv 0) (pa_cons pe_int pa_nil))) pe_int (nomark _)) (pss_one (ps_ret (pv 3))) pss_nil)
   (pss_cons (ps_set (i := 4) sc_law_bent_start.nd rfl (.inl rfl) (pe_callO G_law_slots (hr.mono (by decide)) (by rfl) (pa_cons (pv 1) pa_nil)))
   (pss_cons (ps_set (i := 5) sc_law_bent_start.nd rfl (.inl rfl) (pe_ix (ix_U K rfl) (pv 4) (pe_callO G_law_take (hr.mono (by decide)) (by rfl) (pa_cons (pv 0) (pa_cons (pe_callB (call_lenU K rfl) (by rfl) (mb _ (by decide)) (by decide +kernel) (pa_cons (pv 4) pa_nil)) pa_nil))) (fun _ _ => rfl)))
   (pss_cons (ps_set (i := 6) sc_law_bent_start.nd rfl (.inl rfl) (pe_callO G_law_at (hr.mono (by decide)) (by rfl) (pa_cons (pv 3) (pa_cons (pv 5) pa_nil))))
   (pss_cons (ps_if (pt_cmpR (op_eqU K rfl hr.units) (pe_ix (ix_U K rfl) (pv 5) pe_int (fun _ _ => rfl)) pe_str (nomark _)) (pss_one (ps_set (i := 6) sc_law_bent_start.nd rfl (.inl rfl) (pe_callO G_law_item (hr.mono (by decide)) (by rfl) (pa_cons (pe_ix (ix_U K rfl) (pe_lst (pa_cons (pe_lst pa_nil) (pa_cons (pe_lst (pa_cons pe_str pa_nil)) (pa_cons (pe_lst (pa_cons pe_str (pa_cons pe_str pa_nil))) pa_nil)))) (pe_callO G_law_take (hr.mono (by decide)) (by rfl) (pa_cons (pv 0) (pa_cons pe_int pa_nil))) (fun _ _ => rfl)) (pa_cons (pe_ix (ix_U K rfl) (pv 6) pe_int (fun _ _ => rfl)) (pa_cons (pe_lst pa_nil) pa_nil)))))) (pss_one (ps_if (pt_cmpR (op_eqU K rfl hr.units) (pe_callO G_law_take (hr.mono (by decide)) (by rfl) (pa_cons (pv 0) (pa_cons pe_int pa_nil))) pe_int (nomark _)) (pss_cons (ps_set (i := 7) sc_law_bent_start.nd rfl (.inl rfl) (pe_op op_mul (pe_callO G_law_take (hr.mono (by decide)) (by rfl) (pa_cons (pv 0) (pa_cons pe_int pa_nil))) (pe_callO G_law_take (hr.mono (by decide)) (by rfl) (pa_cons (pv 0) (pa_cons pe_int pa_nil)))))
   (pss_one (ps_set (i := 6) sc_law_bent_start.nd rfl (.inl rfl) (pe_op (op_plus K rfl) (pe_slice (sl_U K rfl) (pv 6) po_none (po_some pe_int)) (pe_tup (pa_cons (pv 7) (pa_cons (pe_op (op_plus K rfl) (pv 7) (pe_callO G_law_take (hr.mono (by decide)) (by rfl) (pa_cons (pv 0) (pa_cons pe_int pa_nil)))) pa_nil))))))) (pss_one (ps_if (pt_cmpR (op_eqU K rfl hr.units) (pv 5) (pe_tup (pa_cons pe_str (pa_cons pe_str pa_nil))) (nomark _)) (pss_cons (ps_set (i := 8) sc_law_bent_start.nd rfl (.inl rfl) (pe_callO G_law_pool (hr.mono (by decide)) (by rfl) (pa_cons (pv 2) (pa_cons pe_str pa_nil))))
   (pss_one (ps_set (i := 6) sc_law_bent_start.nd rfl (.inl rfl) (pe_callO G_law_item (hr.mono (by decide)) (by rfl) (pa_cons (pe_slice (sl_U K rfl) (pv 8) po_none (po_some pe_int)) (pa_cons (pe_ix (ix_U K rfl) (pv 6) pe_int (fun _ _ => rfl)) (pa_cons (pe_slice (sl_U K rfl) (pv 8) (po_some pe_int) (po_some pe_int)) pa_nil))))))) (pss_one (ps_set (i := 6) sc_law_bent_start.nd rfl (.inl rfl) (pe_callO G_law_mixed (hr.mono (by decide)) (by rfl) (pa_cons (pv 0) (pa_cons (pv 1) (pa_cons (pv 2) (pa_cons (pv 5) (pa_cons (pv 6) pa_nil)))))))))))))
   (pss_one (ps_ret (pe_callO G_law_after (hr.mono (by decide)) (by rfl) (pa_cons (pv 3) (pa_cons (pe_tup (pa_cons pe_str (pa_cons (pv 5) (pa_cons (pv 6) pa_nil)))) pa_nil)))))))))), ?_⟩
    have hsl := slots_len hR
    refine rd_seq ?_
    walk_at "rdn"
    refine ⟨l, t, 6, rfl, by decide, by decide, hT, fun d0 H1 _ _ e1 T1 => ?_⟩
    walk_at "rdn"
    refine rd_ite (fun hd => ?_) (fun hd => ?_)
    · walk_at "rd"
      exact q u s H1 hs rfl (by walk_at "tr") e1 T1
    · walk_at "rdn"
      refine rd_seq ?_
      walk_at "rdn"
      refine ⟨v, R, rfl, by walk_at "tr", hR, fun sp H2 nsp e2 hsp => ?_⟩
      have hspt : sp ≠ t := by walk_at "tr"
      obtain ⟨sx, hsx, hsi⟩ := hsp.list
      have hsxl : sx.length = (slotsR R).length := by rw [hsi.len, List.length_map]
      have hpos : 0 < (slotsR R).length := by
        unfold slotsR
        simp
      have T2 : Tape l H2 t := by walk_at "tr"
      walk_at "rdn"
      refine rd_seq ?_
      walk_at "rdn"
      refine ⟨l, t, _, rfl, by omega, by omega, T2, fun d1 H3 h10 h11 e3 T3 => ?_⟩
      obtain ⟨c, hc1, hc2, hc3⟩ := at_in (l := (slotsR R).map slD) h10 (by rw [List.length_map]; omega)
      obtain ⟨sl, hslm, rfl⟩ := List.mem_map.mp hc3
      refine rd_ixLs (show Ls H3 sp _ by walk_at "tr") hc1 fun y hy => ?_
      walk_at "rdn"
      refine rd_seq ?_
      walk_at "rdn"
      obtain ⟨it0, hit0⟩ := sta_find hs hslm
      have hok0 := hs.ok _ hit0
      refine ⟨u, y, s, sl, it0, rfl, by walk_at "tr", hy, hit0, sta_nodup hR hs, sta_len hR hs hsl, fun x0 H4 e4 hx0 => ?_⟩
      walk_at "rdn"
      have T4 : Tape l H4 t := by walk_at "tr"
      have hy4 : Im H4 y (slD sl) := by walk_at "tr"
      have hP4 : Pools H4 t pa ps := by walk_at "tr"
      have hv4 : Im H4 v (rmD R) := by walk_at "tr"
      have e04 : Ext T [t] H H4 := by walk_at "tr"
      have hu4 : StAt H4 u s := by walk_at "tr"
      clear hc1 hc2 hc3 hsx hsi hsp e1 T1 e2 e3 T2 T3 e4
      have hpn : (ps.map (·.1)).Nodup := by rw [hps.nm]; exact hR.nd
      have hpl : ps.length ≤ 6 := by
        have := congrArg List.length hps.nm
        rw [List.length_map, List.length_map] at this
        have := hR.len
        omega
      refine rd_cut (fun σ H5 => Ext T [t] H4 H5 ∧ Tape l H5 t ∧ ∃ (x : V) (it : Itm) (a b : Option V), σ = [some (.ref t), some v, some (.ref pa), some u, some (.ref sp), some y, some x, a, b] ∧ ItmOk sl it ∧ Im H5 x (itD it)) (fun nx' hnx => ?_) (fun σ H5 h => ?_)
      · by_cases hh : ∃ z, sl = .h z
        · obtain ⟨z, hz⟩ := hh
          subst hz
          have hy' : Im H4 y (.tuple [.str (Str.ofString "hosts"), .str z]) := hy4
          walk_at "rd"
          refine rd_ixSs hy' rfl ?_
          walk_at "rd"
          refine rd_ite (fun _ => ?_) (fun h => absurd rfl h)
          walk_at "rd"
          walk_at "al"
          rename_i p1 G1 n1 x1 g1
          walk_at "rd"
          walk_at "al"
          rename_i p2 G2 n2 x2 g2
          walk_at "rd"
          walk_at "al"
          rename_i p3 G3 n3 x3 g3
          walk_at "rd"
          walk_at "al"
          rename_i pl G4 n4 x4 g4
          have hplt : pl ≠ t := by walk_at "tr"
          walk_at "rd"
          refine ⟨l, t, 3, rfl, by decide, by decide, by walk_at "tr", fun d G5 h0 h1 x5 T5 => ?_⟩
          have k1 : CL G1 t p1 4 [] := ⟨g1, by walk_at "tr", by simp, by simp, by simp⟩
          have k2 : CL G2 t p2 4 ["s3"] := ⟨g2, by walk_at "tr", (bent_ok _ (by simp [bentL])).1, (bent_ok _ (by simp [bentL])).2.1, by decide⟩
          have k3 : CL G3 t p3 4 ["s1", "t9"] := ⟨g3, by walk_at "tr", (bent_ok _ (by simp [bentL])).1, (bent_ok _ (by simp [bentL])).2.1, by decide⟩
          obtain ⟨a, gs, ha1, ha2⟩ := pick_cl (H := G5) (t := t) (n := 4) (as := [p1, p2, p3]) (fun a ha => by
            simp only [List.mem_cons, List.not_mem_nil, or_false] at ha
            rcases ha with rfl | rfl | rfl
            · exact ⟨_, show CL G5 t a 4 [] by walk_at "tr"⟩
            · exact ⟨_, show CL G5 t a 4 ["s3"] by walk_at "tr"⟩
            · exact ⟨_, show CL G5 t a 4 ["s1", "t9"] by walk_at "tr"⟩) h0 (by show d < 3; omega)
          refine rd_ixL (SqL.of (show G5 pl = some (.lst ([p1, p2, p3].map V.ref)) by walk_at "tr")) ha1 ?_
          walk_at "rd"
          refine rd_ixI (d := .int it0.li) (show Im G5 x0 (itD it0) by walk_at "tr") rfl fun u1 hu1 => ?_
          rw [hu1.int']
          walk_at "rd"
          walk_at "al"
          rename_i p5 G6 n6 x6 g6
          walk_at "rd"
          refine ⟨a, p5, gs, [], it0.li, rfl, (show CL G6 t a 4 gs by walk_at "tr").at_, g6, ha2.ok, by simp, fun it G7 x7 hit => ?_⟩
          walk_at "rd"
          exact hnx _ _ ⟨by walk_at "tr", by walk_at "tr", it, ⟨srtS gs, it0.li, srtS [], 0, 10000⟩, _, _, rfl, ⟨⟨gs, rfl, ha2.nd, ha2.ok, ha2.len⟩, ⟨[], rfl, by simp, by simp, by simp⟩, hok0.li, ⟨show (0 : Int) ≤ 0 by decide, show (0 : Int) ≤ 10000 by decide, show (10000 : Int) ≤ 10000 by decide⟩, fun _ _ => ⟨srtS_nil, rfl, rfl⟩⟩, hit⟩
        · have hnh : ∀ z, sl ≠ .h z := fun z e => hh ⟨z, e⟩
          obtain ⟨kw, rr, hsl2, hkw⟩ : ∃ (kw : Str) (rr : List PyData), slD sl = .tuple (.str kw :: rr) ∧ ¬ kw = Str.ofString "hosts" := by
            cases sl with
            | k z => exact ⟨_, _, rfl, by decide +kernel⟩
            | l z => exact ⟨_, _, rfl, by decide +kernel⟩
            | h z => exact absurd rfl (hnh z)
            | s n k => exact ⟨_, _, rfl, by decide +kernel⟩
          have hy' : Im H4 y (.tuple (.str kw :: rr)) := by rw [← hsl2]; exact hy4
          walk_at "rd"
          refine rd_ixSs hy' (at_zero _ _) ?_
          walk_at "rd"
          refine rd_ite (fun h => absurd h hkw) (fun _ => ?_)
          walk_at "rd"
          refine ⟨l, t, 3, rfl, by decide, by decide, T4, fun d1 G1 _ _ x1 T1 => ?_⟩
          walk_at "rd"
          refine rd_ite (fun hd1 => ?_) (fun hd1 => ?_)
          · walk_at "rd"
            refine ⟨l, t, 3, rfl, by decide, by decide, T1, fun d3 G2 h30 h31 x2 T2 => ?_⟩
            walk_at "rd"
            refine ⟨l, t, 9, rfl, by decide, by decide, T2, fun d4 G3 h40 h41 x3 T3 => ?_⟩
            have hf : 0 ≤ d3 * d4 ∧ d3 * d4 ≤ 16 := ⟨Int.mul_nonneg h30 h40, Int.le_trans (Int.mul_le_mul (show d3 ≤ 2 by omega) (show d4 ≤ 8 by omega) h40 (by decide)) (by decide)⟩
            obtain ⟨xa, xx, rfl, hxa, hxx⟩ := hx0.tup'
            have hx5 : xx.length = 5 := hxx.len
            walk_at "rd"
            refine rd_slT (SqT.of (show SqP G3 xa xx by walk_at "tr")) (fun h => ?_) ?_
            · have h0 := h.2
              rw [show HT.sIx xx.length xx.length (some 3) = min 3 xx.length from HT.sIx_nat xx.length xx.length 3] at h0
              omega
            walk_at "al0"
            rename_i sa G4 _ x4 hsa
            rw [cutV_to _ (by decide), show Int.toNat 3 = 3 from rfl] at hsa
            walk_at "rd"
            refine ⟨l, t, 200, rfl, by decide, by decide, by walk_at "tr", fun d5 G5 h50 h51 x5 T5 => ?_⟩
            walk_at "rd"
            walk_at "al"
            rename_i tb G6 _ x6 htb
            refine rd_catT (SqT.of (show SqP G6 sa (xx.take 3) by walk_at "tr")) (SqT.of htb) (fun e => ?_) (by simp) ?_ ?_
            · have := congrArg List.length e
              rw [List.length_take] at this
              simp only [List.length_nil] at this
              omega
            · rw [List.length_take]
              exact Nat.le_trans (show _ ≤ 100 by simp only [List.length_cons, List.length_nil]; omega) (by decide)
            walk_at "al0"
            rename_i tc G7 _ x7 htc
            walk_at "rd"
            have hx3 : ImAll G7 (xx.take 3) [.tuple (it0.c.map .str), .int it0.li, .tuple (it0.g.map .str)] := by
              have h := hxx.take 3
              have h : ImAll H4 (xx.take 3) [.tuple (it0.c.map .str), .int it0.li, .tuple (it0.g.map .str)] := h
              walk_at "tr"
            have hx8 : ImAll G7 (xx.take 3 ++ [.int (d3 * d4), .int (d3 * d4 + d5)]) [.tuple (it0.c.map .str), .int it0.li, .tuple (it0.g.map .str), .int (d3 * d4), .int (d3 * d4 + d5)] := hx3.app (.cons (.int _) (.cons (.int _) .nil))
            exact hnx _ _ ⟨by walk_at "tr", by walk_at "tr", .ref tc, ⟨it0.c, it0.li, it0.g, d3 * d4, d3 * d4 + d5⟩, _, _, rfl, ⟨hok0.c, hok0.g, hok0.li, ⟨hf.1, show d3 * d4 ≤ d3 * d4 + d5 by omega, show d3 * d4 + d5 ≤ 10000 by omega⟩, fun z e => absurd e (hnh z)⟩, .tup htc hx8⟩
          · walk_at "rd"
            walk_at "al"
            rename_i ty G2 _ x2 hty
            have hdot : Im G2 (.ref ty) (slD (.k dotS)) := .new2 (.str _ (by decide +kernel)) (.str _ (by decide +kernel)) hty
            walk_at "rd"
            refine rd_eqI (b := decide (sl = .k dotS)) (show Im G2 y (slD sl) by walk_at "tr") hdot (Nat.le_trans (dep_sl _) (by decide)) (Nat.le_trans (dep_sl _) (by decide)) (Iff.trans ⟨fun e => slD_inj e, fun e => by rw [e]⟩ decide_eq_true_iff.symm) ?_
            refine ⟨_, rfl, ?_⟩
            refine rd_ite (fun hz => ?_) (fun hz => ?_)
            · subst hz
              obtain ⟨ks, hks⟩ : ∃ ks, (dotS, ks) ∈ ps := by
                obtain ⟨lag, rest, e, _⟩ := hR.ne
                have hm : dotS ∈ ps.map (·.1) := by
                  rw [hps.nm, e]
                  exact List.mem_cons_self
                obtain ⟨p, hp, e⟩ := List.mem_map.mp hm
                exact ⟨p.2, by rw [← e]; exact hp⟩
              walk_at "rd"
              refine ⟨t, pa, ps, dotS, ks, rfl, by walk_at "tr", hpl, hpn, hks, fun oa G3 hot hoa x3 => ?_⟩
              have hc3 : CL G3 t oa 3 ks := ⟨by walk_at "tr", hot, hps.nd _ hks, hps.ok _ hks, Nat.le_of_eq (hps.len _ hks)⟩
              walk_at "rd"
              refine hc3.take (T := T) (show Tape l G3 t by walk_at "tr") (by decide) fun q1 G4 _ x4 g1 => ?_
              walk_at "rd"
              refine rd_ixI (d := .int it0.li) (show Im G4 x0 (itD it0) by walk_at "tr") rfl fun u1 hu1 => ?_
              rw [hu1.int']
              walk_at "rd"
              refine CL.mid (T := T) (show CL G4 t oa 3 ks by walk_at "tr") (show Tape l G4 t by walk_at "tr") (by decide) (by decide) fun q2 G5 _ x5 g2 => ?_
              walk_at "rd"
              have g1' : CL G5 t q1 3 (ks.take 2) := g1.x x5
              refine ⟨q1, q2, _, _, it0.li, rfl, g1'.at_, g2.at_, g1.ok, g2.ok, fun it G6 x6 hit => ?_⟩
              walk_at "rd"
              exact hnx _ _ ⟨by walk_at "tr", by walk_at "tr", it, ⟨srtS _, it0.li, srtS _, 0, 10000⟩, _, _, rfl, ⟨⟨_, rfl, g1.nd, g1.ok, Nat.le_trans g1.len (by decide)⟩, ⟨_, rfl, g2.nd, g2.ok, g2.len⟩, hok0.li, ⟨show (0 : Int) ≤ 0 by decide, show (0 : Int) ≤ 10000 by decide, show (10000 : Int) ≤ 10000 by decide⟩, fun z e => absurd e (by simp)⟩, hit⟩
            · walk_at "rd"
              refine ⟨l, t, pa, v, y, x0, R, ps, sl, it0, rfl, by walk_at "tr", by walk_at "tr", hR, by walk_at "tr", hps, by walk_at "tr", hslm, hnh, by walk_at "tr", hok0, fun x3 it G3 hit hx3 x4 T5 => ?_⟩
              walk_at "rd"
              exact hnx _ _ ⟨by walk_at "tr", T5, x3, it, _, _, rfl, hit, hx3⟩
      · obtain ⟨e5, T5, x, it', a, b, rfl, hit', hx⟩ := h
        walk_at "rd"
        walk_at "al"
        rename_i r H6 _ e6 hr6
        refine ⟨u, .ref r, s, .put sl it', rfl, by walk_at "tr", .new3 (.str _ (by decide +kernel)) (by walk_at "tr") (by walk_at "tr") hr6, sta_len hR hs hsl, by omega, fun z H7 e7 hz7 => ?_⟩
        exact q z (aft s (.put sl it')) H7 (aft_ok hs ⟨hslm, hit'⟩ (by omega)) rfl hz7 (by walk_at "tr") (by walk_at "tr")
end

open PySem PySem.Spec PyProof.Rows L2
open PySem.W (EachIs sort_maps dataLe AllAlike Sortable)
/-! ### rows of deeds drawn -/
theorem mapSet {α β : Type} {f : α → β} (l : List α) (k : Nat) (v : α) : (l.map f).set k (f v) = (l.set k v).map f := by rw [List.map_set]

theorem zn_key {H : Hp} : ∀ {us ys : List V} {rs : List (Str × Int)}, ImAll H ys (rs.map siD) → EachIs (fun v x => ∃ r, Im H x (siD r) ∧ v = .str r.1) us ys → us = (rs.map (·.1)).map V.str := by
  intro us ys rs
  induction rs generalizing us ys with
  | nil =>
    intro h1 h2
    cases h1
    cases h2
    rfl
  | cons r rs ih =>
    intro h1 h2
    cases h1 with
    | cons a b =>
      cases h2 with
      | cons c d =>
        obtain ⟨r', c1, c2⟩ := c
        have e := Im.inj _ _ _ a c1
        injection e with e
        injection e with e _
        injection e with e
        rw [ih b d, c2, List.map_cons, List.map_cons, e]
theorem alike_sl (l : List Sl) : AllAlike (l.map slD) := fun d hd e he => by
  obtain ⟨y, _, rfl⟩ := List.mem_map.mp hd
  obtain ⟨z, _, rfl⟩ := List.mem_map.mp he
  cases y <;> cases z <;> rfl
theorem sortable_sl (l : List Sl) : Sortable (l.map slD) := .inl fun d hd => by
  obtain ⟨y, _, rfl⟩ := List.mem_map.mp hd
  cases y <;> exact ⟨_, _, rfl⟩
theorem depth_sl (l : List Sl) : ∀ d ∈ l.map slD, d.depth ≤ 60 := fun d hd => by
  obtain ⟨y, _, rfl⟩ := List.mem_map.mp hd
  exact Nat.le_trans (dep_sl y) (by decide)
def srtSl (l : List Sl) : List Sl := l.mergeSort fun a b => dataLe false id (slD a) (slD b)
theorem srtSl_eq (l : List Sl) : srtD (l.map slD) = (srtSl l).map slD := (sort_maps slD fun _ _ _ _ => rfl).symm
theorem srtSl_perm (l : List Sl) : (srtSl l).Perm l := List.mergeSort_perm _ _
theorem srtS_one (z : Str) : srtS [z] = [z] := List.mergeSort_singleton _
/-- a deed out of a list of deeds -/
theorem imall_erase {H : Hp} : ∀ {xs : List V} {ds : List PyData} (k : Nat), ImAll H xs ds → ImAll H (xs.eraseIdx k) (ds.eraseIdx k)
  | _, _, _, .nil => by simp only [List.eraseIdx_nil]; exact .nil
  | _, _, 0, .cons _ t => t
  | _, _, k + 1, .cons h t => .cons h (imall_erase k t)
theorem imall_set {H : Hp} : ∀ {xs : List V} {ds : List PyData} (k : Nat) {v : V} {d : PyData}, ImAll H xs ds → Im H v d → ImAll H (xs.set k v) (ds.set k d)
  | _, _, _, _, _, .nil, _ => .nil
  | _, _, 0, _, _, .cons _ t, h => .cons h t
  | _, _, k + 1, _, _, .cons a t, h => .cons a (imall_set k t h)
section
variable {K : PySem.W.Frag} {H : Hp} {Q : VK}
theorem rd_popLs {p : Addr} {ds : List PyData} {i : Int} (h : Ls H p ds) (h0 : 0 ≤ i) (h1 : i < ds.length) (hl : ds.length ≤ 1000) (q : ∀ y xs, H p = some (.lst xs) → Ls (upd H p (.lst (xs.eraseIdx i.toNat))) p (ds.eraseIdx i.toNat) → Q y (upd H p (.lst (xs.eraseIdx i.toNat)))) : rPopAt (.ref p) [.int i] H Q := by
  obtain ⟨xs, e, hx⟩ := h
  have hk : i.toNat < xs.length := by rw [hx.len]; omega
  have hi : seqIndex? i xs.length = some i.toNat := by
    have h2 : ixN xs.length i = some i.toNat := by
      unfold ixN
      rw [if_pos h0, if_pos (by omega)]
    exact (ixN_seq h2).1
  refine ⟨p, xs, i, i.toNat, xs[i.toNat], rfl, rfl, e, Int.le_trans (by decide) h0, Int.lt_of_lt_of_le h1 (by omega), hi, List.getElem?_eq_getElem hk, q _ xs e ⟨_, upd_same, ?_⟩⟩
  have eL : Ext [] [p] H (upd H p (.lst (xs.eraseIdx i.toNat))) := Ext.mut (by simp) e
  exact ImAll.ext eL (lsts_one e) _ _ (imall_erase _ hx)
end
theorem mem_erase {α : Type} {l : List α} {k : Nat} {x : α} (h : x ∈ l.eraseIdx k) : x ∈ l := List.mem_of_mem_eraseIdx h
/-- an item whose content may be of six ids: a move adds a server -/
structure ItmW (s : Sl) (i : Itm) : Prop where
  c : ∃ cs : List Str, i.c = srtS cs ∧ cs.Nodup ∧ (∀ y ∈ cs, idB y = true) ∧ cs.length ≤ 6
  g : ∃ gs : List Str, i.g = srtS gs ∧ gs.Nodup ∧ (∀ y ∈ gs, idB y = true) ∧ gs.length ≤ 3
  li : 1 ≤ i.li ∧ i.li ≤ 1000
  ab : 0 ≤ i.a ∧ i.a ≤ i.b ∧ i.b ≤ 10000
  h : ∀ z, s = .h z → i.g = [] ∧ i.a = 0 ∧ i.b = 10000
theorem ItmOk.w {s : Sl} {i : Itm} (h : ItmOk s i) : ItmW s i := by
  obtain ⟨cs, h1, h2, h3, h4⟩ := h.c
  exact ⟨⟨cs, h1, h2, h3, by omega⟩, h.g, h.li, h.ab, h.h⟩
def DdW (R : Rm) : Dd → Prop
  | .put s i => s ∈ slotsR R ∧ ItmW s i
  | .on x z => idB x = true ∧ z ∈ R.zs.tail.map (·.1)
  | .off x z => idB x = true ∧ z ∈ R.zs.tail.map (·.1)
theorem DdOk.w {R : Rm} {d : Dd} (h : DdOk R d) : DdW R d := by
  cases d with
  | put s i => exact ⟨h.1, h.2.w⟩
  | on x z => exact h
  | off x z => exact h
section
variable (T : List (Addr × Str))
def spRow : Sp := fun vs H Q _ => ∃ (l t pa : Addr) (v u : V) (R : Rm) (ps : List (Str × List Str)) (s : Sta), vs = [.ref t, v, .ref pa, u] ∧ Tape l H t ∧ Im H v (rmD R) ∧ RmIn R ∧ Pools H t pa ps ∧ PsOk R ps ∧ StAt H u s ∧ StaOk R s ∧ s.on.length ≤ 50 ∧
  ∀ (x : V) (ds : List Dd) (H' : Hp), (∀ d ∈ ds, DdW R d) → ds.length ≤ 12 → Im H' x (.tuple (ds.map ddD)) → Ext T [t] H H' → Tape l H' t → Q x H'
def spMove : Sp := fun vs H Q _ => ∃ (l t : Addr) (v u : V) (R : Rm) (s : Sta), vs = [.ref t, v, u] ∧ Tape l H t ∧ Im H v (rmD R) ∧ RmIn R ∧ 1 < R.zs.length ∧ StAt H u s ∧ StaOk R s ∧ s.on.length ≤ 50 ∧
  ∀ (x : V) (ds : List Dd) (H' : Hp), (∀ d ∈ ds, DdW R d) → ds.length ≤ 12 → Im H' x (.tuple (ds.map ddD)) → Ext T [t] H H' → Tape l H' t → Q x H'
end
theorem tail_mem {R : Rm} (h : RmIn R) {z : Str} (hz : z ∈ R.zs.map (·.1)) : z = dotS ∨ z ∈ R.zs.tail.map (·.1) := by
  obtain ⟨lag, rest, e, _⟩ := h.ne
  rw [e] at hz ⊢
  rcases List.mem_cons.mp hz with h | h
  · exact .inl h
  · exact .inr h
theorem kl_mem {R : Rm} {z : Str} (hz : z ∈ R.zs.tail.map (·.1)) : Sl.k z ∈ slotsR R ∧ Sl.l z ∈ slotsR R := by
  obtain ⟨y, hy, rfl⟩ := List.mem_map.mp hz
  unfold slotsR
  exact ⟨List.mem_append_left _ (List.mem_cons_of_mem _ (List.mem_flatMap.mpr ⟨y, hy, by simp⟩)), List.mem_append_left _ (List.mem_cons_of_mem _ (List.mem_flatMap.mpr ⟨y, hy, by simp⟩))⟩
theorem k_mem {R : Rm} (h : RmIn R) {z : Str} (hz : z ∈ R.zs.map (·.1)) : Sl.k z ∈ slotsR R := by
  rcases tail_mem h hz with e | hz
  · rw [e]
    unfold slotsR
    exact List.mem_append_left _ List.mem_cons_self
  · exact (kl_mem hz).1
def slw (s : Sl) : Bool := match s with
  | .k _ => false
  | .l _ => true
  | .h _ => false
  | .s _ _ => true
theorem slw_eq (s : Sl) : ∃ (kw z : Str) (r : List PyData), slD s = .tuple (.str kw :: .str z :: r) ∧ (kw ∈ [Str.ofString "set", Str.ofString "link"] ↔ slw s = true) := by
  cases s with
  | k z => exact ⟨"keys", z, [], rfl, ⟨fun h => absurd h (by decide +kernel), fun h => by cases h⟩⟩
  | l z => exact ⟨"link", z, [], rfl, ⟨fun _ => rfl, fun _ => by decide +kernel⟩⟩
  | h z => exact ⟨"hosts", z, [], rfl, ⟨fun h => absurd h (by decide +kernel), fun h => by cases h⟩⟩
  | s n k => exact ⟨"set", n, [.str k], rfl, ⟨fun _ => rfl, fun _ => by decide +kernel⟩⟩
theorem im_filter {H : Hp} {α : Type} {f : α → PyData} {c : α → Bool} (hf : ∀ a b, f a = f b → a = b) {xs us : List V} {as : List α} (hx : ImAll H xs (as.map f)) (hu : EachIs (fun v x => v = x) us (xs.filter (pIm H f c))) : ImAll H us ((as.filter c).map f) := by
  have h1 : us = xs.filter (pIm H f c) := by
    have key : ∀ {us vs : List V}, EachIs (fun v x => v = x) us vs → us = vs := by
      intro us vs h
      induction h with
      | nil => rfl
      | cons a b ih => rw [a, ih]
    exact key hu
  rw [h1]
  have key : ∀ {xs : List V} {as : List α}, EachIs (fun x a => Im H x (f a)) xs as → ImAll H xs (as.map f) := by
    intro xs as h
    induction h with
    | nil => exact .nil
    | cons a b ih => exact .cons a ih
  exact key (each_filter (c := c) hf hx)
/-! ### a list of one's own that grows -/
section
variable {T : List (Addr × Str)} {H H' : Hp}
theorem Im.z {p : Addr} {v : V} {d : PyData} (h : Im H v d) (e : Ext T [p] H H') (hm : Lsts H [p]) : Im H' v d := Im.ext e hm _ _ h
theorem ImAll.z {p : Addr} {vs : List V} {ds : List PyData} (h : ImAll H vs ds) (e : Ext T [p] H H') (hm : Lsts H [p]) : ImAll H' vs ds := ImAll.ext e hm _ _ h
theorem StAt.z {p : Addr} {v : V} {s : Sta} (h : StAt H v s) (e : Ext T [p] H H') (hm : Lsts H [p]) : StAt H' v s := h.ext e hm
theorem SqP.z {p a : Addr} {xs : List V} (h : SqP H a xs) (e : Ext T [p] H H') (hm : Lsts H [p]) : SqP H' a xs := SqP.ext h e hm
theorem tup.z {p a : Addr} {xs : List V} (h : H a = some (.tup xs)) (e : Ext T [p] H H') (hm : Lsts H [p]) : H' a = some (.tup xs) := SqP.ext h e hm
theorem Ls.z {p a : Addr} {ds : List PyData} (h : Ls H a ds) (e : Ext T [p] H H') (hm : Lsts H [p]) (ha : a ≠ p) : Ls H' a ds := h.ext e (by simpa using ha) hm
theorem lst.z {p a : Addr} {xs : List V} (h : H a = some (.lst xs)) (e : Ext T [p] H H') (ha : a ≠ p) : H' a = some (.lst xs) := e.lst (by simpa using ha) h
theorem CL.z {p a t : Addr} {n : Nat} {cs : List Str} (h : CL H t a n cs) (e : Ext T [p] H H') (ha : a ≠ p) : CL H' t a n cs := ⟨lst.z h.at_ e ha, h.ne, h.nd, h.ok, h.len⟩
end
section
variable {T : List (Addr × Str)} {K : PySem.W.Frag} {Hb H : Hp} {Q : VK} {l t dp : Addr} {ds : List PyData}
theorem push_step {v : V} {d : PyData} (hb : Ext T [t] Hb H) (hn : Nw Hb dp) (hTb : Tape l Hb t) (hT : Tape l H t) (hds : Ls H dp ds) (hv : Im H v d) (hl : ds.length < 1000)
    (q : ∀ H', Ext T [t] Hb H' → Tape l H' t → Ext T [dp] H H' → Lsts H [dp] → Ls H' dp (ds ++ [d]) → Q .non H') : rAppend (.ref dp) [v] H Q :=
  rd_appLs hds hv (Nat.lt_of_lt_of_le hl (by decide)) fun ys hy h => q _ (hb.own hn hy) (hT.own (hTb.ne hn).1 (hTb.ne hn).2) (Ext.mut (by simp) hy) (lsts_one hy) h
theorem pop_step {i : Int} (hb : Ext T [t] Hb H) (hn : Nw Hb dp) (hTb : Tape l Hb t) (hT : Tape l H t) (hds : Ls H dp ds) (h0 : 0 ≤ i) (h1 : i < ds.length) (hl : ds.length ≤ 1000)
    (q : ∀ y H', Ext T [t] Hb H' → Tape l H' t → Ext T [dp] H H' → Lsts H [dp] → Ls H' dp (ds.eraseIdx i.toNat) → Q y H') : rPopAt (.ref dp) [.int i] H Q :=
  rd_popLs hds h0 h1 hl fun y xs e h => q y _ (hb.own hn e) (hT.own (hTb.ne hn).1 (hTb.ne hn).2) (Ext.mut (by simp) e) (lsts_one e) h
theorem set_step {i : Int} {v : V} {d : PyData} {Q : Hp → Prop} (hb : Ext T [t] Hb H) (hn : Nw Hb dp) (hTb : Tape l Hb t) (hT : Tape l H t) (hds : Ls H dp ds) (hv : Im H v d) (h0 : 0 ≤ i) (h1 : i < ds.length)
    (q : ∀ H', Ext T [t] Hb H' → Tape l H' t → Ext T [dp] H H' → Lsts H [dp] → Ls H' dp (ds.set i.toNat d) → Q H') : rSetL (.ref dp) (.int i) v H Q := by
  obtain ⟨xs, e, hx⟩ := hds
  refine rd_set (j := i.toNat) e (by unfold ixN; rw [if_pos h0, if_pos (by rw [hx.len]; exact h1)]) ?_
  have eL : Ext T [dp] H (upd H dp (.lst (xs.set i.toNat v))) := Ext.mut (by simp) e
  exact q _ (hb.own hn e) (hT.own (hTb.ne hn).1 (hTb.ne hn).2) eL (lsts_one e) ⟨_, upd_same, imall_set _ (ImAll.ext eL (lsts_one e) _ _ hx) (Im.ext eL (lsts_one e) _ _ hv)⟩
end

open PySem PySem.Spec PyProof.Rows L2

section
variable {T : List (Addr × Str)} {P : Program} {w : World} {K : PySem.W.Frag} {mg : Str → Option Value} {base : Heap}
local macro_rules | `(tactic| walk_at "tr") => `(tactic| first
  | assumption
  | exact Ext.refl
  | ((with_reducible refine' Im.x (T := T) (H := ?trH) ?tra ?tre); (case tre => assumption); (case tra => walk_at "tr"))
  | ((with_reducible refine' Im.y (T := T) (H := ?trH) ?tra ?tre ?trt); (case tre => assumption); (case trt => walk_at "tr"); (case tra => walk_at "tr"))
  | ((with_reducible refine' ImAll.x (T := T) (H := ?trH) ?tra ?tre); (case tre => assumption); (case tra => walk_at "tr"))
  | ((with_reducible refine' ImAll.y (T := T) (H := ?trH) ?tra ?tre ?trt); (case tre => assumption); (case trt => walk_at "tr"); (case tra => walk_at "tr"))
  | ((with_reducible refine' Ls.x (T := T) (H := ?trH) ?tra ?tre); (case tre => assumption); (case tra => walk_at "tr"))
  | ((with_reducible refine' Ls.y (T := T) (H := ?trH) ?tra ?tre ?trn ?trt); (case tre => assumption); (case trt => walk_at "tr"); (case trn => walk_at "tr"); (case tra => walk_at "tr"))
  | ((with_reducible refine' SqP.x (T := T) (H := ?trH) ?tra ?tre); (case tre => assumption); (case tra => walk_at "tr"))
  | ((with_reducible refine' SqP.y (T := T) (H := ?trH) ?tra ?tre ?trt); (case tre => assumption); (case trt => walk_at "tr"); (case tra => walk_at "tr"))
  | ((with_reducible refine' StAt.x (T := T) (H := ?trH) ?tra ?tre); (case tre => assumption); (case tra => walk_at "tr"))
  | ((with_reducible refine' StAt.y (T := T) (H := ?trH) ?tra ?tre ?trt); (case tre => assumption); (case trt => walk_at "tr"); (case tra => walk_at "tr"))
  | ((with_reducible refine' Pools.ext0 (T := T) (H := ?trH) ?tra ?tre); (case tre => assumption); (case tra => walk_at "tr"))
  | ((with_reducible refine' Pools.ext (T := T) (H := ?trH) ?tra ?tre ?trt); (case tre => assumption); (case trt => walk_at "tr"); (case tra => walk_at "tr"))
  | ((with_reducible refine' CL.x (T := T) (H := ?trH) ?tra ?tre); (case tre => assumption); (case tra => walk_at "tr"))
  | ((with_reducible refine' CL.y (T := T) (H := ?trH) ?tra ?tre); (case tre => assumption); (case tra => walk_at "tr"))
  | ((with_reducible refine' Tape.ext (T := T) (H := ?trH) ?tra ?tre); (case tre => assumption); (case tra => walk_at "tr"))
  | ((with_reducible refine' lst.x (T := T) (H := ?trH) ?tra ?tre); (case tre => assumption); (case tra => walk_at "tr"))
  | ((with_reducible refine' lst.y (T := T) (H := ?trH) ?tra ?tre ?trn); (case tre => assumption); (case trn => walk_at "tr"); (case tra => walk_at "tr"))
  | ((with_reducible refine' tup.x (T := T) (H := ?trH) ?tra ?tre); (case tre => assumption); (case tra => walk_at "tr"))
  | ((with_reducible refine' tup.y (T := T) (H := ?trH) ?tra ?tre ?trt); (case tre => assumption); (case trt => walk_at "tr"); (case tra => walk_at "tr"))
  | ((with_reducible refine' frz.x (T := T) (H := ?trH) ?tra ?tre); (case tre => assumption); (case tra => walk_at "tr"))
  | ((with_reducible refine' frz.y (T := T) (H := ?trH) ?tra ?tre ?trt); (case tre => assumption); (case trt => walk_at "tr"); (case tra => walk_at "tr"))
  | ((with_reducible refine' Im.z (T := T) (H := ?trH) ?tra ?tre ?trt); (case tre => assumption); (case trt => assumption); (case tra => walk_at "tr"))
  | ((with_reducible refine' ImAll.z (T := T) (H := ?trH) ?tra ?tre ?trt); (case tre => assumption); (case trt => assumption); (case tra => walk_at "tr"))
  | ((with_reducible refine' StAt.z (T := T) (H := ?trH) ?tra ?tre ?trt); (case tre => assumption); (case trt => assumption); (case tra => walk_at "tr"))
  | ((with_reducible refine' SqP.z (T := T) (H := ?trH) ?tra ?tre ?trt); (case tre => assumption); (case trt => assumption); (case tra => walk_at "tr"))
  | ((with_reducible refine' tup.z (T := T) (H := ?trH) ?tra ?tre ?trt); (case tre => assumption); (case trt => assumption); (case tra => walk_at "tr"))
  | ((with_reducible refine' Ls.z (T := T) (H := ?trH) ?tra ?tre ?trt ?trn); (case tre => assumption); (case trt => assumption); (case trn => assumption); (case tra => walk_at "tr"))
  | ((with_reducible refine' lst.z (T := T) (H := ?trH) ?tra ?tre ?trn); (case tre => assumption); (case trn => assumption); (case tra => walk_at "tr"))
  | ((with_reducible refine' CL.z (T := T) (H := ?trH) ?tra ?tre ?trn); (case tre => assumption); (case trn => assumption); (case tra => walk_at "tr"))
  | ((with_reducible refine' Tape.ne1 (H := ?trH) ?trt ?trn); (case trn => assumption); (case trt => walk_at "tr"))
  | ((with_reducible refine' Ext.trans (H1 := ?trH) ?tra (Ext.any ?tre)); (case tre => assumption); (case tra => walk_at "tr"))
  | ((with_reducible refine' Ext.trans (H1 := ?trH) ?tra ?tre); (case tre => assumption); (case tra => walk_at "tr"))
  | ((with_reducible refine' Ext.back1 (T := T) (H1 := ?trH) ?tre ?trn ?tra); (case tra => assumption); (case trn => walk_at "tr"); (case tre => walk_at "tr"))
  | ((with_reducible refine' Ext.back0 (T := T) (H1 := ?trH) ?tre ?tra); (case tra => assumption); (case tre => walk_at "tr"))
  | ((with_reducible refine' SqT.of ?tra); (case tra => walk_at "tr"))
  | ((with_reducible refine' SqL.of ?tra); (case tra => walk_at "tr")))
local macro_rules | `(tactic| walk_at "al") => `(tactic| (refine ⟨by first | (show _ ≤ sizeLine; decide) | walk_at "sz", ?_⟩; intro alp aln; generalize alG : upd _ alp _ = alH; obtain ⟨aln2, alx, alh⟩ := al_of (T := T) aln alG; clear alG aln))
local macro_rules | `(tactic| walk_at "al0") => `(tactic| (intro alp aln; generalize alG : upd _ alp _ = alH; obtain ⟨aln2, alx, alh⟩ := al_of (T := T) aln alG; clear alG aln))

theorem erase_map {α β : Type} (f : α → β) : ∀ (l : List α) (k : Nat), (l.map f).eraseIdx k = (l.eraseIdx k).map f
  | [], _ => rfl
  | _ :: _, 0 => rfl
  | a :: l, k + 1 => by
    show f a :: (l.map f).eraseIdx k = f a :: (l.eraseIdx k).map f
    rw [erase_map f l k]
theorem ok_law_change (D : Def K mg "_law_change" s_law_change ["tape", "realm", "pools", "state"]) (mb : ∀ x ∈ bltns, mg x = none) (G_law_take : Ok P w K mg base 2 "_law_take" ["tape", "many"] (spTake T)) (G_law_slots : Ok P w K mg base 1 "_law_slots" ["realm"] (spSlots T))
    (G_law_life : Ok P w K mg base 3 "_law_life" ["tape"] (spInt T 1 1000)) (G_law_home : Ok P w K mg base 2 "_law_home" ["realm", "slot"] (spHome T))
    (G_law_at : Ok P w K mg base 1 "_law_at" ["state", "slot"] (spAt T)) (G_law_item : Ok P w K mg base 1 "_law_item" ["content", "life", "signers"] (spItem T)) (G_law_pool : Ok P w K mg base 1 "_law_pool" ["pools", "zone"] (spPool T)) :
    Ok P w K mg base 4 "_law_change" ["tape", "realm", "pools", "state"] (spRow T) := by
  refine D.ok sc_law_change (fun vs H Q E h => ?_) (fun cdv f A outer s H vs Q E hr h => ?_)
  · obtain ⟨l, t, pa, v, u, R, ps, s, rfl, _⟩ := h
    rfl
  · obtain ⟨l, t, pa, v, u, R, ps, s, rfl, hT, hv, hR, hP, hps, hu, hs, hon, q⟩ := h
    refine ⟨_, (pss_cons (ps_setLc (i := 5) (own := [("zone", 4), ("lag", 17)]) (tt := tYes) rfl sc_law_change.nd rfl rfl (sw_true rfl rfl rfl (by decide +kernel)) (pi_seq K rfl (pe_ix (ix_U K rfl) (pv 1) pe_int (fun _ _ => rfl))) (blkOk_by (N := N_law_change) (sc := defScope s_law_change) (by decide +kernel)) (fun _ _ _ _ _ => (pg_tupU (n := 2) K rfl rfl (pgs_cons (pg_name (i := 4) sc_law_change.nd rfl (Or.inl rfl)) (pgs_cons (pg_name (i := 17) sc_law_change.nd rfl (Or.inl rfl)) pgs_nil)))) (fun _ _ _ _ _ => pts_nil) (fun _ _ _ _ _ => (pv 4)))
   (pss_cons (ps_set (i := 4) sc_law_change.nd rfl (.inr rfl) (pe_ix (ix_U K rfl) (pv 5) (pe_callO G_law_take (hr.mono (by decide)) (by rfl) (pa_cons (pv 0) (pa_cons (pe_callB (call_lenU K rfl) (by rfl) (mb _ (by decide)) (by decide +kernel) (pa_cons (pv 5) pa_nil)) pa_nil))) (fun _ _ => rfl)))
   (pss_cons (ps_asg (pe_slice (sl_U K rfl) (pe_callO G_law_pool (hr.mono (by decide)) (by rfl) (pa_cons (pv 2) (pa_cons (pv 4) pa_nil))) po_none (po_some pe_int)) (pg_tupU (n := 2) K rfl rfl (pgs_cons (pg_name (i := 6) sc_law_change.nd rfl (.inl rfl)) (pgs_cons (pg_name (i := 7) sc_law_change.nd rfl (.inl rfl)) pgs_nil))))
   (pss_cons (ps_set (i := 8) sc_law_change.nd rfl (.inl rfl) (pe_callO G_law_life (hr.mono (by decide)) (by rfl) (pa_cons (pv 0) pa_nil)))
   (pss_cons (ps_set (i := 9) sc_law_change.nd rfl (.inl rfl) (pe_callTy (call_listU K rfl) (by rfl) (mb _ (by decide)) (by decide +kernel) (pa_cons (pe_ix (ix_U K rfl) (pv 1) pe_int (fun _ _ => rfl)) pa_nil)))
   (pss_cons (ps_set (i := 11) sc_law_change.nd rfl (.inl rfl) (pe_callB (call_sortedU K rfl hr.units) (by rfl) (mb _ (by decide)) (by decide +kernel) (pa_cons (pe_lc (own := [("slot", 10)]) (g := gName 10) rfl sc_law_change.nd (pi_seq K rfl (pe_callO G_law_slots (hr.mono (by decide)) (by rfl) (pa_cons (pv 1) pa_nil))) (blkOk_by (N := N_law_change) (sc := defScope s_law_change) (by decide +kernel)) (fun _ _ _ _ _ => (pg_name (i := 10) sc_law_change.nd rfl (Or.inl rfl))) (fun _ _ _ _ _ => (pts_one (PW.pt (pw_and (pt_cmpR (op_inW K rfl (Room.units65 hr)) (pe_ix (ix_U K rfl) (pv 10) pe_int (fun _ _ => rfl)) (pe_tup (pa_cons pe_str (pa_cons pe_str pa_nil))) rfl) (pw_and1 (pt_cmpR (op_eqU K rfl hr.units) (pe_callO G_law_home (hr.mono (by decide)) (by rfl) (pa_cons (pv 1) (pa_cons (pv 10) pa_nil))) (pv 4) (nomark _))))))) (fun _ _ _ _ _ => (pv 10))) pa_nil)))
   (pss_cons (ps_set (i := 12) sc_law_change.nd rfl (.inl rfl) (pe_ifExp (pt_cmpR (op_eqU K rfl hr.units) (pv 4) pe_str (nomark _)) (pe_slice (sl_U K rfl) (pv 9) po_none (po_some pe_int)) (pe_lst (pa_cons (pv 6) pa_nil))))
   (pss_cons (ps_set (i := 13) sc_law_change.nd rfl (.inl rfl) (pe_lst (pa_cons (pe_tup (pa_cons pe_str (pa_cons (pe_tup (pa_cons pe_str (pa_cons (pv 4) pa_nil))) (pa_cons (pe_callO G_law_item (hr.mono (by decide)) (by rfl) (pa_cons (pe_lst (pa_cons (pv 6) (pa_cons (pv 7) pa_nil))) (pa_cons (pv 8) (pa_cons (pv 12) pa_nil)))) pa_nil)))) pa_nil)))
   (pss_cons (ps_for PassesOwn.never rfl (pi_seq K rfl (pe_slice (sl_U K rfl) (pv 11) po_none (po_some pe_int))) (pg_name (i := 10) sc_law_change.nd rfl (.inl rfl)) (pss_cons (ps_set (i := 14) sc_law_change.nd rfl (.inl rfl) (pe_callO G_law_at (hr.mono (by decide)) (by rfl) (pa_cons (pv 3) (pa_cons (pv 10) pa_nil))))
   (pss_one (ps_expr (pe_bm PySem.F.plainAttrs_list PySem.F.slot_list_append PySem.F.type_list_append mt_append (pv 13) (pa_cons (pe_tup (pa_cons pe_str (pa_cons (pv 10) (pa_cons (pe_tup (pa_cons (pe_ix (ix_U K rfl) (pv 14) pe_int (fun _ _ => rfl)) (pa_cons (pe_ix (ix_U K rfl) (pv 14) pe_int (fun _ _ => rfl)) (pa_cons (pe_tup (pa_cons (pv 7) pa_nil)) (pa_cons (pe_ix (ix_U K rfl) (pv 14) pe_int (fun _ _ => rfl)) (pa_cons (pe_ix (ix_U K rfl) (pv 14) pe_int (fun _ _ => rfl)) pa_nil)))))) pa_nil)))) pa_nil))))))
   (pss_cons (ps_if (pt_cmpR (op_neU K rfl hr.units) (pv 4) pe_str (nomark _)) (pss_cons (ps_set (i := 15) sc_law_change.nd rfl (.inl rfl) (pe_callO G_law_at (hr.mono (by decide)) (by rfl) (pa_cons (pv 3) (pa_cons (pe_tup (pa_cons pe_str (pa_cons (pv 4) pa_nil))) pa_nil))))
   (pss_cons (ps_expr (pe_bm PySem.F.plainAttrs_list PySem.F.slot_list_append PySem.F.type_list_append mt_append (pv 13) (pa_cons (pe_tup (pa_cons pe_str (pa_cons (pe_tup (pa_cons pe_str (pa_cons (pv 4) pa_nil))) (pa_cons (pe_callO G_law_item (hr.mono (by decide)) (by rfl) (pa_cons (pe_lst (pa_cons (pv 6) (pa_cons (pv 7) pa_nil))) (pa_cons (pe_ix (ix_U K rfl) (pv 15) pe_int (fun _ _ => rfl)) (pa_cons (pe_callTy (call_listU K rfl) (by rfl) (mb _ (by decide)) (by decide +kernel) (pa_cons (pe_ix (ix_U K rfl) (pv 15) pe_int (fun _ _ => rfl)) pa_nil)) pa_nil)))) pa_nil)))) pa_nil)))
   (pss_one (ps_set (i := 12) sc_law_change.nd rfl (.inl rfl) (pe_lst (pa_cons (pv 7) pa_nil)))))) pss_nil)
   (pss_cons (ps_expr (pe_bm PySem.F.plainAttrs_list PySem.F.slot_list_append PySem.F.type_list_append mt_append (pv 13) (pa_cons (pe_tup (pa_cons pe_str (pa_cons (pe_tup (pa_cons pe_str (pa_cons (pv 4) pa_nil))) (pa_cons (pe_callO G_law_item (hr.mono (by decide)) (by rfl) (pa_cons (pe_lst (pa_cons (pv 7) pa_nil)) (pa_cons (pv 8) (pa_cons (pv 12) pa_nil)))) pa_nil)))) pa_nil)))
   (pss_cons (ps_if (pt_cmpR (op_eqU K rfl hr.units) (pe_callO G_law_take (hr.mono (by decide)) (by rfl) (pa_cons (pv 0) (pa_cons pe_int pa_nil))) pe_int (nomark _)) (pss_one (ps_expr (pe_bm PySem.F.plainAttrs_list PySem.F.slot_list_pop PySem.F.type_list_pop mt_popAt (pv 13) (pa_cons (pe_callO G_law_take (hr.mono (by decide)) (by rfl) (pa_cons (pv 0) (pa_cons (pe_callB (call_lenU K rfl) (by rfl) (mb _ (by decide)) (by decide +kernel) (pa_cons (pv 13) pa_nil)) pa_nil))) pa_nil)))) pss_nil)
   (pss_cons (ps_if (PW.pt (pw_and (pt_cmpR op_gt (pe_callB (call_lenU K rfl) (by rfl) (mb _ (by decide)) (by decide +kernel) (pa_cons (pv 13) pa_nil)) pe_int (nomark _)) (pw_and1 (pt_cmpR (op_eqU K rfl hr.units) (pe_callO G_law_take (hr.mono (by decide)) (by rfl) (pa_cons (pv 0) (pa_cons pe_int pa_nil))) pe_int (nomark _))))) (pss_cons (ps_set (i := 16) sc_law_change.nd rfl (.inl rfl) (pe_callO G_law_take (hr.mono (by decide)) (by rfl) (pa_cons (pv 0) (pa_cons (pe_op op_sub (pe_callB (call_lenU K rfl) (by rfl) (mb _ (by decide)) (by decide +kernel) (pa_cons (pv 13) pa_nil)) pe_int) pa_nil))))
   (pss_one (ps_asg (pe_tup (pa_cons (pe_ix (ix_U K rfl) (pv 13) (pe_op (op_plus K rfl) (pv 16) pe_int) (fun _ _ => rfl)) (pa_cons (pe_ix (ix_U K rfl) (pv 13) (pv 16) (fun _ _ => rfl)) pa_nil))) (pg_tupU (n := 2) K rfl rfl (pgs_cons (pg_sub (pv 13) (pv 16) set_list) (pgs_cons (pg_sub (pv 13) (pe_op (op_plus K rfl) (pv 16) pe_int) set_list) pgs_nil)))))) pss_nil)
   (pss_one (ps_ret (pe_callTy (call_tupU K rfl) (by rfl) (mb _ (by decide)) (by decide +kernel) (pa_cons (pe_slice (sl_U K rfl) (pv 13) po_none (po_some pe_int)) pa_nil))))))))))))))))), ?_⟩
    have hsl := slots_len hR
    have hpn : (ps.map (·.1)).Nodup := by rw [hps.nm]; exact hR.nd
    have hpl : ps.length ≤ 6 := by
      have := congrArg List.length hps.nm
      rw [List.length_map, List.length_map] at this
      have := hR.len
      omega
    refine rd_seq ?_
    walk_at "rdn"
    refine rd_ixI (d := .tuple (R.zs.map siD)) hv rfl fun u1 hu1 => ?_
    obtain ⟨zp, zx, rfl, hzp, hzi⟩ := hu1.tup'
    have hzl : zx.length = R.zs.length := by rw [hzi.len, List.length_map]
    have hzl6 := hR.len
    have hz0 : 0 < R.zs.length := by
      obtain ⟨lag, rest, e, _⟩ := hR.ne
      rw [e, List.length_cons]
      omega
    refine ⟨zp, rfl, .inr ⟨⟨_, SqT.of hzp⟩, ?_⟩⟩
    refine lcg_rel T [] walk_tup zx rfl (fun i H x H' y => y) (by simp) (fun H' e => SqT.of (SqP.x hzp e)) (Nat.lt_of_le_of_lt (show zx.length ≤ 100 by omega) (by decide)) (fun _ => true) (fun v x => ∃ r, Im H x (siD r) ∧ v = .str r.1) (fun i x hx H' e' R' S h1 h2 => ?_) (fun D H2 us nD e2 hD hus => ?_)
    · obtain ⟨dr, hdr, hxr⟩ := hzi.get' hx
      rw [List.getElem?_map] at hdr
      obtain ⟨r, hr, rfl⟩ := Option.map_eq_some_iff.mp hdr
      refine rd_gpair (d1 := .str r.1) (d2 := .int r.2) (hxr.x e') fun v1 v2 g1 g2 => ?_
      rw [g1.str', g2.int']
      refine ⟨rfl, ?_⟩
      walk_at "rd"
      exact h1 rfl _ _ .refl ⟨r, hxr, rfl⟩
    · rw [filtT] at hus
      have hu2 := zn_key hzi hus
      subst hu2
      have hDt : D ≠ t := by walk_at "tr"
      have T2 : Tape l H2 t := by walk_at "tr"
      clear hzp hzi hus
      walk_at "rdn"
      refine rd_seq ?_
      walk_at "rdn"
      refine ⟨l, t, _, rfl, ?_, ?_, T2, fun d0 H3 h00 h01 e3 T3 => ?_⟩
      · rw [List.length_map, List.length_map]
        omega
      · rw [List.length_map, List.length_map]
        omega
      obtain ⟨c, hc1, hc2, hc3⟩ := at_in (l := (R.zs.map (·.1)).map V.str) h00 h01
      obtain ⟨z, hz, rfl⟩ := List.mem_map.mp hc3
      refine rd_ixL (SqL.of (show H3 D = _ by walk_at "tr")) hc1 ?_
      have e03 : Ext T [t] H H3 := by walk_at "tr"
      clear hc1 hc2 hc3 e2 hD nD T2 e3
      walk_at "rdn"
      refine rd_seq ?_
      walk_at "rdn"
      obtain ⟨ks, hks⟩ : ∃ ks, (z, ks) ∈ ps := by
        have hm := hz
        rw [← hps.nm] at hm
        obtain ⟨p, hp, e⟩ := List.mem_map.mp hm
        exact ⟨p.2, by rw [← e]; exact hp⟩
      refine ⟨t, pa, ps, z, ks, rfl, by walk_at "tr", hpl, hpn, hks, fun oa H4 hot hoa e4 => ?_⟩
      obtain ⟨k1, k2, k3, rfl⟩ : ∃ k1 k2 k3, ks = [k1, k2, k3] := by
        have h := hps.len _ hks
        match ks, h with
        | [a, b, c], _ => exact ⟨a, b, c, rfl⟩
      have kn := hps.nd _ hks
      have ko := hps.ok _ hks
      have kn12 : k1 ≠ k2 := fun e => by
        subst e
        simp at kn
      have ko1 := ko k1 (by simp)
      have ko2 := ko k2 (by simp)
      walk_at "rdn"
      refine rd_takeS T (zs := [k1, k2, k3]) (by walk_at "tr") (by decide) fun p1 H5 _ e5 hp1 => ?_
      refine rd_glst (xs := [.str k1, .str k2]) (SqL.of hp1) rfl ?_
      walk_at "rdn"
      refine rd_seq ?_
      walk_at "rdn"
      refine ⟨l, t, rfl, by walk_at "tr", fun li H6 hl0 hl1 e6 T6 => ?_⟩
      have e06 : Ext T [t] H H6 := by walk_at "tr"
      clear e4 hoa e5 hp1 T3 e6 e03
      walk_at "rdn"
      refine rd_seq ?_
      walk_at "rdn"
      refine rd_ixI (d := .tuple (R.an.map .str)) (show Im H6 v (rmD R) by walk_at "tr") rfl fun u1 hu1 => ?_
      obtain ⟨at', ax, rfl, hat, hax⟩ := hu1.tup'
      have hax2 := hax.strs'
      subst hax2
      refine rd_nil ?_
      refine rd_listA T (SqT.of hat) fun na H7 nna e7 hna => ?_
      have hnat : na ≠ t := by walk_at "tr"
      walk_at "rdn"
      refine rd_seq ?_
      walk_at "rdn"
      refine ⟨v, R, rfl, by walk_at "tr", hR, fun sp H8 nsp e8 hsp => ?_⟩
      obtain ⟨sx, hsx, hsi⟩ := hsp.list
      have hsxl : sx.length = (slotsR R).length := by rw [hsi.len, List.length_map]
      walk_at "rdn"
      refine lcg_rel T [] walk_list sx rfl (fun i H x H' y => y) (by simp) (fun H' e => SqL.of (lst.x hsx e)) (Nat.lt_of_le_of_lt (show sx.length ≤ 100 by omega) (by decide)) (pIm H8 slD fun sl => slw sl && decide (homeR R sl = z)) (fun v x => v = x) (fun i x hx H' e' R' S h1 h2 => ?_) (fun D2 H9 us nD2 e9 hD2 hus => ?_)
      · obtain ⟨dr, hdr, hxr⟩ := hsi.get' hx
        rw [List.getElem?_map] at hdr
        obtain ⟨sl, hsl', rfl⟩ := Option.map_eq_some_iff.mp hdr
        have hp := pIm_eq (c := fun sl => slw sl && decide (homeR R sl = z)) (fun a b => slD_inj) hxr
        have hslm := List.mem_of_getElem? hsl'
        obtain ⟨kw, zz, rr, e1, e2⟩ := slw_eq sl
        have hxr' := hxr
        rw [e1] at hxr'
        refine rd_name ⟨wipe1, ?_⟩
        walk_at "rd"
        refine rd_ixSs (hxr'.x e') (at_zero _ _) ?_
        walk_at "rd"
        walk_at "al"
        rename_i q1 G1 _ x1 g1
        refine rd_inWt (zs := [Str.ofString "set", Str.ofString "link"]) (SqT.of g1) ?_
        walk_at "rd"
        refine rd_ite (fun hk => ?_) (fun hk => ?_)
        · walk_at "rd"
          refine ⟨v, x, R, sl, rfl, by walk_at "tr", by walk_at "tr", hR, hslm, fun G2 x2 hh => ?_⟩
          walk_at "rd"
          refine rd_ite (fun hz2 => ?_) (fun hz2 => ?_)
          · walk_at "rd"
            exact h1 (hp.trans (by rw [e2.mp hk, decide_eq_true hz2]; rfl)) _ _ (x1.trans x2) rfl
          · exact h2 (hp.trans (by rw [decide_eq_false hz2, Bool.and_false])) _ (x1.trans x2)
        · have hk2 : slw sl = false := by
            cases h : slw sl with
            | false => rfl
            | true => exact absurd (e2.mpr h) hk
          exact h2 (hp.trans (by rw [hk2]; rfl)) _ x1
      · have hus2 := im_filter (fun a b => slD_inj) hsi hus
        have hfm : ∀ s' ∈ (slotsR R).filter (fun sl => slw sl && decide (homeR R sl = z)), s' ∈ slotsR R ∧ slw s' = true := fun s' h => by
          obtain ⟨h1, h2⟩ := List.mem_filter.mp h
          exact ⟨h1, (Bool.and_eq_true _ _ ▸ h2).1⟩
        generalize (slotsR R).filter (fun sl => slw sl && decide (homeR R sl = z)) = fl at hus2 hfm
        walk_at "rdn"
        refine rd_sortA T (ds := fl.map slD) ⟨_, hD2, by walk_at "tr"⟩ (alike_sl _) (sortable_sl _) (depth_sl _) fun sa H10 ys nsa e10 hsa hys => ?_
        rw [srtSl_eq] at hys
        have hse : Ls H10 sa ((srtSl fl).map slD) := ⟨ys, hsa, hys⟩
        have hsm : ∀ s' ∈ srtSl fl, s' ∈ slotsR R ∧ slw s' = true := fun s' h => hfm s' ((srtSl_perm fl).mem_iff.mp h)
        generalize srtSl fl = sealed at hse hsm
        have T10 : Tape l H10 t := by walk_at "tr"
        have e010 : Ext T [t] H H10 := by walk_at "tr"
        have hna10 : H10 na = some (.lst (R.an.map V.str)) := by walk_at "tr"
        have hsat : sa ≠ t := by walk_at "tr"
        clear hsa hys hus2 hfm hus hD2 nD2 e9 e10 e8 hsp hsx hsi hsxl hat hax e7 hna nna T6 e06
        walk_at "rdn"
        refine rd_cut (fun σ H11 => Ext T [] H10 H11 ∧ ∃ (ga : Addr) (gs : List Str), σ = [some (.ref t), some v, some (.ref pa), some u, some (.str z), some (.ref D), some (.str k1), some (.str k2), some (.int li), some (.ref na), none, some (.ref sa), some (.ref ga), none, none, none, none, none] ∧ CL H11 t ga 3 gs) (fun nx' hnx => ?_) (fun σ H11 h => ?_)
        · walk_at "rd"
          refine rd_ite (fun hz2 => ?_) (fun hz2 => ?_)
          · walk_at "rd"
            refine rd_takeS T (zs := R.an) hna10 (by decide) fun p G np x hp => ?_
            walk_at "rd"
            obtain ⟨a, r, ea, ha⟩ := hR.an
            have e1 : R.an.take (Int.toNat 1) = [a] := by rw [ea]; rfl
            rw [e1] at hp
            exact hnx _ _ ⟨x, p, [a], rfl, hp, by walk_at "tr", by simp, fun y hy => by rw [List.mem_singleton.mp hy]; exact ha, by simp⟩
          · walk_at "rd"
            walk_at "al"
            rename_i p G np x hp
            walk_at "rd"
            exact hnx _ _ ⟨x, p, [k1], rfl, hp, by walk_at "tr", by simp, fun y hy => by rw [List.mem_singleton.mp hy]; exact ko1, by simp⟩
        · obtain ⟨x11, ga, gs, rfl, hga⟩ := h
          have hkk : [k1, k2].Nodup ∧ ∀ y ∈ [k1, k2], idB y = true := ⟨by simpa using kn12, fun y hy => ko y (by simp at hy ⊢; rcases hy with h | h <;> simp [h])⟩
          have hzs : PyData.strOk z = true := by
            obtain ⟨y, hy, e⟩ := List.mem_map.mp hz
            rw [← e]
            exact name_ok (hR.nm y hy)
          refine rd_seq ?_
          walk_at "rdn"
          walk_at "al"
          rename_i kt G1 nkt y1 hkt
          walk_at "rdn"
          walk_at "al"
          rename_i la G2 nla y2 hla
          walk_at "rdn"
          refine ⟨la, ga, [k1, k2], gs, li, rfl, hla, (show CL G2 t ga 3 gs by walk_at "tr").at_, hkk.2, hga.ok, fun it G3 y3 hit => ?_⟩
          walk_at "rdn"
          walk_at "al"
          rename_i pt G4 npt y4 hpt
          have hd0 : Im G4 (.ref pt) (ddD (.put (.k z) ⟨srtS [k1, k2], li, srtS gs, 0, 10000⟩)) := .new3 (.str _ (by decide +kernel)) (show Im G4 (.ref kt) (slD (.k z)) from Im.new2 (.str _ (by decide +kernel)) (.str _ hzs) (by walk_at "tr")) (by walk_at "tr") hpt
          have hok0 : DdOk R (.put (.k z) ⟨srtS [k1, k2], li, srtS gs, 0, 10000⟩) := ⟨k_mem hR hz, ⟨[k1, k2], rfl, hkk.1, hkk.2, by simp⟩, ⟨gs, rfl, hga.nd, hga.ok, hga.len⟩, ⟨hl0, hl1⟩, ⟨show (0 : Int) ≤ 0 by decide, show (0 : Int) ≤ 10000 by decide, show (10000 : Int) ≤ 10000 by decide⟩, fun z e => by cases e⟩
          have T4 : Tape l G4 t := by walk_at "tr"
          have e04 : Ext T [t] H G4 := by walk_at "tr"
          have hse4 : Ls G4 sa (sealed.map slD) := by walk_at "tr"
          have hga4 : CL G4 t ga 3 gs := by walk_at "tr"
          have hu4 : StAt G4 u s := by walk_at "tr"
          generalize Dd.put (.k z) ⟨srtS [k1, k2], li, srtS gs, 0, 10000⟩ = dd0 at hd0 hok0
          clear hna10 hse T10 e010 hpt hit y4 y3 hla y2 hkt y1 hga x11
          walk_at "rdn"
          walk_at "al"
          rename_i dp G5 ndp y5 hdp
          walk_at "rdn"
          have hds5 : Ls G5 dp ([dd0].map ddD) := ⟨_, hdp, .cons (hd0.x y5) .nil⟩
          have hse5 : Ls G5 sa (sealed.map slD) := by walk_at "tr"
          refine rd_cut (fun σ H7 => Ext T [t] G4 H7 ∧ Tape l H7 t ∧ ∃ (ds : List Dd) (a b : Option V), σ = [some (.ref t), some v, some (.ref pa), some u, some (.str z), some (.ref D), some (.str k1), some (.str k2), some (.int li), some (.ref na), a, some (.ref sa), some (.ref ga), some (.ref dp), b, none, none, none] ∧ Ls H7 dp (ds.map ddD) ∧ (∀ d ∈ ds, DdOk R d) ∧ 1 ≤ ds.length ∧ ds.length ≤ 4) (fun nx' hnx => ?_) (fun σ H7 h => ?_)
          · obtain ⟨xs, hxs, hxi⟩ := hse5.list
            walk_at "rd"
            refine rd_slL (SqL.of hxs) ?_
            walk_at "al0"
            rename_i qa G6 nqa y6 hqa
            rw [cutV_to _ (by decide), show Int.toNat 3 = 3 from rfl] at hqa
            have hxi6 : ImAll G6 (xs.take 3) ((sealed.take 3).map slD) := by
              have h := hxi.take 3
              rw [← List.map_take] at h
              walk_at "tr"
            have hqdp : qa ≠ dp := fun e => nqa.lst hdp e.symm
            have hqt : qa ≠ t := by walk_at "tr"
            have e46 : Ext T [t] G4 G6 := by walk_at "tr"
            have T6 : Tape l G6 t := by walk_at "tr"
            have hds6 : Ls G6 dp ([dd0].map ddD) := by walk_at "tr"
            clear hse5 hxs hxi y6 y5 hds5
            refine ⟨qa, rfl, .inl ⟨⟨_, SqL.of hqa⟩, ?_⟩⟩
            refine forg_list (xs := xs.take 3) (fun i σ H7 => Ext T [t] G4 H7 ∧ Tape l H7 t ∧ H7 qa = some (.lst (xs.take 3)) ∧ ImAll H7 (xs.take 3) ((sealed.take 3).map slD) ∧ ∃ (ds : List Dd) (a b : Option V), σ = [some (.ref t), some v, some (.ref pa), some u, some (.str z), some (.ref D), some (.str k1), some (.str k2), some (.int li), some (.ref na), a, some (.ref sa), some (.ref ga), some (.ref dp), b, none, none, none] ∧ Ls H7 dp (ds.map ddD) ∧ (∀ d ∈ ds, DdOk R d) ∧ 1 ≤ ds.length ∧ ds.length ≤ 1 + i)
              ⟨e46, T6, hqa, hxi6, [dd0], none, none, rfl, hds6, fun d hd => by rw [List.mem_singleton.mp hd]; exact hok0, by simp, by simp⟩ (fun i σ H5 _ h => SqL.of h.2.2.1) (fun i x σ H7 hx h => ?_) (fun σ H7 h => ?_)
            · obtain ⟨e7, T7, hqa7, hxi7, ds, a, b, rfl, hds7, hok7, hl7, hl7'⟩ := h
              obtain ⟨dr, hdr, hxr⟩ := hxi7.get' hx
              rw [List.getElem?_map] at hdr
              obtain ⟨sl, hsl', rfl⟩ := Option.map_eq_some_iff.mp hdr
              have hi3 : i < 3 := by
                have h := (List.getElem?_eq_some_iff.mp hsl').1
                rw [List.length_take] at h
                omega
              have hslm := hsm sl (List.mem_of_mem_take (List.mem_of_getElem? hsl'))
              obtain ⟨it0, hit0⟩ := sta_find hs hslm.1
              have hok0' := hs.ok _ hit0
              walk_at "rd"
              refine ⟨u, x, s, sl, it0, rfl, by walk_at "tr", hxr, hit0, sta_nodup hR hs, sta_len hR hs hsl, fun x0 H8 z1 hx0 => ?_⟩
              have hds8 : Ls H8 dp (ds.map ddD) := by walk_at "tr"
              obtain ⟨dx, hdx, _⟩ := hds8.list
              walk_at "rd"
              refine rd_ixI (d := .tuple (it0.c.map .str)) hx0 rfl fun c0 hc0 => ?_
              walk_at "rd"
              refine rd_ixI (d := .int it0.li) hx0 rfl fun u1 hu1 => ?_
              rw [hu1.int']
              walk_at "rd"
              walk_at "al"
              rename_i nt G8 _ z2 hnt
              walk_at "rd"
              refine rd_ixI (d := .int it0.a) (show Im G8 x0 (itD it0) by walk_at "tr") rfl fun u1 hu1 => ?_
              rw [hu1.int']
              walk_at "rd"
              refine rd_ixI (d := .int it0.b) (show Im G8 x0 (itD it0) by walk_at "tr") rfl fun u1 hu1 => ?_
              rw [hu1.int']
              walk_at "rd"
              walk_at "al"
              rename_i it5 G9 _ z3 hit5
              walk_at "rd"
              walk_at "al"
              rename_i pu G10 _ z4 hpu
              have hc9 : Im G9 c0 (.tuple (it0.c.map .str)) := by walk_at "tr"
              have hn9 : Im G9 (.ref nt) (.tuple ([k2].map .str)) := .tup (by walk_at "tr") (.cons (.str _ (id_ok ko2)) .nil)
              have hI : Im G9 (.ref it5) (itD ⟨it0.c, it0.li, [k2], it0.a, it0.b⟩) := .tup hit5 (.cons hc9 (.cons (.int _) (.cons hn9 (.cons (.int _) (.cons (.int _) .nil)))))
              have hD' : Im G10 (.ref pu) (ddD (.put sl ⟨it0.c, it0.li, [k2], it0.a, it0.b⟩)) := .new3 (.str _ (by decide +kernel)) (by walk_at "tr") (by walk_at "tr") hpu
              have hdk : DdOk R (.put sl ⟨it0.c, it0.li, [k2], it0.a, it0.b⟩) := ⟨hslm.1, hok0'.c, ⟨[k2], (srtS_one _).symm, by simp, fun y hy => by rw [List.mem_singleton.mp hy]; exact ko2, by simp⟩, hok0'.li, hok0'.ab, fun z' e => by
                rw [e] at hslm
                cases hslm.2⟩
              refine rd_nil ?_
              refine push_step (Hb := G4) (t := t) (l := l) (by walk_at "tr") ndp T4 (by walk_at "tr") (show Ls G10 dp (ds.map ddD) by walk_at "tr") hD' (by rw [List.length_map]; omega) fun H11 e11 T11 z5 z6 hds11 => ?_
              walk_at "rd"
              refine ⟨e11, T11, by walk_at "tr", by walk_at "tr", ds ++ [_], _, _, rfl, by rw [List.map_append]; exact hds11, fun d hd => ?_, by rw [List.length_append]; omega, by rw [List.length_append]; show ds.length + 1 ≤ _; omega⟩
              rcases List.mem_append.mp hd with h | h
              · exact hok7 d h
              · rw [List.mem_singleton.mp h]
                exact hdk
            · obtain ⟨e7, T7, hqa7, hxi7, ds, a, b, rfl, hds7, hok7, hl7, hl7'⟩ := h
              exact hnx _ _ ⟨e7, T7, ds, a, b, rfl, hds7, hok7, hl7, by rw [List.length_take] at hl7'; omega⟩
          · obtain ⟨e7, T7, ds, a, b, rfl, hds7, hok7, hl7, hl7'⟩ := h
            clear hds5 hse5 hdp y5 hd0 hse4 hsm
            refine rd_cut (fun σ H7 => Ext T [t] G4 H7 ∧ Tape l H7 t ∧ ∃ (ds : List Dd) (c : Option V) (ga : Addr) (gs : List Str), σ = [some (.ref t), some v, some (.ref pa), some u, some (.str z), some (.ref D), some (.str k1), some (.str k2), some (.int li), some (.ref na), a, some (.ref sa), some (.ref ga), some (.ref dp), b, c, none, none] ∧ CL H7 t ga 3 gs ∧ Ls H7 dp (ds.map ddD) ∧ (∀ d ∈ ds, DdOk R d) ∧ 1 ≤ ds.length ∧ ds.length ≤ 5) (fun nx' hnx => ?_) (fun σ H7 h => ?_)
            · walk_at "rd"
              refine rd_itn (fun hz2 => ?_) (fun hz2 => ?_)
              · walk_at "rd"
                exact hnx _ _ ⟨e7, T7, ds, none, ga, gs, rfl, by walk_at "tr", hds7, hok7, hl7, by omega⟩
              · have hzt : z ∈ R.zs.tail.map (·.1) := (tail_mem hR hz).resolve_left hz2
                obtain ⟨it0, hit0⟩ := sta_find hs (kl_mem hzt).2
                have hok0' := hs.ok _ hit0
                walk_at "rd"
                walk_at "al"
                rename_i tl H8 _ z1 htl
                have hlk : Im H8 (.ref tl) (slD (.l z)) := .new2 (.str _ (by decide +kernel)) (.str _ hzs) htl
                walk_at "rd"
                refine ⟨u, .ref tl, s, .l z, it0, rfl, by walk_at "tr", hlk, hit0, sta_nodup hR hs, sta_len hR hs hsl, fun x0 H9 z2 hx0 => ?_⟩
                have hds9 : Ls H9 dp (ds.map ddD) := by walk_at "tr"
                obtain ⟨dx, hdx, _⟩ := hds9.list
                walk_at "rd"
                walk_at "al"
                rename_i tl2 H10 _ z3 htl2
                have hlk2 : Im H10 (.ref tl2) (slD (.l z)) := .new2 (.str _ (by decide +kernel)) (.str _ hzs) htl2
                walk_at "rd"
                walk_at "al"
                rename_i lb H11 _ z4 hlb
                walk_at "rd"
                refine rd_ixI (d := .int it0.li) (show Im H11 x0 (itD it0) by walk_at "tr") rfl fun u1 hu1 => ?_
                rw [hu1.int']
                walk_at "rd"
                refine rd_ixI (d := .tuple (it0.g.map .str)) (show Im H11 x0 (itD it0) by walk_at "tr") rfl fun u1 hu1 => ?_
                obtain ⟨gt, gx, rfl, hgt, hgx⟩ := hu1.tup'
                have hgx2 := hgx.strs'
                subst hgx2
                walk_at "rd"
                refine rd_listA T (SqT.of hgt) fun lc H12 nlc z5 hlc => ?_
                walk_at "rd"
                obtain ⟨gn, go, gl⟩ := itm_g hok0'
                refine ⟨lb, lc, [k1, k2], it0.g, it0.li, rfl, show H12 lb = some (.lst ([k1, k2].map V.str)) from lst.x hlb z5, hlc, hkk.2, go, fun it H13 z6 hit => ?_⟩
                walk_at "rd"
                walk_at "al"
                rename_i pu H14 _ z7 hpu
                have hD' : Im H14 (.ref pu) (ddD (.put (.l z) ⟨srtS [k1, k2], it0.li, srtS it0.g, 0, 10000⟩)) := .new3 (.str _ (by decide +kernel)) (by walk_at "tr") (by walk_at "tr") hpu
                have hdk : DdOk R (.put (.l z) ⟨srtS [k1, k2], it0.li, srtS it0.g, 0, 10000⟩) := ⟨(kl_mem hzt).2, ⟨[k1, k2], rfl, hkk.1, hkk.2, by simp⟩, ⟨it0.g, rfl, gn, go, gl⟩, hok0'.li, ⟨show (0 : Int) ≤ 0 by decide, show (0 : Int) ≤ 10000 by decide, show (10000 : Int) ≤ 10000 by decide⟩, fun z e => by cases e⟩
                refine rd_nil ?_
                refine push_step (Hb := G4) (t := t) (l := l) (by walk_at "tr") ndp T4 (by walk_at "tr") (show Ls H14 dp (ds.map ddD) by walk_at "tr") hD' (by rw [List.length_map]; omega) fun H15 e15 T15 z8 z9 hds15 => ?_
                walk_at "rd"
                walk_at "al"
                rename_i gn2 H16 ngn2 z10 hgn2
                walk_at "rd"
                refine hnx _ _ ⟨by walk_at "tr", by walk_at "tr", ds ++ [_], _, gn2, [k2], rfl, ⟨hgn2, by walk_at "tr", by simp, fun y hy => by rw [List.mem_singleton.mp hy]; exact ko2, by simp⟩, by rw [List.map_append]; walk_at "tr", fun d hd => ?_, by rw [List.length_append]; omega, by rw [List.length_append]; show ds.length + 1 ≤ _; omega⟩
                rcases List.mem_append.mp hd with h | h
                · exact hok7 d h
                · rw [List.mem_singleton.mp h]
                  exact hdk
            · clear e7 T7 hds7 hok7 hl7 hl7' hga4
              obtain ⟨e7, T7, ds, c, ga, gs, rfl, hga, hds7, hok7, hl7, hl7'⟩ := h
              have hk2 : [k2].Nodup ∧ ∀ y ∈ [k2], idB y = true := ⟨by simp, fun y hy => by rw [List.mem_singleton.mp hy]; exact ko2⟩
              refine rd_cut (fun σ H7 => Ext T [t] G4 H7 ∧ Tape l H7 t ∧ ∃ (ds : List Dd), σ = [some (.ref t), some v, some (.ref pa), some u, some (.str z), some (.ref D), some (.str k1), some (.str k2), some (.int li), some (.ref na), a, some (.ref sa), some (.ref ga), some (.ref dp), b, c, none, none] ∧ Ls H7 dp (ds.map ddD) ∧ (∀ d ∈ ds, DdOk R d) ∧ 1 ≤ ds.length ∧ ds.length ≤ 6) (fun nx' hnx => ?_) (fun σ H8 h => ?_)
              · obtain ⟨dx, hdx, _⟩ := hds7.list
                walk_at "rd"
                walk_at "al"
                rename_i kt H8 _ z1 hkt
                have hlk : Im H8 (.ref kt) (slD (.k z)) := .new2 (.str _ (by decide +kernel)) (.str _ hzs) hkt
                walk_at "rd"
                walk_at "al"
                rename_i lb H9 _ z2 hlb
                walk_at "rd"
                refine ⟨lb, ga, [k2], gs, li, rfl, hlb, (show CL H9 t ga 3 gs by walk_at "tr").at_, hk2.2, hga.ok, fun it H10 z3 hit => ?_⟩
                walk_at "rd"
                walk_at "al"
                rename_i pu H11 _ z4 hpu
                have hD' : Im H11 (.ref pu) (ddD (.put (.k z) ⟨srtS [k2], li, srtS gs, 0, 10000⟩)) := .new3 (.str _ (by decide +kernel)) (by walk_at "tr") (by walk_at "tr") hpu
                have hdk : DdOk R (.put (.k z) ⟨srtS [k2], li, srtS gs, 0, 10000⟩) := ⟨k_mem hR hz, ⟨[k2], rfl, hk2.1, hk2.2, by simp⟩, ⟨gs, rfl, hga.nd, hga.ok, hga.len⟩, ⟨hl0, hl1⟩, ⟨show (0 : Int) ≤ 0 by decide, show (0 : Int) ≤ 10000 by decide, show (10000 : Int) ≤ 10000 by decide⟩, fun z e => by cases e⟩
                refine rd_nil ?_
                refine push_step (Hb := G4) (t := t) (l := l) (by walk_at "tr") ndp T4 (by walk_at "tr") (show Ls H11 dp (ds.map ddD) by walk_at "tr") hD' (by rw [List.length_map]; omega) fun H12 e12 T12 z5 z6 hds12 => ?_
                walk_at "rd"
                refine hnx _ _ ⟨e12, T12, ds ++ [_], rfl, by rw [List.map_append]; exact hds12, fun d hd => ?_, by rw [List.length_append]; omega, by rw [List.length_append]; show ds.length + 1 ≤ _; omega⟩
                rcases List.mem_append.mp hd with h | h
                · exact hok7 d h
                · rw [List.mem_singleton.mp h]
                  exact hdk
              · clear e7 T7 hds7 hok7 hl7 hl7' hga
                obtain ⟨e7, T7, ds, rfl, hds7, hok7, hl7, hl7'⟩ := h
                refine rd_cut (fun σ H7 => Ext T [t] G4 H7 ∧ Tape l H7 t ∧ ∃ (ds : List Dd), σ = [some (.ref t), some v, some (.ref pa), some u, some (.str z), some (.ref D), some (.str k1), some (.str k2), some (.int li), some (.ref na), a, some (.ref sa), some (.ref ga), some (.ref dp), b, c, none, none] ∧ Ls H7 dp (ds.map ddD) ∧ (∀ d ∈ ds, DdOk R d) ∧ ds.length ≤ 6) (fun nx' hnx => ?_) (fun σ H9 h => ?_)
                · walk_at "rd"
                  refine ⟨l, t, 4, rfl, by decide, by decide, T7, fun d1 H9 _ _ x1 T9 => ?_⟩
                  have hdpt : dp ≠ t := (T4.ne ndp).1
                  have hds9 : Ls H9 dp (ds.map ddD) := by walk_at "tr"
                  obtain ⟨dx, hdx, hdi⟩ := hds9.list
                  have hdl : dx.length = ds.length := by rw [hdi.len, List.length_map]
                  walk_at "rd"
                  refine rd_ite (fun hd => ?_) (fun hd => ?_)
                  · walk_at "rd"
                    refine ⟨l, t, _, rfl, by omega, by omega, T9, fun d2 H10 h20 h21 x2 T10 => ?_⟩
                    refine rd_nil ?_
                    refine pop_step (Hb := G4) (t := t) (l := l) (by walk_at "tr") ndp T4 T10 (show Ls H10 dp (ds.map ddD) by walk_at "tr") h20 (by rw [List.length_map]; omega) (by rw [List.length_map]; omega) fun y H11 e11 T11 z5 z6 hds11 => ?_
                    walk_at "rd"
                    refine hnx _ _ ⟨e11, T11, ds.eraseIdx d2.toNat, rfl, by rw [← erase_map]; exact hds11, fun d hd => hok7 d (mem_erase hd), Nat.le_trans (List.length_eraseIdx_le _ _) hl7'⟩
                  · walk_at "rd"
                    exact hnx _ _ ⟨by walk_at "tr", T9, ds, rfl, hds9, hok7, hl7'⟩
                · clear e7 T7 hds7 hok7 hl7 hl7'
                  obtain ⟨e7, T7, ds, rfl, hds7, hok7, hl7'⟩ := h
                  refine rd_cut (fun σ H7 => Ext T [t] G4 H7 ∧ Tape l H7 t ∧ ∃ (ds : List Dd) (e : Option V), σ = [some (.ref t), some v, some (.ref pa), some u, some (.str z), some (.ref D), some (.str k1), some (.str k2), some (.int li), some (.ref na), a, some (.ref sa), some (.ref ga), some (.ref dp), b, c, e, none] ∧ Ls H7 dp (ds.map ddD) ∧ (∀ d ∈ ds, DdOk R d) ∧ ds.length ≤ 6) (fun nx' hnx => ?_) (fun σ H10 h => ?_)
                  · have hdpt : dp ≠ t := (T4.ne ndp).1
                    obtain ⟨dx, hdx, hdi⟩ := hds7.list
                    have hdl : dx.length = ds.length := by rw [hdi.len, List.length_map]
                    walk_at "rd"
                    refine rd_ite (fun h1 => ?_) (fun h1 => ?_)
                    · walk_at "rd"
                      refine ⟨l, t, 4, rfl, by decide, by decide, T7, fun d1 H10 _ _ x1 T10 => ?_⟩
                      have hds10 : Ls H10 dp (ds.map ddD) := by walk_at "tr"
                      obtain ⟨dx2, hdx2, hdi2⟩ := hds10.list
                      have hdl2 : dx2.length = ds.length := by rw [hdi2.len, List.length_map]
                      walk_at "rd"
                      refine rd_ite (fun h2 => ?_) (fun h2 => ?_)
                      · walk_at "rd"
                        refine ⟨l, t, _, rfl, by omega, by omega, T10, fun d2 H11 h20 h21 x2 T11 => ?_⟩
                        have hds11 : Ls H11 dp (ds.map ddD) := by walk_at "tr"
                        walk_at "rd"
                        obtain ⟨dx3, hdx3, hdi3⟩ := hds11.list
                        have hdl3 : dx3.length = ds.length := by rw [hdi3.len, List.length_map]
                        obtain ⟨j, rfl⟩ := Int.eq_ofNat_of_zero_le h20
                        have hj0 : j < dx3.length := by omega
                        have hj1 : j + 1 < dx3.length := by omega
                        have ha1 : atI dx3 ((j : Int) + 1) = some dx3[j + 1] := by
                          have h := atI_nat (List.getElem?_eq_getElem hj1)
                          rw [show (j : Int) + 1 = ((j + 1 : Nat) : Int) by omega]
                          exact h
                        have ha0 : atI dx3 (j : Int) = some dx3[j] := atI_nat (List.getElem?_eq_getElem hj0)
                        obtain ⟨e1, he1, hi1⟩ := hdi3.get' (List.getElem?_eq_getElem hj1)
                        obtain ⟨e0, he0, hi0⟩ := hdi3.get' (List.getElem?_eq_getElem hj0)
                        rw [List.getElem?_map] at he1 he0
                        obtain ⟨a1, hd1, rfl⟩ := Option.map_eq_some_iff.mp he1
                        obtain ⟨a0, hd0, rfl⟩ := Option.map_eq_some_iff.mp he0
                        refine rd_ixL (SqL.of hdx3) ha1 ?_
                        walk_at "rd"
                        refine rd_ixL (SqL.of hdx3) ha0 ?_
                        walk_at "rd"
                        walk_at "al"
                        rename_i tq H12 _ x3 htq
                        refine rd_gtup (SqT.of htq) rfl ?_
                        have T12 : Tape l H12 t := by walk_at "tr"
                        have hds12 : Ls H12 dp (ds.map ddD) := by walk_at "tr"
                        walk_at "rd"
                        refine set_step (Hb := G4) (t := t) (l := l) (by walk_at "tr") ndp T4 T12 hds12 (hi1.x x3) (by omega) (by rw [List.length_map]; omega) fun H13 e13 T13 f13 l13 hds13 => ?_
                        rw [Int.toNat_natCast, mapSet] at hds13
                        walk_at "rd"
                        refine set_step (Hb := G4) (t := t) (l := l) e13 ndp T4 T13 hds13 ((hi0.x x3).z f13 l13) (by omega) (by rw [List.length_map, List.length_set]; omega) fun H14 e14 T14 f14 l14 hds14 => ?_
                        rw [show Int.toNat ((j : Int) + 1) = j + 1 by omega, mapSet] at hds14
                        walk_at "rd"
                        refine hnx _ _ ⟨e14, T14, _, _, rfl, hds14, fun d hd => ?_, by rw [List.length_set, List.length_set]; exact hl7'⟩
                        rcases List.mem_or_eq_of_mem_set hd with hd | hd
                        · rcases List.mem_or_eq_of_mem_set hd with hd | hd
                          · exact hok7 d hd
                          · rw [hd]
                            exact hok7 a1 (List.mem_of_getElem? hd1)
                        · rw [hd]
                          exact hok7 a0 (List.mem_of_getElem? hd0)
                      · walk_at "rd"
                        exact hnx _ _ ⟨by walk_at "tr", T10, ds, _, rfl, hds10, hok7, hl7'⟩
                    · walk_at "rd"
                      exact hnx _ _ ⟨e7, T7, ds, _, rfl, hds7, hok7, hl7'⟩
                  · obtain ⟨e10, T10, ds, e, rfl, hds10, hok10, hl10⟩ := h
                    obtain ⟨dx, hdx, hdi⟩ := hds10.list
                    walk_at "rd"
                    refine rd_slL (SqL.of hdx) ?_
                    walk_at "al0"
                    rename_i r1 H11 _ x1 hr1
                    rw [cutV_to _ (by decide), show Int.toNat 6 = 6 from rfl] at hr1
                    have hri : ImAll H11 (dx.take 6) ((ds.take 6).map ddD) := by
                      have h := hdi.take 6
                      rw [← List.map_take] at h
                      walk_at "tr"
                    walk_at "rd"
                    refine rd_tupA T hr1 fun r2 H12 nr2 x2 hr2 => ?_
                    exact q _ (ds.take 6) H12 (fun d hd => (hok10 d (List.mem_of_mem_take hd)).w) (by rw [List.length_take]; omega) (.tup hr2 (hri.x x2)) (by walk_at "tr") (by walk_at "tr")
end

open PySem PySem.Spec PyProof.Rows L2

section
variable {T : List (Addr × Str)} {P : Program} {w : World} {K : PySem.W.Frag} {mg : Str → Option Value} {base : Heap}
local macro_rules | `(tactic| walk_at "tr") => `(tactic| first
  | assumption
  | exact Ext.refl
  | ((with_reducible refine' Im.x (T := T) (H := ?trH) ?tra ?tre); (case tre => assumption); (case tra => walk_at "tr"))
  | ((with_reducible refine' Im.y (T := T) (H := ?trH) ?tra ?tre ?trt); (case tre => assumption); (case trt => walk_at "tr"); (case tra => walk_at "tr"))
  | ((with_reducible refine' ImAll.x (T := T) (H := ?trH) ?tra ?tre); (case tre => assumption); (case tra => walk_at "tr"))
  | ((with_reducible refine' ImAll.y (T := T) (H := ?trH) ?tra ?tre ?trt); (case tre => assumption); (case trt => walk_at "tr"); (case tra => walk_at "tr"))
  | ((with_reducible refine' Ls.x (T := T) (H := ?trH) ?tra ?tre); (case tre => assumption); (case tra => walk_at "tr"))
  | ((with_reducible refine' Ls.y (T := T) (H := ?trH) ?tra ?tre ?trn ?trt); (case tre => assumption); (case trt => walk_at "tr"); (case trn => walk_at "tr"); (case tra => walk_at "tr"))
  | ((with_reducible refine' SqP.x (T := T) (H := ?trH) ?tra ?tre); (case tre => assumption); (case tra => walk_at "tr"))
  | ((with_reducible refine' SqP.y (T := T) (H := ?trH) ?tra ?tre ?trt); (case tre => assumption); (case trt => walk_at "tr"); (case tra => walk_at "tr"))
  | ((with_reducible refine' StAt.x (T := T) (H := ?trH) ?tra ?tre); (case tre => assumption); (case tra => walk_at "tr"))
  | ((with_reducible refine' StAt.y (T := T) (H := ?trH) ?tra ?tre ?trt); (case tre => assumption); (case trt => walk_at "tr"); (case tra => walk_at "tr"))
  | ((with_reducible refine' Pools.ext0 (T := T) (H := ?trH) ?tra ?tre); (case tre => assumption); (case tra => walk_at "tr"))
  | ((with_reducible refine' Pools.ext (T := T) (H := ?trH) ?tra ?tre ?trt); (case tre => assumption); (case trt => walk_at "tr"); (case tra => walk_at "tr"))
  | ((with_reducible refine' CL.x (T := T) (H := ?trH) ?tra ?tre); (case tre => assumption); (case tra => walk_at "tr"))
  | ((with_reducible refine' CL.y (T := T) (H := ?trH) ?tra ?tre); (case tre => assumption); (case tra => walk_at "tr"))
  | ((with_reducible refine' Tape.ext (T := T) (H := ?trH) ?tra ?tre); (case tre => assumption); (case tra => walk_at "tr"))
  | ((with_reducible refine' lst.x (T := T) (H := ?trH) ?tra ?tre); (case tre => assumption); (case tra => walk_at "tr"))
  | ((with_reducible refine' lst.y (T := T) (H := ?trH) ?tra ?tre ?trn); (case tre => assumption); (case trn => walk_at "tr"); (case tra => walk_at "tr"))
  | ((with_reducible refine' tup.x (T := T) (H := ?trH) ?tra ?tre); (case tre => assumption); (case tra => walk_at "tr"))
  | ((with_reducible refine' tup.y (T := T) (H := ?trH) ?tra ?tre ?trt); (case tre => assumption); (case trt => walk_at "tr"); (case tra => walk_at "tr"))
  | ((with_reducible refine' frz.x (T := T) (H := ?trH) ?tra ?tre); (case tre => assumption); (case tra => walk_at "tr"))
  | ((with_reducible refine' frz.y (T := T) (H := ?trH) ?tra ?tre ?trt); (case tre => assumption); (case trt => walk_at "tr"); (case tra => walk_at "tr"))
  | ((with_reducible refine' Im.z (T := T) (H := ?trH) ?tra ?tre ?trt); (case tre => assumption); (case trt => assumption); (case tra => walk_at "tr"))
  | ((with_reducible refine' ImAll.z (T := T) (H := ?trH) ?tra ?tre ?trt); (case tre => assumption); (case trt => assumption); (case tra => walk_at "tr"))
  | ((with_reducible refine' StAt.z (T := T) (H := ?trH) ?tra ?tre ?trt); (case tre => assumption); (case trt => assumption); (case tra => walk_at "tr"))
  | ((with_reducible refine' SqP.z (T := T) (H := ?trH) ?tra ?tre ?trt); (case tre => assumption); (case trt => assumption); (case tra => walk_at "tr"))
  | ((with_reducible refine' tup.z (T := T) (H := ?trH) ?tra ?tre ?trt); (case tre => assumption); (case trt => assumption); (case tra => walk_at "tr"))
  | ((with_reducible refine' Ls.z (T := T) (H := ?trH) ?tra ?tre ?trt ?trn); (case tre => assumption); (case trt => assumption); (case trn => assumption); (case tra => walk_at "tr"))
  | ((with_reducible refine' lst.z (T := T) (H := ?trH) ?tra ?tre ?trn); (case tre => assumption); (case trn => assumption); (case tra => walk_at "tr"))
  | ((with_reducible refine' CL.z (T := T) (H := ?trH) ?tra ?tre ?trn); (case tre => assumption); (case trn => assumption); (case tra => walk_at "tr"))
  | ((with_reducible refine' Tape.ne1 (H := ?trH) ?trt ?trn); (case trn => assumption); (case trt => walk_at "tr"))
  | ((with_reducible refine' Ext.trans (H1 := ?trH) ?tra (Ext.any ?tre)); (case tre => assumption); (case tra => walk_at "tr"))
  | ((with_reducible refine' Ext.trans (H1 := ?trH) ?tra ?tre); (case tre => assumption); (case tra => walk_at "tr"))
  | ((with_reducible refine' Ext.back1 (T := T) (H1 := ?trH) ?tre ?trn ?tra); (case tra => assumption); (case trn => walk_at "tr"); (case tre => walk_at "tr"))
  | ((with_reducible refine' Ext.back0 (T := T) (H1 := ?trH) ?tre ?tra); (case tra => assumption); (case tre => walk_at "tr"))
  | ((with_reducible refine' SqT.of ?tra); (case tra => walk_at "tr"))
  | ((with_reducible refine' SqL.of ?tra); (case tra => walk_at "tr")))
local macro_rules | `(tactic| walk_at "al") => `(tactic| (refine ⟨by first | (show _ ≤ sizeLine; decide) | walk_at "sz", ?_⟩; intro alp aln; generalize alG : upd _ alp _ = alH; obtain ⟨aln2, alx, alh⟩ := al_of (T := T) aln alG; clear alG aln))
local macro_rules | `(tactic| walk_at "al0") => `(tactic| (intro alp aln; generalize alG : upd _ alp _ = alH; obtain ⟨aln2, alx, alh⟩ := al_of (T := T) aln alG; clear alG aln))

theorem id_s3 : idB (Str.ofString "s3") = true := by decide +kernel
theorem id_s1 : idB (Str.ofString "s1") = true := by decide +kernel
theorem rd_headS {K : PySem.W.Frag} {σ : L2.St} {H : Hp} {Q : VK} {a b : Addr} {c : List Str} {x : Str} (ha : SqT K H a (c.map V.str)) (hb : SqT K H b [V.str x]) (hc : c.length ≤ 100) (ho : ∀ y ∈ c, idB y = true) (hx : idB x = true)
    (q : ∀ y H', idB y = true → Ext T [] H H' → Q (.str y) H') : rPlus K (.ref a) (.ref b) H fun x H1 => tC (.int 0) σ H1 fun y H2 => rIx K x y H2 Q := by
  cases c with
  | nil =>
    refine rd_catT0 ha hb ?_
    exact rd_ixT hb (at_zero _ _) (q x H hx .refl)
  | cons y r =>
    refine rd_catT ha hb (by simp) (by simp) (by rw [List.length_map]; exact Nat.le_trans (show _ ≤ 101 by simp at hc ⊢; omega) (by decide)) fun p np => ?_
    obtain ⟨_, e, hp⟩ := alT (T := T) np ((y :: r).map V.str ++ [V.str x])
    exact rd_ixT (SqT.of hp) (at_zero _ _) (q y _ (ho y List.mem_cons_self) e)
theorem ok_law_move (D : Def K mg "_law_move" s_law_move ["tape", "realm", "state"]) (mb : ∀ x ∈ bltns, mg x = none) (G_law_take : Ok P w K mg base 2 "_law_take" ["tape", "many"] (spTake T)) (G_law_life : Ok P w K mg base 3 "_law_life" ["tape"] (spInt T 1 1000))
    (G_law_at : Ok P w K mg base 1 "_law_at" ["state", "slot"] (spAt T)) (G_law_item : Ok P w K mg base 1 "_law_item" ["content", "life", "signers"] (spItem T)) : Ok P w K mg base 4 "_law_move" ["tape", "realm", "state"] (spMove T) := by
  refine D.ok sc_law_move (fun vs H Q E h => ?_) (fun cdv f A outer s H vs Q E hr h => ?_)
  · obtain ⟨l, t, v, u, R, s, rfl, _⟩ := h
    rfl
  · obtain ⟨l, t, v, u, R, s, rfl, hT, hv, hR, hR1, hu, hs, hon, q⟩ := h
    refine ⟨_, (pss_cons (ps_setLc (i := 4) (own := [("zone", 3), ("lag", 8)]) (tt := tYes) rfl sc_law_move.nd rfl rfl (sw_true rfl rfl rfl (by decide +kernel)) (pi_seq K rfl (pe_slice (sl_U K rfl) (pe_ix (ix_U K rfl) (pv 1) pe_int (fun _ _ => rfl)) (po_some pe_int) po_none)) (blkOk_by (N := N_law_move) (sc := defScope s_law_move) (by decide +kernel)) (fun _ _ _ _ _ => (pg_tupU (n := 2) K rfl rfl (pgs_cons (pg_name (i := 3) sc_law_move.nd rfl (Or.inl rfl)) (pgs_cons (pg_name (i := 8) sc_law_move.nd rfl (Or.inl rfl)) pgs_nil)))) (fun _ _ _ _ _ => pts_nil) (fun _ _ _ _ _ => (pv 3)))
   (pss_cons (ps_set (i := 3) sc_law_move.nd rfl (.inl rfl) (pe_ix (ix_U K rfl) (pv 4) (pe_callO G_law_take (hr.mono (by decide)) (by rfl) (pa_cons (pv 0) (pa_cons (pe_callB (call_lenU K rfl) (by rfl) (mb _ (by decide)) (by decide +kernel) (pa_cons (pv 4) pa_nil)) pa_nil))) (fun _ _ => rfl)))
   (pss_cons (ps_set (i := 5) sc_law_move.nd rfl (.inl rfl) (pe_tup (pa_cons pe_str (pa_cons (pv 3) pa_nil))))
   (pss_cons (ps_set (i := 6) sc_law_move.nd rfl (.inl rfl) (pe_ix (ix_U K rfl) (pe_callO G_law_at (hr.mono (by decide)) (by rfl) (pa_cons (pv 2) (pa_cons (pv 5) pa_nil))) pe_int (fun _ _ => rfl)))
   (pss_cons (ps_set (i := 7) sc_law_move.nd rfl (.inl rfl) (pe_lst (pa_cons (pe_tup (pa_cons pe_str (pa_cons pe_str (pa_cons (pv 3) pa_nil)))) (pa_cons (pe_tup (pa_cons pe_str (pa_cons (pv 5) (pa_cons (pe_callO G_law_item (hr.mono (by decide)) (by rfl) (pa_cons (pe_op (op_plus K rfl) (pe_lc (own := [("word", 9)]) (g := gName 9) rfl sc_law_move.nd (pi_seq K rfl (pv 6)) (blkOk_by (N := N_law_move) (sc := defScope s_law_move) (by decide +kernel)) (fun _ _ _ _ _ => (pg_name (i := 9) sc_law_move.nd rfl (Or.inl rfl))) (fun _ _ _ _ _ => (pts_one (pt_cmpR (op_neU K rfl hr.units) (pv 9) pe_str (nomark _)))) (fun _ _ _ _ _ => (pv 9))) (pe_lst (pa_cons pe_str pa_nil))) (pa_cons (pe_callO G_law_life (hr.mono (by decide)) (by rfl) (pa_cons (pv 0) pa_nil)) (pa_cons (pe_lst pa_nil) pa_nil)))) pa_nil)))) pa_nil))))
   (pss_cons (ps_expr (pe_bm PySem.F.plainAttrs_list PySem.F.slot_list_append PySem.F.type_list_append mt_append (pv 7) (pa_cons (pe_tup (pa_cons pe_str (pa_cons (pv 5) (pa_cons (pe_callO G_law_item (hr.mono (by decide)) (by rfl) (pa_cons (pe_lst (pa_cons pe_str pa_nil)) (pa_cons (pe_callO G_law_life (hr.mono (by decide)) (by rfl) (pa_cons (pv 0) pa_nil)) (pa_cons (pe_lst pa_nil) pa_nil)))) pa_nil)))) pa_nil)))
   (pss_cons (ps_expr (pe_bm PySem.F.plainAttrs_list PySem.F.slot_list_append PySem.F.type_list_append mt_append (pv 7) (pa_cons (pe_tup (pa_cons pe_str (pa_cons (pe_ix (ix_U K rfl) (pe_op (op_plus K rfl) (pv 6) (pe_tup (pa_cons pe_str pa_nil))) pe_int (fun _ _ => rfl)) (pa_cons (pv 3) pa_nil)))) pa_nil)))
   (pss_cons (ps_if (pt_cmpR (op_eqU K rfl hr.units) (pe_callO G_law_take (hr.mono (by decide)) (by rfl) (pa_cons (pv 0) (pa_cons pe_int pa_nil))) pe_int (nomark _)) (pss_one (ps_expr (pe_bm PySem.F.plainAttrs_list PySem.F.slot_list_pop PySem.F.type_list_pop mt_popAt (pv 7) (pa_cons (pe_op (op_plus K rfl) pe_int (pe_callO G_law_take (hr.mono (by decide)) (by rfl) (pa_cons (pv 0) (pa_cons pe_int pa_nil)))) pa_nil)))) pss_nil)
   (pss_one (ps_ret (pe_callTy (call_tupU K rfl) (by rfl) (mb _ (by decide)) (by decide +kernel) (pa_cons (pv 7) pa_nil)))))))))))), ?_⟩
    have hsl := slots_len hR
    refine rd_seq ?_
    walk_at "rdn"
    refine rd_ixI (d := .tuple (R.zs.map siD)) hv rfl fun u1 hu1 => ?_
    obtain ⟨zp, zx, rfl, hzp, hzi⟩ := hu1.tup'
    have hzl : zx.length = R.zs.length := by rw [hzi.len, List.length_map]
    walk_at "rdn"
    refine rd_slT (SqT.of hzp) (fun h => ?_) fun sp nsp => ?_
    · have h0 := h.1
      rw [show HT.sIx zx.length 0 (some 1) = min 1 zx.length from HT.sIx_nat zx.length 0 1] at h0
      omega
    rw [cutV_from (α := V) zx (by decide), show Int.toNat 1 = 1 from rfl]
    obtain ⟨_, e1, hs1⟩ := alT (T := T) nsp (zx.drop 1)
    show ∃ a, _ ∧ ((_ ∧ LcG _ _ _ _ _ _ (upd H sp (.tup (zx.drop 1))) _) ∨ (_ ∧ LcG _ _ _ _ _ _ (upd H sp (.tup (zx.drop 1))) _))
    generalize upd H sp _ = H1 at e1 hs1 ⊢
    have hi1 := (hzi.drop 1).x e1
    have ed : R.zs.drop 1 = R.zs.tail := List.drop_one
    rw [← List.map_drop, ed] at hi1
    generalize zx.drop 1 = ys at hi1 hs1
    refine ⟨sp, rfl, .inr ⟨⟨_, SqT.of hs1⟩, ?_⟩⟩
    have hyl : ys.length = R.zs.tail.length := by rw [hi1.len, List.length_map]
    have htl : R.zs.tail.length ≤ 5 ∧ 0 < R.zs.tail.length := by
      rw [List.length_tail]
      have := hR.len
      omega
    refine lcg_rel T [] walk_tup ys rfl (fun i H x H' y => y) (by simp) (fun H' e => SqT.of (SqP.x hs1 e)) (Nat.lt_of_le_of_lt (show ys.length ≤ 100 by omega) (by decide)) (fun _ => true) (fun v x => ∃ r, Im H1 x (siD r) ∧ v = .str r.1) (fun i x hx H' e' R' S h1 h2 => ?_) (fun D H2 us nD e2 hD hus => ?_)
    · obtain ⟨dr, hdr, hxr⟩ := hi1.get' hx
      rw [List.getElem?_map] at hdr
      obtain ⟨r, hr, rfl⟩ := Option.map_eq_some_iff.mp hdr
      refine rd_gpair (d1 := .str r.1) (d2 := .int r.2) (hxr.x e') fun v1 v2 g1 g2 => ?_
      rw [g1.str', g2.int']
      refine ⟨rfl, ?_⟩
      walk_at "rd"
      exact h1 rfl _ _ .refl ⟨r, hxr, rfl⟩
    · rw [filtT] at hus
      have hu2 := zn_key hi1 hus
      subst hu2
      have hDn : Nw H D := e1.back (by simp) nD
      have T2 := (hT.ext e1).ext e2
      have e02 := e1.trans e2
      have hDt := (hT.ne hDn).1
      have hu2 := hu.x e02
      clear hv hu e1 hi1 hs1 hzp hzi e2
      walk_at "rdn"
      refine rd_seq ?_
      walk_at "rdn"
      refine ⟨l, t, _, rfl, ?_, ?_, T2, fun d0 H3 h00 h01 e3 T3 => ?_⟩
      · rw [List.length_map, List.length_map]
        omega
      · rw [List.length_map, List.length_map]
        omega
      have hD3 := lst.y hD e3 hDt
      have hu3 := hu2.y e3 T2
      obtain ⟨c, hc1, hc2, hc3⟩ := at_in (l := (R.zs.tail.map (·.1)).map V.str) h00 h01
      obtain ⟨z, hz, rfl⟩ := List.mem_map.mp hc3
      have hzz := zin hR hz
      have hzs := name_ok hzz.1
      obtain ⟨it0, hit0⟩ := sta_find hs hzz.2
      have hok0 := hs.ok _ hit0
      refine rd_ixL (SqL.of hD3) hc1 ?_
      have e03 : Ext T [t] H H3 := by walk_at "tr"
      clear hc1 hc2 hc3 e3 hD nD T2 hD3 hu2 e02
      walk_at "rdn"
      refine rd_seq ?_
      walk_at "rdn"
      walk_at "al"
      rename_i tl H4 _ e4 htl
      have hlk : Im H4 (.ref tl) (slD (.h z)) := .new2 (.str _ (by decide +kernel)) (.str _ hzs) htl
      walk_at "rdn"
      refine rd_seq ?_
      walk_at "rdn"
      refine ⟨u, .ref tl, s, .h z, it0, rfl, by walk_at "tr", hlk, hit0, sta_nodup hR hs, sta_len hR hs hsl, fun x0 H5 e5 hx0 => ?_⟩
      walk_at "rdn"
      refine rd_ixI (d := .tuple (it0.c.map .str)) hx0 rfl fun c0 hc0 => ?_
      obtain ⟨cp, cx, rfl, hcp, hcx⟩ := hc0.tup'
      have hcx2 := hcx.strs'
      subst hcx2
      obtain ⟨cn, co, cl⟩ := itm_c hok0
      have cl : it0.c.length ≤ 4 := cl
      have hlk5 : Im H5 (.ref tl) (slD (.h z)) := by walk_at "tr"
      have T5 : Tape l H5 t := by walk_at "tr"
      have e05 : Ext T [t] H H5 := by walk_at "tr"
      clear hx0 hc0 hcx hlk htl e4 e5 T3 hu3 e03
      walk_at "rdn"
      refine rd_seq ?_
      walk_at "rdn"
      walk_at "al"
      rename_i p1 H6 _ e6 hp1
      have hd1 : Im H6 (.ref p1) (ddD (.on "s3" z)) := .new3 (.str _ (by decide +kernel)) (.str _ (by decide +kernel)) (.str _ hzs) hp1
      walk_at "rdn"
      refine .inr ⟨⟨_, SqT.of (tup.x (xs := it0.c.map V.str) hcp e6)⟩, ?_⟩
      refine lcg_tup T [] (SqT.of (tup.x (xs := it0.c.map V.str) hcp e6)) (fun v => match v with | .str y => !decide (y = Str.ofString "s3") | _ => true) (fun v => v) (by rw [List.length_map]; exact Nat.lt_of_le_of_lt cl (by decide)) (by simp) (by simp) (fun x hx H' e R' S h1 h2 => ?_) (fun D2 H7 nD2 e7 hD2 => ?_)
      · obtain ⟨y, hy, rfl⟩ := List.mem_map.mp hx
        walk_at "rd"
        refine rd_itn (fun h => ?_) (fun h => ?_)
        · exact h2 (by show (!decide (y = Str.ofString "s3")) = false; rw [decide_eq_true h]; rfl) _ .refl
        · walk_at "rd"
          exact h1 (by show (!decide (y = Str.ofString "s3")) = true; rw [decide_eq_false h]; rfl) _ .refl
      · have hD3 : H7 D2 = some (.lst ((it0.c.filter fun y => !decide (y = Str.ofString "s3")).map V.str)) := by
          rw [hD2, List.map_id', List.filter_map]
          rfl
        walk_at "rdn"
        walk_at "al"
        rename_i l3 H8 _ e8 hl3
        refine rd_catA T (lst.x hD3 e8) (ys := [Str.ofString "s3"].map V.str) hl3 ?_ fun lc H9 nlc e9 hlc => ?_
        · rw [List.length_map, List.length_map]
          have := List.length_filter_le (fun y => !decide (y = Str.ofString "s3")) it0.c
          simp only [List.length_cons, List.length_nil]
          omega
        rw [← List.map_append] at hlc
        generalize hcs : (it0.c.filter fun y => !decide (y = Str.ofString "s3")) ++ [Str.ofString "s3"] = cs at hlc
        have hcsn : cs.Nodup := by
          rw [← hcs]
          refine nodup_snoc (cn.filter _) fun hm => ?_
          have := (List.mem_filter.mp hm).2
          rw [decide_eq_true rfl] at this
          cases this
        have hcso : ∀ y ∈ cs, idB y = true := fun y hy => by
          rw [← hcs] at hy
          rcases List.mem_append.mp hy with hy | hy
          · exact co y (List.mem_filter.mp hy).1
          · rw [List.mem_singleton.mp hy]
            exact id_s3
        have hcsl : cs.length ≤ 6 := by
          rw [← hcs, List.length_append]
          have := List.length_filter_le (fun y => !decide (y = Str.ofString "s3")) it0.c
          simp only [List.length_cons, List.length_nil]
          omega
        have T9 : Tape l H9 t := by walk_at "tr"
        have e09 : Ext T [t] H H9 := by walk_at "tr"
        have hd19 : Im H9 (.ref p1) (ddD (.on "s3" z)) := by walk_at "tr"
        have hlk9 : Im H9 (.ref tl) (slD (.h z)) := by walk_at "tr"
        have hcp9 : H9 cp = some (.tup (it0.c.map V.str)) := by walk_at "tr"
        have hlct : lc ≠ t := by walk_at "tr"
        clear hD2 hD3 hl3 hd1 hlk5 hcp T5 e05 hp1 e6 e7 e8 e9 hcs
        walk_at "rdn"
        refine ⟨l, t, rfl, T9, fun li H10 hl0 hl1 e10 T10 => ?_⟩
        walk_at "rdn"
        walk_at "al"
        rename_i ln H11 _ e11 hln
        walk_at "rdn"
        refine ⟨lc, ln, cs, [], li, rfl, by walk_at "tr", hln, hcso, by simp, fun it H12 e12 hit => ?_⟩
        have hlk12 : Im H12 (.ref tl) (slD (.h z)) := by walk_at "tr"
        walk_at "rdn"
        walk_at "al"
        rename_i p2 H13 _ e13 hp2
        have hd2 : Im H13 (.ref p2) (ddD (.put (.h z) ⟨srtS cs, li, srtS [], 0, 10000⟩)) := .new3 (.str _ (by decide +kernel)) (by walk_at "tr") (by walk_at "tr") hp2
        have hk2 : DdW R (.put (.h z) ⟨srtS cs, li, srtS [], 0, 10000⟩) := ⟨hzz.2, ⟨cs, rfl, hcsn, hcso, hcsl⟩, ⟨[], rfl, by simp, by simp, by simp⟩, ⟨hl0, hl1⟩, ⟨Int.le_refl _, (show (0 : Int) ≤ 10000 by decide), Int.le_refl _⟩, fun _ _ => ⟨List.mergeSort_nil, rfl, rfl⟩⟩
        have hd113 : Im H13 (.ref p1) (ddD (.on "s3" z)) := by walk_at "tr"
        walk_at "rdn"
        walk_at "al"
        rename_i dp H14 ndp e14 hdp
        have T13 : Tape l H13 t := by walk_at "tr"
        have e013 : Ext T [t] H H13 := by walk_at "tr"
        have hdpt : dp ≠ t := (T13.ne ndp).1
        have hds14 : Ls H14 dp ([Dd.on "s3" z, .put (.h z) ⟨srtS cs, li, srtS [], 0, 10000⟩].map ddD) := ⟨_, hdp, .cons (hd113.x e14) (.cons (hd2.x e14) .nil)⟩
        have hk1 : DdW R (.on "s3" z) := ⟨id_s3, hz⟩
        have hok : ∀ d ∈ [Dd.on "s3" z, .put (.h z) ⟨srtS cs, li, srtS [], 0, 10000⟩], DdW R d := fun d hd => by
          rcases List.mem_cons.mp hd with hd | hd
          · rw [hd]
            exact hk1
          · rw [List.mem_singleton.mp hd]
            exact hk2
        have hdl : [Dd.on "s3" z, .put (.h z) ⟨srtS cs, li, srtS [], 0, 10000⟩].length = 2 := rfl
        have hlk14 : Im H14 (.ref tl) (slD (.h z)) := by walk_at "tr"
        have hcp14 : H14 cp = some (.tup (it0.c.map V.str)) := by walk_at "tr"
        have T14 : Tape l H14 t := by walk_at "tr"
        have x14 : Ext T [t] H13 H14 := by walk_at "tr"
        generalize [Dd.on "s3" z, .put (.h z) ⟨srtS cs, li, srtS [], 0, 10000⟩] = ds at hds14 hok hdl
        clear hd2 hd113 hlk12 hln hlc hd19 hlk9 hcp9 T9 T10 e10 e11 e12 e13 hit hp2 e09 hcsn hcso hcsl hk2 hk1
        walk_at "rdn"
        refine rd_seq ?_
        walk_at "rdn"
        walk_at "al"
        rename_i l5 H15 _ e15 hl5
        walk_at "rdn"
        refine ⟨l, t, rfl, by walk_at "tr", fun li2 H16 hm0 hm1 e16 T16 => ?_⟩
        walk_at "rdn"
        walk_at "al"
        rename_i ln H17 _ e17 hln
        walk_at "rdn"
        have T15 : Tape l H15 t := by walk_at "tr"
        have hl5t : l5 ≠ t := by walk_at "tr"
        refine ⟨l5, ln, [Str.ofString "s3"], [], li2, rfl, by walk_at "tr", hln, (fun y hy => by rw [List.mem_singleton.mp hy]; exact id_s3), by simp, fun it H18 e18 hit => ?_⟩
        walk_at "rdn"
        walk_at "al"
        rename_i p3 H19 _ e19 hp3
        have hlk18 : Im H18 (.ref tl) (slD (.h z)) := by walk_at "tr"
        have hd3 : Im H19 (.ref p3) (ddD (.put (.h z) ⟨srtS [Str.ofString "s3"], li2, srtS [], 0, 10000⟩)) := .new3 (.str _ (by decide +kernel)) (by walk_at "tr") (by walk_at "tr") hp3
        have hk3 : DdW R (.put (.h z) ⟨srtS [Str.ofString "s3"], li2, srtS [], 0, 10000⟩) := ⟨hzz.2, ⟨[Str.ofString "s3"], rfl, by simp, (fun y hy => by rw [List.mem_singleton.mp hy]; exact id_s3), by simp⟩, ⟨[], rfl, by simp, by simp, by simp⟩, ⟨hm0, hm1⟩, ⟨Int.le_refl _, (show (0 : Int) ≤ 10000 by decide), Int.le_refl _⟩, fun _ _ => ⟨srtS_nil, rfl, rfl⟩⟩
        have hcp19 : H19 cp = some (.tup (it0.c.map V.str)) := by walk_at "tr"
        refine rd_nil ?_
        refine push_step (Hb := H13) (t := t) (l := l) (by walk_at "tr") ndp T13 (by walk_at "tr") (show Ls H19 dp (ds.map ddD) by walk_at "tr") hd3 (by rw [List.length_map]; omega) fun H20 e20 T20 f20 l20 hds20 => ?_
        have hcp20 : H20 cp = some (.tup (it0.c.map V.str)) := by walk_at "tr"
        clear hds14 hd3 hlk18 hln hl5 hcp19 T14 x14 hlk14 hcp14 e14 e15 e16 e17 e18 e19 T16 T15 hit hp3
        obtain ⟨dx20, hdx20, _⟩ := hds20.list
        walk_at "rdn"
        refine rd_seq ?_
        walk_at "rdn"
        walk_at "al"
        rename_i p4 H21 _ e21 hp4
        refine rd_headS (T := T) (SqT.of (tup.x (xs := it0.c.map V.str) hcp20 e21)) (SqT.of hp4) (by omega) co id_s1 fun y H22 hy e22 => ?_
        walk_at "rdn"
        walk_at "al"
        rename_i p5 H23 _ e23 hp5
        have hd4 : Im H23 (.ref p5) (ddD (.off y z)) := .new3 (.str _ (by decide +kernel)) (.str _ (id_ok hy)) (.str _ hzs) hp5
        refine rd_nil ?_
        refine push_step (Hb := H13) (t := t) (l := l) (by walk_at "tr") ndp T13 (by walk_at "tr") (show Ls H23 dp (ds.map ddD ++ [ddD (.put (.h z) ⟨srtS [Str.ofString "s3"], li2, srtS [], 0, 10000⟩)]) by walk_at "tr") hd4 (by rw [List.length_append, List.length_map]; simp; omega) fun H24 e24 T24 f24 l24 hds24 => ?_
        rw [show (ds.map ddD ++ [ddD (.put (.h z) ⟨srtS [Str.ofString "s3"], li2, srtS [], 0, 10000⟩)] ++ [ddD (.off y z)]) = (ds ++ [Dd.put (.h z) ⟨srtS [Str.ofString "s3"], li2, srtS [], 0, 10000⟩, Dd.off y z]).map ddD by simp] at hds24
        have hok4 : ∀ d ∈ ds ++ [Dd.put (.h z) ⟨srtS [Str.ofString "s3"], li2, srtS [], 0, 10000⟩, Dd.off y z], DdW R d := fun d hd => by
          rcases List.mem_append.mp hd with hd | hd
          · exact hok d hd
          rcases List.mem_cons.mp hd with hd | hd
          · rw [hd]
            exact hk3
          · rw [List.mem_singleton.mp hd]
            exact ⟨hy, hz⟩
        have hl4 : (ds ++ [Dd.put (.h z) ⟨srtS [Str.ofString "s3"], li2, srtS [], 0, 10000⟩, Dd.off y z]).length = 4 := by rw [List.length_append, hdl]; rfl
        generalize ds ++ [Dd.put (.h z) ⟨srtS [Str.ofString "s3"], li2, srtS [], 0, 10000⟩, Dd.off y z] = ds4 at hds24 hok4 hl4
        clear hds20 hd4 hcp20 hp4 hp5 e21 e22 e23 hk3 e20 T20 f20 l20 f24 l24 hdx20
        obtain ⟨dx24, hdx24, hdi24⟩ := hds24.list
        walk_at "rdn"
        refine rd_cut (fun σ H7 => Ext T [t] H13 H7 ∧ Tape l H7 t ∧ ∃ (ds : List Dd) (a b c d : Option V), σ = [some (.ref t), some v, some u, some (.str z), a, b, c, some (.ref dp), d, none] ∧ Ls H7 dp (ds.map ddD) ∧ (∀ d ∈ ds, DdW R d) ∧ ds.length ≤ 4) (fun nx' hnx => ?_) (fun σ H7 h => ?_)
        · walk_at "rd"
          refine ⟨l, t, 4, rfl, by decide, by decide, T24, fun d1 H25 _ _ x1 T25 => ?_⟩
          have hds25 : Ls H25 dp (ds4.map ddD) := by walk_at "tr"
          obtain ⟨dx25, hdx25, hdi25⟩ := hds25.list
          walk_at "rd"
          refine rd_ite (fun hd => ?_) (fun hd => ?_)
          · walk_at "rd"
            refine ⟨l, t, 3, rfl, by decide, by decide, T25, fun d2 H26 h20 h21 x2 T26 => ?_⟩
            walk_at "rd"
            refine pop_step (Hb := H13) (t := t) (l := l) (by walk_at "tr") ndp T13 T26 (show Ls H26 dp (ds4.map ddD) by walk_at "tr") (by omega) (by rw [List.length_map]; omega) (by rw [List.length_map]; omega) fun y H27 e27 T27 f27 l27 hds27 => ?_
            walk_at "rd"
            refine hnx _ _ ⟨e27, T27, ds4.eraseIdx (1 + d2).toNat, _, _, _, _, rfl, by rw [← erase_map]; exact hds27, fun d hd => hok4 d (mem_erase hd), Nat.le_trans (List.length_eraseIdx_le _ _) (by omega)⟩
          · walk_at "rd"
            exact hnx _ _ ⟨by walk_at "tr", T25, ds4, _, _, _, _, rfl, hds25, hok4, by omega⟩
        · obtain ⟨e7, T7, ds7, a, b, c, d, rfl, hds7, hok7, hl7⟩ := h
          obtain ⟨dx, hdx, hdi⟩ := hds7.list
          walk_at "rd"
          refine rd_tupA T hdx fun r2 H12 nr2 x2 hr2 => ?_
          exact q _ ds7 H12 hok7 (by omega) (.tup hr2 (hdi.x x2)) (by walk_at "tr") (by walk_at "tr")
end

open PySem PySem.Spec PyProof.Rows L2

section
variable {T : List (Addr × Str)} {P : Program} {w : World} {K : PySem.W.Frag} {mg : Str → Option Value} {base : Heap}
local macro_rules | `(tactic| walk_at "tr") => `(tactic| first
  | assumption
  | exact Ext.refl
  | ((with_reducible refine' Im.x (T := T) (H := ?trH) ?tra ?tre); (case tre => assumption); (case tra => walk_at "tr"))
  | ((with_reducible refine' Im.y (T := T) (H := ?trH) ?tra ?tre ?trt); (case tre => assumption); (case trt => walk_at "tr"); (case tra => walk_at "tr"))
  | ((with_reducible refine' ImAll.x (T := T) (H := ?trH) ?tra ?tre); (case tre => assumption); (case tra => walk_at "tr"))
  | ((with_reducible refine' ImAll.y (T := T) (H := ?trH) ?tra ?tre ?trt); (case tre => assumption); (case trt => walk_at "tr"); (case tra => walk_at "tr"))
  | ((with_reducible refine' Ls.x (T := T) (H := ?trH) ?tra ?tre); (case tre => assumption); (case tra => walk_at "tr"))
  | ((with_reducible refine' Ls.y (T := T) (H := ?trH) ?tra ?tre ?trn ?trt); (case tre => assumption); (case trt => walk_at "tr"); (case trn => walk_at "tr"); (case tra => walk_at "tr"))
  | ((with_reducible refine' SqP.x (T := T) (H := ?trH) ?tra ?tre); (case tre => assumption); (case tra => walk_at "tr"))
  | ((with_reducible refine' SqP.y (T := T) (H := ?trH) ?tra ?tre ?trt); (case tre => assumption); (case trt => walk_at "tr"); (case tra => walk_at "tr"))
  | ((with_reducible refine' StAt.x (T := T) (H := ?trH) ?tra ?tre); (case tre => assumption); (case tra => walk_at "tr"))
  | ((with_reducible refine' StAt.y (T := T) (H := ?trH) ?tra ?tre ?trt); (case tre => assumption); (case trt => walk_at "tr"); (case tra => walk_at "tr"))
  | ((with_reducible refine' Pools.ext0 (T := T) (H := ?trH) ?tra ?tre); (case tre => assumption); (case tra => walk_at "tr"))
  | ((with_reducible refine' Pools.ext (T := T) (H := ?trH) ?tra ?tre ?trt); (case tre => assumption); (case trt => walk_at "tr"); (case tra => walk_at "tr"))
  | ((with_reducible refine' CL.x (T := T) (H := ?trH) ?tra ?tre); (case tre => assumption); (case tra => walk_at "tr"))
  | ((with_reducible refine' CL.y (T := T) (H := ?trH) ?tra ?tre); (case tre => assumption); (case tra => walk_at "tr"))
  | ((with_reducible refine' Tape.ext (T := T) (H := ?trH) ?tra ?tre); (case tre => assumption); (case tra => walk_at "tr"))
  | ((with_reducible refine' lst.x (T := T) (H := ?trH) ?tra ?tre); (case tre => assumption); (case tra => walk_at "tr"))
  | ((with_reducible refine' lst.y (T := T) (H := ?trH) ?tra ?tre ?trn); (case tre => assumption); (case trn => walk_at "tr"); (case tra => walk_at "tr"))
  | ((with_reducible refine' tup.x (T := T) (H := ?trH) ?tra ?tre); (case tre => assumption); (case tra => walk_at "tr"))
  | ((with_reducible refine' tup.y (T := T) (H := ?trH) ?tra ?tre ?trt); (case tre => assumption); (case trt => walk_at "tr"); (case tra => walk_at "tr"))
  | ((with_reducible refine' frz.x (T := T) (H := ?trH) ?tra ?tre); (case tre => assumption); (case tra => walk_at "tr"))
  | ((with_reducible refine' frz.y (T := T) (H := ?trH) ?tra ?tre ?trt); (case tre => assumption); (case trt => walk_at "tr"); (case tra => walk_at "tr"))
  | ((with_reducible refine' Im.z (T := T) (H := ?trH) ?tra ?tre ?trt); (case tre => assumption); (case trt => assumption); (case tra => walk_at "tr"))
  | ((with_reducible refine' ImAll.z (T := T) (H := ?trH) ?tra ?tre ?trt); (case tre => assumption); (case trt => assumption); (case tra => walk_at "tr"))
  | ((with_reducible refine' StAt.z (T := T) (H := ?trH) ?tra ?tre ?trt); (case tre => assumption); (case trt => assumption); (case tra => walk_at "tr"))
  | ((with_reducible refine' SqP.z (T := T) (H := ?trH) ?tra ?tre ?trt); (case tre => assumption); (case trt => assumption); (case tra => walk_at "tr"))
  | ((with_reducible refine' tup.z (T := T) (H := ?trH) ?tra ?tre ?trt); (case tre => assumption); (case trt => assumption); (case tra => walk_at "tr"))
  | ((with_reducible refine' Ls.z (T := T) (H := ?trH) ?tra ?tre ?trt ?trn); (case tre => assumption); (case trt => assumption); (case trn => assumption); (case tra => walk_at "tr"))
  | ((with_reducible refine' lst.z (T := T) (H := ?trH) ?tra ?tre ?trn); (case tre => assumption); (case trn => assumption); (case tra => walk_at "tr"))
  | ((with_reducible refine' CL.z (T := T) (H := ?trH) ?tra ?tre ?trn); (case tre => assumption); (case trn => assumption); (case tra => walk_at "tr"))
  | ((with_reducible refine' Tape.ne1 (H := ?trH) ?trt ?trn); (case trn => assumption); (case trt => walk_at "tr"))
  | ((with_reducible refine' Ext.trans (H1 := ?trH) ?tra (Ext.any ?tre)); (case tre => assumption); (case tra => walk_at "tr"))
  | ((with_reducible refine' Ext.trans (H1 := ?trH) ?tra ?tre); (case tre => assumption); (case tra => walk_at "tr"))
  | ((with_reducible refine' Ext.back1 (T := T) (H1 := ?trH) ?tre ?trn ?tra); (case tra => assumption); (case trn => walk_at "tr"); (case tre => walk_at "tr"))
  | ((with_reducible refine' Ext.back0 (T := T) (H1 := ?trH) ?tre ?tra); (case tra => assumption); (case tre => walk_at "tr"))
  | ((with_reducible refine' SqT.of ?tra); (case tra => walk_at "tr"))
  | ((with_reducible refine' SqL.of ?tra); (case tra => walk_at "tr")))
local macro_rules | `(tactic| walk_at "al") => `(tactic| (refine ⟨by first | (show _ ≤ sizeLine; decide) | walk_at "sz", ?_⟩; intro alp aln; generalize alG : upd _ alp _ = alH; obtain ⟨aln2, alx, alh⟩ := al_of (T := T) aln alG; clear alG aln))
local macro_rules | `(tactic| walk_at "al0") => `(tactic| (intro alp aln; generalize alG : upd _ alp _ = alH; obtain ⟨aln2, alx, alh⟩ := al_of (T := T) aln alG; clear alG aln))

theorem ok_law_row (D : Def K mg "_law_row" s_law_row ["tape", "realm", "pools", "state"]) (mb : ∀ x ∈ bltns, mg x = none) (G_law_take : Ok P w K mg base 2 "_law_take" ["tape", "many"] (spTake T)) (G_law_deeds : Ok P w K mg base 7 "_law_deeds" ["tape", "realm", "pools", "state", "many"] (spDeeds T))
    (G_law_move : Ok P w K mg base 4 "_law_move" ["tape", "realm", "state"] (spMove T)) (G_law_change : Ok P w K mg base 4 "_law_change" ["tape", "realm", "pools", "state"] (spRow T)) : Ok P w K mg base 8 "_law_row" ["tape", "realm", "pools", "state"] (spRow T) := by
  refine D.ok sc_law_row (fun vs H Q E h => ?_) (fun cdv f A outer s H vs Q E hr h => ?_)
  · obtain ⟨l, t, pa, v, u, R, ps, s, rfl, _⟩ := h
    rfl
  · obtain ⟨l, t, pa, v, u, R, ps, s, rfl, hT, hv, hR, hP, hps, hu, hs, hon, q⟩ := h
    refine ⟨_, (pss_cons (ps_set (i := 4) sc_law_row.nd rfl (.inl rfl) (pe_callO G_law_take (hr.mono (by decide)) (by rfl) (pa_cons (pv 0) (pa_cons pe_int pa_nil))))
   (pss_cons (ps_if (pt_cmpR (op_eqU K rfl hr.units) (pv 4) pe_int (nomark _)) (pss_one (ps_ret (pe_callO G_law_deeds (hr.mono (by decide)) (by rfl) (pa_cons (pv 0) (pa_cons (pv 1) (pa_cons (pv 2) (pa_cons (pv 3) (pa_cons (pe_op (op_plus K rfl) pe_int (pe_callO G_law_take (hr.mono (by decide)) (by rfl) (pa_cons (pv 0) (pa_cons pe_int pa_nil)))) pa_nil)))))))) pss_nil)
   (pss_cons (ps_if (PW.pt (pw_and (pt_cmpR (op_eqU K rfl hr.units) (pv 4) pe_int (nomark _)) (pw_and1 (pt_cmpR op_gt (pe_callB (call_lenU K rfl) (by rfl) (mb _ (by decide)) (by decide +kernel) (pa_cons (pe_ix (ix_U K rfl) (pv 1) pe_int (fun _ _ => rfl)) pa_nil)) pe_int (nomark _))))) (pss_one (ps_ret (pe_callO G_law_move (hr.mono (by decide)) (by rfl) (pa_cons (pv 0) (pa_cons (pv 1) (pa_cons (pv 3) pa_nil)))))) pss_nil)
   (pss_one (ps_ret (pe_callO G_law_change (hr.mono (by decide)) (by rfl) (pa_cons (pv 0) (pa_cons (pv 1) (pa_cons (pv 2) (pa_cons (pv 3) pa_nil)))))))))), ?_⟩
    walk_at "rdn"
    refine rd_seq ?_
    walk_at "rdn"
    refine ⟨l, t, 4, rfl, by decide, by decide, hT, fun d0 H1 h00 h01 e1 T1 => ?_⟩
    walk_at "rdn"
    refine rd_seq ?_
    walk_at "rd"
    refine rd_ite (fun c => ?_) (fun c => ?_)
    · walk_at "rd"
      refine ⟨l, t, 4, rfl, by decide, by decide, T1, fun d1 H2 h10 h11 e2 T2 => ?_⟩
      walk_at "rd"
      refine ⟨l, t, pa, v, u, R, ps, s, 1 + d1, rfl, T2, by walk_at "tr", hR, by walk_at "tr", hps, by walk_at "tr", hs, hon, by omega, by omega, fun x ds H3 hok hl hx e3 T3 => ?_⟩
      exact q x ds H3 (fun d hd => (hok d hd).w) (by omega) hx (by walk_at "tr") T3
    · refine rd_next ?_
      refine rd_cut (fun σ H7 => Ext T [t] H1 H7 ∧ Tape l H7 t ∧ σ = [some (.ref t), some v, some (.ref pa), some u, some (.int d0)]) (fun nx' hnx => ?_) (fun σ H7 h => ?_)
      · walk_at "rd"
        refine rd_ite (fun c1 => ?_) (fun c1 => ?_)
        · walk_at "rd"
          refine rd_ixI (d := .tuple (R.zs.map siD)) (show Im H1 v (rmD R) by walk_at "tr") rfl fun u1 hu1 => ?_
          obtain ⟨zp, zx, rfl, hzp, hzi⟩ := hu1.tup'
          have hzl : zx.length = R.zs.length := by rw [hzi.len, List.length_map]
          walk_at "rd"
          refine rd_lenT (SqT.of hzp) ?_
          walk_at "rd"
          refine rd_ite (fun c2 => ?_) (fun c2 => ?_)
          · walk_at "rd"
            refine ⟨l, t, v, u, R, s, rfl, T1, by walk_at "tr", hR, by omega, by walk_at "tr", hs, hon, fun x ds H3 hok hl hx e3 T3 => ?_⟩
            exact q x ds H3 hok hl hx (by walk_at "tr") T3
          · walk_at "rd"
            exact hnx _ _ ⟨.refl, T1, rfl⟩
        · walk_at "rd"
          exact hnx _ _ ⟨.refl, T1, rfl⟩
      · obtain ⟨e7, T7, rfl⟩ := h
        walk_at "rd"
        refine ⟨l, t, pa, v, u, R, ps, s, rfl, T7, by walk_at "tr", hR, by walk_at "tr", hps, by walk_at "tr", hs, hon, fun x ds H3 hok hl hx e3 T3 => ?_⟩
        exact q x ds H3 hok hl hx (by walk_at "tr") T3
/-- moments that ascend, from 1 on -/
def Asc (pl : List (Int × Dd)) : Prop := pl.Pairwise (fun a b => a.1 < b.1) ∧ (∀ p ∈ pl, 1 ≤ p.1) ∧ ∀ p ∈ pl, p.1 ≤ 801 * (pl.length : Int)
def spTimed (T : List (Addr × Str)) : Sp := fun vs H Q _ => ∃ (l t : Addr) (x : V) (ds : List Dd) (m : Int), vs = [.ref t, x, .int m] ∧ Tape l H t ∧ Im H x (.tuple (ds.map ddD)) ∧ ds.length ≤ 12 ∧ 0 ≤ m ∧ m < 4 ∧
  ∀ (y : V) (pl : List (Int × Dd)) (H' : Hp), Asc pl → pl.map (·.2) = ds → Im H' y (.tuple (pl.map plD)) → Ext T [t] H H' → Tape l H' t → Q y H'
theorem ok_law_timed (D : Def K mg "_law_timed" s_law_timed ["tape", "deeds", "wide"]) (mb : ∀ x ∈ bltns, mg x = none) (G_law_take : Ok P w K mg base 2 "_law_take" ["tape", "many"] (spTake T)) : Ok P w K mg base 3 "_law_timed" ["tape", "deeds", "wide"] (spTimed T) := by
  refine D.ok sc_law_timed (fun vs H Q E h => ?_) (fun cdv f A outer s H vs Q E hr h => ?_)
  · obtain ⟨l, t, x, ds, m, rfl, _⟩ := h
    rfl
  · obtain ⟨l, t, x, ds, m, rfl, hT, hx, hl, hm0, hm1, q⟩ := h
    refine ⟨_, (pss_cons (ps_set (i := 3) sc_law_timed.nd rfl (.inl rfl) pe_int)
   (pss_cons (ps_set (i := 4) sc_law_timed.nd rfl (.inl rfl) (pe_lst pa_nil))
   (pss_cons (ps_for PassesOwn.never rfl (pi_seq K rfl (pv 1)) (pg_name (i := 5) sc_law_timed.nd rfl (.inl rfl)) (pss_cons (ps_set (i := 3) sc_law_timed.nd rfl (.inl rfl) (pe_op (op_plus K rfl) (pe_op (op_plus K rfl) (pv 3) pe_int) (pe_callO G_law_take (hr.mono (by decide)) (by rfl) (pa_cons (pv 0) (pa_cons (pe_ix (ix_U K rfl) (pe_lst (pa_cons pe_int (pa_cons pe_int (pa_cons pe_int (pa_cons pe_int pa_nil))))) (pv 2) (fun _ _ => rfl)) pa_nil)))))
   (pss_one (ps_expr (pe_bm PySem.F.plainAttrs_list PySem.F.slot_list_append PySem.F.type_list_append mt_append (pv 4) (pa_cons (pe_tup (pa_cons (pv 3) (pa_cons (pv 5) pa_nil))) pa_nil))))))
   (pss_one (ps_ret (pe_callTy (call_tupU K rfl) (by rfl) (mb _ (by decide)) (by decide +kernel) (pa_cons (pv 4) pa_nil))))))), ?_⟩
    obtain ⟨dp, dx, rfl, hdp, hdi⟩ := hx.tup'
    have hdl : dx.length = ds.length := by rw [hdi.len, List.length_map]
    walk_at "rdn"
    refine rd_seq ?_
    walk_at "rdn"
    refine rd_seq ?_
    walk_at "rdn"
    walk_at "al"
    rename_i pp H1 npp e1 hpp
    have hppt : pp ≠ t := (hT.ne npp).1
    have T1 : Tape l H1 t := by walk_at "tr"
    have hdi1 : ImAll H1 dx (ds.map ddD) := by walk_at "tr"
    walk_at "rdn"
    refine rd_seq ?_
    walk_at "rdn"
    refine .inr ⟨⟨_, SqT.of (SqP.x (xs := dx) hdp e1)⟩, ?_⟩
    refine forg_tup (xs := dx) (fun i σ H' => Ext T [t] H H' ∧ Tape l H' t ∧ SqP H' dp dx ∧ ImAll H' dx (ds.map ddD) ∧ ∃ (mo : Int) (pl : List (Int × Dd)) (b : Option V), σ = [some (.ref t), some (.ref dp), some (.int m), some (.int mo), some (.ref pp), b] ∧
      Ls H' pp (pl.map plD) ∧ pl.map (·.2) = ds.take i ∧ pl.length = i ∧ 0 ≤ mo ∧ mo ≤ 801 * (i : Int) ∧ pl.Pairwise (fun a b => a.1 < b.1) ∧ (∀ p ∈ pl, 1 ≤ p.1) ∧ ∀ p ∈ pl, p.1 ≤ mo)
      ⟨by walk_at "tr", T1, by walk_at "tr", hdi1, 0, [], none, rfl, ⟨[], hpp, .nil⟩, by simp, rfl, by omega, by omega, by simp, by simp, by simp⟩ (fun i σ H' _ h => SqT.of h.2.2.1) (fun i y σ H2 hy h => ?_) (fun σ H2 h => ?_)
    · obtain ⟨e2, T2, hdp2, hdi2, mo, pl, b, rfl, hpl, hpm, hpn, hmo0, hmo1, hpw, hp1, hpmo⟩ := h
      obtain ⟨dr, hdr, hyr⟩ := hdi2.get' hy
      rw [List.getElem?_map] at hdr
      obtain ⟨d, hd, rfl⟩ := Option.map_eq_some_iff.mp hdr
      have hil : i < ds.length := (List.getElem?_eq_some_iff.mp hd).1
      walk_at "rd"
      walk_at "al"
      rename_i la H3 _ e3 hla
      have hlat : la ≠ t := by walk_at "tr"
      obtain ⟨c, hc1, _, hc2⟩ := at_in (l := [V.int 3, .int 12, .int 40, .int 800]) (i := m) hm0 (by show m < 4; omega)
      walk_at "rd"
      refine rd_ixL (SqL.of hla) hc1 ?_
      have hc3 : ∃ k : Int, c = .int k ∧ 0 < k ∧ k ≤ 800 := by
        rcases List.mem_cons.mp hc2 with e | hc
        · exact ⟨3, e, by decide, by decide⟩
        rcases List.mem_cons.mp hc with e | hc
        · exact ⟨12, e, by decide, by decide⟩
        rcases List.mem_cons.mp hc with e | hc
        · exact ⟨40, e, by decide, by decide⟩
        rcases List.mem_cons.mp hc with e | hc
        · exact ⟨800, e, by decide, by decide⟩
        cases hc
      obtain ⟨k, rfl, hk0, hk1⟩ := hc3
      walk_at "rd"
      refine ⟨l, t, k, rfl, hk0, by omega, by walk_at "tr", fun z H4 hz0 hz1 e4 T4 => ?_⟩
      have hpl4 : Ls H4 pp (pl.map plD) := by walk_at "tr"
      obtain ⟨xs, hxs, hxi⟩ := hpl4.list
      walk_at "rd"
      walk_at "al"
      rename_i tp H5 _ e5 htp
      have hpd : Im H5 (.ref tp) (plD (mo + 1 + z, d)) := .new2 (.int _) (by walk_at "tr") htp
      have hpl5 : Ls H5 pp (pl.map plD) := by walk_at "tr"
      have T5 : Tape l H5 t := by walk_at "tr"
      have hdp5 : SqP H5 dp dx := by walk_at "tr"
      have hdi5 : ImAll H5 dx (ds.map ddD) := by walk_at "tr"
      refine rd_nil ?_
      refine push_step (Hb := H) (t := t) (l := l) (by walk_at "tr") npp hT T5 hpl5 hpd (by rw [List.length_map]; omega) fun H6 e6 T6 f6 l6 hpl6 => ?_
      walk_at "rd"
      refine ⟨e6, T6, by walk_at "tr", by walk_at "tr", mo + 1 + z, pl ++ [(mo + 1 + z, d)], _, rfl, by rw [List.map_append]; exact hpl6, ?_, by rw [List.length_append, hpn]; rfl, by omega, by omega, ?_, ?_, ?_⟩
      · rw [List.map_append, hpm, List.take_add_one, hd]
        rfl
      · rw [List.pairwise_append]
        refine ⟨hpw, by simp, fun a ha b hb => ?_⟩
        rw [List.mem_singleton.mp hb]
        have := hpmo a ha
        show a.1 < mo + 1 + z
        omega
      · intro p hp
        rcases List.mem_append.mp hp with hp | hp
        · exact hp1 p hp
        · rw [List.mem_singleton.mp hp]
          show 1 ≤ mo + 1 + z
          omega
      · intro p hp
        rcases List.mem_append.mp hp with hp | hp
        · have := hpmo p hp
          omega
        · rw [List.mem_singleton.mp hp]
          exact Int.le_refl _
    · obtain ⟨e2, T2, hdp2, hdi2, mo, pl, b, rfl, hpl, hpm, hpn, hmo0, hmo1, hpw, hp1, hpmo⟩ := h
      obtain ⟨xs, hxs, hxi⟩ := hpl.list
      rw [hdl, List.take_length] at hpm
      walk_at "rd"
      refine rd_tupA T hxs fun r2 H12 nr2 x2 hr2 => ?_
      exact q _ pl H12 ⟨hpw, hp1, fun p hp => by have := hpmo p hp; rw [hpn]; omega⟩ hpm (.tup hr2 (hxi.x x2)) (by walk_at "tr") (by walk_at "tr")
def spWorld (T : List (Addr × Str)) : Sp := fun vs H Q _ => ∃ (l t : Addr) (m : Int), vs = [.ref t, .int m] ∧ 0 ≤ m ∧ m ≤ 12 ∧ Tape l H t ∧
  ∀ (p : Addr) (v u x : V) (R : Rm) (s : Sta) (pl : List (Int × Dd)) (H' : Hp), H' p = some (.tup [v, u, x]) → RmOk R 3 → Im H' v (rmD R) → StAt H' u s → StaOk R s → s.on.length ≤ 50 → Im H' x (.tuple (pl.map plD)) → (∀ d ∈ pl, DdW R d.2) → Asc pl → pl.length ≤ 12 → Ext T [t] H H' → Tape l H' t → Q (.ref p) H'
theorem ok_law_world (D : Def K mg "_law_world" s_law_world ["tape", "many"]) (mb : ∀ x ∈ bltns, mg x = none) (G_law_take : Ok P w K mg base 2 "_law_take" ["tape", "many"] (spTake T)) (G_law_realm : Ok P w K mg base 7 "_law_realm" ["tape", "most"] (spRealm T))
    (G_law_pools : Ok P w K mg base 5 "_law_pools" ["tape", "realm"] (spPools T)) (G_law_start : Ok P w K mg base 6 "_law_start" ["tape", "realm", "pools"] (spStart T)) (G_law_bent_start : Ok P w K mg base 6 "_law_bent_start" ["tape", "realm", "pools", "state"] (spBent T))
    (G_law_row : Ok P w K mg base 8 "_law_row" ["tape", "realm", "pools", "state"] (spRow T)) (G_law_deeds : Ok P w K mg base 7 "_law_deeds" ["tape", "realm", "pools", "state", "many"] (spDeeds T)) (G_law_timed : Ok P w K mg base 3 "_law_timed" ["tape", "deeds", "wide"] (spTimed T)) :
    Ok P w K mg base 9 "_law_world" ["tape", "many"] (spWorld T) := by
  refine D.ok sc_law_world (fun vs H Q E h => ?_) (fun cdv f A outer s H vs Q E hr h => ?_)
  · obtain ⟨l, t, m, rfl, _⟩ := h
    rfl
  · obtain ⟨l, t, m, rfl, hm0, hm1, hT, q⟩ := h
    refine ⟨_, (pss_cons (ps_set (i := 2) sc_law_world.nd rfl (.inl rfl) (pe_callO G_law_realm (hr.mono (by decide)) (by rfl) (pa_cons (pv 0) (pa_cons pe_int pa_nil))))
   (pss_cons (ps_set (i := 3) sc_law_world.nd rfl (.inl rfl) (pe_callO G_law_pools (hr.mono (by decide)) (by rfl) (pa_cons (pv 0) (pa_cons (pv 2) pa_nil))))
   (pss_cons (ps_set (i := 4) sc_law_world.nd rfl (.inl rfl) (pe_callO G_law_start (hr.mono (by decide)) (by rfl) (pa_cons (pv 0) (pa_cons (pv 2) (pa_cons (pv 3) pa_nil)))))
   (pss_cons (ps_set (i := 4) sc_law_world.nd rfl (.inl rfl) (pe_callO G_law_bent_start (hr.mono (by decide)) (by rfl) (pa_cons (pv 0) (pa_cons (pv 2) (pa_cons (pv 3) (pa_cons (pv 4) pa_nil))))))
   (pss_cons (ps_set (i := 5) sc_law_world.nd rfl (.inl rfl) (pe_callO G_law_row (hr.mono (by decide)) (by rfl) (pa_cons (pv 0) (pa_cons (pv 2) (pa_cons (pv 3) (pa_cons (pv 4) pa_nil))))))
   (pss_cons (ps_if (pt_cmpR (op_eqU K rfl hr.units) (pe_callO G_law_take (hr.mono (by decide)) (by rfl) (pa_cons (pv 0) (pa_cons pe_int pa_nil))) pe_int (nomark _)) (pss_one (ps_set (i := 5) sc_law_world.nd rfl (.inl rfl) (pe_callO G_law_deeds (hr.mono (by decide)) (by rfl) (pa_cons (pv 0) (pa_cons (pv 2) (pa_cons (pv 3) (pa_cons (pv 4) (pa_cons (pe_callO G_law_take (hr.mono (by decide)) (by rfl) (pa_cons (pv 0) (pa_cons (pe_op (op_plus K rfl) (pv 1) pe_int) pa_nil))) pa_nil)))))))) pss_nil)
   (pss_one (ps_ret (pe_tup (pa_cons (pv 2) (pa_cons (pv 4) (pa_cons (pe_callO G_law_timed (hr.mono (by decide)) (by rfl) (pa_cons (pv 0) (pa_cons (pv 5) (pa_cons (pe_callO G_law_take (hr.mono (by decide)) (by rfl) (pa_cons (pv 0) (pa_cons pe_int pa_nil))) pa_nil)))) pa_nil)))))))))))), ?_⟩
    walk_at "rdn"
    refine rd_seq ?_
    walk_at "rdn"
    refine ⟨l, t, 3, rfl, by decide, by decide, hT, fun v R H1 hRo hv e1 T1 => ?_⟩
    have hR := hRo.rin (by decide)
    walk_at "rdn"
    refine rd_seq ?_
    walk_at "rdn"
    refine ⟨l, t, v, R, rfl, T1, hv, hR, fun pa ps H2 npa hP hps e2 T2 => ?_⟩
    walk_at "rdn"
    refine rd_seq ?_
    walk_at "rdn"
    refine ⟨l, t, pa, v, R, ps, rfl, T2, by walk_at "tr", hR, hP, hps, fun u s H3 hs hon hu e3 T3 => ?_⟩
    walk_at "rdn"
    refine rd_seq ?_
    walk_at "rdn"
    refine ⟨l, t, pa, v, u, R, ps, s, rfl, T3, by walk_at "tr", hR, by walk_at "tr", hps, hu, hs, by omega, fun u2 s2 H4 hs2 hon2 hu2 e4 T4 => ?_⟩
    have hon4 : s2.on.length ≤ 50 := by rw [hon2]; omega
    have hv4 : Im H4 v (rmD R) := by walk_at "tr"
    have hP4 : Pools H4 t pa ps := by walk_at "tr"
    have e04 : Ext T [t] H H4 := by walk_at "tr"
    clear hv hP e1 e2 e3 e4 hu T1 T2 T3
    walk_at "rdn"
    refine rd_seq ?_
    walk_at "rdn"
    refine ⟨l, t, pa, v, u2, R, ps, s2, rfl, T4, hv4, hR, hP4, hps, hu2, hs2, hon4, fun x ds H5 hok hl hx e5 T5 => ?_⟩
    walk_at "rdn"
    refine rd_cut (fun σ H7 => ∃ (x : V) (ds : List Dd), Ext T [t] H4 H7 ∧ Tape l H7 t ∧ σ = [some (.ref t), some (.int m), some v, some (.ref pa), some u2, some x] ∧ (∀ d ∈ ds, DdW R d) ∧ ds.length ≤ 12 ∧ Im H7 x (.tuple (ds.map ddD))) (fun nx' hnx => ?_) (fun σ H7 h => ?_)
    · walk_at "rd"
      refine ⟨l, t, 3, rfl, by decide, by decide, T5, fun d0 H6 _ _ e6 T6 => ?_⟩
      walk_at "rd"
      refine rd_ite (fun c => ?_) (fun c => ?_)
      · walk_at "rd"
        refine ⟨l, t, m + 1, rfl, by omega, by omega, T6, fun d1 H7 h0 h1 e7 T7 => ?_⟩
        walk_at "rd"
        refine ⟨l, t, pa, v, u2, R, ps, s2, d1, rfl, T7, by walk_at "tr", hR, by walk_at "tr", hps, by walk_at "tr", hs2, hon4, by omega, by omega, fun x2 ds2 H8 hok2 hl2 hx2 e8 T8 => ?_⟩
        walk_at "rd"
        exact hnx _ _ ⟨x2, ds2, by walk_at "tr", T8, rfl, fun d hd => (hok2 d hd).w, by omega, hx2⟩
      · walk_at "rd"
        exact hnx _ _ ⟨x, ds, by walk_at "tr", T6, rfl, hok, hl, by walk_at "tr"⟩
    · clear hok hl hx e5 T5
      obtain ⟨x, ds, e7, T7, rfl, hok, hl, hx⟩ := h
      walk_at "rd"
      refine ⟨l, t, 3, rfl, by decide, by decide, T7, fun d0 H8 h0 h1 e8 T8 => ?_⟩
      walk_at "rd"
      refine ⟨l, t, x, ds, d0, rfl, T8, by walk_at "tr", hl, h0, by omega, fun y pl H9 hasc hpl hy e9 T9 => ?_⟩
      walk_at "rd"
      walk_at "al"
      rename_i p H10 _ e10 hp
      have hpll : pl.length = ds.length := by rw [← hpl, List.length_map]
      have hsum : Ext T [t] H4 H9 := by walk_at "tr"
      exact q p v u2 y R s2 pl H10 hp hRo (by walk_at "tr") (by walk_at "tr") hs2 hon4 (by walk_at "tr") (fun d hd => hok d.2 (by rw [← hpl]; exact List.mem_map_of_mem hd)) hasc (by omega) (by walk_at "tr") (by walk_at "tr")
end

open PySem PySem.Spec PyProof.Rows L2
open PySem.W (EachIs)

section
variable {T : List (Addr × Str)} {P : Program} {w : World} {K : PySem.W.Frag} {mg : Str → Option Value} {base : Heap}
local macro_rules | `(tactic| walk_at "tr") => `(tactic| first
  | assumption
  | exact Ext.refl
  | ((with_reducible refine' Im.x (T := T) (H := ?trH) ?tra ?tre); (case tre => assumption); (case tra => walk_at "tr"))
  | ((with_reducible refine' Im.y (T := T) (H := ?trH) ?tra ?tre ?trt); (case tre => assumption); (case trt => walk_at "tr"); (case tra => walk_at "tr"))
  | ((with_reducible refine' ImAll.x (T := T) (H := ?trH) ?tra ?tre); (case tre => assumption); (case tra => walk_at "tr"))
  | ((with_reducible refine' ImAll.y (T := T) (H := ?trH) ?tra ?tre ?trt); (case tre => assumption); (case trt => walk_at "tr"); (case tra => walk_at "tr"))
  | ((with_reducible refine' Ls.x (T := T) (H := ?trH) ?tra ?tre); (case tre => assumption); (case tra => walk_at "tr"))
  | ((with_reducible refine' Ls.y (T := T) (H := ?trH) ?tra ?tre ?trn ?trt); (case tre => assumption); (case trt => walk_at "tr"); (case trn => walk_at "tr"); (case tra => walk_at "tr"))
  | ((with_reducible refine' SqP.x (T := T) (H := ?trH) ?tra ?tre); (case tre => assumption); (case tra => walk_at "tr"))
  | ((with_reducible refine' SqP.y (T := T) (H := ?trH) ?tra ?tre ?trt); (case tre => assumption); (case trt => walk_at "tr"); (case tra => walk_at "tr"))
  | ((with_reducible refine' StAt.x (T := T) (H := ?trH) ?tra ?tre); (case tre => assumption); (case tra => walk_at "tr"))
  | ((with_reducible refine' StAt.y (T := T) (H := ?trH) ?tra ?tre ?trt); (case tre => assumption); (case trt => walk_at "tr"); (case tra => walk_at "tr"))
  | ((with_reducible refine' Pools.ext0 (T := T) (H := ?trH) ?tra ?tre); (case tre => assumption); (case tra => walk_at "tr"))
  | ((with_reducible refine' Pools.ext (T := T) (H := ?trH) ?tra ?tre ?trt); (case tre => assumption); (case trt => walk_at "tr"); (case tra => walk_at "tr"))
  | ((with_reducible refine' CL.x (T := T) (H := ?trH) ?tra ?tre); (case tre => assumption); (case tra => walk_at "tr"))
  | ((with_reducible refine' CL.y (T := T) (H := ?trH) ?tra ?tre); (case tre => assumption); (case tra => walk_at "tr"))
  | ((with_reducible refine' Tape.ext (T := T) (H := ?trH) ?tra ?tre); (case tre => assumption); (case tra => walk_at "tr"))
  | ((with_reducible refine' lst.x (T := T) (H := ?trH) ?tra ?tre); (case tre => assumption); (case tra => walk_at "tr"))
  | ((with_reducible refine' lst.y (T := T) (H := ?trH) ?tra ?tre ?trn); (case tre => assumption); (case trn => walk_at "tr"); (case tra => walk_at "tr"))
  | ((with_reducible refine' tup.x (T := T) (H := ?trH) ?tra ?tre); (case tre => assumption); (case tra => walk_at "tr"))
  | ((with_reducible refine' tup.y (T := T) (H := ?trH) ?tra ?tre ?trt); (case tre => assumption); (case trt => walk_at "tr"); (case tra => walk_at "tr"))
  | ((with_reducible refine' frz.x (T := T) (H := ?trH) ?tra ?tre); (case tre => assumption); (case tra => walk_at "tr"))
  | ((with_reducible refine' frz.y (T := T) (H := ?trH) ?tra ?tre ?trt); (case tre => assumption); (case trt => walk_at "tr"); (case tra => walk_at "tr"))
  | ((with_reducible refine' Im.z (T := T) (H := ?trH) ?tra ?tre ?trt); (case tre => assumption); (case trt => assumption); (case tra => walk_at "tr"))
  | ((with_reducible refine' ImAll.z (T := T) (H := ?trH) ?tra ?tre ?trt); (case tre => assumption); (case trt => assumption); (case tra => walk_at "tr"))
  | ((with_reducible refine' StAt.z (T := T) (H := ?trH) ?tra ?tre ?trt); (case tre => assumption); (case trt => assumption); (case tra => walk_at "tr"))
  | ((with_reducible refine' SqP.z (T := T) (H := ?trH) ?tra ?tre ?trt); (case tre => assumption); (case trt => assumption); (case tra => walk_at "tr"))
  | ((with_reducible refine' tup.z (T := T) (H := ?trH) ?tra ?tre ?trt); (case tre => assumption); (case trt => assumption); (case tra => walk_at "tr"))
  | ((with_reducible refine' Ls.z (T := T) (H := ?trH) ?tra ?tre ?trt ?trn); (case tre => assumption); (case trt => assumption); (case trn => assumption); (case tra => walk_at "tr"))
  | ((with_reducible refine' lst.z (T := T) (H := ?trH) ?tra ?tre ?trn); (case tre => assumption); (case trn => assumption); (case tra => walk_at "tr"))
  | ((with_reducible refine' CL.z (T := T) (H := ?trH) ?tra ?tre ?trn); (case tre => assumption); (case trn => assumption); (case tra => walk_at "tr"))
  | ((with_reducible refine' Tape.ne1 (H := ?trH) ?trt ?trn); (case trn => assumption); (case trt => walk_at "tr"))
  | ((with_reducible refine' Ext.trans (H1 := ?trH) ?tra (Ext.any ?tre)); (case tre => assumption); (case tra => walk_at "tr"))
  | ((with_reducible refine' Ext.trans (H1 := ?trH) ?tra ?tre); (case tre => assumption); (case tra => walk_at "tr"))
  | ((with_reducible refine' Ext.back1 (T := T) (H1 := ?trH) ?tre ?trn ?tra); (case tra => assumption); (case trn => walk_at "tr"); (case tre => walk_at "tr"))
  | ((with_reducible refine' Ext.back0 (T := T) (H1 := ?trH) ?tre ?tra); (case tra => assumption); (case tre => walk_at "tr"))
  | ((with_reducible refine' SqT.of ?tra); (case tra => walk_at "tr"))
  | ((with_reducible refine' SqL.of ?tra); (case tra => walk_at "tr")))
local macro_rules | `(tactic| walk_at "al") => `(tactic| (refine ⟨by first | (show _ ≤ sizeLine; decide) | walk_at "sz", ?_⟩; intro alp aln; generalize alG : upd _ alp _ = alH; obtain ⟨aln2, alx, alh⟩ := al_of (T := T) aln alG; clear alG aln))
local macro_rules | `(tactic| walk_at "al0") => `(tactic| (intro alp aln; generalize alG : upd _ alp _ = alH; obtain ⟨aln2, alx, alh⟩ := al_of (T := T) aln alG; clear alG aln))

theorem Im.trip' {H : Hp} {v : V} {d1 d2 d3 : PyData} (h : Im H v (.tuple [d1, d2, d3])) : ∃ a x y z, v = .ref a ∧ SqP H a [x, y, z] ∧ Im H x d1 ∧ Im H y d2 ∧ Im H z d3 := by
  obtain ⟨a, xs, rfl, h1, h2⟩ := h.tup'
  cases h2 with
  | cons a1 h2 =>
    cases h2 with
    | cons a2 h2 =>
      cases h2 with
      | cons a3 h2 =>
        cases h2
        exact ⟨a, _, _, _, rfl, h1, a1, a2, a3⟩
theorem put_all {H : Hp} {sl : Sl} {it : Itm} : ∀ {ds : List PyData} {xs : List V} {rs : List (Sl × Itm)}, ImAll H xs (rs.map rowD2) → EachIs (fun d x => ∃ r, Im H x (rowD2 r) ∧ d = rowD2 (r.1, if r.1 = sl then it else r.2)) ds xs → ds = (rs.map fun r => (r.1, if r.1 = sl then it else r.2)).map rowD2
  | _, _, [], h1, h2 => by
    cases h1
    cases h2
    rfl
  | _, _, r :: rs, h1, h2 => by
    cases h1 with
    | cons a b =>
      cases h2 with
      | cons c d =>
        obtain ⟨r', c1, c2⟩ := c
        have e := rowD2_inj (Im.inj _ _ _ a c1)
        rw [put_all b d, c2, ← e]
        rfl
theorem ok_changed (D : Def K mg "changed" s_changed ["state", "deed"]) (mb : ∀ x ∈ bltns, mg x = none) : Ok P w K mg base 1 "changed" ["state", "deed"] (spAfter T) := by
  refine D.ok sc_changed (fun vs H Q E h => ?_) (fun cdv f A outer s H vs Q E hr h => ?_)
  · obtain ⟨v, u, s, d, rfl, _⟩ := h
    rfl
  · obtain ⟨v, u, s, d, rfl, hv, hu, hl, hol, q⟩ := h
    refine ⟨_, (pss_cons (ps_asg (pv 0) (pg_tupU (n := 2) K rfl rfl (pgs_cons (pg_name (i := 2) sc_changed.nd rfl (.inl rfl)) (pgs_cons (pg_name (i := 3) sc_changed.nd rfl (.inl rfl)) pgs_nil))))
   (pss_cons (ps_asg (pv 1) (pg_tupU (n := 3) K rfl rfl (pgs_cons (pg_name (i := 4) sc_changed.nd rfl (.inl rfl)) (pgs_cons (pg_name (i := 5) sc_changed.nd rfl (.inr rfl)) (pgs_cons (pg_name (i := 6) sc_changed.nd rfl (.inr rfl)) pgs_nil)))))
   (pss_cons (ps_if (pt_cmpR (op_eqU K rfl hr.units) (pv 4) pe_str (nomark _)) (pss_one (ps_ret (pe_tup (pa_cons (pe_callTy (call_tupF K rfl) (by rfl) (mb _ (by decide)) (by decide +kernel) (pa_cons (pe_lc (own := [("slot", 8), ("item", 9)]) (tt := tYes) rfl sc_changed.nd (pi_seq K rfl (pv 2)) (blkOk_by (N := N_changed) (sc := defScope s_changed) (by decide +kernel)) (fun _ _ _ _ _ => (pg_tupU (n := 2) K rfl rfl (pgs_cons (pg_name (i := 8) sc_changed.nd rfl (Or.inl rfl)) (pgs_cons (pg_name (i := 9) sc_changed.nd rfl (Or.inl rfl)) pgs_nil)))) (fun _ _ _ _ _ => pts_nil) (fun _ _ _ _ _ => (pe_tup (pa_cons (pv 8) (pa_cons (pe_ifExp (pt_cmpR (op_eqU K rfl hr.units) (pv 8) (pv 5) (nomark _)) (pv 6) (pv 9)) pa_nil))))) pa_nil)) (pa_cons (pv 3) pa_nil))))) pss_nil)
   (pss_cons (ps_if (pt_cmpR (op_eqU K rfl hr.units) (pv 4) pe_str (nomark _)) (pss_one (ps_ret (pe_tup (pa_cons (pv 2) (pa_cons (pe_callTy (call_tupU K rfl) (by rfl) (mb _ (by decide)) (by decide +kernel) (pa_cons (pe_callB (call_sortedU K rfl hr.units) (by rfl) (mb _ (by decide)) (by decide +kernel) (pa_cons (pe_lst (pa_starU K rfl (pv 3) (pa_cons (pe_tup (pa_cons (pv 5) (pa_cons (pv 6) pa_nil))) pa_nil))) pa_nil)) pa_nil)) pa_nil))))) pss_nil)
   (pss_one (ps_ret (pe_tup (pa_cons (pv 2) (pa_cons (pe_callTy (call_tupU K rfl) (by rfl) (mb _ (by decide)) (by decide +kernel) (pa_cons (pe_lc (own := [("pair", 7)]) (g := gName 7) rfl sc_changed.nd (pi_seq K rfl (pv 3)) (blkOk_by (N := N_changed) (sc := defScope s_changed) (by decide +kernel)) (fun _ _ _ _ _ => (pg_name (i := 7) sc_changed.nd rfl (Or.inl rfl))) (fun _ _ _ _ _ => (pts_one (pt_cmpR (op_neU K rfl hr.units) (pv 7) (pe_tup (pa_cons (pv 5) (pa_cons (pv 6) pa_nil))) (nomark _)))) (fun _ _ _ _ _ => (pv 7))) pa_nil)) pa_nil))))))))), ?_⟩
    obtain ⟨a, ia, oa, xs, o, rfl, ha, hia, hod, hxi, hoa⟩ := hv
    have hxl : xs.length ≤ 100 := by
      rw [hxi.len, List.length_map]
      exact hl
    walk_at "rdn"
    refine rd_seq ?_
    walk_at "rdn"
    refine rd_gtup (SqT.of ha) rfl ?_
    walk_at "rdn"
    refine rd_seq ?_
    walk_at "rdn"
    cases d with
    | put sl it =>
      obtain ⟨ta, y1, y2, y3, rfl, hta, g1, g2, g3⟩ := (show Im H u (.tuple [.str (Str.ofString "put"), slD sl, itD it]) from hu).trip'
      have e1 := g1.str'
      subst e1
      refine rd_gtup (SqP.t hta) rfl ?_
      walk_at "rd"
      refine rd_ite (fun _ => ?_) (fun h => absurd rfl h)
      walk_at "rd"
      refine .inr ⟨⟨_, SqF hia⟩, ?_⟩
      refine lcg_im T [] walk_tup xs rfl (fun i H x H' y => y) (fun _ => True) trivial (fun _ _ _ => trivial) (fun _ _ _ _ _ _ _ => trivial) (fun _ _ => Lsts.nil) (fun H' e _ => SqF (frz.x hia e)) (Nat.lt_of_le_of_lt hxl (by decide)) (fun _ => true) (fun d x => ∃ r, Im H x (rowD2 r) ∧ d = rowD2 (r.1, if r.1 = sl then it else r.2)) (fun i x hx H' e' _ R S h1 _ => ?_) (fun D H1 ds nD e1 _ hD hds => ?_)
      · obtain ⟨dr, hdr, hxr⟩ := hxi.get' hx
        rw [List.getElem?_map] at hdr
        obtain ⟨r, hr, rfl⟩ := Option.map_eq_some_iff.mp hdr
        obtain ⟨tb, z1, z2, rfl, htb, k1, k2⟩ := hxr.pair'
        refine rd_gtup (SqT.of (SqP.x htb e')) rfl ?_
        walk_at "rd"
        refine ⟨rfl, ?_⟩
        walk_at "rd"
        refine rd_eqI (b := decide (r.1 = sl)) (k1.x e') (g2.x e') (Nat.le_trans (dep_sl _) (by decide)) (Nat.le_trans (dep_sl _) (by decide)) (Iff.trans ⟨fun e => slD_inj e, fun e => by rw [e]⟩ decide_eq_true_iff.symm) ?_
        refine ⟨_, rfl, ?_⟩
        refine rd_ite (fun hz => ?_) (fun hz => ?_)
        · walk_at "rd"
          walk_at "al"
          rename_i tc H4 _ e4 htc
          exact h1 rfl _ _ H4 e4 trivial (.new2 ((k1.x e').x e4) ((g3.x e').x e4) htc) ⟨r, hxr, by rw [if_pos hz]; rfl⟩
        · walk_at "rd"
          walk_at "al"
          rename_i tc H4 _ e4 htc
          exact h1 rfl _ _ H4 e4 trivial (.new2 ((k1.x e').x e4) ((k2.x e').x e4) htc) ⟨r, hxr, by rw [if_neg hz]; rfl⟩
      · rw [filtT] at hds
        have hd := put_all hxi hds
        rw [hd] at hD
        obtain ⟨dx, hdx, hdi⟩ := hD.list
        walk_at "rd"
        refine rd_tupFA T hdx fun ti H2 o2 nti e2 hod2 hti => ?_
        walk_at "rd"
        walk_at "al"
        rename_i r H3 _ e3 hr3
        exact q _ H3 ((e1.trans e2).trans e3) ⟨r, ti, oa, dx, o2, rfl, hr3, frz.x hti e3, hod2, (hdi.x e2).x e3, hoa.x ((e1.trans e2).trans e3)⟩
    | on x z =>
      obtain ⟨ta, y1, y2, y3, rfl, hta, g1, g2, g3⟩ := (show Im H u (.tuple [.str (Str.ofString "on"), .str x, .str z]) from hu).trip'
      have e1 := g1.str'
      subst e1
      refine rd_gtup (SqP.t hta) rfl ?_
      walk_at "rd"
      refine rd_ite (fun h => absurd h (by decide +kernel)) (fun _ => ?_)
      walk_at "rd"
      refine rd_ite (fun _ => ?_) (fun h => absurd rfl h)
      obtain ⟨b, ox, rfl, hob, hoi⟩ := hoa.tup'
      have hol2 : ox.length ≤ 500 := by
        rw [hoi.len, List.length_map]
        exact hol
      walk_at "rd"
      refine rd_star ?_
      walk_at "rd"
      refine ⟨b, ox, rfl, .inl (SqT.of hob), ?_⟩
      walk_at "rd"
      walk_at "al"
      rename_i tr H1 _ e1 htr
      have hrow : Im H1 (.ref tr) (ssD (x, z)) := Im.new2 (g2.x e1) (g3.x e1) htr
      refine ⟨by simp only [List.length_append, List.length_cons, List.length_nil]; walk_at "sz", ?_⟩
      walk_at "al0"
      rename_i lc H4 _ e4 hlc
      have e14 := e1.trans e4
      refine rd_nil ?_
      refine rd_sortA T (ds := (s.on ++ [(x, z)]).map ssD) ⟨_, hlc, by rw [List.map_append]; exact (hoi.x e14).app (.cons (hrow.x e4) .nil)⟩ (alike_ss _) (sortable_ss _) (depth_ss _) fun sa H5 ys nsa e5 hsa hys => ?_
      rw [srtSS_eq] at hys
      walk_at "rd"
      refine rd_tupA T hsa fun to H6 nto e6 hto => ?_
      walk_at "rd"
      walk_at "al"
      rename_i r H7 _ e7 hr7
      have e17 := ((e14.trans e5).trans e6).trans e7
      exact q _ H7 e17 ⟨r, ia, .ref to, xs, o, rfl, hr7, frz.x hia e17, hod, hxi.x e17, (Im.tup hto (hys.x e6)).x e7⟩
    | off x z =>
      obtain ⟨ta, y1, y2, y3, rfl, hta, g1, g2, g3⟩ := (show Im H u (.tuple [.str (Str.ofString "off"), .str x, .str z]) from hu).trip'
      have e1 := g1.str'
      subst e1
      refine rd_gtup (SqP.t hta) rfl ?_
      walk_at "rd"
      refine rd_ite (fun h => absurd h (by decide +kernel)) (fun _ => ?_)
      walk_at "rd"
      refine rd_ite (fun h => absurd h (by decide +kernel)) (fun _ => ?_)
      obtain ⟨b, ox, rfl, hob, hoi⟩ := hoa.tup'
      have hol2 : ox.length ≤ 500 := by
        rw [hoi.len, List.length_map]
        exact hol
      walk_at "rd"
      refine .inr ⟨⟨_, SqT.of hob⟩, ?_⟩
      refine lcg_rel T [] walk_tup ox rfl (fun i H x H' y => y) (by simp) (fun H' e => SqT.of (SqP.x hob e)) (Nat.lt_of_le_of_lt hol2 (by decide)) (pIm H ssD fun p => !decide (p = (x, z))) (fun v x => v = x) (fun i y hy H' e' R S h1 h2 => ?_) (fun D H2 us nD e2 hD hus => ?_)
      · obtain ⟨dr, hdr, hyr⟩ := hoi.get' hy
        rw [List.getElem?_map] at hdr
        obtain ⟨r, hr, rfl⟩ := Option.map_eq_some_iff.mp hdr
        have hp := pIm_eq (c := fun p : Str × Str => !decide (p = (x, z))) (fun a b => ssD_inj) hyr
        refine rd_name ⟨wipe1, ?_⟩
        walk_at "rd"
        walk_at "al"
        rename_i tr H3 _ e3 htr
        have hrow : Im H3 (.ref tr) (ssD (x, z)) := Im.new2 ((g2.x e').x e3) ((g3.x e').x e3) htr
        refine rd_neI (b := decide (r = (x, z))) ((hyr.x e').x e3) hrow (Nat.le_trans (dep_ss _) (by decide)) (Nat.le_trans (dep_ss _) (by decide)) (Iff.trans ⟨fun e => ssD_inj e, fun e => by rw [e]⟩ decide_eq_true_iff.symm) ?_
        refine ⟨_, rfl, ?_⟩
        refine rd_itn (fun hz => ?_) (fun hz => ?_)
        · exact h2 (hp.trans (by show (!decide (r = (x, z))) = false; rw [decide_eq_true hz]; rfl)) _ e3
        · walk_at "rd"
          exact h1 (hp.trans (by show (!decide (r = (x, z))) = true; rw [decide_eq_false hz]; rfl)) _ _ e3 rfl
      · have him := im_filter (c := fun p : Str × Str => !decide (p = (x, z))) (fun a b => ssD_inj) hoi hus
        walk_at "rd"
        refine rd_tupA T hD fun to H3 nto e3 hto => ?_
        walk_at "rd"
        walk_at "al"
        rename_i r H4 _ e4 hr4
        have e14 := (e2.trans e3).trans e4
        exact q _ H4 e14 ⟨r, ia, .ref to, xs, o, rfl, hr4, frz.x hia e14, hod, hxi.x e14, (Im.tup hto ((him.x e2).x e3)).x e4⟩
end

open PySem PySem.Spec PyProof.Rows L2
open PySem.W (EachIs)

section
variable {T : List (Addr × Str)} {P : Program} {w : World} {K : PySem.W.Frag} {mg : Str → Option Value} {base : Heap}
local macro_rules | `(tactic| walk_at "tr") => `(tactic| first
  | assumption
  | exact Ext.refl
  | ((with_reducible refine' Im.x (T := T) (H := ?trH) ?tra ?tre); (case tre => assumption); (case tra => walk_at "tr"))
  | ((with_reducible refine' Im.y (T := T) (H := ?trH) ?tra ?tre ?trt); (case tre => assumption); (case trt => walk_at "tr"); (case tra => walk_at "tr"))
  | ((with_reducible refine' ImAll.x (T := T) (H := ?trH) ?tra ?tre); (case tre => assumption); (case tra => walk_at "tr"))
  | ((with_reducible refine' ImAll.y (T := T) (H := ?trH) ?tra ?tre ?trt); (case tre => assumption); (case trt => walk_at "tr"); (case tra => walk_at "tr"))
  | ((with_reducible refine' Ls.x (T := T) (H := ?trH) ?tra ?tre); (case tre => assumption); (case tra => walk_at "tr"))
  | ((with_reducible refine' Ls.y (T := T) (H := ?trH) ?tra ?tre ?trn ?trt); (case tre => assumption); (case trt => walk_at "tr"); (case trn => walk_at "tr"); (case tra => walk_at "tr"))
  | ((with_reducible refine' SqP.x (T := T) (H := ?trH) ?tra ?tre); (case tre => assumption); (case tra => walk_at "tr"))
  | ((with_reducible refine' SqP.y (T := T) (H := ?trH) ?tra ?tre ?trt); (case tre => assumption); (case trt => walk_at "tr"); (case tra => walk_at "tr"))
  | ((with_reducible refine' StAt.x (T := T) (H := ?trH) ?tra ?tre); (case tre => assumption); (case tra => walk_at "tr"))
  | ((with_reducible refine' StAt.y (T := T) (H := ?trH) ?tra ?tre ?trt); (case tre => assumption); (case trt => walk_at "tr"); (case tra => walk_at "tr"))
  | ((with_reducible refine' Pools.ext0 (T := T) (H := ?trH) ?tra ?tre); (case tre => assumption); (case tra => walk_at "tr"))
  | ((with_reducible refine' Pools.ext (T := T) (H := ?trH) ?tra ?tre ?trt); (case tre => assumption); (case trt => walk_at "tr"); (case tra => walk_at "tr"))
  | ((with_reducible refine' CL.x (T := T) (H := ?trH) ?tra ?tre); (case tre => assumption); (case tra => walk_at "tr"))
  | ((with_reducible refine' CL.y (T := T) (H := ?trH) ?tra ?tre); (case tre => assumption); (case tra => walk_at "tr"))
  | ((with_reducible refine' Tape.ext (T := T) (H := ?trH) ?tra ?tre); (case tre => assumption); (case tra => walk_at "tr"))
  | ((with_reducible refine' lst.x (T := T) (H := ?trH) ?tra ?tre); (case tre => assumption); (case tra => walk_at "tr"))
  | ((with_reducible refine' lst.y (T := T) (H := ?trH) ?tra ?tre ?trn); (case tre => assumption); (case trn => walk_at "tr"); (case tra => walk_at "tr"))
  | ((with_reducible refine' tup.x (T := T) (H := ?trH) ?tra ?tre); (case tre => assumption); (case tra => walk_at "tr"))
  | ((with_reducible refine' tup.y (T := T) (H := ?trH) ?tra ?tre ?trt); (case tre => assumption); (case trt => walk_at "tr"); (case tra => walk_at "tr"))
  | ((with_reducible refine' frz.x (T := T) (H := ?trH) ?tra ?tre); (case tre => assumption); (case tra => walk_at "tr"))
  | ((with_reducible refine' frz.y (T := T) (H := ?trH) ?tra ?tre ?trt); (case tre => assumption); (case trt => walk_at "tr"); (case tra => walk_at "tr"))
  | ((with_reducible refine' Im.z (T := T) (H := ?trH) ?tra ?tre ?trt); (case tre => assumption); (case trt => assumption); (case tra => walk_at "tr"))
  | ((with_reducible refine' ImAll.z (T := T) (H := ?trH) ?tra ?tre ?trt); (case tre => assumption); (case trt => assumption); (case tra => walk_at "tr"))
  | ((with_reducible refine' StAt.z (T := T) (H := ?trH) ?tra ?tre ?trt); (case tre => assumption); (case trt => assumption); (case tra => walk_at "tr"))
  | ((with_reducible refine' SqP.z (T := T) (H := ?trH) ?tra ?tre ?trt); (case tre => assumption); (case trt => assumption); (case tra => walk_at "tr"))
  | ((with_reducible refine' tup.z (T := T) (H := ?trH) ?tra ?tre ?trt); (case tre => assumption); (case trt => assumption); (case tra => walk_at "tr"))
  | ((with_reducible refine' Ls.z (T := T) (H := ?trH) ?tra ?tre ?trt ?trn); (case tre => assumption); (case trt => assumption); (case trn => assumption); (case tra => walk_at "tr"))
  | ((with_reducible refine' lst.z (T := T) (H := ?trH) ?tra ?tre ?trn); (case tre => assumption); (case trn => assumption); (case tra => walk_at "tr"))
  | ((with_reducible refine' CL.z (T := T) (H := ?trH) ?tra ?tre ?trn); (case tre => assumption); (case trn => assumption); (case tra => walk_at "tr"))
  | ((with_reducible refine' Tape.ne1 (H := ?trH) ?trt ?trn); (case trn => assumption); (case trt => walk_at "tr"))
  | ((with_reducible refine' Ext.trans (H1 := ?trH) ?tra (Ext.any ?tre)); (case tre => assumption); (case tra => walk_at "tr"))
  | ((with_reducible refine' Ext.trans (H1 := ?trH) ?tra ?tre); (case tre => assumption); (case tra => walk_at "tr"))
  | ((with_reducible refine' Ext.back1 (T := T) (H1 := ?trH) ?tre ?trn ?tra); (case tra => assumption); (case trn => walk_at "tr"); (case tre => walk_at "tr"))
  | ((with_reducible refine' Ext.back0 (T := T) (H1 := ?trH) ?tre ?tra); (case tra => assumption); (case tre => walk_at "tr"))
  | ((with_reducible refine' SqT.of ?tra); (case tra => walk_at "tr"))
  | ((with_reducible refine' SqL.of ?tra); (case tra => walk_at "tr")))
local macro_rules | `(tactic| walk_at "al") => `(tactic| (refine ⟨by first | (show _ ≤ sizeLine; decide) | walk_at "sz", ?_⟩; intro alp aln; generalize alG : upd _ alp _ = alH; obtain ⟨aln2, alx, alh⟩ := al_of (T := T) aln alG; clear alG aln))
local macro_rules | `(tactic| walk_at "al0") => `(tactic| (intro alp aln; generalize alG : upd _ alp _ = alH; obtain ⟨aln2, alx, alh⟩ := al_of (T := T) aln alG; clear alG aln))

/-- the state at a moment -/
def stM (s : Sta) (pl : List (Int × Dd)) (m : Int) : Sta := pl.foldl (fun s p => if p.1 ≤ m then aft s p.2 else s) s
theorem stM_snoc {s : Sta} {pl : List (Int × Dd)} {m : Int} {i : Nat} {p : Int × Dd} (h : pl[i]? = some p) : stM s (pl.take (i + 1)) m = if p.1 ≤ m then aft (stM s (pl.take i) m) p.2 else stM s (pl.take i) m := by
  unfold stM
  rw [List.take_add_one, h, List.foldl_append]
  rfl
theorem stM_its (s : Sta) (m : Int) : ∀ pl : List (Int × Dd), (stM s pl m).its.map (·.1) = s.its.map (·.1) := by
  intro pl
  induction pl generalizing s with
  | nil => rfl
  | cons p pl ih =>
    show (stM (if p.1 ≤ m then aft s p.2 else s) pl m).its.map (·.1) = _
    rw [ih]
    by_cases h : p.1 ≤ m
    · rw [if_pos h, aft_keys]
    · rw [if_neg h]
theorem stM_on (s : Sta) (m : Int) : ∀ pl : List (Int × Dd), (stM s pl m).on.length ≤ s.on.length + pl.length := by
  intro pl
  induction pl generalizing s with
  | nil => exact Nat.le_refl _
  | cons p pl ih =>
    have h1 := ih (if p.1 ≤ m then aft s p.2 else s)
    have h2 : (if p.1 ≤ m then aft s p.2 else s).on.length ≤ s.on.length + 1 := by
      by_cases h : p.1 ≤ m
      · rw [if_pos h]
        exact aft_on s p.2
      · rw [if_neg h]
        exact Nat.le_succ _
    show (stM (if p.1 ≤ m then aft s p.2 else s) pl m).on.length ≤ _
    rw [List.length_cons]
    omega
def spLawState (T : List (Addr × Str)) : Sp := fun vs H Q _ => ∃ (u x : V) (s : Sta) (pl : List (Int × Dd)) (m : Int), vs = [u, x, .int m] ∧ StAt H u s ∧ Im H x (.tuple (pl.map plD)) ∧ s.its.length ≤ 100 ∧ s.on.length ≤ 400 ∧ pl.length ≤ 50 ∧
  ∀ (y : V) (H' : Hp), Ext T [] H H' → StAt H' y (stM s pl m) → Q y H'
def spStateAt (T : List (Addr × Str)) : Sp := fun vs H Q _ => ∃ (v u x : V) (s : Sta) (pl : List (Int × Dd)) (m : Int), vs = [v, u, x, .int m] ∧ StAt H u s ∧ Im H x (.tuple (pl.map plD)) ∧ s.its.length ≤ 100 ∧ s.on.length ≤ 400 ∧ pl.length ≤ 50 ∧
  ∀ (y : V) (H' : Hp), Ext T [] H H' → StAt H' y (stM s pl m) → Q y H'
theorem ok_law_state_at (D : Def K mg "_law_state_at" s_law_state_at ["state", "plan", "moment"]) (G_law_after : Ok P w K mg base 1 "_law_after" ["state", "deed"] (spAfter T)) : Ok P w K mg base 2 "_law_state_at" ["state", "plan", "moment"] (spLawState T) := by
  refine D.ok sc_law_state_at (fun vs H Q E h => ?_) (fun cdv f A outer s H vs Q E hr h => ?_)
  · obtain ⟨u, x, s, pl, m, rfl, _⟩ := h
    rfl
  · obtain ⟨u, x, s, pl, m, rfl, hu, hx, hsl, hon, hpl, q⟩ := h
    refine ⟨_, (pss_cons (ps_for PassesOwn.never rfl (pi_seq K rfl (pv 1)) (pg_tupU (n := 2) K rfl rfl (pgs_cons (pg_name (i := 3) sc_law_state_at.nd rfl (.inl rfl)) (pgs_cons (pg_name (i := 4) sc_law_state_at.nd rfl (.inl rfl)) pgs_nil))) (pss_one (ps_if (pt_cmpR op_le (pv 3) (pv 2) (nomark _)) (pss_one (ps_set (i := 0) sc_law_state_at.nd rfl (.inl rfl) (pe_callO G_law_after (hr.mono (by decide)) (by rfl) (pa_cons (pv 0) (pa_cons (pv 4) pa_nil))))) pss_nil)))
   (pss_one (ps_ret (pv 0)))), ?_⟩
    obtain ⟨pp, px, rfl, hpp, hpi⟩ := hx.tup'
    have hpxl : px.length = pl.length := by rw [hpi.len, List.length_map]
    walk_at "rdn"
    refine rd_seq ?_
    walk_at "rdn"
    refine .inr ⟨⟨_, SqT.of hpp⟩, ?_⟩
    refine forg_tup (xs := px) (fun i σ H' => Ext T [] H H' ∧ ∃ (y : V) (a b : Option V), σ = [some y, some (.ref pp), some (.int m), a, b] ∧ StAt H' y (stM s (pl.take i) m)) ⟨.refl, u, none, none, rfl, hu⟩ (fun i σ H' _ h => SqT.of (SqP.x hpp h.1)) (fun i x σ H1 hx h => ?_) (fun σ H1 h => ?_)
    · obtain ⟨e1, y, a, b, rfl, hy⟩ := h
      obtain ⟨dr, hdr, hxr⟩ := hpi.get' hx
      rw [List.getElem?_map] at hdr
      obtain ⟨p, hp, rfl⟩ := Option.map_eq_some_iff.mp hdr
      rw [stM_snoc hp]
      refine rd_gpair (d1 := .int p.1) (d2 := ddD p.2) (hxr.x e1) fun v1 v2 g1 g2 => ?_
      rw [g1.int']
      walk_at "rd"
      refine rd_ite (fun c => ?_) (fun c => ?_)
      · rw [if_pos c]
        walk_at "rd"
        refine ⟨y, v2, stM s (pl.take i) m, p.2, rfl, hy, g2, ?_, ?_, fun z H2 e2 hz => ?_⟩
        · have h1 := congrArg List.length (stM_its s m (pl.take i))
          rw [List.length_map, List.length_map] at h1
          omega
        · have h1 := stM_on s m (pl.take i)
          rw [List.length_take] at h1
          omega
        · walk_at "rd"
          exact ⟨e1.trans e2, z, _, _, rfl, hz⟩
      · rw [if_neg c]
        walk_at "rd"
        exact ⟨e1, y, _, _, rfl, hy⟩
    · obtain ⟨e1, y, a, b, rfl, hy⟩ := h
      rw [hpxl, List.take_length] at hy
      walk_at "rd"
      exact q _ _ e1 hy
theorem ok_state_at (D : Def K mg "state_at" s_state_at ["realm", "state", "plan", "moment"]) (G_changed : Ok P w K mg base 1 "changed" ["state", "deed"] (spAfter T)) : Ok P w K mg base 2 "state_at" ["realm", "state", "plan", "moment"] (spStateAt T) := by
  refine D.ok sc_state_at (fun vs H Q E h => ?_) (fun cdv f A outer s H vs Q E hr h => ?_)
  · obtain ⟨v, u, x, s, pl, m, rfl, _⟩ := h
    rfl
  · obtain ⟨v, u, x, s, pl, m, rfl, hu, hx, hsl, hon, hpl, q⟩ := h
    refine ⟨_, (pss_cons (ps_for PassesOwn.never rfl (pi_seq K rfl (pv 2)) (pg_tupU (n := 2) K rfl rfl (pgs_cons (pg_name (i := 4) sc_state_at.nd rfl (.inl rfl)) (pgs_cons (pg_name (i := 5) sc_state_at.nd rfl (.inl rfl)) pgs_nil))) (pss_one (ps_if (pt_cmpR op_le (pv 4) (pv 3) (nomark _)) (pss_one (ps_set (i := 1) sc_state_at.nd rfl (.inl rfl) (pe_callO G_changed (hr.mono (by decide)) (by rfl) (pa_cons (pv 1) (pa_cons (pv 5) pa_nil))))) pss_nil)))
   (pss_one (ps_ret (pv 1)))), ?_⟩
    obtain ⟨pp, px, rfl, hpp, hpi⟩ := hx.tup'
    have hpxl : px.length = pl.length := by rw [hpi.len, List.length_map]
    walk_at "rdn"
    refine rd_seq ?_
    walk_at "rdn"
    refine .inr ⟨⟨_, SqT.of hpp⟩, ?_⟩
    refine forg_tup (xs := px) (fun i σ H' => Ext T [] H H' ∧ ∃ (y : V) (a b : Option V), σ = [some v, some y, some (.ref pp), some (.int m), a, b] ∧ StAt H' y (stM s (pl.take i) m)) ⟨.refl, u, none, none, rfl, hu⟩ (fun i σ H' _ h => SqT.of (SqP.x hpp h.1)) (fun i x σ H1 hx h => ?_) (fun σ H1 h => ?_)
    · obtain ⟨e1, y, a, b, rfl, hy⟩ := h
      obtain ⟨dr, hdr, hxr⟩ := hpi.get' hx
      rw [List.getElem?_map] at hdr
      obtain ⟨p, hp, rfl⟩ := Option.map_eq_some_iff.mp hdr
      rw [stM_snoc hp]
      refine rd_gpair (d1 := .int p.1) (d2 := ddD p.2) (hxr.x e1) fun v1 v2 g1 g2 => ?_
      rw [g1.int']
      walk_at "rd"
      refine rd_ite (fun c => ?_) (fun c => ?_)
      · rw [if_pos c]
        walk_at "rd"
        refine ⟨y, v2, stM s (pl.take i) m, p.2, rfl, hy, g2, ?_, ?_, fun z H2 e2 hz => ?_⟩
        · have h1 := congrArg List.length (stM_its s m (pl.take i))
          rw [List.length_map, List.length_map] at h1
          omega
        · have h1 := stM_on s m (pl.take i)
          rw [List.length_take] at h1
          omega
        · walk_at "rd"
          exact ⟨e1.trans e2, z, _, _, rfl, hz⟩
      · rw [if_neg c]
        walk_at "rd"
        exact ⟨e1, y, _, _, rfl, hy⟩
    · obtain ⟨e1, y, a, b, rfl, hy⟩ := h
      rw [hpxl, List.take_length] at hy
      walk_at "rd"
      exact q _ _ e1 hy
end

open PySem PySem.Spec PyProof.Rows L2
open PySem.W (EachIs)

section
variable {T : List (Addr × Str)} {P : Program} {w : World} {K : PySem.W.Frag} {mg : Str → Option Value} {base : Heap}
local macro_rules | `(tactic| walk_at "tr") => `(tactic| first
  | assumption
  | exact Ext.refl
  | ((with_reducible refine' Im.x (T := T) (H := ?trH) ?tra ?tre); (case tre => assumption); (case tra => walk_at "tr"))
  | ((with_reducible refine' Im.y (T := T) (H := ?trH) ?tra ?tre ?trt); (case tre => assumption); (case trt => walk_at "tr"); (case tra => walk_at "tr"))
  | ((with_reducible refine' ImAll.x (T := T) (H := ?trH) ?tra ?tre); (case tre => assumption); (case tra => walk_at "tr"))
  | ((with_reducible refine' ImAll.y (T := T) (H := ?trH) ?tra ?tre ?trt); (case tre => assumption); (case trt => walk_at "tr"); (case tra => walk_at "tr"))
  | ((with_reducible refine' Ls.x (T := T) (H := ?trH) ?tra ?tre); (case tre => assumption); (case tra => walk_at "tr"))
  | ((with_reducible refine' Ls.y (T := T) (H := ?trH) ?tra ?tre ?trn ?trt); (case tre => assumption); (case trt => walk_at "tr"); (case trn => walk_at "tr"); (case tra => walk_at "tr"))
  | ((with_reducible refine' SqP.x (T := T) (H := ?trH) ?tra ?tre); (case tre => assumption); (case tra => walk_at "tr"))
  | ((with_reducible refine' SqP.y (T := T) (H := ?trH) ?tra ?tre ?trt); (case tre => assumption); (case trt => walk_at "tr"); (case tra => walk_at "tr"))
  | ((with_reducible refine' StAt.x (T := T) (H := ?trH) ?tra ?tre); (case tre => assumption); (case tra => walk_at "tr"))
  | ((with_reducible refine' StAt.y (T := T) (H := ?trH) ?tra ?tre ?trt); (case tre => assumption); (case trt => walk_at "tr"); (case tra => walk_at "tr"))
  | ((with_reducible refine' Pools.ext0 (T := T) (H := ?trH) ?tra ?tre); (case tre => assumption); (case tra => walk_at "tr"))
  | ((with_reducible refine' Pools.ext (T := T) (H := ?trH) ?tra ?tre ?trt); (case tre => assumption); (case trt => walk_at "tr"); (case tra => walk_at "tr"))
  | ((with_reducible refine' CL.x (T := T) (H := ?trH) ?tra ?tre); (case tre => assumption); (case tra => walk_at "tr"))
  | ((with_reducible refine' CL.y (T := T) (H := ?trH) ?tra ?tre); (case tre => assumption); (case tra => walk_at "tr"))
  | ((with_reducible refine' Tape.ext (T := T) (H := ?trH) ?tra ?tre); (case tre => assumption); (case tra => walk_at "tr"))
  | ((with_reducible refine' lst.x (T := T) (H := ?trH) ?tra ?tre); (case tre => assumption); (case tra => walk_at "tr"))
  | ((with_reducible refine' lst.y (T := T) (H := ?trH) ?tra ?tre ?trn); (case tre => assumption); (case trn => walk_at "tr"); (case tra => walk_at "tr"))
  | ((with_reducible refine' tup.x (T := T) (H := ?trH) ?tra ?tre); (case tre => assumption); (case tra => walk_at "tr"))
  | ((with_reducible refine' tup.y (T := T) (H := ?trH) ?tra ?tre ?trt); (case tre => assumption); (case trt => walk_at "tr"); (case tra => walk_at "tr"))
  | ((with_reducible refine' frz.x (T := T) (H := ?trH) ?tra ?tre); (case tre => assumption); (case tra => walk_at "tr"))
  | ((with_reducible refine' frz.y (T := T) (H := ?trH) ?tra ?tre ?trt); (case tre => assumption); (case trt => walk_at "tr"); (case tra => walk_at "tr"))
  | ((with_reducible refine' Im.z (T := T) (H := ?trH) ?tra ?tre ?trt); (case tre => assumption); (case trt => assumption); (case tra => walk_at "tr"))
  | ((with_reducible refine' ImAll.z (T := T) (H := ?trH) ?tra ?tre ?trt); (case tre => assumption); (case trt => assumption); (case tra => walk_at "tr"))
  | ((with_reducible refine' StAt.z (T := T) (H := ?trH) ?tra ?tre ?trt); (case tre => assumption); (case trt => assumption); (case tra => walk_at "tr"))
  | ((with_reducible refine' SqP.z (T := T) (H := ?trH) ?tra ?tre ?trt); (case tre => assumption); (case trt => assumption); (case tra => walk_at "tr"))
  | ((with_reducible refine' tup.z (T := T) (H := ?trH) ?tra ?tre ?trt); (case tre => assumption); (case trt => assumption); (case tra => walk_at "tr"))
  | ((with_reducible refine' Ls.z (T := T) (H := ?trH) ?tra ?tre ?trt ?trn); (case tre => assumption); (case trt => assumption); (case trn => assumption); (case tra => walk_at "tr"))
  | ((with_reducible refine' lst.z (T := T) (H := ?trH) ?tra ?tre ?trn); (case tre => assumption); (case trn => assumption); (case tra => walk_at "tr"))
  | ((with_reducible refine' CL.z (T := T) (H := ?trH) ?tra ?tre ?trn); (case tre => assumption); (case trn => assumption); (case tra => walk_at "tr"))
  | ((with_reducible refine' Tape.ne1 (H := ?trH) ?trt ?trn); (case trn => assumption); (case trt => walk_at "tr"))
  | ((with_reducible refine' Ext.trans (H1 := ?trH) ?tra (Ext.any ?tre)); (case tre => assumption); (case tra => walk_at "tr"))
  | ((with_reducible refine' Ext.trans (H1 := ?trH) ?tra ?tre); (case tre => assumption); (case tra => walk_at "tr"))
  | ((with_reducible refine' Ext.back1 (T := T) (H1 := ?trH) ?tre ?trn ?tra); (case tra => assumption); (case trn => walk_at "tr"); (case tre => walk_at "tr"))
  | ((with_reducible refine' Ext.back0 (T := T) (H1 := ?trH) ?tre ?tra); (case tra => assumption); (case tre => walk_at "tr"))
  | ((with_reducible refine' SqT.of ?tra); (case tra => walk_at "tr"))
  | ((with_reducible refine' SqL.of ?tra); (case tra => walk_at "tr")))
local macro_rules | `(tactic| walk_at "al") => `(tactic| (refine ⟨by first | (show _ ≤ sizeLine; decide) | walk_at "sz", ?_⟩; intro alp aln; generalize alG : upd _ alp _ = alH; obtain ⟨aln2, alx, alh⟩ := al_of (T := T) aln alG; clear alG aln))
local macro_rules | `(tactic| walk_at "al0") => `(tactic| (intro alp aln; generalize alG : upd _ alp _ = alH; obtain ⟨aln2, alx, alh⟩ := al_of (T := T) aln alG; clear alG aln))

def slK : Sl → List L2.Key
  | .k z => [.inr "keys", .inr z]
  | .l z => [.inr "link", .inr z]
  | .h z => [.inr "hosts", .inr z]
  | .s n k => [.inr "set", .inr n, .inr k]
theorem slD_K (s : Sl) : ∃ l : List Str, slD s = .tuple (l.map .str) ∧ slK s = l.map .inr := by
  cases s with
  | k z => exact ⟨["keys", z], rfl, rfl⟩
  | l z => exact ⟨["link", z], rfl, rfl⟩
  | h z => exact ⟨["hosts", z], rfl, rfl⟩
  | s n k => exact ⟨["set", n, k], rfl, rfl⟩
theorem slK_inj {a b : Sl} (h : slK a = slK b) : a = b := by
  obtain ⟨l, h1, h2⟩ := slD_K a
  obtain ⟨m, h3, h4⟩ := slD_K b
  rw [h2, h4] at h
  have e : l = m := map_inj (fun _ _ e => Sum.inr.inj e) h
  exact slD_inj (by rw [h1, h3, e])
theorem Im.slot {H : Hp} {v : V} {s : Sl} (h : Im H v (slD s)) : ∃ b, v = .ref b ∧ H b = some (.tup ((slK s).map kV)) := by
  obtain ⟨l, h1, h2⟩ := slD_K s
  rw [h1] at h
  obtain ⟨a, xs, rfl, h3, h4⟩ := h.tup'
  have h5 := h4.strs'
  subst h5
  refine ⟨a, rfl, ?_⟩
  rw [h2, List.map_map]
  exact h3
theorem pairs_of {H : Hp} : ∀ {xs : List V} {its : List (Sl × Itm)}, ImAll H xs (its.map rowD2) → ∃ (ps : List Addr) (kvs : List (List L2.Key × V)), xs = ps.map V.ref ∧ PairsT K H ps kvs ∧ kvs.map (·.1) = its.map (fun r => slK r.1) ∧
    ∀ (sl : Sl) (i : Itm), (its.map (·.1)).Nodup → (sl, i) ∈ its → ∃ v, valV kvs (slK sl) = some v ∧ Im H v (itD i)
  | _, [], h => by
    cases h
    exact ⟨[], [], rfl, .nil, rfl, fun _ _ _ hm => by cases hm⟩
  | _, r :: its, h => by
    cases h with
    | cons a b =>
      obtain ⟨ps, kvs, e1, e2, e3, e4⟩ := pairs_of b
      obtain ⟨ta, y1, y2, rfl, hta, g1, g2⟩ := a.pair'
      obtain ⟨b1, rfl, hb1⟩ := g1.slot
      refine ⟨ta :: ps, (slK r.1, y2) :: kvs, by rw [e1]; rfl, .cons ⟨b1, SqT.of hta, hb1⟩ e2, by rw [List.map_cons, List.map_cons, e3], fun sl i hn hm => ?_⟩
      rw [List.map_cons, List.nodup_cons] at hn
      unfold valV
      rw [List.find?_cons]
      by_cases hk : slK r.1 = slK sl
      · have es := slK_inj hk
        rw [decide_eq_true hk]
        refine ⟨y2, rfl, ?_⟩
        rcases List.mem_cons.mp hm with hm | hm
        · rw [← hm] at g2
          exact g2
        · exact absurd (List.mem_map.mpr ⟨_, hm, es.symm⟩) hn.1
      · rw [decide_eq_false hk]
        rcases List.mem_cons.mp hm with hm | hm
        · rw [← hm] at hk
          exact absurd rfl hk
        · exact e4 sl i hn.2 hm
theorem rd_dget {td ty : TE} {σ : L2.St} {H : Hp} {Q : VK} (q : td σ H fun x H1 => ty σ H1 fun y H2 => ∃ a v, x = V.ref a ∧ DGet H2 a y (some v) ∧ Q v H2) : tDGet td ty σ H Q := q
def spItemOf (T : List (Addr × Str)) : Sp := fun vs H Q _ => ∃ (u v : V) (s : Sta) (sl : Sl) (i : Itm), vs = [u, v] ∧ StAt H u s ∧ Im H v (slD sl) ∧ (sl, i) ∈ s.its ∧ (s.its.map (·.1)).Nodup ∧ s.its.length ≤ 100 ∧ ∀ (x : V) (H' : Hp), Ext T [] H H' → Im H' x (itD i) → Q x H'
theorem ok_item_of (D : Def K mg "item_of" s_item_of ["state", "slot"]) (mb : ∀ x ∈ bltns, mg x = none) : Ok P w K mg base 1 "item_of" ["state", "slot"] (spItemOf T) := by
  refine D.ok sc_item_of (fun vs H Q E h => ?_) (fun cdv f A outer s H vs Q E hr h => ?_)
  · obtain ⟨u, v, s, sl, i, rfl, _⟩ := h
    rfl
  · obtain ⟨u, v, s, sl, i, rfl, hu, hv, hm, hn, hl, q⟩ := h
    refine ⟨_, (pss_one (ps_ret (pe_dget (hu_of hr) (pe_callTy (call_dictT K rfl rfl hr.units) (by rfl) (mb _ (by decide)) (by decide +kernel) (pa_cons (pe_ix (ix_U K rfl) (pv 0) pe_int (fun _ _ => rfl)) pa_nil)) (pv 1) (fun _ _ => rfl)))), ?_⟩
    obtain ⟨a, ia, oa, xs, o, rfl, ha, hia, hod, hxi, hoa⟩ := hu
    obtain ⟨ps, kvs, rfl, hp, hk, hv2⟩ := pairs_of (K := K) hxi
    obtain ⟨x, hx1, hx2⟩ := hv2 sl i hn hm
    obtain ⟨b, rfl, hb⟩ := hv.slot
    walk_at "rd"
    refine rd_dget ?_
    walk_at "rd"
    refine rd_ixT (v := .ref ia) (SqT.of ha) rfl ?_
    walk_at "rd"
    refine ⟨ia, ps, kvs, rfl, ⟨o, hod, hia⟩, hp, ?_, fun d hd => ?_⟩
    · rw [hk, show s.its.map (fun r => slK r.1) = (s.its.map (·.1)).map slK by rw [List.map_map]; rfl]
      exact nodup_mapI (fun a b => slK_inj) hn
    · obtain ⟨nd, e1, hd1⟩ := al_of (T := T) hd (rfl : upd H d (.dT kvs) = _)
      generalize upd H d (.dT kvs) = H1 at e1 hd1 ⊢
      walk_at "rd"
      refine ⟨d, x, rfl, .inr ⟨kvs, slK sl, b, .inl hd1, rfl, tup.x hb e1, hx1.symm⟩, ?_⟩
      exact q x H1 e1 (hx2.x e1)
def spIsOn (T : List (Addr × Str)) : Sp := fun vs H Q _ => ∃ (u : V) (s : Sta) (x z : Str), vs = [u, .str x, .str z] ∧ StAt H u s ∧ PyData.strOk x = true ∧ PyData.strOk z = true ∧ ∀ (H' : Hp), Ext T [] H H' → Q (.bl (decide ((x, z) ∈ s.on))) H'
theorem ok_is_on (D : Def K mg "is_on" s_is_on ["state", "server", "zone"]) : Ok P w K mg base 1 "is_on" ["state", "server", "zone"] (spIsOn T) := by
  refine D.ok sc_is_on (fun vs H Q E h => ?_) (fun cdv f A outer s H vs Q E hr h => ?_)
  · obtain ⟨u, s, x, z, rfl, _⟩ := h
    rfl
  · obtain ⟨u, s, x, z, rfl, hu, hx, hz, q⟩ := h
    refine ⟨_, (pss_one (ps_ret (pe_cmpR (op_inW K rfl (Room.units65 hr)) (pe_tup (pa_cons (pv 1) (pa_cons (pv 2) pa_nil))) (pe_ix (ix_U K rfl) (pv 0) pe_int (fun _ _ => rfl)) rfl))), ?_⟩
    walk_at "rd"
    walk_at "al"
    rename_i tr H1 _ e1 htr
    obtain ⟨a, ia, oa, xs, o, rfl, ha, hia, hod, hxi, hoa⟩ := hu.x e1
    walk_at "rd"
    refine rd_ixT (v := oa) (SqT.of ha) rfl ?_
    have hrow : Im H1 (.ref tr) (ssD (x, z)) := Im.new2 (.str _ hx) (.str _ hz) htr
    have hdep : PyData.depth (.tuple (s.on.map ssD)) ≤ 64 := by
      show PyData.depthAll (s.on.map ssD) + 1 ≤ 64
      have := dep_map dep_ss s.on
      omega
    refine rd_inWI (b := decide ((x, z) ∈ s.on)) hrow hoa (Nat.le_trans (dep_ss _) (by decide)) hdep (mem_ssD.trans decide_eq_true_iff.symm) ?_
    exact q H1 e1
end

open PySem PySem.Spec PyProof.Rows L2
open PySem.W (EachIs)

/-! ### an own class: made, its fields, its methods -/
section
variable {P : Program} {w : World} {K : PySem.W.Frag} {mg : Str → Option Value} {base : Heap}
def MkO (P : Program) (w : World) (K : PySem.W.Frag) (mg : Str → Option Value) (base : Heap) (k : Nat) (x : Str) (C : Addr) (ps : List Str) (sp : Sp) : Prop :=
  ∃ (f : Addr) (fd : FuncData), Mk K C f ∧ FnOk P w K mg base CX0 k f fd ps sp ∧ mg x = some (.ref C) ∧ Binds K fd ps []
def MeO (P : Program) (w : World) (K : PySem.W.Frag) (mg : Str → Option Value) (base : Heap) (k : Nat) (C : Addr) (m : Str) (ps : List Str) (sp : Sp) : Prop :=
  ∃ (f : Addr) (fd : FuncData), Cls K C ∧ Meth K C m f ∧ FnOk P w K mg base CX0 k f fd ps sp ∧ Binds K fd ps []
variable {X : Cx}
theorem pe_makeO {k : Nat} {C : Addr} {ps : List Str} {sp : Sp} {x : Str} {p pos : Pos} {e : Expr} {es : List Expr} {t : TA} (h : MkO X.prog X.w X.K X.mg X.base k x C ps sp) (hr : Room (k + 1) X.A) (hg : Gl X x) (ha : PA X (e :: es) t)
    (hdb : (x == ("__debug__" : Str)) = false := by decide) (he : starEach (e :: es) X.env = (false, eval e X.env) :: starEach es X.env := by rfl) (hpl : (backTo pos (starEach es X.env)).any (·.1) = false := by rfl) :
    PE X (.Call (.Name x p) (e :: es) [] pos) (tMake C sp [] E0 t) := by
  obtain ⟨f, fd, M, F, hm, hb⟩ := h
  exact pe_make M F hr hg hm hb .nil pass0 ha hdb he hpl
theorem pe_methO {k : Nat} {C : Addr} {ps : List Str} {sp : Sp} {m : Str} {pos apos : Pos} {e o : Expr} {es : List Expr} {ta : TE} {t : TA} {pl : Sem Bool} (h : MeO X.prog X.w X.K X.mg X.base k C m ps sp) (hr : Room k X.A) (ho : PE X o ta) (ha : PA X (e :: es) t)
    (he : starEach (e :: es) X.env = (false, eval e X.env) :: starEach es X.env := by rfl) (hpl : (backTo pos (starEach es X.env)).any (·.1) = false := by rfl)
    (hev : eval ((o.Attribute m apos).Call (e :: es) [] pos) X.env = (do
      let ov ← eval o X.env
      standAt apos.atName
      let __x ← holding [ov] (getMethod ov m pl)
      match __x with
        | (f, first) => callWith pos f first (backTo pos (starEach (e :: es) X.env)) (backToKw pos (keywordEach [] X.env))) := by rfl) :
    PE X ((o.Attribute m apos).Call (e :: es) [] pos) (tMeth C m sp [] E0 ta t) := by
  obtain ⟨f, fd, c, M, F, hb⟩ := h
  exact pe_meth ho c M F hr hb .nil pass0 ha he hpl hev
end
section
variable {K : PySem.W.Frag} {σ : L2.St} {H : Hp} {Q : VK} {ta : TE}
theorem rd_fld {f : Str} (q : ta σ H fun x H1 => ∃ a C dx fs v, x = V.ref a ∧ H1 a = some (HO.ins C dx fs) ∧ Cls K C ∧ NoAttr K C f ∧ fs.lookup f = some v ∧ Q v H1) : tFld K ta f σ H Q := q
theorem rd_meth {C : Addr} {m : Str} {sp : Sp} {E : XK} {t : TA} (q : ta σ H fun x H1 => ∃ a dx fs, x = V.ref a ∧ H1 a = some (HO.ins C dx fs) ∧ fs.lookup m = none ∧ t σ H1 fun vs H2 => sp (x :: (vs ++ [])) H2 Q E) : tMeth C m sp [] E ta t σ H Q := q
theorem rd_make {C : Addr} {sp : Sp} {E : XK} {t : TA} (q : t σ H fun vs H1 => ∀ x dx, H1 x = none → H1 dx = none → dx ≠ x → sp (.ref x :: (vs ++ [])) (upd (upd H1 dx (.own x)) x (.ins C dx [])) (fun v H2 => v = .non ∧ Q (.ref x) H2) E) : tMake C sp [] E t σ H Q := q
end
/-! ### the world -/
def wf (v u x : V) : List (Str × V) := putF "plan" x (putF "state" u (putF "realm" v []))
theorem wf_r (v u x : V) : (wf v u x).lookup ("realm" : Str) = some v := by
  unfold wf
  rw [lookup_putF, if_neg (by decide +kernel), lookup_putF, if_neg (by decide +kernel), lookup_putF, if_pos rfl]
theorem wf_s (v u x : V) : (wf v u x).lookup ("state" : Str) = some u := by
  unfold wf
  rw [lookup_putF, if_neg (by decide +kernel), lookup_putF, if_pos rfl]
theorem wf_p (v u x : V) : (wf v u x).lookup ("plan" : Str) = some x := by
  unfold wf
  rw [lookup_putF, if_pos rfl]
theorem wf_no (v u x : V) {m : Str} (h1 : ¬ m = "plan") (h2 : ¬ m = "state") (h3 : ¬ m = "realm") : (wf v u x).lookup m = none := by
  unfold wf
  rw [lookup_putF, if_neg h1, lookup_putF, if_neg h2, lookup_putF, if_neg h3]
  all_goals rfl
def WAt (H : Hp) (p C : Addr) (v u x : V) : Prop := ∃ dx, H p = some (.ins C dx (wf v u x))
theorem WAt.x {T : List (Addr × Str)} {H H' : Hp} {p C : Addr} {v u x : V} (h : WAt H p C v u x) (e : Ext T [] H H') : WAt H' p C v u x := by
  obtain ⟨dx, h⟩ := h
  exact ⟨dx, e.keep p _ (by simp) (fun _ z => by cases z) h⟩
theorem WAt.y {T : List (Addr × Str)} {H H' : Hp} {l t p C : Addr} {v u x : V} (h : WAt H p C v u x) (e : Ext T [t] H H') (hT : Tape l H t) : WAt H' p C v u x := by
  obtain ⟨dx, h⟩ := h
  refine ⟨dx, e.keep p _ (fun hm => ?_) (fun _ z => by cases z) h⟩
  obtain ⟨xs, h2⟩ := hT.lsts p hm
  rw [h] at h2
  cases h2
structure Wl (K : PySem.W.Frag) (C : Addr) : Prop where
  cl : Cls K C
  nR : NoAttr K C "realm"
  nS : NoAttr K C "state"
  nP : NoAttr K C "plan"
abbrev s_wInit : Stmt := inClass (topS 7) 0
abbrev s_wCur : Stmt := inClass (topS 7) 1
abbrev s_wOn : Stmt := inClass (topS 7) 2
theorem sc_wInit : FnScope ["self", "realm", "state", "plan"] ["self", "realm", "state", "plan"] (defScope s_wInit) := ⟨rfl, rfl, rfl, by decide +kernel, rfl, by decide +kernel, by decide +kernel⟩
theorem sc_wCur : FnScope ["self", "slot", "moment"] ["self", "slot", "moment"] (defScope s_wCur) := ⟨rfl, rfl, rfl, by decide +kernel, rfl, by decide +kernel, by decide +kernel⟩
theorem sc_wOn : FnScope ["self", "server", "zone", "moment"] ["self", "server", "zone", "moment"] (defScope s_wOn) := ⟨rfl, rfl, rfl, by decide +kernel, rfl, by decide +kernel, by decide +kernel⟩
section
variable {T : List (Addr × Str)} {P : Program} {w : World} {K : PySem.W.Frag} {mg : Str → Option Value} {base : Heap}
local macro_rules | `(tactic| walk_at "tr") => `(tactic| first
  | assumption
  | exact Ext.refl
  | ((with_reducible refine' Im.x (T := T) (H := ?trH) ?tra ?tre); (case tre => assumption); (case tra => walk_at "tr"))
  | ((with_reducible refine' Im.y (T := T) (H := ?trH) ?tra ?tre ?trt); (case tre => assumption); (case trt => walk_at "tr"); (case tra => walk_at "tr"))
  | ((with_reducible refine' ImAll.x (T := T) (H := ?trH) ?tra ?tre); (case tre => assumption); (case tra => walk_at "tr"))
  | ((with_reducible refine' ImAll.y (T := T) (H := ?trH) ?tra ?tre ?trt); (case tre => assumption); (case trt => walk_at "tr"); (case tra => walk_at "tr"))
  | ((with_reducible refine' Ls.x (T := T) (H := ?trH) ?tra ?tre); (case tre => assumption); (case tra => walk_at "tr"))
  | ((with_reducible refine' Ls.y (T := T) (H := ?trH) ?tra ?tre ?trn ?trt); (case tre => assumption); (case trt => walk_at "tr"); (case trn => walk_at "tr"); (case tra => walk_at "tr"))
  | ((with_reducible refine' SqP.x (T := T) (H := ?trH) ?tra ?tre); (case tre => assumption); (case tra => walk_at "tr"))
  | ((with_reducible refine' SqP.y (T := T) (H := ?trH) ?tra ?tre ?trt); (case tre => assumption); (case trt => walk_at "tr"); (case tra => walk_at "tr"))
  | ((with_reducible refine' StAt.x (T := T) (H := ?trH) ?tra ?tre); (case tre => assumption); (case tra => walk_at "tr"))
  | ((with_reducible refine' StAt.y (T := T) (H := ?trH) ?tra ?tre ?trt); (case tre => assumption); (case trt => walk_at "tr"); (case tra => walk_at "tr"))
  | ((with_reducible refine' Pools.ext0 (T := T) (H := ?trH) ?tra ?tre); (case tre => assumption); (case tra => walk_at "tr"))
  | ((with_reducible refine' Pools.ext (T := T) (H := ?trH) ?tra ?tre ?trt); (case tre => assumption); (case trt => walk_at "tr"); (case tra => walk_at "tr"))
  | ((with_reducible refine' CL.x (T := T) (H := ?trH) ?tra ?tre); (case tre => assumption); (case tra => walk_at "tr"))
  | ((with_reducible refine' CL.y (T := T) (H := ?trH) ?tra ?tre); (case tre => assumption); (case tra => walk_at "tr"))
  | ((with_reducible refine' Tape.ext (T := T) (H := ?trH) ?tra ?tre); (case tre => assumption); (case tra => walk_at "tr"))
  | ((with_reducible refine' lst.x (T := T) (H := ?trH) ?tra ?tre); (case tre => assumption); (case tra => walk_at "tr"))
  | ((with_reducible refine' lst.y (T := T) (H := ?trH) ?tra ?tre ?trn); (case tre => assumption); (case trn => walk_at "tr"); (case tra => walk_at "tr"))
  | ((with_reducible refine' tup.x (T := T) (H := ?trH) ?tra ?tre); (case tre => assumption); (case tra => walk_at "tr"))
  | ((with_reducible refine' tup.y (T := T) (H := ?trH) ?tra ?tre ?trt); (case tre => assumption); (case trt => walk_at "tr"); (case tra => walk_at "tr"))
  | ((with_reducible refine' frz.x (T := T) (H := ?trH) ?tra ?tre); (case tre => assumption); (case tra => walk_at "tr"))
  | ((with_reducible refine' frz.y (T := T) (H := ?trH) ?tra ?tre ?trt); (case tre => assumption); (case trt => walk_at "tr"); (case tra => walk_at "tr"))
  | ((with_reducible refine' Im.z (T := T) (H := ?trH) ?tra ?tre ?trt); (case tre => assumption); (case trt => assumption); (case tra => walk_at "tr"))
  | ((with_reducible refine' ImAll.z (T := T) (H := ?trH) ?tra ?tre ?trt); (case tre => assumption); (case trt => assumption); (case tra => walk_at "tr"))
  | ((with_reducible refine' StAt.z (T := T) (H := ?trH) ?tra ?tre ?trt); (case tre => assumption); (case trt => assumption); (case tra => walk_at "tr"))
  | ((with_reducible refine' SqP.z (T := T) (H := ?trH) ?tra ?tre ?trt); (case tre => assumption); (case trt => assumption); (case tra => walk_at "tr"))
  | ((with_reducible refine' tup.z (T := T) (H := ?trH) ?tra ?tre ?trt); (case tre => assumption); (case trt => assumption); (case tra => walk_at "tr"))
  | ((with_reducible refine' Ls.z (T := T) (H := ?trH) ?tra ?tre ?trt ?trn); (case tre => assumption); (case trt => assumption); (case trn => assumption); (case tra => walk_at "tr"))
  | ((with_reducible refine' lst.z (T := T) (H := ?trH) ?tra ?tre ?trn); (case tre => assumption); (case trn => assumption); (case tra => walk_at "tr"))
  | ((with_reducible refine' CL.z (T := T) (H := ?trH) ?tra ?tre ?trn); (case tre => assumption); (case trn => assumption); (case tra => walk_at "tr"))
  | ((with_reducible refine' Tape.ne1 (H := ?trH) ?trt ?trn); (case trn => assumption); (case trt => walk_at "tr"))
  | ((with_reducible refine' Ext.trans (H1 := ?trH) ?tra (Ext.any ?tre)); (case tre => assumption); (case tra => walk_at "tr"))
  | ((with_reducible refine' Ext.trans (H1 := ?trH) ?tra ?tre); (case tre => assumption); (case tra => walk_at "tr"))
  | ((with_reducible refine' Ext.back1 (T := T) (H1 := ?trH) ?tre ?trn ?tra); (case tra => assumption); (case trn => walk_at "tr"); (case tre => walk_at "tr"))
  | ((with_reducible refine' Ext.back0 (T := T) (H1 := ?trH) ?tre ?tra); (case tra => assumption); (case tre => walk_at "tr"))
  | ((with_reducible refine' SqT.of ?tra); (case tra => walk_at "tr"))
  | ((with_reducible refine' SqL.of ?tra); (case tra => walk_at "tr")))
local macro_rules | `(tactic| walk_at "al") => `(tactic| (refine ⟨by first | (show _ ≤ sizeLine; decide) | walk_at "sz", ?_⟩; intro alp aln; generalize alG : upd _ alp _ = alH; obtain ⟨aln2, alx, alh⟩ := al_of (T := T) aln alG; clear alG aln))
local macro_rules | `(tactic| walk_at "al0") => `(tactic| (intro alp aln; generalize alG : upd _ alp _ = alH; obtain ⟨aln2, alx, alh⟩ := al_of (T := T) aln alG; clear alG aln))

def spInit (C : Addr) : Sp := fun vs H Q _ => ∃ (p dx : Addr) (v u x : V), vs = [.ref p, v, u, x] ∧ H p = some (.ins C dx []) ∧ ∀ H' : Hp, H' p = some (.ins C dx (wf v u x)) → (∀ b o, b ≠ p → H b = some o → H' b = some o) → Q .non H'
theorem ok_wInit {f C : Addr} {fd : FuncData} (F : Fun K "__init__" "World.__init__" s_wInit f fd) (W : Wl K C) : FnOk P w K mg base CX0 1 f fd ["self", "realm", "state", "plan"] (spInit C) := by
  refine F.ok sc_wInit (fun vs H Q E h => ?_) (fun cdv A outer s H vs Q E hr h => ?_)
  · obtain ⟨p, dx, v, u, x, rfl, _⟩ := h
    rfl
  · obtain ⟨p, dx, v, u, x, rfl, hp, q⟩ := h
    refine ⟨_, pss_cons (ps_fld (pv 0) (pv 1) rfl) (pss_cons (ps_fld (pv 0) (pv 2) rfl) (pss_one (ps_fld (pv 0) (pv 3) rfl))), ?_⟩
    refine ⟨_, rfl, _, rfl, p, C, dx, _, rfl, hp, W.cl, W.nR, (by show 0 < 1000; decide), ?_⟩
    refine ⟨_, rfl, _, rfl, p, C, dx, _, rfl, upd_same, W.cl, W.nS, (by show 1 < 1000; decide), ?_⟩
    refine ⟨_, rfl, _, rfl, p, C, dx, _, rfl, upd_same, W.cl, W.nP, ?_, ?_⟩
    · have : (putF ("state" : Str) u (putF ("realm" : Str) v [])).length ≤ 2 := by
        show (if ("realm" : Str) = "state" then [(("realm" : Str), u)] else (("realm" : Str), v) :: putF "state" u []).length ≤ 2
        rw [if_neg (by decide +kernel)]
        exact Nat.le_refl 2
      exact Nat.lt_of_le_of_lt this (by decide)
    · exact q _ upd_same fun b o hb h => by rw [upd_ne hb, upd_ne hb, upd_ne hb]; exact h
def spCur (T : List (Addr × Str)) (C : Addr) : Sp := fun vs H Q _ => ∃ (p : Addr) (v u x sv : V) (s : Sta) (pl : List (Int × Dd)) (m : Int) (sl : Sl) (i : Itm), vs = [.ref p, sv, .int m] ∧ WAt H p C v u x ∧ StAt H u s ∧ Im H x (.tuple (pl.map plD)) ∧ s.its.length ≤ 100 ∧ s.on.length ≤ 400 ∧ pl.length ≤ 50 ∧
  (s.its.map (·.1)).Nodup ∧ Im H sv (slD sl) ∧ (sl, i) ∈ (stM s pl m).its ∧ ∀ (y : V) (H' : Hp), Ext T [] H H' → Im H' y (itD i) → Q y H'
theorem ok_wCur {f C : Addr} {fd : FuncData} (F : Fun K "current" "World.current" s_wCur f fd) (W : Wl K C) (G_item_of : Ok P w K mg base 1 "item_of" ["state", "slot"] (spItemOf T)) (G_state_at : Ok P w K mg base 2 "state_at" ["realm", "state", "plan", "moment"] (spStateAt T)) :
    FnOk P w K mg base CX0 3 f fd ["self", "slot", "moment"] (spCur T C) := by
  refine F.ok sc_wCur (fun vs H Q E h => ?_) (fun cdv A outer s H vs Q E hr h => ?_)
  · obtain ⟨p, v, u, x, sv, s, pl, m, sl, i, rfl, _⟩ := h
    rfl
  · obtain ⟨p, v, u, x, sv, s, pl, m, sl, i, rfl, ⟨dx, hp⟩, hu, hx, hil, hol, hpl, hn, hsv, hm, q⟩ := h
    refine ⟨_, pss_one (ps_ret (pe_callO G_item_of (hr.mono (by decide)) (by rfl) (pa_cons (pe_callO G_state_at (hr.mono (by decide)) (by rfl) (pa_cons (pe_fld (pv 0) rfl) (pa_cons (pe_fld (pv 0) rfl) (pa_cons (pe_fld (pv 0) rfl) (pa_cons (pv 2) pa_nil))))) (pa_cons (pv 1) pa_nil)))), ?_⟩
    walk_at "rd"
    refine rd_fld ?_
    walk_at "rd"
    refine ⟨p, C, dx, _, v, rfl, hp, W.cl, W.nR, wf_r _ _ _, ?_⟩
    walk_at "rd"
    refine rd_fld ?_
    walk_at "rd"
    refine ⟨p, C, dx, _, u, rfl, hp, W.cl, W.nS, wf_s _ _ _, ?_⟩
    walk_at "rd"
    refine rd_fld ?_
    walk_at "rd"
    refine ⟨p, C, dx, _, x, rfl, hp, W.cl, W.nP, wf_p _ _ _, ?_⟩
    walk_at "rd"
    refine ⟨v, u, x, s, pl, m, rfl, hu, hx, hil, hol, hpl, fun y H1 e1 hy => ?_⟩
    walk_at "rd"
    have hk := stM_its s m pl
    have hkl := congrArg List.length hk
    rw [List.length_map, List.length_map] at hkl
    refine ⟨y, sv, stM s pl m, sl, i, rfl, hy, hsv.x e1, hm, by rw [hk]; exact hn, by omega, fun z H2 e2 hz => q z H2 (e1.trans e2) hz⟩
def spOnM (T : List (Addr × Str)) (C : Addr) : Sp := fun vs H Q _ => ∃ (p : Addr) (v u x : V) (s : Sta) (pl : List (Int × Dd)) (m : Int) (a z : Str), vs = [.ref p, .str a, .str z, .int m] ∧ WAt H p C v u x ∧ StAt H u s ∧ Im H x (.tuple (pl.map plD)) ∧ s.its.length ≤ 100 ∧ s.on.length ≤ 400 ∧ pl.length ≤ 50 ∧
  PyData.strOk a = true ∧ PyData.strOk z = true ∧ ∀ (H' : Hp), Ext T [] H H' → Q (.bl (decide ((a, z) ∈ (stM s pl m).on))) H'
theorem ok_wOn {f C : Addr} {fd : FuncData} (F : Fun K "is_on" "World.is_on" s_wOn f fd) (W : Wl K C) (G_is_on_realms : Ok P w K mg base 1 "is_on_realms" ["state", "server", "zone"] (spIsOn T)) (G_state_at : Ok P w K mg base 2 "state_at" ["realm", "state", "plan", "moment"] (spStateAt T)) :
    FnOk P w K mg base CX0 3 f fd ["self", "server", "zone", "moment"] (spOnM T C) := by
  refine F.ok sc_wOn (fun vs H Q E h => ?_) (fun cdv A outer s H vs Q E hr h => ?_)
  · obtain ⟨p, v, u, x, s, pl, m, a, z, rfl, _⟩ := h
    rfl
  · obtain ⟨p, v, u, x, s, pl, m, a, z, rfl, ⟨dx, hp⟩, hu, hx, hil, hol, hpl, ha, hz, q⟩ := h
    refine ⟨_, pss_one (ps_ret (pe_callO G_is_on_realms (hr.mono (by decide)) (by rfl) (pa_cons (pe_callO G_state_at (hr.mono (by decide)) (by rfl) (pa_cons (pe_fld (pv 0) rfl) (pa_cons (pe_fld (pv 0) rfl) (pa_cons (pe_fld (pv 0) rfl) (pa_cons (pv 3) pa_nil))))) (pa_cons (pv 1) (pa_cons (pv 2) pa_nil))))), ?_⟩
    walk_at "rd"
    refine rd_fld ?_
    walk_at "rd"
    refine ⟨p, C, dx, _, v, rfl, hp, W.cl, W.nR, wf_r _ _ _, ?_⟩
    walk_at "rd"
    refine rd_fld ?_
    walk_at "rd"
    refine ⟨p, C, dx, _, u, rfl, hp, W.cl, W.nS, wf_s _ _ _, ?_⟩
    walk_at "rd"
    refine rd_fld ?_
    walk_at "rd"
    refine ⟨p, C, dx, _, x, rfl, hp, W.cl, W.nP, wf_p _ _ _, ?_⟩
    walk_at "rd"
    refine ⟨v, u, x, s, pl, m, rfl, hu, hx, hil, hol, hpl, fun y H1 e1 hy => ?_⟩
    walk_at "rd"
    exact ⟨y, stM s pl m, a, z, rfl, hy, ha, hz, fun H2 e2 => q H2 (e1.trans e2)⟩
end

open PySem PySem.Spec PyProof.Rows L2
open PySem.W (EachIs)

section
variable {T : List (Addr × Str)} {P : Program} {w : World} {K : PySem.W.Frag} {mg : Str → Option Value} {base : Heap}
local macro_rules | `(tactic| walk_at "tr") => `(tactic| first
  | assumption
  | exact Ext.refl
  | ((with_reducible refine' Im.x (T := T) (H := ?trH) ?tra ?tre); (case tre => assumption); (case tra => walk_at "tr"))
  | ((with_reducible refine' Im.y (T := T) (H := ?trH) ?tra ?tre ?trt); (case tre => assumption); (case trt => walk_at "tr"); (case tra => walk_at "tr"))
  | ((with_reducible refine' ImAll.x (T := T) (H := ?trH) ?tra ?tre); (case tre => assumption); (case tra => walk_at "tr"))
  | ((with_reducible refine' ImAll.y (T := T) (H := ?trH) ?tra ?tre ?trt); (case tre => assumption); (case trt => walk_at "tr"); (case tra => walk_at "tr"))
  | ((with_reducible refine' Ls.x (T := T) (H := ?trH) ?tra ?tre); (case tre => assumption); (case tra => walk_at "tr"))
  | ((with_reducible refine' Ls.y (T := T) (H := ?trH) ?tra ?tre ?trn ?trt); (case tre => assumption); (case trt => walk_at "tr"); (case trn => walk_at "tr"); (case tra => walk_at "tr"))
  | ((with_reducible refine' SqP.x (T := T) (H := ?trH) ?tra ?tre); (case tre => assumption); (case tra => walk_at "tr"))
  | ((with_reducible refine' SqP.y (T := T) (H := ?trH) ?tra ?tre ?trt); (case tre => assumption); (case trt => walk_at "tr"); (case tra => walk_at "tr"))
  | ((with_reducible refine' StAt.x (T := T) (H := ?trH) ?tra ?tre); (case tre => assumption); (case tra => walk_at "tr"))
  | ((with_reducible refine' StAt.y (T := T) (H := ?trH) ?tra ?tre ?trt); (case tre => assumption); (case trt => walk_at "tr"); (case tra => walk_at "tr"))
  | ((with_reducible refine' Pools.ext0 (T := T) (H := ?trH) ?tra ?tre); (case tre => assumption); (case tra => walk_at "tr"))
  | ((with_reducible refine' Pools.ext (T := T) (H := ?trH) ?tra ?tre ?trt); (case tre => assumption); (case trt => walk_at "tr"); (case tra => walk_at "tr"))
  | ((with_reducible refine' CL.x (T := T) (H := ?trH) ?tra ?tre); (case tre => assumption); (case tra => walk_at "tr"))
  | ((with_reducible refine' CL.y (T := T) (H := ?trH) ?tra ?tre); (case tre => assumption); (case tra => walk_at "tr"))
  | ((with_reducible refine' Tape.ext (T := T) (H := ?trH) ?tra ?tre); (case tre => assumption); (case tra => walk_at "tr"))
  | ((with_reducible refine' lst.x (T := T) (H := ?trH) ?tra ?tre); (case tre => assumption); (case tra => walk_at "tr"))
  | ((with_reducible refine' lst.y (T := T) (H := ?trH) ?tra ?tre ?trn); (case tre => assumption); (case trn => walk_at "tr"); (case tra => walk_at "tr"))
  | ((with_reducible refine' tup.x (T := T) (H := ?trH) ?tra ?tre); (case tre => assumption); (case tra => walk_at "tr"))
  | ((with_reducible refine' tup.y (T := T) (H := ?trH) ?tra ?tre ?trt); (case tre => assumption); (case trt => walk_at "tr"); (case tra => walk_at "tr"))
  | ((with_reducible refine' frz.x (T := T) (H := ?trH) ?tra ?tre); (case tre => assumption); (case tra => walk_at "tr"))
  | ((with_reducible refine' frz.y (T := T) (H := ?trH) ?tra ?tre ?trt); (case tre => assumption); (case trt => walk_at "tr"); (case tra => walk_at "tr"))
  | ((with_reducible refine' Im.z (T := T) (H := ?trH) ?tra ?tre ?trt); (case tre => assumption); (case trt => assumption); (case tra => walk_at "tr"))
  | ((with_reducible refine' ImAll.z (T := T) (H := ?trH) ?tra ?tre ?trt); (case tre => assumption); (case trt => assumption); (case tra => walk_at "tr"))
  | ((with_reducible refine' StAt.z (T := T) (H := ?trH) ?tra ?tre ?trt); (case tre => assumption); (case trt => assumption); (case tra => walk_at "tr"))
  | ((with_reducible refine' SqP.z (T := T) (H := ?trH) ?tra ?tre ?trt); (case tre => assumption); (case trt => assumption); (case tra => walk_at "tr"))
  | ((with_reducible refine' tup.z (T := T) (H := ?trH) ?tra ?tre ?trt); (case tre => assumption); (case trt => assumption); (case tra => walk_at "tr"))
  | ((with_reducible refine' Ls.z (T := T) (H := ?trH) ?tra ?tre ?trt ?trn); (case tre => assumption); (case trt => assumption); (case trn => assumption); (case tra => walk_at "tr"))
  | ((with_reducible refine' lst.z (T := T) (H := ?trH) ?tra ?tre ?trn); (case tre => assumption); (case trn => assumption); (case tra => walk_at "tr"))
  | ((with_reducible refine' CL.z (T := T) (H := ?trH) ?tra ?tre ?trn); (case tre => assumption); (case trn => assumption); (case tra => walk_at "tr"))
  | ((with_reducible refine' Tape.ne1 (H := ?trH) ?trt ?trn); (case trn => assumption); (case trt => walk_at "tr"))
  | ((with_reducible refine' Ext.trans (H1 := ?trH) ?tra (Ext.any ?tre)); (case tre => assumption); (case tra => walk_at "tr"))
  | ((with_reducible refine' Ext.trans (H1 := ?trH) ?tra ?tre); (case tre => assumption); (case tra => walk_at "tr"))
  | ((with_reducible refine' Ext.back1 (T := T) (H1 := ?trH) ?tre ?trn ?tra); (case tra => assumption); (case trn => walk_at "tr"); (case tre => walk_at "tr"))
  | ((with_reducible refine' Ext.back0 (T := T) (H1 := ?trH) ?tre ?tra); (case tra => assumption); (case tre => walk_at "tr"))
  | ((with_reducible refine' SqT.of ?tra); (case tra => walk_at "tr"))
  | ((with_reducible refine' SqL.of ?tra); (case tra => walk_at "tr")))
local macro_rules | `(tactic| walk_at "al") => `(tactic| (refine ⟨by first | (show _ ≤ sizeLine; decide) | walk_at "sz", ?_⟩; intro alp aln; generalize alG : upd _ alp _ = alH; obtain ⟨aln2, alx, alh⟩ := al_of (T := T) aln alG; clear alG aln))
local macro_rules | `(tactic| walk_at "al0") => `(tactic| (intro alp aln; generalize alG : upd _ alp _ = alH; obtain ⟨aln2, alx, alh⟩ := al_of (T := T) aln alG; clear alG aln))

theorem dep_rm (R : Rm) : (rmD R).depth ≤ 60 := by
  show max (PyData.depthAll (R.zs.map siD) + 1) (max (PyData.depthAll (R.an.map .str) + 1) (max (PyData.depthAll (R.ss.map ssD) + 1) 0)) + 1 ≤ 60
  have h1 := dep_map dep_si R.zs
  have h2 := dep_strs0 R.an
  have h3 := dep_map dep_ss R.ss
  omega
theorem dep_dd (d : Dd) : (ddD d).depth ≤ 4 := by
  cases d with
  | put s i =>
    show max (PyData.depth (.str _)) (max (slD s).depth (max (itD i).depth 0)) + 1 ≤ 4
    have h1 := dep_sl s
    have h2 := dep_it i
    have h3 : PyData.depth (.str (Str.ofString "put")) = 0 := rfl
    omega
  | on x z => show 0 + 1 ≤ 4; decide
  | off x z => show 0 + 1 ≤ 4; decide
theorem dep_pl (p : Int × Dd) : (plD p).depth ≤ 5 := by
  show max (PyData.depth (.int p.1)) (max (ddD p.2).depth 0) + 1 ≤ 5
  have h1 := dep_dd p.2
  have h3 : PyData.depth (.int p.1) = 0 := rfl
  omega
theorem dep_pls (pl : List (Int × Dd)) : PyData.depth (.tuple (pl.map plD)) ≤ 64 := by
  show PyData.depthAll (pl.map plD) + 1 ≤ 64
  have := dep_map dep_pl pl
  omega
theorem dep_row2 (r : Sl × Itm) : (rowD2 r).depth ≤ 3 := by
  show max (slD r.1).depth (max (itD r.2).depth 0) + 1 ≤ 3
  have h1 := dep_sl r.1
  have h2 := dep_it r.2
  omega
theorem dep_st (s : Sta) : (stD s).depth ≤ 64 := by
  show max (PyData.depthAll (s.its.map rowD2) + 1) (max (PyData.depthAll (s.on.map ssD) + 1) 0) + 1 ≤ 64
  have h1 := dep_map dep_row2 s.its
  have h2 := dep_map dep_ss s.on
  omega
theorem StAt.dp {H : Hp} {v : V} {s : Sta} (h : StAt H v s) : Dp K H v (stD s) ∧ SeqAt.shaped (stD s) = true ∧ PyData.eqv (stD s) (stD s) = true := by
  obtain ⟨a, ia, oa, xs, o, rfl, ha, hia, hod, hxi, hoa⟩ := h
  refine ⟨.tup (SqT.of ha) (.cons (.tup (SqF hia) hxi.dp) (.cons hoa.dp .nil)), ?_, ?_⟩
  · unfold SeqAt.shaped
    rw [show PyData.canLay0 (stD s) = true from ?_, decide_eq_true (dep_st s)]
    · rfl
    · show (PyData.canLay0 (.tuple (s.its.map rowD2)) && (PyData.canLay0 (.tuple (s.on.map ssD)) && true)) = true
      rw [show PyData.canLay0 (.tuple (s.its.map rowD2)) = true from ImAll.lay _ _ hxi, show PyData.canLay0 (.tuple (s.on.map ssD)) = true from Im.lay _ _ hoa]
      rfl
  · show (PyData.eqvAll (s.its.map rowD2) (s.its.map rowD2) && (PyData.eqv (.tuple (s.on.map ssD)) (.tuple (s.on.map ssD)) && true)) = true
    rw [(ImAll.eqv _ _ _ _ hxi hxi).mpr rfl, (Im.eqv _ _ _ _ hoa hoa).mpr rfl]
    rfl
theorem rd_neSt {H : Hp} {Q : VK} {v : V} {s : Sta} (h : StAt H v s) (q : Q (.bl false) H) : rNeU K v v H Q := by
  obtain ⟨h1, h2, h3⟩ := StAt.dp (K := K) h
  refine .inr ⟨_, _, h1, h1, h2, h2, ?_⟩
  rw [h3]
  exact q
theorem rd_neBl {H : Hp} {Q : VK} {a b : Bool} (q : Q (.bl (!decide (a = b))) H) : rNeU K (.bl a) (.bl b) H Q := .inl ⟨rfl, by rw [dec_bl]; exact q⟩
def spLaw (T : List (Addr × Str)) (K : PySem.W.Frag) : Sp := fun vs H Q _ => ∃ (a : Addr) (ns : List Int), vs = [.ref a] ∧ SqL K H a (ns.map V.int) ∧ ns.length ≤ 63 ∧ ∀ H', Q (.bl true) H'
theorem ok_law {f C : Addr} {fd : FuncData} (F : Fun K "law" "law" s_law f fd) (mb : ∀ x ∈ bltns, mg x = none) (W : Wl K C)
    (G_law_tape : Ok P w K mg base 1 "_law_tape" ["script", "budget"] (spTape T K)) (G_law_take : Ok P w K mg base 2 "_law_take" ["tape", "many"] (spTake T)) (G_law_world : Ok P w K mg base 9 "_law_world" ["tape", "many"] (spWorld T))
    (G_law_state_at : Ok P w K mg base 2 "_law_state_at" ["state", "plan", "moment"] (spLawState T)) (C_World : MkO P w K mg base 1 "World" C ["self", "realm", "state", "plan"] (spInit C))
    (M_current : MeO P w K mg base 3 C "current" ["self", "slot", "moment"] (spCur T C)) (M_is_on : MeO P w K mg base 3 C "is_on" ["self", "server", "zone", "moment"] (spOnM T C)) : FnOk P w K mg base CX0 10 f fd ["script"] (spLaw T K) := by
  refine F.ok sc_law (fun vs H Q E h => ?_) (fun cdv A outer s H vs Q E hr h => ?_)
  · obtain ⟨a, ns, rfl, _⟩ := h
    rfl
  · obtain ⟨a, ns, rfl, ha, hl, q⟩ := h
    refine ⟨_, (pss_cons (ps_set (i := 1) sc_law.nd rfl (.inl rfl) (pe_callO G_law_tape (hr.mono (by decide)) (by rfl) (pa_cons (pv 0) (pa_cons pe_int pa_nil))))
   (pss_cons (ps_asg (pe_callO G_law_world (hr.mono (by decide)) (by rfl) (pa_cons (pv 1) (pa_cons pe_int pa_nil))) (pg_tupU (n := 3) K rfl rfl (pgs_cons (pg_name (i := 2) sc_law.nd rfl (.inl rfl)) (pgs_cons (pg_name (i := 3) sc_law.nd rfl (.inl rfl)) (pgs_cons (pg_name (i := 4) sc_law.nd rfl (.inl rfl)) pgs_nil)))))
   (pss_cons (ps_set (i := 5) sc_law.nd rfl (.inl rfl) (pe_makeO C_World (hr.mono (by decide)) (by rfl) (pa_cons (pv 2) (pa_cons (pv 3) (pa_cons (pv 4) pa_nil)))))
   (pss_cons (ps_if (PW.pt (pw_or (pt_cmpR (op_neU K rfl hr.units) (pe_fld (pv 5) rfl) (pv 2) (nomark _)) (pw_or (pt_cmpR (op_neU K rfl hr.units) (pe_fld (pv 5) rfl) (pv 3) (nomark _)) (pw_or1 (pt_cmpR (op_neU K rfl hr.units) (pe_fld (pv 5) rfl) (pv 4) (nomark _)))))) (pss_one (ps_ret pe_bl)) pss_nil)
   (pss_cons (ps_set (i := 6) sc_law.nd rfl (.inl rfl) (pe_lst (pa_cons (pe_un un_neg pe_int) (pa_cons pe_int (pa_cons pe_int pa_nil)))))
   (pss_cons (ps_for PassesOwn.never rfl (pi_seq K rfl (pv 4)) (pg_tupU (n := 2) K rfl rfl (pgs_cons (pg_name (i := 7) sc_law.nd rfl (.inl rfl)) (pgs_cons (pg_name (i := 8) sc_law.nd rfl (.inl rfl)) pgs_nil))) (pss_one (ps_set (i := 6) sc_law.nd rfl (.inl rfl) (pe_op (op_plus K rfl) (pv 6) (pe_lst (pa_cons (pe_op op_sub (pv 7) pe_int) (pa_cons (pv 7) (pa_cons (pe_op (op_plus K rfl) (pv 7) pe_int) pa_nil))))))))
   (pss_cons (ps_for PassesOwn.never rfl (pi_range1 (by rfl) (mb _ (by decide)) (pa_cons pe_int pa_nil)) (pg_name (i := 9) sc_law.nd rfl (.inl rfl)) (pss_cons (ps_set (i := 10) sc_law.nd rfl (.inl rfl) (pe_ix (ix_U K rfl) (pv 6) (pe_callO G_law_take (hr.mono (by decide)) (by rfl) (pa_cons (pv 1) (pa_cons (pe_callB (call_lenU K rfl) (by rfl) (mb _ (by decide)) (by decide +kernel) (pa_cons (pv 6) pa_nil)) pa_nil))) (fun _ _ => rfl)))
   (pss_cons (ps_set (i := 11) sc_law.nd rfl (.inl rfl) (pe_callO G_law_state_at (hr.mono (by decide)) (by rfl) (pa_cons (pv 3) (pa_cons (pv 4) (pa_cons (pv 10) pa_nil)))))
   (pss_cons (ps_for PassesOwn.never rfl (pi_seq K rfl (pe_ix (ix_U K rfl) (pv 11) pe_int (fun _ _ => rfl))) (pg_tupU (n := 2) K rfl rfl (pgs_cons (pg_name (i := 12) sc_law.nd rfl (.inl rfl)) (pgs_cons (pg_name (i := 13) sc_law.nd rfl (.inl rfl)) pgs_nil))) (pss_one (ps_if (pt_cmpR (op_neU K rfl hr.units) (pe_methO M_current (hr.mono (by decide)) (pv 5) (pa_cons (pv 12) (pa_cons (pv 10) pa_nil))) (pv 13) (nomark _)) (pss_one (ps_ret pe_bl)) pss_nil)))
   (pss_one (ps_for PassesOwn.never rfl (pi_seq K rfl (pe_slice (sl_U K rfl) (pe_ix (ix_U K rfl) (pv 2) pe_int (fun _ _ => rfl)) (po_some pe_int) po_none)) (pg_tupU (n := 2) K rfl rfl (pgs_cons (pg_name (i := 14) sc_law.nd rfl (.inl rfl)) (pgs_cons (pg_name (i := 15) sc_law.nd rfl (.inl rfl)) pgs_nil))) (pss_one (ps_for PassesOwn.never rfl (pi_seq K rfl (pe_tup (pa_cons pe_str (pa_cons pe_str (pa_cons pe_str (pa_cons pe_str (pa_cons pe_str pa_nil))))))) (pg_name (i := 16) sc_law.nd rfl (.inl rfl)) (pss_cons (ps_set (i := 17) sc_law.nd rfl (.inl rfl) (pe_methO M_is_on (hr.mono (by decide)) (pv 5) (pa_cons (pv 16) (pa_cons (pv 14) (pa_cons (pv 10) pa_nil)))))
   (pss_one (ps_if (PW.pt (pw_or (pt_not (pt_E (pe_callB (call_isiU K rfl) (by rfl) (mb _ (by decide)) (by decide +kernel) (pa_cons (pv 17) (pa_cons (pe_bltn (v := .ty "bool") (u := .type "bool") (by rfl) (mb _ (by decide)) (by decide +kernel) rfl) pa_nil))))) (pw_or1 (pt_cmpR (op_neU K rfl hr.units) (pv 17) (pe_cmpR (op_inW K rfl (Room.units65 hr)) (pe_tup (pa_cons (pv 16) (pa_cons (pv 14) pa_nil))) (pe_ix (ix_U K rfl) (pv 11) pe_int (fun _ _ => rfl)) rfl) (nomark _))))) (pss_one (ps_ret pe_bl)) pss_nil)))))))))))
   (pss_one (ps_ret pe_bl))))))))), ?_⟩
    walk_at "rdn"
    refine rd_seq ?_
    walk_at "rdn"
    refine ⟨a, ns, 0, rfl, ha, hl, fun t l H1 nt e1 T1 => ?_⟩
    walk_at "rdn"
    refine rd_seq ?_
    walk_at "rdn"
    refine ⟨l, t, 12, rfl, by decide, by decide, T1, fun wp v u x R s pl H2 hwp hRo hv hu hs hon hx hok hasc hpl e2 T2 => ?_⟩
    have hR := hRo.rin (by decide)
    refine rd_gtup (SqT.of hwp) rfl ?_
    walk_at "rdn"
    refine rd_seq ?_
    walk_at "rdn"
    refine rd_make ?_
    walk_at "rdn"
    intro p dx np ndx hne
    refine ⟨p, dx, v, u, x, rfl, upd_same, fun H3 hp3 hk3 => ⟨rfl, ?_⟩⟩
    have s3 : Same H2 H3 := fun b o e => hk3 b o (ne_of_none e np) (by rw [upd_ne (ne_of_none e np), upd_ne (ne_of_none e ndx)]; exact e)
    have e3 : Ext T [] H2 H3 := .same s3
    have hW : WAt H3 p C v u x := ⟨dx, hp3⟩
    have T3 : Tape l H3 t := by walk_at "tr"
    have hv3 : Im H3 v (rmD R) := by walk_at "tr"
    have hu3 : StAt H3 u s := by walk_at "tr"
    have hx3 : Im H3 x (.tuple (pl.map plD)) := by walk_at "tr"
    have hsl : s.its.length ≤ 100 := sta_len hR hs (slots_len hR)
    have hsn := sta_nodup hR hs
    clear hv hu hx hk3 hp3 s3 e3 e2 e1 T1 T2 hwp np ndx hne
    walk_at "rdn"
    refine rd_seq ?_
    walk_at "rd"
    refine rd_fld ?_
    walk_at "rd"
    refine ⟨p, C, _, _, v, rfl, hW.choose_spec, W.cl, W.nR, wf_r _ _ _, ?_⟩
    walk_at "rd"
    refine rd_neI (b := true) hv3 hv3 (Nat.le_trans (dep_rm R) (by decide)) (Nat.le_trans (dep_rm R) (by decide)) (by simp) ?_
    walk_at "rd"
    refine rd_fld ?_
    walk_at "rd"
    refine ⟨p, C, _, _, u, rfl, hW.choose_spec, W.cl, W.nS, wf_s _ _ _, ?_⟩
    walk_at "rd"
    refine rd_neSt hu3 ?_
    walk_at "rd"
    refine rd_fld ?_
    walk_at "rd"
    refine ⟨p, C, _, _, x, rfl, hW.choose_spec, W.cl, W.nP, wf_p _ _ _, ?_⟩
    walk_at "rd"
    refine rd_neI (b := true) hx3 hx3 (dep_pls pl) (dep_pls pl) (by simp) ?_
    walk_at "rd"
    walk_at "al"
    rename_i pm H4 npm e4 hpm
    have hpm4 : H4 pm = some (.lst ([-7, 0, 9999].map V.int)) := hpm
    have hpmt : pm ≠ t := (T3.ne npm).1
    have hW4 := hW.x e4
    have T4 : Tape l H4 t := by walk_at "tr"
    have hv4 : Im H4 v (rmD R) := by walk_at "tr"
    have hu4 : StAt H4 u s := by walk_at "tr"
    have hx4 : Im H4 x (.tuple (pl.map plD)) := by walk_at "tr"
    clear hW T3 hv3 hu3 hx3 e4 hpm
    obtain ⟨pp, px, rfl, hpp, hpi⟩ := hx4.tup'
    have hpxl : px.length = pl.length := by rw [hpi.len, List.length_map]
    walk_at "rd"
    refine .inr ⟨⟨_, SqT.of hpp⟩, ?_⟩
    refine forg_tup (xs := px) (fun i σ H' => Ext T [] H4 H' ∧ ∃ (qm : Addr) (ms : List Int) (x7 x8 : Option V), σ = [some (.ref a), some (.ref t), some v, some u, some (.ref pp), some (.ref p), some (.ref qm), x7, x8, none, none, none, none, none, none, none, none, none] ∧ H' qm = some (.lst (ms.map V.int)) ∧ qm ≠ t ∧ ms.length = 3 + 3 * i)
      ⟨.refl, pm, _, none, none, rfl, hpm4, hpmt, rfl⟩ (fun i σ H' _ h => SqT.of (SqP.x hpp h.1)) (fun i y σ H5 hy h => ?_) (fun σ H5 h => ?_)
    · obtain ⟨e5, qm, ms, x7, x8, rfl, hqm, hqmt, hms⟩ := h
      have hil : i < px.length := (List.getElem?_eq_some_iff.mp hy).1
      obtain ⟨dr, hdr, hyr⟩ := hpi.get' hy
      rw [List.getElem?_map] at hdr
      obtain ⟨r, hr2, rfl⟩ := Option.map_eq_some_iff.mp hdr
      refine rd_gpair (d1 := .int r.1) (d2 := ddD r.2) (hyr.x e5) fun v1 v2 g1 g2 => ?_
      rw [g1.int']
      walk_at "rd"
      walk_at "al"
      rename_i la H6 _ e6 hla
      have hla2 : H6 la = some (.lst ([r.1 - 1, r.1, r.1 + 1].map V.int)) := hla
      refine rd_catA T (lst.x hqm e6) hla2 (by rw [List.length_map, List.length_map]; simp only [List.length_cons, List.length_nil]; omega) fun lb H7 nlb e7 hlb => ?_
      rw [← List.map_append] at hlb
      walk_at "rd"
      exact ⟨(e5.trans e6).trans e7, lb, _, _, _, rfl, hlb, ((T4.ext (e5.trans e6)).ne nlb).1, by rw [List.length_append, hms]; simp only [List.length_cons, List.length_nil]; omega⟩
    · obtain ⟨e5, qm, ms, x7, x8, rfl, hqm, hqmt, hms⟩ := h
      have T5 : Tape l H5 t := by walk_at "tr"
      have hv5 : Im H5 v (rmD R) := by walk_at "tr"
      have hu5 : StAt H5 u s := by walk_at "tr"
      have hx5 : Im H5 (.ref pp) (.tuple (pl.map plD)) := by walk_at "tr"
      have hW5 := hW4.x e5
      have hms3 : 0 < ms.length ∧ ms.length ≤ 100 := by omega
      clear hW4 hv4 hu4 hx4 hpp hpi hpm4 e5 T4 hms
      walk_at "rd"
      refine ⟨by decide, by decide, ?_⟩
      rw [show Int.toNat 6 = 6 from rfl]
      refine forg_range (fun i σ H' => Ext T [t] H5 H' ∧ Tape l H' t ∧ ∃ (y9 y10 y11 y12 y13 y14 y15 y16 y17 : Option V), σ = [some (.ref a), some (.ref t), some v, some u, some (.ref pp), some (.ref p), some (.ref qm), x7, x8, y9, y10, y11, y12, y13, y14, y15, y16, y17])
        ⟨.refl, T5, _, _, _, _, _, _, _, _, _, rfl⟩ (fun i σ H6 hi h => ?_) (fun σ H6 h => ?_)
      · obtain ⟨e6, T6, y9, y10, y11, y12, y13, y14, y15, y16, y17, rfl⟩ := h
        have hqm6 := lst.y hqm e6 hqmt
        walk_at "rdn"
        refine rd_seq ?_
        walk_at "rd"
        refine ⟨l, t, _, rfl, by rw [List.length_map]; omega, by rw [List.length_map]; omega, T6, fun d0 H7 h0 h1 e7 T7 => ?_⟩
        obtain ⟨c, hc1, _, hc2⟩ := at_in (l := ms.map V.int) h0 h1
        obtain ⟨m, hm, rfl⟩ := List.mem_map.mp hc2
        refine rd_ixL (SqL.of (lst.y hqm6 e7 hqmt)) hc1 ?_
        have e57 := e6.trans e7
        have hW7 := hW5.y e57 T5
        have hu7 := hu5.y e57 T5
        have hv7 := hv5.y e57 T5
        have hx7 := hx5.y e57 T5
        clear hc1 hc2 e6 T6 hqm6 e7 h0 h1
        walk_at "rdn"
        refine rd_seq ?_
        walk_at "rd"
        refine ⟨u, .ref pp, s, pl, m, rfl, hu7, hx7, hsl, by omega, by omega, fun hr8 H8 e8 hh => ?_⟩
        have hW8 := hW7.x e8
        have hu8 := hu7.x e8
        have hv8 := hv7.x e8
        have hx8 := hx7.x e8
        have T8 := T7.ext e8
        have e58 := e57.trans e8.any
        have hk := stM_its s m pl
        have hkl := congrArg List.length hk
        rw [List.length_map, List.length_map] at hkl
        obtain ⟨ha_, ia, oa, xs, o, rfl, ha8, hia, hod, hxi, hoa⟩ := id hh
        have hxl : xs.length = (stM s pl m).its.length := by rw [hxi.len, List.length_map]
        clear hW7 hu7 hv7 hx7 e57 T7 e8
        walk_at "rdn"
        refine rd_seq ?_
        walk_at "rd"
        refine rd_ixT (v := .ref ia) (SqT.of ha8) rfl ?_
        walk_at "rd"
        refine .inr ⟨⟨_, SqF hia⟩, ?_⟩
        refine forg_tup (xs := xs) (fun j σ H' => Ext T [] H8 H' ∧ ∃ (z12 z13 : Option V), σ = [some (.ref a), some (.ref t), some v, some u, some (.ref pp), some (.ref p), some (.ref qm), x7, x8, some (.int (0 + (i : Int))), some (.int m), some (.ref ha_), z12, z13, y14, y15, y16, y17])
          ⟨.refl, _, _, rfl⟩ (fun j σ H' _ h => SqF (frz.x hia h.1)) (fun j y σ H9 hy h => ?_) (fun σ H9 h => ?_)
        · obtain ⟨e9, z12, z13, rfl⟩ := h
          obtain ⟨dr, hdr, hyr⟩ := hxi.get' hy
          rw [List.getElem?_map] at hdr
          obtain ⟨r, hr2, rfl⟩ := Option.map_eq_some_iff.mp hdr
          refine rd_gpair (d1 := slD r.1) (d2 := itD r.2) (hyr.x e9) fun v1 v2 g1 g2 => ?_
          walk_at "rd"
          refine rd_meth ?_
          walk_at "rd"
          obtain ⟨dw, hdw⟩ := hW8.x e9
          refine ⟨p, dw, _, rfl, hdw, wf_no _ _ _ (by decide +kernel) (by decide +kernel) (by decide +kernel), ?_⟩
          walk_at "rd"
          refine ⟨p, v, u, .ref pp, v1, s, pl, m, r.1, r.2, rfl, ⟨dw, hdw⟩, hu8.x e9, hx8.x e9, hsl, by omega, by omega, hsn, g1, List.mem_of_getElem? hr2, fun y H10 e10 hy2 => ?_⟩
          walk_at "rd"
          refine rd_neI (b := true) hy2 (g2.x e10) (Nat.le_trans (dep_it _) (by decide)) (Nat.le_trans (dep_it _) (by decide)) (by simp) ?_
          walk_at "rd"
          exact ⟨e9.trans e10, _, _, rfl⟩
        · obtain ⟨e9, z12, z13, rfl⟩ := h
          walk_at "rd"
          refine rd_ixI (d := .tuple (R.zs.map siD)) (hv8.x e9) rfl fun u1 hu1 => ?_
          obtain ⟨zp, zx, rfl, hzp, hzi⟩ := hu1.tup'
          have hzl : zx.length = R.zs.length := by rw [hzi.len, List.length_map]
          have hz0 : 0 < R.zs.length := by
            obtain ⟨lag, rest, e, _⟩ := hR.ne
            rw [e, List.length_cons]
            omega
          walk_at "rd"
          refine rd_slT (SqT.of hzp) (fun h => ?_) fun sp nsp => ?_
          · have h0 := h.1
            rw [show HT.sIx zx.length 0 (some 1) = min 1 zx.length from HT.sIx_nat zx.length 0 1] at h0
            omega
          rw [cutV_from (α := V) zx (by decide), show Int.toNat 1 = 1 from rfl]
          obtain ⟨_, e10, hs10⟩ := alT (T := T) nsp (zx.drop 1)
          generalize upd H9 sp _ = H10 at e10 hs10 ⊢
          have hi10 := (hzi.drop 1).x e10
          have ed : R.zs.drop 1 = R.zs.tail := List.drop_one
          rw [← List.map_drop, ed] at hi10
          generalize zx.drop 1 = ys at hi10 hs10
          have e810 := e9.trans e10
          have hW10 := hW8.x e810
          have hu10 := hu8.x e810
          have hx10 := hx8.x e810
          have hh10 := hh.x e810
          refine ⟨sp, rfl, .inr ⟨⟨_, SqT.of hs10⟩, ?_⟩⟩
          refine forg_tup (xs := ys) (fun j σ H' => Ext T [] H10 H' ∧ ∃ (w14 w15 w16 w17 : Option V), σ = [some (.ref a), some (.ref t), some v, some u, some (.ref pp), some (.ref p), some (.ref qm), x7, x8, some (.int (0 + (i : Int))), some (.int m), some (.ref ha_), z12, z13, w14, w15, w16, w17])
            ⟨.refl, _, _, _, _, rfl⟩ (fun j σ H' _ h => SqT.of (SqP.x hs10 h.1)) (fun j y σ H11 hy h => ?_) (fun σ H11 h => ?_)
          · obtain ⟨e11, w14, w15, w16, w17, rfl⟩ := h
            obtain ⟨dr, hdr, hyr⟩ := hi10.get' hy
            rw [List.getElem?_map] at hdr
            obtain ⟨r, hr2, rfl⟩ := Option.map_eq_some_iff.mp hdr
            have hzn := name_ok (zin hR (List.mem_map_of_mem (f := (·.1)) (List.mem_of_getElem? hr2))).1
            refine rd_gpair (d1 := .str r.1) (d2 := .int r.2) (hyr.x e11) fun v1 v2 g1 g2 => ?_
            rw [g1.str', g2.int']
            walk_at "rd"
            walk_at "al"
            rename_i st H12 _ e12 hst
            have e812 := e11.trans e12
            have hst2 : SqP H12 st ([Str.ofString "s1", Str.ofString "s2", Str.ofString "s3", Str.ofString "t9", Str.ofString "none"].map V.str) := hst
            refine ⟨st, rfl, .inr ⟨⟨_, SqT.of hst2⟩, ?_⟩⟩
            refine forg_tup (xs := [Str.ofString "s1", Str.ofString "s2", Str.ofString "s3", Str.ofString "t9", Str.ofString "none"].map V.str) (fun k σ H' => Ext T [] H12 H' ∧ ∃ (w16 w17 : Option V), σ = [some (.ref a), some (.ref t), some v, some u, some (.ref pp), some (.ref p), some (.ref qm), x7, x8, some (.int (0 + (i : Int))), some (.int m), some (.ref ha_), z12, z13, some (.str r.1), some (.int r.2), w16, w17])
              ⟨.refl, _, _, rfl⟩ (fun k σ H' _ h => SqT.of (SqP.x hst2 h.1)) (fun k y σ H13 hy h => ?_) (fun σ H13 h => ?_)
            · obtain ⟨e13, v16, v17, rfl⟩ := h
              rw [List.getElem?_map] at hy
              obtain ⟨sv, hsv, rfl⟩ := Option.map_eq_some_iff.mp hy
              have hso : PyData.strOk sv = true := by
                have : ∀ z ∈ [Str.ofString "s1", Str.ofString "s2", Str.ofString "s3", Str.ofString "t9", Str.ofString "none"], PyData.strOk z = true := by decide +kernel
                exact this sv (List.mem_of_getElem? hsv)
              have e1013 := e812.trans e13
              obtain ⟨dw, hdw⟩ := hW10.x e1013
              walk_at "rd"
              refine rd_meth ?_
              walk_at "rd"
              refine ⟨p, dw, _, rfl, hdw, wf_no _ _ _ (by decide +kernel) (by decide +kernel) (by decide +kernel), ?_⟩
              walk_at "rd"
              refine ⟨p, v, u, .ref pp, s, pl, m, sv, r.1, rfl, ⟨dw, hdw⟩, hu10.x e1013, hx10.x e1013, hsl, by omega, by omega, hso, hzn, fun H14 e14 => ?_⟩
              walk_at "rd"
              walk_at "al"
              rename_i tr H15 _ e15 htr
              have hh15 := hh10.x ((e1013.trans e14).trans e15)
              obtain ⟨a2, ia2, oa2, xs2, o2, ee2, ha2, hia2, hod2, hxi2, hoa2⟩ := hh15
              injection ee2 with ee2
              subst ee2
              walk_at "rd"
              refine rd_ixT (v := oa2) (SqT.of ha2) rfl ?_
              have hrow : Im H15 (.ref tr) (ssD (sv, r.1)) := Im.new2 (.str _ hso) (.str _ hzn) htr
              have hdep : PyData.depth (.tuple ((stM s pl m).on.map ssD)) ≤ 64 := by
                show PyData.depthAll ((stM s pl m).on.map ssD) + 1 ≤ 64
                have := dep_map dep_ss (stM s pl m).on
                omega
              refine rd_inWI (b := decide ((sv, r.1) ∈ (stM s pl m).on)) hrow hoa2 (Nat.le_trans (dep_ss _) (by decide)) hdep (mem_ssD.trans decide_eq_true_iff.symm) ?_
              refine rd_neBl ?_
              rw [decide_eq_true rfl]
              walk_at "rd"
              exact ⟨(e13.trans e14).trans e15, _, _, rfl⟩
            · obtain ⟨e13, v16, v17, rfl⟩ := h
              exact ⟨e812.trans e13, _, _, _, _, rfl⟩
          · obtain ⟨e11, w14, w15, w16, w17, rfl⟩ := h
            exact ⟨(e58.trans e810.any).trans e11.any, (T8.ext e810).ext e11, _, _, _, _, _, _, _, _, _, rfl⟩
      · obtain ⟨e6, T6, y9, y10, y11, y12, y13, y14, y15, y16, y17, rfl⟩ := h
        walk_at "rd"
        exact q H6
end

open PySem PySem.Spec PyProof.Rows L2

section
variable {T : List (Addr × Str)} {P : Program} {w : World} {K : PySem.W.Frag} {mg : Str → Option Value} {base : Heap}
theorem ok_law_mix (D : Def K mg "_law_mix" s_law_mix ["number"]) (mb : ∀ x ∈ bltns, mg x = none) : Ok P w K mg base 1 "_law_mix" ["number"] spMix := by
  refine D.ok sc_law_mix (fun vs H Q E h => ?_) (fun cdv f A outer s H vs Q E hr h => ?_)
  · obtain ⟨n, rfl, _⟩ := h
    rfl
  · obtain ⟨n, rfl, q⟩ := h
    refine ⟨_, (pss_cons (ps_set (i := 0) sc_law_mix.nd rfl (.inl rfl) (pe_op op_mod (pe_callTy call_int1U (by rfl) (mb _ (by decide)) (by decide +kernel) (pa_cons (pe_op (op_plus K rfl) (pe_op op_mul (pv 0) pe_int) pe_int) pa_nil)) pe_int))
   (pss_one (ps_ret (pe_op op_mod (pe_callTy call_int1U (by rfl) (mb _ (by decide)) (by decide +kernel) (pa_cons (pe_op (op_plus K rfl) (pe_op op_fdivW (pe_op op_mul (pv 0) (pv 0)) pe_int) (pe_op op_mul (pv 0) pe_int)) pa_nil)) pe_int)))), ?_⟩
    walk_at "rd"
    exact q
theorem ok_law_tape (D : Def K mg "_law_tape" s_law_tape ["script", "budget"]) (mb : ∀ x ∈ bltns, mg x = none) : Ok P w K mg base 1 "_law_tape" ["script", "budget"] (spTape T K) := by
  refine D.ok sc_law_tape (fun vs H Q E h => ?_) (fun cdv f A outer s H vs Q E hr h => ?_)
  · obtain ⟨a, ns, b, rfl, _⟩ := h
    rfl
  · obtain ⟨a, ns, b, rfl, ha, hl, q⟩ := h
    refine ⟨_, (pss_one (ps_ret (pe_lst (pa_cons (pe_callTy (call_listU K rfl) (by rfl) (mb _ (by decide)) (by decide +kernel) (pa_cons (pv 0) pa_nil)) (pa_cons pe_int (pa_cons pe_int (pa_cons pe_int (pa_cons (pv 1) pa_nil)))))))), ?_⟩
    walk_at "rd"
    refine rd_listL ha fun l nl => ?_
    walk_at "rd"
    refine ⟨by show 5 ≤ sizeLine; decide, fun t nt => ?_⟩
    have hlt : l ≠ t := fun z => by
      rw [← z, upd_same] at nt
      cases nt
    have ntH : H t = none := by
      rw [upd_ne (Ne.symm hlt)] at nt
      exact nt
    exact q t l _ (.of ntH) ((Ext.new nl).trans (.new nt)) ⟨ns, 0, 0, 1, b, upd_same, by rw [upd_ne hlt]; exact upd_same, hlt, by decide, by decide⟩
theorem ok_law_take (D : Def K mg "_law_take" s_law_take ["tape", "many"]) (G_law_mix : Ok P w K mg base 1 "_law_mix" ["number"] spMix) (mb : ∀ x ∈ bltns, mg x = none) : Ok P w K mg base 2 "_law_take" ["tape", "many"] (spTake T) := by
  refine D.ok sc_law_take (fun vs H Q E h => ?_) (fun cdv f A outer s H vs Q E hr h => ?_)
  · obtain ⟨l, t, m, rfl, _⟩ := h
    rfl
  · obtain ⟨l, t, m, rfl, hm, hm2, hT, q⟩ := h
    obtain ⟨ns, pos, rest, st, bud, ht, hlh, hlt, hr0, hs0⟩ := hT
    refine ⟨_, (pss_cons (ps_if (pt_cmpR op_lt (pe_ix (ix_U K rfl) (pv 0) pe_int (fun _ _ => rfl)) (pv 1) (nomark _)) (pss_one (ps_if (pt_cmpR op_lt (pe_ix (ix_U K rfl) (pv 0) pe_int (fun _ _ => rfl)) (pe_callB (call_lenU K rfl) (by rfl) (mb _ (by decide)) (by decide +kernel) (pa_cons (pe_ix (ix_U K rfl) (pv 0) pe_int (fun _ _ => rfl)) pa_nil)) (nomark _)) (pss_cons (ps_set (i := 2) sc_law_take.nd rfl (.inl rfl) (pe_ix (ix_U K rfl) (pe_ix (ix_U K rfl) (pv 0) pe_int (fun _ _ => rfl)) (pe_ix (ix_U K rfl) (pv 0) pe_int (fun _ _ => rfl)) (fun _ _ => rfl)))
   (pss_cons (ps_set (i := 2) sc_law_take.nd rfl (.inl rfl) (pe_ifExp (pt_cmpR op_ge (pv 2) pe_int (nomark _)) (pe_op op_mul pe_int (pv 2)) (pe_op op_sub (pe_op op_mul (pe_un un_neg pe_int) (pv 2)) pe_int)))
   (pss_cons (ps_asg (pe_op (op_plus K rfl) (pe_ix (ix_U K rfl) (pv 0) pe_int (fun _ _ => rfl)) pe_int) (pg_sub (pv 0) pe_int set_list))
   (pss_cons (ps_asg (pe_callO G_law_mix (hr.mono (by decide)) (by rfl) (pa_cons (pe_op (op_plus K rfl) (pe_ix (ix_U K rfl) (pv 0) pe_int (fun _ _ => rfl)) (pv 2)) pa_nil)) (pg_sub (pv 0) pe_int set_list))
   (pss_one (ps_asg (pe_ifExp (pt_cmpR op_ge (pv 2) (pe_op op_pow pe_int pe_int) (nomark _)) (pv 2) (pe_callO G_law_mix (hr.mono (by decide)) (by rfl) (pa_cons (pe_callO G_law_mix (hr.mono (by decide)) (by rfl) (pa_cons (pv 2) pa_nil)) pa_nil))) (pg_sub (pv 0) pe_int set_list))))))) (pss_cons (ps_asg (pe_callO G_law_mix (hr.mono (by decide)) (by rfl) (pa_cons (pe_op (op_plus K rfl) (pe_ix (ix_U K rfl) (pv 0) pe_int (fun _ _ => rfl)) pe_int) pa_nil)) (pg_sub (pv 0) pe_int set_list))
   (pss_one (ps_asg (pe_ix (ix_U K rfl) (pv 0) pe_int (fun _ _ => rfl)) (pg_sub (pv 0) pe_int set_list)))))) pss_nil)
   (pss_cons (ps_set (i := 3) sc_law_take.nd rfl (.inl rfl) (pe_op op_mod (pe_callTy call_int1U (by rfl) (mb _ (by decide)) (by decide +kernel) (pa_cons (pe_ix (ix_U K rfl) (pv 0) pe_int (fun _ _ => rfl)) pa_nil)) (pv 1)))
   (pss_cons (ps_asg (pe_op op_fdivW (pe_ix (ix_U K rfl) (pv 0) pe_int (fun _ _ => rfl)) (pv 1)) (pg_sub (pv 0) pe_int set_list))
   (pss_one (ps_ret (pv 3)))))), ?_⟩
    have fin : ∀ (H1 : Hp) (po : Nat) (re sm : Int) (σ' : L2.St), H1 t = some (.lst [.ref l, .int (po : Int), .int re, .int sm, .int bud]) → H1 l = some (.lst (ns.map V.int)) → 0 ≤ re → 0 ≤ sm → Ext T [t] H H1 →
        ∀ d, 0 ≤ d → d < m → Q (.int d) (upd H1 t (.lst [.ref l, .int (po : Int), .int (re / m), .int sm, .int bud])) := fun H1 po re sm σ' e1 e2 h1 h2 ex d h3 h4 =>
      q d _ h3 h4 (ex.trans (.mut (by simp) e1)) ⟨ns, po, re / m, sm, bud, upd_same, by rw [upd_ne hlt]; exact e2, hlt, Int.ediv_nonneg h1 (by omega), h2⟩
    have wm : ∀ i, CDivW i m := fun i => wide_div hm (b := 64) (by omega) (by decide) (by decide)
    have tail : ∀ (H1 : Hp) (po : Nat) (re sm : Int) (xs : List V), xs = [.ref l, .int (po : Int), .int re, .int sm, .int bud] → H1 t = some (.lst xs) → H1 l = some (.lst (ns.map V.int)) → 0 ≤ re → 0 ≤ sm → Ext T [t] H H1 →
        Q (.int (re % m)) (upd H1 t (.lst (xs.set 2 (.int (re / m))))) := fun H1 po re sm xs exs e1 e2 h1 h2 ex => by
      subst exs
      exact fin H1 po re sm [] e1 e2 h1 h2 ex _ (Int.emod_nonneg _ (by omega)) (Int.emod_lt_of_pos _ hm)
    walk_at "rd"
    refine rd_ite (fun h1 => ?_) (fun h1 => ?_)
    · walk_at "rd"
      refine rd_ite (fun h2 => ?_) (fun h2 => ?_)
      · walk_at "rd"
        have hp : pos < ns.length := by
          rw [List.length_map] at h2
          omega
        refine rd_ixL (v := .int ns[pos]) (SqL.of hlh) (atI_nat (by rw [List.getElem?_map, List.getElem?_eq_getElem hp]; rfl)) ?_
        walk_at "rd"
        refine rd_ite (fun h3 => ?_) (fun h3 => ?_)
        · walk_at "rd"
          refine ⟨_, rfl, ?_⟩
          walk_at "rd"
          refine rd_ite (fun h4 => ?_) (fun h4 => ?_)
          · walk_at "rd"
            refine rd_i (wm _) ?_
            walk_at "rd"
            exact tail _ (pos + 1) _ _ _ rfl upd_same (by walk_at "hp") (by omega) (mixI_nn _) (by walk_at "ext")
          · walk_at "rd"
            refine ⟨_, rfl, ?_⟩
            walk_at "rd"
            refine ⟨_, rfl, ?_⟩
            walk_at "rd"
            refine rd_i (wm _) ?_
            walk_at "rd"
            exact tail _ (pos + 1) _ _ _ rfl upd_same (by walk_at "hp") (mixI_nn _) (mixI_nn _) (by walk_at "ext")
        · walk_at "rd"
          refine ⟨_, rfl, ?_⟩
          walk_at "rd"
          refine rd_ite (fun h4 => ?_) (fun h4 => ?_)
          · walk_at "rd"
            refine rd_i (wm _) ?_
            walk_at "rd"
            exact tail _ (pos + 1) _ _ _ rfl upd_same (by walk_at "hp") (by omega) (mixI_nn _) (by walk_at "ext")
          · walk_at "rd"
            refine ⟨_, rfl, ?_⟩
            walk_at "rd"
            refine ⟨_, rfl, ?_⟩
            walk_at "rd"
            refine rd_i (wm _) ?_
            walk_at "rd"
            exact tail _ (pos + 1) _ _ _ rfl upd_same (by walk_at "hp") (mixI_nn _) (mixI_nn _) (by walk_at "ext")
      · walk_at "rd"
        refine ⟨_, rfl, ?_⟩
        walk_at "rd"
        refine rd_i (wm _) ?_
        walk_at "rd"
        exact tail _ pos _ _ _ rfl upd_same (by walk_at "hp") (mixI_nn _) (mixI_nn _) (by walk_at "ext")
    · walk_at "rd"
      refine rd_i (wm _) ?_
      walk_at "rd"
      exact tail H pos rest st _ rfl ht hlh hr0 hs0 .refl
end

open PySem PySem.Spec PyProof.Rows L2
theorem all_mk {l : PySem.W.OpenLaw} {w : World} {K : PySem.W.Frag} {h : Heap} {mg : Str → Option Value} {fa C : Addr} (X : K.In h) (G : h.Ns mainGlobals mg) (hfa : mg "law" = some (.ref fa))
    (d1 : DefIn K "item_of" s_item_of) (d2 : DefIn2 K "is_on" "is_on_realms" s_is_on) (d3 : DefIn K "changed" s_changed) (d4 : DefIn K "state_at" s_state_at) (d5 : DefIn K "_law_mix" s_law_mix) (d6 : DefIn K "_law_tape" s_law_tape) (d7 : DefIn K "_law_take" s_law_take) (d8 : DefIn K "_law_id" s_law_id) (d9 : DefIn K "_law_ids" s_law_ids) (d10 : DefIn K "_law_label" s_law_label) (d11 : DefIn K "_law_labels" s_law_labels) (d12 : DefIn K "_law_lag" s_law_lag) (d13 : DefIn K "_law_zones" s_law_zones) (d14 : DefIn K "_law_realm" s_law_realm) (d15 : DefIn K "_law_chain" s_law_chain) (d16 : DefIn K "_law_slots" s_law_slots) (d17 : DefIn K "_law_home" s_law_home) (d18 : DefIn K "_law_life" s_law_life) (d19 : DefIn K "_law_pools" s_law_pools) (d20 : DefIn K "_law_pool" s_law_pool) (d21 : DefIn K "_law_item" s_law_item) (d22 : DefIn K "_law_first_item" s_law_first_item) (d23 : DefIn K "_law_start" s_law_start) (d24 : DefIn K "_law_at" s_law_at) (d25 : DefIn K "_law_after" s_law_after) (d26 : DefIn K "_law_server_deed" s_law_server_deed) (d27 : DefIn K "_law_mixed" s_law_mixed) (d28 : DefIn K "_law_deed" s_law_deed) (d29 : DefIn K "_law_deeds" s_law_deeds) (d30 : DefIn K "_law_bent_start" s_law_bent_start) (d31 : DefIn K "_law_change" s_law_change) (d32 : DefIn K "_law_move" s_law_move) (d33 : DefIn K "_law_row" s_law_row) (d34 : DefIn K "_law_timed" s_law_timed) (d35 : DefIn K "_law_world" s_law_world) (d36 : DefIn K "_law_state_at" s_law_state_at) (d37 : DefIn K "law" s_law)
    (aC : PySem.W.nsIn K mainGlobals "World" = some (some (.ref C))) (pg : PySem.W.plainGet K C Str.empty = true) (hd : PySem.W.hasDictIn K C = true) (po : PySem.W.plainOver K C = true) (sa : PySem.W.findIn K (.ref C) "__setattr__" = some (some (.builtin "object.__setattr__"))) (mk : PySem.W.makesIn K C = true) (kc : PySem.W.keepIn K (.ref C) = true)
    (nR : PySem.W.findIn K (.ref C) "realm" = some none) (nS : PySem.W.findIn K (.ref C) "state" = some none) (nP : PySem.W.findIn K (.ref C) "plan" = some none)
    (m1 : MethIn K C "__init__" "World.__init__" s_wInit) (m2 : MethIn K C "current" "World.current" s_wCur) (m3 : MethIn K C "is_on" "World.is_on" s_wOn)
    (mb : ∀ x ∈ bltns, PySem.W.nsIn K mainGlobals x = some none) :
    LamX.LawAtS l w K CX0 10 63 "script" mg fa h := by
  have mb : ∀ x ∈ bltns, mg x = none := fun x hx => PySem.W.mg_none_of X G (mb x hx)
  obtain ⟨f, oc, od, kV, doc, pm, an, cdv, ct, osl, h1, h2, h3, h4⟩ := d37
  have F_law := fun_mk (st := s_law) h2 h3 h4
  have e := hfa.symm.trans (PySem.W.mg_of X G h1)
  cases e
  have D_item_of := d1.mk (ps := ["state", "slot"]) X G fun _ _ _ _ _ _ us hl => match us, hl with | [_, _], _ => rfl
  have D_is_on := d2.d.mk (ps := ["state", "server", "zone"]) X G fun _ _ _ _ _ _ us hl => match us, hl with | [_, _, _], _ => rfl
  have D_changed := d3.mk (ps := ["state", "deed"]) X G fun _ _ _ _ _ _ us hl => match us, hl with | [_, _], _ => rfl
  have D_state_at := d4.mk (ps := ["realm", "state", "plan", "moment"]) X G fun _ _ _ _ _ _ us hl => match us, hl with | [_, _, _, _], _ => rfl
  have D_law_mix := d5.mk (ps := ["number"]) X G fun _ _ _ _ _ _ us hl => match us, hl with | [_], _ => rfl
  have D_law_tape := d6.mk (ps := ["script", "budget"]) X G fun _ _ _ _ _ _ us hl => match us, hl with | [_, _], _ => rfl
  have D_law_take := d7.mk (ps := ["tape", "many"]) X G fun _ _ _ _ _ _ us hl => match us, hl with | [_, _], _ => rfl
  have D_law_id := d8.mk (ps := ["tape"]) X G fun _ _ _ _ _ _ us hl => match us, hl with | [_], _ => rfl
  have D_law_ids := d9.mk (ps := ["tape", "many"]) X G fun _ _ _ _ _ _ us hl => match us, hl with | [_, _], _ => rfl
  have D_law_label := d10.mk (ps := ["tape"]) X G fun _ _ _ _ _ _ us hl => match us, hl with | [_], _ => rfl
  have D_law_labels := d11.mk (ps := ["tape"]) X G fun _ _ _ _ _ _ us hl => match us, hl with | [_], _ => rfl
  have D_law_lag := d12.mk (ps := ["tape"]) X G fun _ _ _ _ _ _ us hl => match us, hl with | [_], _ => rfl
  have D_law_zones := d13.mk (ps := ["tape", "most"]) X G fun _ _ _ _ _ _ us hl => match us, hl with | [_, _], _ => rfl
  have D_law_realm := d14.mk (ps := ["tape", "most"]) X G fun _ _ _ _ _ _ us hl => match us, hl with | [_, _], _ => rfl
  have D_law_chain := d15.mk (ps := ["realm", "name"]) X G fun _ _ _ _ _ _ us hl => match us, hl with | [_, _], _ => rfl
  have D_law_slots := d16.mk (ps := ["realm"]) X G fun _ _ _ _ _ _ us hl => match us, hl with | [_], _ => rfl
  have D_law_home := d17.mk (ps := ["realm", "slot"]) X G fun _ _ _ _ _ _ us hl => match us, hl with | [_, _], _ => rfl
  have D_law_life := d18.mk (ps := ["tape"]) X G fun _ _ _ _ _ _ us hl => match us, hl with | [_], _ => rfl
  have D_law_pools := d19.mk (ps := ["tape", "realm"]) X G fun _ _ _ _ _ _ us hl => match us, hl with | [_, _], _ => rfl
  have D_law_pool := d20.mk (ps := ["pools", "zone"]) X G fun _ _ _ _ _ _ us hl => match us, hl with | [_, _], _ => rfl
  have D_law_item := d21.mk (ps := ["content", "life", "signers"]) X G fun _ _ _ _ _ _ us hl => match us, hl with | [_, _, _], _ => rfl
  have D_law_first_item := d22.mk (ps := ["tape", "realm", "pools", "slot"]) X G fun _ _ _ _ _ _ us hl => match us, hl with | [_, _, _, _], _ => rfl
  have D_law_start := d23.mk (ps := ["tape", "realm", "pools"]) X G fun _ _ _ _ _ _ us hl => match us, hl with | [_, _, _], _ => rfl
  have D_law_at := d24.mk (ps := ["state", "slot"]) X G fun _ _ _ _ _ _ us hl => match us, hl with | [_, _], _ => rfl
  have D_law_after := d25.mk (ps := ["state", "deed"]) X G fun _ _ _ _ _ _ us hl => match us, hl with | [_, _], _ => rfl
  have D_law_server_deed := d26.mk (ps := ["tape", "realm", "state"]) X G fun _ _ _ _ _ _ us hl => match us, hl with | [_, _, _], _ => rfl
  have D_law_mixed := d27.mk (ps := ["tape", "realm", "pools", "slot", "item"]) X G fun _ _ _ _ _ _ us hl => match us, hl with | [_, _, _, _, _], _ => rfl
  have D_law_deed := d28.mk (ps := ["tape", "realm", "pools", "state"]) X G fun _ _ _ _ _ _ us hl => match us, hl with | [_, _, _, _], _ => rfl
  have D_law_deeds := d29.mk (ps := ["tape", "realm", "pools", "state", "many"]) X G fun _ _ _ _ _ _ us hl => match us, hl with | [_, _, _, _, _], _ => rfl
  have D_law_bent_start := d30.mk (ps := ["tape", "realm", "pools", "state"]) X G fun _ _ _ _ _ _ us hl => match us, hl with | [_, _, _, _], _ => rfl
  have D_law_change := d31.mk (ps := ["tape", "realm", "pools", "state"]) X G fun _ _ _ _ _ _ us hl => match us, hl with | [_, _, _, _], _ => rfl
  have D_law_move := d32.mk (ps := ["tape", "realm", "state"]) X G fun _ _ _ _ _ _ us hl => match us, hl with | [_, _, _], _ => rfl
  have D_law_row := d33.mk (ps := ["tape", "realm", "pools", "state"]) X G fun _ _ _ _ _ _ us hl => match us, hl with | [_, _, _, _], _ => rfl
  have D_law_timed := d34.mk (ps := ["tape", "deeds", "wide"]) X G fun _ _ _ _ _ _ us hl => match us, hl with | [_, _, _], _ => rfl
  have D_law_world := d35.mk (ps := ["tape", "many"]) X G fun _ _ _ _ _ _ us hl => match us, hl with | [_, _], _ => rfl
  have D_law_state_at := d36.mk (ps := ["state", "plan", "moment"]) X G fun _ _ _ _ _ _ us hl => match us, hl with | [_, _, _], _ => rfl
  have hal := d2.same X G
  have W : Wl K C := ⟨⟨pg, hd, po, sa⟩, nR, nS, nP⟩
  have hmC := PySem.W.mg_of X G aC
  obtain ⟨f1, fd1, F1, M1, B1⟩ := m1.fn (ps := ["self", "realm", "state", "plan"]) fun _ _ _ _ _ _ us hl => match us, hl with | [_, _, _, _], _ => rfl
  obtain ⟨f2, fd2, F2, M2, B2⟩ := m2.fn (ps := ["self", "slot", "moment"]) fun _ _ _ _ _ _ us hl => match us, hl with | [_, _, _], _ => rfl
  obtain ⟨f3, fd3, F3, M3, B3⟩ := m3.fn (ps := ["self", "server", "zone", "moment"]) fun _ _ _ _ _ _ us hl => match us, hl with | [_, _, _, _], _ => rfl
  refine ⟨PySem.W.fnOf "law" "law" (defArgs s_law) (defBody s_law) (defScope s_law) .none kV doc pm an cdv ct, [], spLaw [] K, fun p hp => ?_, fun p hp => ?_, fun p hp => ?_, fun s u => .of_eq rfl, fun H a ns hl _ hT hS => ?_, fun base _ _ hTB => ?_⟩
  · cases hp
  · cases hp
  · cases hp
  · exact ⟨a, ns, rfl, hS, hl, fun _ => rfl⟩
  · have O_law_mix := ok_law_mix (P := l.prog) (w := w) (base := base) (D := D_law_mix) (mb := mb)
    have O_law_tape := ok_law_tape (P := l.prog) (w := w) (base := base) (T := []) (D := D_law_tape) (mb := mb)
    have O_law_take := ok_law_take (P := l.prog) (w := w) (base := base) (T := []) (D := D_law_take) (mb := mb) (G_law_mix := O_law_mix)
    have O_law_id := ok_law_id (P := l.prog) (w := w) (base := base) (T := []) (D := D_law_id) (mb := mb) (G_law_take := O_law_take)
    have O_law_ids := ok_law_ids (P := l.prog) (w := w) (base := base) (T := []) (D := D_law_ids) (mb := mb) (G_law_id := O_law_id)
    have O_law_label := ok_law_label (P := l.prog) (w := w) (base := base) (T := []) (D := D_law_label) (mb := mb) (G_law_take := O_law_take) (G_law_id := O_law_id)
    have O_law_labels := ok_law_labels (P := l.prog) (w := w) (base := base) (T := []) (D := D_law_labels) (mb := mb) (G_law_label := O_law_label)
    have O_law_lag := ok_law_lag (P := l.prog) (w := w) (base := base) (T := []) (D := D_law_lag) (G_law_take := O_law_take)
    have O_law_life := ok_law_life (P := l.prog) (w := w) (base := base) (T := []) (D := D_law_life) (G_law_take := O_law_take)
    have O_law_zones := ok_law_zones (P := l.prog) (w := w) (base := base) (T := []) (D := D_law_zones) (mb := mb) (G_law_take := O_law_take) (G_law_labels := O_law_labels) (G_law_lag := O_law_lag)
    have O_law_realm := ok_law_realm (P := l.prog) (w := w) (base := base) (T := []) (D := D_law_realm) (mb := mb) (G_law_take := O_law_take) (G_law_zones := O_law_zones) (G_law_label := O_law_label) (G_law_id := O_law_id) (G_law_ids := O_law_ids)
    have O_law_chain := ok_law_chain (P := l.prog) (w := w) (base := base) (T := []) (D := D_law_chain) (mb := mb)
    have O_law_slots := ok_law_slots (P := l.prog) (w := w) (base := base) (T := []) (D := D_law_slots) (mb := mb)
    have O_law_home := ok_law_home (P := l.prog) (w := w) (base := base) (T := []) (D := D_law_home) (G_law_chain := O_law_chain)
    have O_law_item := ok_law_item (P := l.prog) (w := w) (base := base) (T := []) (D := D_law_item) (mb := mb)
    have O_law_pool := ok_law_pool (P := l.prog) (w := w) (base := base) (T := []) (D := D_law_pool) (mb := mb)
    have O_law_pools := ok_law_pools (P := l.prog) (w := w) (base := base) (T := []) (D := D_law_pools) (mb := mb) (G_law_ids := O_law_ids)
    have O_law_first_item := ok_law_first_item (P := l.prog) (w := w) (base := base) (T := []) (D := D_law_first_item) (mb := mb) (G_law_take := O_law_take) (G_law_life := O_law_life) (G_law_home := O_law_home) (G_law_pool := O_law_pool) (G_law_item := O_law_item) (G_law_ids := O_law_ids)
    have O_law_start := ok_law_start (P := l.prog) (w := w) (base := base) (T := []) (D := D_law_start) (mb := mb) (G_law_take := O_law_take) (G_law_slots := O_law_slots) (G_law_first_item := O_law_first_item)
    have O_law_at := ok_law_at (P := l.prog) (w := w) (base := base) (T := []) (D := D_law_at) (mb := mb)
    have O_law_after := ok_law_after (P := l.prog) (w := w) (base := base) (T := []) (D := D_law_after) (mb := mb)
    have O_law_server_deed := ok_law_server_deed (P := l.prog) (w := w) (base := base) (T := []) (D := D_law_server_deed) (mb := mb) (G_law_take := O_law_take) (G_law_life := O_law_life) (G_law_item := O_law_item)
    have O_law_mixed := ok_law_mixed (P := l.prog) (w := w) (base := base) (T := []) (D := D_law_mixed) (mb := mb) (G_law_take := O_law_take) (G_law_life := O_law_life) (G_law_home := O_law_home) (G_law_pool := O_law_pool) (G_law_ids := O_law_ids)
    have O_law_deed := ok_law_deed (P := l.prog) (w := w) (base := base) (T := []) (D := D_law_deed) (mb := mb) (G_law_take := O_law_take) (G_law_slots := O_law_slots) (G_law_server_deed := O_law_server_deed) (G_law_life := O_law_life) (G_law_item := O_law_item) (G_law_at := O_law_at) (G_law_mixed := O_law_mixed)
    have O_law_deeds := ok_law_deeds (P := l.prog) (w := w) (base := base) (T := []) (D := D_law_deeds) (mb := mb) (G_law_deed := O_law_deed) (G_law_after := O_law_after)
    have O_law_bent_start := ok_law_bent_start (P := l.prog) (w := w) (base := base) (T := []) (D := D_law_bent_start) (mb := mb) (G_law_take := O_law_take) (G_law_slots := O_law_slots) (G_law_at := O_law_at) (G_law_item := O_law_item) (G_law_pool := O_law_pool) (G_law_mixed := O_law_mixed) (G_law_after := O_law_after)
    have O_law_change := ok_law_change (P := l.prog) (w := w) (base := base) (T := []) (D := D_law_change) (mb := mb) (G_law_take := O_law_take) (G_law_slots := O_law_slots) (G_law_life := O_law_life) (G_law_home := O_law_home) (G_law_at := O_law_at) (G_law_item := O_law_item) (G_law_pool := O_law_pool)
    have O_law_move := ok_law_move (P := l.prog) (w := w) (base := base) (T := []) (D := D_law_move) (mb := mb) (G_law_take := O_law_take) (G_law_life := O_law_life) (G_law_at := O_law_at) (G_law_item := O_law_item)
    have O_law_row := ok_law_row (P := l.prog) (w := w) (base := base) (T := []) (D := D_law_row) (mb := mb) (G_law_take := O_law_take) (G_law_deeds := O_law_deeds) (G_law_move := O_law_move) (G_law_change := O_law_change)
    have O_law_timed := ok_law_timed (P := l.prog) (w := w) (base := base) (T := []) (D := D_law_timed) (mb := mb) (G_law_take := O_law_take)
    have O_law_world := ok_law_world (P := l.prog) (w := w) (base := base) (T := []) (D := D_law_world) (mb := mb) (G_law_take := O_law_take) (G_law_realm := O_law_realm) (G_law_pools := O_law_pools) (G_law_start := O_law_start) (G_law_bent_start := O_law_bent_start) (G_law_row := O_law_row) (G_law_deeds := O_law_deeds) (G_law_timed := O_law_timed)
    have O_law_state_at := ok_law_state_at (P := l.prog) (w := w) (base := base) (T := []) (D := D_law_state_at) (G_law_after := O_law_after)
    have O_changed := ok_changed (P := l.prog) (w := w) (base := base) (T := []) (D := D_changed) (mb := mb)
    have O_state_at := ok_state_at (P := l.prog) (w := w) (base := base) (T := []) (D := D_state_at) (G_changed := O_changed)
    have O_item_of := ok_item_of (P := l.prog) (w := w) (base := base) (T := []) (D := D_item_of) (mb := mb)
    have O_is_on := ok_is_on (P := l.prog) (w := w) (base := base) (T := []) (D := D_is_on)
    have O_alias := O_is_on.alias hal
    have C1 : MkO l.prog w K mg base 1 "World" C ["self", "realm", "state", "plan"] (spInit C) := ⟨f1, fd1, ⟨mk, M1.at_, M1.fn, kc⟩, ok_wInit F1 W, hmC, B1⟩
    have C2 : MeO l.prog w K mg base 3 C "current" ["self", "slot", "moment"] (spCur [] C) := ⟨f2, fd2, W.cl, M2, ok_wCur F2 W O_item_of O_state_at, B2⟩
    have C3 : MeO l.prog w K mg base 3 C "is_on" ["self", "server", "zone", "moment"] (spOnM [] C) := ⟨f3, fd3, W.cl, M3, ok_wOn F3 W O_alias O_state_at, B3⟩
    exact ok_law F_law mb W O_law_tape O_law_take O_law_world O_law_state_at C1 C2 C3

end NK
open PySem PySem.W PyProof.Rows
set_option maxHeartbeats 0 in
theorem PySem.Challenge.cw_neverdark_k10_world_at_moments_holds : PySem.Challenge.rw_neverdark_k10_world_at_moments.Holds := by
  w_on; o_law; k_head; (case hw => w_witness2)
  k_fill
  refine LamX.walk_ofTs (l := PySem.Challenge.rw_neverdark_k10_world_at_moments) (n := 63) (k := 10) (x := "script") (CX := fun _ => L2.CX0) rfl (by decide) rfl ⟨rfl, by decide, by decide⟩ (fun w h Y => Y) ?F (fun _ _ _ _ _ h => h)
  case F =>
    intro w mg fa h Y KX G hmg
    refine' NK.all_mk KX G hmg ?d1 ?d2 ?d3 ?d4 ?d5 ?d6 ?d7 ?d8 ?d9 ?d10 ?d11 ?d12 ?d13 ?d14 ?d15 ?d16 ?d17 ?d18 ?d19 ?d20 ?d21 ?d22 ?d23 ?d24 ?d25 ?d26 ?d27 ?d28 ?d29 ?d30 ?d31 ?d32 ?d33 ?d34 ?d35 ?d36 ?d37 ?aC ?pg ?hd ?po ?sa ?mk ?kc ?nR ?nS ?nP ?m1 ?m2 ?m3 ?mb
    case aC => k_is
    case pg => k_is
    case hd => k_is
    case po => k_is
    case sa => k_is
    case mk => k_is
    case kc => k_is
    case nR => k_is
    case nS => k_is
    case nP => k_is
    case m1 => (refine' NK.MethIn.of ?x1 ?x2 ?x3 ?x4 ?x5; (case x1 => k_is); (case x2 => k_is); (case x3 => k_is); (case x4 => k_is); (case x5 => k_is))
    case m2 => (refine' NK.MethIn.of ?x1 ?x2 ?x3 ?x4 ?x5; (case x1 => k_is); (case x2 => k_is); (case x3 => k_is); (case x4 => k_is); (case x5 => k_is))
    case m3 => (refine' NK.MethIn.of ?x1 ?x2 ?x3 ?x4 ?x5; (case x1 => k_is); (case x2 => k_is); (case x3 => k_is); (case x4 => k_is); (case x5 => k_is))
    case d1 => (refine' NK.DefIn.of ?x1 ?x2 ?x3 ?x4; (case x1 => k_is); (case x2 => k_is); (case x3 => k_is); (case x4 => k_is))
    case d2 => (refine' NK.DefIn2.of ?x1 ?x2 ?x3 ?x4 ?x5; (case x1 => k_is); (case x2 => k_is); (case x3 => k_is); (case x4 => k_is); (case x5 => k_is))
    case d3 => (refine' NK.DefIn.of ?x1 ?x2 ?x3 ?x4; (case x1 => k_is); (case x2 => k_is); (case x3 => k_is); (case x4 => k_is))
    case d4 => (refine' NK.DefIn.of ?x1 ?x2 ?x3 ?x4; (case x1 => k_is); (case x2 => k_is); (case x3 => k_is); (case x4 => k_is))
    case d5 => (refine' NK.DefIn.of ?x1 ?x2 ?x3 ?x4; (case x1 => k_is); (case x2 => k_is); (case x3 => k_is); (case x4 => k_is))
    case d6 => (refine' NK.DefIn.of ?x1 ?x2 ?x3 ?x4; (case x1 => k_is); (case x2 => k_is); (case x3 => k_is); (case x4 => k_is))
    case d7 => (refine' NK.DefIn.of ?x1 ?x2 ?x3 ?x4; (case x1 => k_is); (case x2 => k_is); (case x3 => k_is); (case x4 => k_is))
    case d8 => (refine' NK.DefIn.of ?x1 ?x2 ?x3 ?x4; (case x1 => k_is); (case x2 => k_is); (case x3 => k_is); (case x4 => k_is))
    case d9 => (refine' NK.DefIn.of ?x1 ?x2 ?x3 ?x4; (case x1 => k_is); (case x2 => k_is); (case x3 => k_is); (case x4 => k_is))
    case d10 => (refine' NK.DefIn.of ?x1 ?x2 ?x3 ?x4; (case x1 => k_is); (case x2 => k_is); (case x3 => k_is); (case x4 => k_is))
    case d11 => (refine' NK.DefIn.of ?x1 ?x2 ?x3 ?x4; (case x1 => k_is); (case x2 => k_is); (case x3 => k_is); (case x4 => k_is))
    case d12 => (refine' NK.DefIn.of ?x1 ?x2 ?x3 ?x4; (case x1 => k_is); (case x2 => k_is); (case x3 => k_is); (case x4 => k_is))
    case d13 => (refine' NK.DefIn.of ?x1 ?x2 ?x3 ?x4; (case x1 => k_is); (case x2 => k_is); (case x3 => k_is); (case x4 => k_is))
    case d14 => (refine' NK.DefIn.of ?x1 ?x2 ?x3 ?x4; (case x1 => k_is); (case x2 => k_is); (case x3 => k_is); (case x4 => k_is))
    case d15 => (refine' NK.DefIn.of ?x1 ?x2 ?x3 ?x4; (case x1 => k_is); (case x2 => k_is); (case x3 => k_is); (case x4 => k_is))
    case d16 => (refine' NK.DefIn.of ?x1 ?x2 ?x3 ?x4; (case x1 => k_is); (case x2 => k_is); (case x3 => k_is); (case x4 => k_is))
    case d17 => (refine' NK.DefIn.of ?x1 ?x2 ?x3 ?x4; (case x1 => k_is); (case x2 => k_is); (case x3 => k_is); (case x4 => k_is))
    case d18 => (refine' NK.DefIn.of ?x1 ?x2 ?x3 ?x4; (case x1 => k_is); (case x2 => k_is); (case x3 => k_is); (case x4 => k_is))
    case d19 => (refine' NK.DefIn.of ?x1 ?x2 ?x3 ?x4; (case x1 => k_is); (case x2 => k_is); (case x3 => k_is); (case x4 => k_is))
    case d20 => (refine' NK.DefIn.of ?x1 ?x2 ?x3 ?x4; (case x1 => k_is); (case x2 => k_is); (case x3 => k_is); (case x4 => k_is))
    case d21 => (refine' NK.DefIn.of ?x1 ?x2 ?x3 ?x4; (case x1 => k_is); (case x2 => k_is); (case x3 => k_is); (case x4 => k_is))
    case d22 => (refine' NK.DefIn.of ?x1 ?x2 ?x3 ?x4; (case x1 => k_is); (case x2 => k_is); (case x3 => k_is); (case x4 => k_is))
    case d23 => (refine' NK.DefIn.of ?x1 ?x2 ?x3 ?x4; (case x1 => k_is); (case x2 => k_is); (case x3 => k_is); (case x4 => k_is))
    case d24 => (refine' NK.DefIn.of ?x1 ?x2 ?x3 ?x4; (case x1 => k_is); (case x2 => k_is); (case x3 => k_is); (case x4 => k_is))
    case d25 => (refine' NK.DefIn.of ?x1 ?x2 ?x3 ?x4; (case x1 => k_is); (case x2 => k_is); (case x3 => k_is); (case x4 => k_is))
    case d26 => (refine' NK.DefIn.of ?x1 ?x2 ?x3 ?x4; (case x1 => k_is); (case x2 => k_is); (case x3 => k_is); (case x4 => k_is))
    case d27 => (refine' NK.DefIn.of ?x1 ?x2 ?x3 ?x4; (case x1 => k_is); (case x2 => k_is); (case x3 => k_is); (case x4 => k_is))
    case d28 => (refine' NK.DefIn.of ?x1 ?x2 ?x3 ?x4; (case x1 => k_is); (case x2 => k_is); (case x3 => k_is); (case x4 => k_is))
    case d29 => (refine' NK.DefIn.of ?x1 ?x2 ?x3 ?x4; (case x1 => k_is); (case x2 => k_is); (case x3 => k_is); (case x4 => k_is))
    case d30 => (refine' NK.DefIn.of ?x1 ?x2 ?x3 ?x4; (case x1 => k_is); (case x2 => k_is); (case x3 => k_is); (case x4 => k_is))
    case d31 => (refine' NK.DefIn.of ?x1 ?x2 ?x3 ?x4; (case x1 => k_is); (case x2 => k_is); (case x3 => k_is); (case x4 => k_is))
    case d32 => (refine' NK.DefIn.of ?x1 ?x2 ?x3 ?x4; (case x1 => k_is); (case x2 => k_is); (case x3 => k_is); (case x4 => k_is))
    case d33 => (refine' NK.DefIn.of ?x1 ?x2 ?x3 ?x4; (case x1 => k_is); (case x2 => k_is); (case x3 => k_is); (case x4 => k_is))
    case d34 => (refine' NK.DefIn.of ?x1 ?x2 ?x3 ?x4; (case x1 => k_is); (case x2 => k_is); (case x3 => k_is); (case x4 => k_is))
    case d35 => (refine' NK.DefIn.of ?x1 ?x2 ?x3 ?x4; (case x1 => k_is); (case x2 => k_is); (case x3 => k_is); (case x4 => k_is))
    case d36 => (refine' NK.DefIn.of ?x1 ?x2 ?x3 ?x4; (case x1 => k_is); (case x2 => k_is); (case x3 => k_is); (case x4 => k_is))
    case d37 => (refine' NK.DefIn.of ?x1 ?x2 ?x3 ?x4; (case x1 => k_is); (case x2 => k_is); (case x3 => k_is); (case x4 => k_is))
    case mb =>
      intro x hx
      rcases List.mem_cons.mp hx with e | hx
      · rw [e]; k_is
      rcases List.mem_cons.mp hx with e | hx
      · rw [e]; k_is
      rcases List.mem_cons.mp hx with e | hx
      · rw [e]; k_is
      rcases List.mem_cons.mp hx with e | hx
      · rw [e]; k_is
      rcases List.mem_cons.mp hx with e | hx
      · rw [e]; k_is
      rcases List.mem_cons.mp hx with e | hx
      · rw [e]; k_is
      rcases List.mem_cons.mp hx with e | hx
      · rw [e]; k_is
      rcases List.mem_cons.mp hx with e | hx
      · rw [e]; k_is
      rcases List.mem_cons.mp hx with e | hx
      · rw [e]; k_is
      rcases List.mem_cons.mp hx with e | hx
      · rw [e]; k_is
      rcases List.mem_cons.mp hx with e | hx
      · rw [e]; k_is
      cases hx
