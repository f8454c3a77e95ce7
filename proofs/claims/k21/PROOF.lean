import PyProof.Rows.All
import Wide.All
import OpenK.AllK
import Wide.FinOn
import PySem.Challenge.RW_neverdark_k21_forms_of_states
import HandS.ForMost
import HandS.Walk
import HandS.IsInst
import HandS.Style
import HandS.FStr
import HandS.WideBits
import HandS.Deep
import HandS.Steps
import HandS.Lambda
import HandS.EndTab
import KE.SortKeyHeap
import KE.DatumOrd
import KE.KDictPairs
import KE.KDictCopyH
import PyProof.P3In
import HandS.NoneIn
import HandS.Star
import HandS.ForExc
import HandS.ExcIs
import HandS.ExcField
import HandS.ExcSuper
import KE.KExcSuper
import HandS.List
import KE.DataMinMax
import HandS.Flow
import HandS.Iter
import HandS.Zip
import HandS.DictTup
import KE.SortData
import KE.KUnpackStar
import HandS.CallLocal
import KE.GoesEnumKw
import KE.GoesMore
import HandS.Codes
import KE.DataCmp
import KE.RegKSuper
set_option Elab.async false
set_option linter.all false
set_option maxRecDepth 100000
set_option maxHeartbeats 4000000
namespace NK
open PySem PySem.Spec PyProof.Rows L2
/-! ### a def of the text that keeps a promise, found by its name -/
def Ok (P : Program) (w : World) (K : PySem.W.Frag) (mg : Str → Option Value) (base : Heap) (k : Nat) (x : Str) (ps : List Str) (sp : Sp) : Prop :=
  ∃ (f : Addr) (fd : FuncData), FnOk P w K mg base CX0 k f fd ps sp ∧ mg x = some (.ref f) ∧ PySem.W.keepIn K (.ref f) = true ∧ Binds K fd ps []
def Def (K : PySem.W.Frag) (mg : Str → Option Value) (x : Str) (st : Stmt) (ps : List Str) : Prop :=
  ∃ (f : Addr) (fd : FuncData), Fun K x x st f fd ∧ mg x = some (.ref f) ∧ Binds K fd ps []
section
variable {P : Program} {w : World} {K : PySem.W.Frag} {mg : Str → Option Value} {base : Heap}
theorem Def.ok {x : Str} {st : Stmt} {N ps : List Str} {k : Nat} {sp : Sp} (D : Def K mg x st ps) (S : FnScope N ps (defScope st)) (len : ∀ vs H Q E, sp vs H Q E → vs.length = ps.length)
    (hbody : ∀ (cdv : Value) (f : Addr) (A : Around) (outer : List Env) (s : Shared) (H : Hp) (vs : List V) (Q : VK) (E : XK), Room k (A.deeper (envOfC x (defScope st) s.heap.objs.size f cdv)) → sp vs H Q E →
      ∃ t, PSs (cxOf CX0 P w K mg base N x (defScope st) f cdv A outer s H E).nox (defBody st) t ∧ t { nx := fun _ H' => Q .non H', rt := Q } (start N vs) H) : Ok P w K mg base (k + 1) x ps sp := by
  obtain ⟨f, fd, F, hm, hb⟩ := D
  exact ⟨f, fd, F.ok S len fun cdv A outer s H vs Q E hr h => hbody cdv f A outer s H vs Q E hr h, hm, F.kp, hb⟩
theorem Ok.mono {j k : Nat} {x : Str} {ps : List Str} {sp : Sp} (h : Ok P w K mg base j x ps sp) (hk : j ≤ k) : Ok P w K mg base k x ps sp := by
  obtain ⟨f, fd, F, r⟩ := h
  exact ⟨f, fd, F.mono hk, r⟩
end
section
variable {X : Cx}
theorem pe_callO {x : Str} {p pos : Pos} {e : Expr} {es : List Expr} {t : TA} {k : Nat} {ps : List Str} {sp : Sp} (h : Ok X.prog X.w X.K X.mg X.base k x ps sp) (hr : Room k X.A) (hg : Gl X x) (ha : PA X (e :: es) t)
    (hdb : (x == ("__debug__" : Str)) = false := by decide) (he : starEach (e :: es) X.env = (false, eval e X.env) :: starEach es X.env := by rfl) (hpl : (backTo pos (starEach es X.env)).any (·.1) = false := by rfl) :
    PE X (.Call (.Name x p) (e :: es) [] pos) (tCall sp [] E0 t) := by
  obtain ⟨f, fd, F, hm, hk, hb⟩ := h
  exact pe_call F hr hg hm hk hb .nil pass0 ha hdb he hpl
/-- a module's constant -/
theorem pe_glS {x : Str} {z : Str} {pos : Pos} (hg : Gl X x) (hm : ∃ t, X.mg x = some (.str z t)) (hd : (x == ("__debug__" : Str)) = false := by decide) : PE X (.Name x pos) (tC (.str z)) := by
  obtain ⟨t, hm⟩ := hm
  exact pe_glob hg hm ⟨t, rfl⟩ hd
theorem pe_glI {x : Str} {z : Int} {pos : Pos} (hg : Gl X x) (hm : ∃ t, X.mg x = some (.int z t)) (hd : (x == ("__debug__" : Str)) = false := by decide) : PE X (.Name x pos) (tC (.int z)) := by
  obtain ⟨t, hm⟩ := hm
  exact pe_glob hg hm ⟨t, rfl⟩ hd
/-- the empty tuple ahead of another one -/
def rCatT0 (K : PySem.W.Frag) : R2 := fun x y H Q => ∃ a b ys, x = .ref a ∧ y = .ref b ∧ SqT K H a [] ∧ SqT K H b ys ∧ Q (.ref b) H
theorem op_catT0 {X : Cx} (K : PySem.W.Frag) (hK : X.K = K) : OpR X (binaryOp .Add) (rCatT0 K) := by
  subst hK
  intro pins s σ H x y v u Q I rx ry h
  obtain ⟨a, b, ys, rfl, rfl, ha, hb, q⟩ := h
  cases rx
  cases ry
  obtain ⟨its, rv, ⟨o, ho, hc, n, hd⟩, hz⟩ := I.tuple ha
  obtain ⟨its2, rv2, ⟨o2, ho2, hc2, n2, hd2⟩, hz2⟩ := I.tuple hb
  cases rv
  obtain ⟨c1, d1, k1, s1⟩ := o
  obtain ⟨c2, d2, k2, s2⟩ := o2
  simp only at hc hd hc2 hd2
  subst hc hd hc2 hd2
  have t1 : s.TypeIs (.ref a) "tuple" := ⟨_, ho, rfl⟩
  have t2 : s.TypeIs (.ref b) "tuple" := ⟨_, ho2, rfl⟩
  refine PySem.wpAny_binaryOp_concat (T := "tuple") (id := "tuple.__add__") t1 t2 PySem.noFill_tuple_add PySem.seq_tuple_add ?_
  exact PySem.call_meets PySem.F.slot_tuple_add t1 PySem.F.entry_tuple_add (PySem.F.args_tuple_add_2 _ _) (PyProof.Rows.tuple_addW0 a b #[] its2.toArray n n2 d1 d2 s1 s2 rfl) ⟨ho, ho2, ⟨.ref b, H, I, rfl, q⟩⟩
/-! ### one rule for each sign, whatever its operands are; K is the written part by its name -/
def rPlus (K : PySem.W.Frag) : R2 := fun x y H Q => (rI0 (fun i j => .int (i + j)) x y H Q) ∨ (∃ i j, x = .str i ∧ y = .str j ∧ i.length + j.length ≤ sizeLine ∧ Q (.str (i ++ j)) H) ∨ (rCat x y H Q) ∨ (rCatT K x y H Q) ∨ (rCatT0 K x y H Q)
theorem op_plus (K : PySem.W.Frag) (hK : X.K = K) : OpR X (binaryOp .Add) (rPlus K) := by
  have h0 := op_catT0 (X := X) K hK
  subst hK
  exact op_add.or (op_add_str.or (op_cat.or (op_catT.or h0)))
def rEqU (K : PySem.W.Frag) : R2 := fun x y H Q => rEq x y H Q ∨ rEqD K x y H Q
def rNeU (K : PySem.W.Frag) : R2 := fun x y H Q => rNe x y H Q ∨ rNeD K x y H Q
theorem op_eqU (K : PySem.W.Frag) (hK : X.K = K) (hu : X.A.units + 64 < cLine) : OpR X (compareOp .Eq) (rEqU K) := by
  subst hK
  exact op_eq.or (op_eqD hu)
theorem op_neU (K : PySem.W.Frag) (hK : X.K = K) (hu : X.A.units + 64 < cLine) : OpR X (compareOp .NotEq) (rNeU K) := by
  subst hK
  exact op_ne.or (op_neD hu)
def rInU (K : PySem.W.Frag) : R2 := fun x y H Q => rIn K false x y H Q ∨ rInS x y H Q
def rNinU (K : PySem.W.Frag) : R2 := fun x y H Q => rIn K true x y H Q ∨ rNotInS x y H Q
theorem op_inU (K : PySem.W.Frag) (hK : X.K = K) : OpR X (compareOp .In) (rInU K) := by
  subst hK
  exact op_in_seq.or op_in_sign
theorem op_ninU (K : PySem.W.Frag) (hK : X.K = K) : OpR X (compareOp .NotIn) (rNinU K) := by
  subst hK
  exact op_notIn_seq.or op_notIn_sign
def rIsU : R2 := fun x y H Q => rIsB x y H Q ∨ rIsN x y H Q
def rIsNU : R2 := fun x y H Q => rNotB x y H Q ∨ rNotN x y H Q
theorem op_isU : OpR X (compareOp .Is) rIsU := op_isBl.or op_isN
theorem op_isnotU : OpR X (compareOp .IsNot) rIsNU := op_notBl.or op_notN
theorem ix_U (K : PySem.W.Frag) (hK : X.K = K) : IxR X (rIx K) := by
  subst hK
  exact ix_seq
def rSlU (K : PySem.W.Frag) : V → Option Int → Option Int → Hp → VK → Prop := fun x lo hi H Q => rSlL K x lo hi H Q ∨ rSlS x lo hi H Q ∨ rSlT K x lo hi H Q
theorem sl_U (K : PySem.W.Frag) (hK : X.K = K) : SlR X (rSlU K) := by
  subst hK
  exact sl_list.or (sl_str.or sl_tup)
def rLenU (K : PySem.W.Frag) : List V → Hp → VK → Prop := fun xs H Q => (∃ z, xs = [.str z] ∧ z.length ≤ sizeLine ∧ Q (.int z.length) H) ∨ (∃ p ys, xs = [.ref p] ∧ (SqL K H p ys ∨ SqT K H p ys) ∧ Q (.int ys.length) H)
theorem call_lenU (K : PySem.W.Frag) (hK : X.K = K) : CallR X (.builtin "len") (rLenU K) := by
  subst hK
  exact call_len_str.or call_len_seq
def rInt1 : List V → Hp → VK → Prop := fun xs H Q => (∃ i, xs = [.int i] ∧ Q (.int i) H) ∨ ∃ k, xs = [.bl k] ∧ Q (.int (if k then 1 else 0)) H
theorem call_int1U : CallR X (.type "int") rInt1 := call_int1
def rListOf (K : PySem.W.Frag) : List V → Hp → VK → Prop := fun xs H Q => ∃ p ys, xs = [.ref p] ∧ (SqL K H p ys ∨ SqT K H p ys) ∧ ∀ l, H l = none → Q (.ref l) (upd H l (.lst ys))
theorem call_listU (K : PySem.W.Frag) (hK : X.K = K) : CallR X (.type "list") (rListOf K) := by
  subst hK
  exact call_list_of
def rTupOf (K : PySem.W.Frag) : List V → Hp → VK → Prop := fun xs H Q => ∃ p ys, xs = [.ref p] ∧ ((SqL K H p ys ∧ ∀ l, H l = none → Q (.ref l) (upd H l (.tup ys))) ∨ (SqT K H p ys ∧ Q (.ref p) H))
theorem call_tupU (K : PySem.W.Frag) (hK : X.K = K) : CallR X (.type "tuple") (rTupOf K) := by
  subst hK
  exact call_tuple_of
theorem call_allU (K : PySem.W.Frag) (hK : X.K = K) (hc : X.calm = true) : CallR X (.builtin "all") (rAll K) := by
  subst hK
  exact cr_all hc
theorem call_isiU (K : PySem.W.Frag) (hK : X.K = K) : CallR X (.builtin "isinstance") (rIsi K) := by
  subst hK
  exact call_isi
def rEndsW : V → List V → Hp → VK → Prop := fun x xs H Q => ∃ a b, x = .str a ∧ xs = [.str b] ∧ Q (.bl (Txt.endswith a b)) H
theorem mt_endsU : MtR X "str.endswith" rEndsW := mt_endswith
theorem pt_E {e : Expr} {t : TE} (h : PE X e t) (he : ∀ whole, isTrue e X.env whole = (do let v ← whole; standAt e.pos; holding [v] (truthy v)) := by intro _; rfl) : PT X e (tB t) := pt_val h he
end
/-! ### steps of a reading -/
section
variable {K : PySem.W.Frag} {σ : L2.St} {H : Hp} {Q : VK} {te ta tb : TE} {D : Ends} {nx : L2.St → Hp → Prop} {rt : VK} {bk ct : L2.St → Hp → Prop}
theorem rd_var {i : Nat} {v : V} (h : σ[i]? = some (some v)) (q : Q v H) : tVar i σ H Q := ⟨v, h, q⟩
theorem rd_c {v : V} (q : Q v H) : tC v σ H Q := q
theorem rd_op {r : R2} (q : ta σ H fun x H1 => tb σ H1 fun y H2 => r x y H2 Q) : tOp r ta tb σ H Q := q
theorem rd_un {r : V → Hp → VK → Prop} (q : ta σ H fun x H1 => r x H1 Q) : tUn r ta σ H Q := q
theorem rd_i0 {f : Int → Int → V} {i j : Int} (q : Q (f i j) H) : rI0 f (.int i) (.int j) H Q := ⟨i, j, rfl, rfl, q⟩
theorem rd_i {C : Int → Int → Prop} {f : Int → Int → V} {i j : Int} (c : C i j) (q : Q (f i j) H) : rI C f (.int i) (.int j) H Q := ⟨i, j, rfl, rfl, c, q⟩
theorem rd_plusI {i j : Int} (q : Q (.int (i + j)) H) : rPlus K (.int i) (.int j) H Q := .inl ⟨i, j, rfl, rfl, q⟩
theorem rd_plusS {i j : Str} (c : i.length + j.length ≤ sizeLine) (q : Q (.str (i ++ j)) H) : rPlus K (.str i) (.str j) H Q := .inr (.inl ⟨i, j, rfl, rfl, c, q⟩)
theorem rd_uI {f : Int → Int} {i : Int} (q : Q (.int (f i)) H) : rU (fun i => .int (f i)) (.int i) H Q := ⟨i, rfl, q⟩
theorem rd_neS {x y : V} (h : scal x y = true) (q : Q (.bl (!decide (x = y))) H) : rNeU K x y H Q := .inl ⟨h, q⟩
theorem rd_ixL {p : Addr} {xs : List V} {i : Int} {v : V} (h : SqL K H p xs) (a : atI xs i = some v) (q : Q v H) : rIx K (.ref p) (.int i) H Q := .inl ⟨p, xs, i, v, rfl, rfl, h, a, q⟩
theorem rd_ixT {p : Addr} {xs : List V} {i : Int} {v : V} (h : SqT K H p xs) (a : atI xs i = some v) (q : Q v H) : rIx K (.ref p) (.int i) H Q := .inr (.inl ⟨p, xs, i, v, rfl, rfl, h, a, q⟩)
theorem rd_B {Q : Bool → Hp → Prop} (q : te σ H fun v H1 => ∃ b, v = .bl b ∧ Q b H1) : tB te σ H Q := q
theorem rd_bl {b : Bool} {Q : Bool → Prop} (q : Q b) : ∃ c, V.bl b = .bl c ∧ Q c := ⟨b, rfl, q⟩
theorem rd_if {c : TT} {t u : TS} (q : c σ H fun b H1 => if b = true then t D σ H1 else u D σ H1) : tIfS c t u D σ H := q
theorem rd_ifE {c : TT} (q : c σ H fun b H1 => if b = true then ta σ H1 Q else tb σ H1 Q) : tIf c ta tb σ H Q := q
theorem rd_seq {t u : TS} (q : t ⟨fun σ H => u ⟨nx, rt, bk, ct⟩ σ H, rt, bk, ct⟩ σ H) : tSeq t u ⟨nx, rt, bk, ct⟩ σ H := q
theorem rd_next (q : nx σ H) : tNext ⟨nx, rt, bk, ct⟩ σ H := q
theorem rd_asg {g : TG} (q : te σ H fun x H1 => g x σ H1 nx) : tAsg te g ⟨nx, rt, bk, ct⟩ σ H := q
theorem rd_name {i : Nat} {v : V} {Q : L2.St → Hp → Prop} (q : Q (σ.set i (some v)) H) : gName i v σ H Q := q
theorem rd_ret (q : te σ H rt) : tRet te ⟨nx, rt, bk, ct⟩ σ H := q
theorem rd_drop (q : te σ H fun _ H1 => nx σ H1) : tDrop te ⟨nx, rt, bk, ct⟩ σ H := q
theorem rd_call {sp : Sp} {E : XK} {t : TA} (q : t σ H fun vs H1 => sp (vs ++ []) H1 Q E) : tCall sp [] E t σ H Q := q
theorem rd_cons {tr : TA} {Q : List V → Hp → Prop} (q : ta σ H fun x H1 => tr σ H1 fun xs H2 => Q (x :: xs) H2) : tCons ta tr σ H Q := q
theorem rd_nil {Q : List V → Hp → Prop} (q : Q [] H) : tNil σ H Q := q
theorem rd_cb {r : List V → Hp → VK → Prop} {t : TA} (q : t σ H fun vs H1 => r vs H1 Q) : tCB r t σ H Q := q
theorem rd_sub {to ti : TE} {t : TSet} {v : V} {Q : L2.St → Hp → Prop} (q : to σ H fun o H1 => ti σ H1 fun i H2 => t o i v H2 fun H3 => Q σ H3) : gSub to ti t v σ H Q := q
theorem rd_not (q : ta σ H fun x H1 => ∃ c, x = .bl c ∧ Q (.bl (!c)) H1) : tNotV ta σ H Q := q
theorem rd_and (q : ta σ H fun x H1 => ∃ c, x = .bl c ∧ if c = true then tb σ H1 Q else Q (.bl false) H1) : tAndV ta tb σ H Q := q
theorem rd_or (q : ta σ H fun x H1 => ∃ c, x = .bl c ∧ if c = true then Q (.bl true) H1 else tb σ H1 Q) : tOrV ta tb σ H Q := q
theorem rd_T {Q : Bool → Hp → Prop} (q : te σ H fun v H1 => ∃ b, v = .bl b ∧ Q b H1) : tTest te σ H Q := q
theorem rd_tnot {t : TT} {Q : Bool → Hp → Prop} (q : t σ H fun c H1 => Q (!c) H1) : tNot t σ H Q := q
theorem rd_tand {t u : TT} {Q : Bool → Hp → Prop} (q : t σ H fun c H1 => if c = true then u σ H1 Q else Q false H1) : tAnd t u σ H Q := q
theorem rd_tor {t u : TT} {Q : Bool → Hp → Prop} (q : t σ H fun c H1 => if c = true then Q true H1 else u σ H1 Q) : tOr t u σ H Q := q
theorem rd_chain {r r' : R2} {tc : TE} (q : ta σ H fun x H1 => tb σ H1 fun y H2 => r x y H2 fun z H3 => ∃ k, z = .bl k ∧ (if k = true then tc σ H3 fun w' H4 => r' y w' H4 Q else Q (.bl false) H3)) : tChain r r' ta tb tc σ H Q := q
theorem rd_ite {p A B : Prop} [Decidable p] (h1 : p → A) (h2 : ¬ p → B) : if decide p = true then A else B := by
  by_cases h : p
  · rw [if_pos (decide_eq_true h)]
    exact h1 h
  · rw [if_neg (by rw [decide_eq_false h]; decide)]
    exact h2 h
theorem rd_itn {p A B : Prop} [Decidable p] (h1 : p → B) (h2 : ¬ p → A) : if (!decide p) = true then A else B := by
  by_cases h : p
  · rw [decide_eq_true h]
    exact h1 h
  · rw [decide_eq_false h]
    exact h2 h
theorem rd_len {z : Str} (h : z.length ≤ sizeLine) (q : Q (.int z.length) H) : rLenU K [.str z] H Q := .inl ⟨z, rfl, h, q⟩
theorem rd_lenL {p : Addr} {ys : List V} (h : SqL K H p ys) (q : Q (.int ys.length) H) : rLenU K [.ref p] H Q := .inr ⟨p, ys, rfl, .inl h, q⟩
theorem rd_int1 {i : Int} (q : Q (.int i) H) : rInt1 [.int i] H Q := .inl ⟨i, rfl, q⟩
theorem rd_listL {p : Addr} {ys : List V} (h : SqL K H p ys) (q : ∀ l, H l = none → Q (.ref l) (upd H l (.lst ys))) : rListOf K [.ref p] H Q := ⟨p, ys, rfl, .inl h, q⟩
theorem rd_tupL {p : Addr} {ys : List V} (h : SqL K H p ys) (q : ∀ l, H l = none → Q (.ref l) (upd H l (.tup ys))) : rTupOf K [.ref p] H Q := ⟨p, ys, rfl, .inl ⟨h, q⟩⟩
theorem rd_m1 {r : V → List V → Hp → VK → Prop} (q : ta σ H fun x H1 => (∃ a, x = .str a) ∧ tb σ H1 fun y H2 => r x [y] H2 Q) : tM1 r ta tb σ H Q := q
theorem rd_ends {a b : Str} (q : Q (.bl (Txt.endswith a b)) H) : rEndsW (.str a) [.str b] H Q := ⟨a, b, rfl, rfl, q⟩
theorem rd_inS {c : Nat} {z : Str} (q : Q (.bl (decide (c ∈ z.cps.toList))) H) : rInU K (.str ⟨#[c]⟩) (.str z) H Q := .inr ⟨c, z, rfl, rfl, q⟩
theorem rd_ninS {c : Nat} {z : Str} (q : Q (.bl (!decide (c ∈ z.cps.toList))) H) : rNinU K (.str ⟨#[c]⟩) (.str z) H Q := .inr ⟨c, z, rfl, rfl, q⟩
theorem rd_all {a : Addr} {bs : List Bool} (h : SqL K H a (bs.map V.bl)) (q : Q (.bl (bs.all id)) H) : rAll K [.ref a] H Q := ⟨a, bs, rfl, h, q⟩
theorem rd_isStr {z : Str} (q : Q (.bl true) H) : rIsi K [.str z, .ty "str"] H Q := ⟨_, _, _, _, true, rfl, .ty _, .base (.str _), rfl, q⟩
theorem rd_lst {t : TA} (q : t σ H fun xs H1 => xs.length ≤ sizeLine ∧ ∀ p, H1 p = none → Q (.ref p) (upd H1 p (.lst xs))) : tLst t σ H Q := q
theorem rd_tup {t : TA} (q : t σ H fun xs H1 => xs.length ≤ sizeLine ∧ ∀ p, H1 p = none → Q (.ref p) (upd H1 p (.tup xs))) : tTup t σ H Q := q
theorem rd_set {p : Addr} {k : Int} {v : V} {xs : List V} {j : Nat} {Q : Hp → Prop} (h : H p = some (.lst xs)) (a : ixN xs.length k = some j) (q : Q (upd H p (.lst (xs.set j v)))) : rSetL (.ref p) (.int k) v H Q := ⟨p, xs, k, j, rfl, rfl, h, a, q⟩
end
/-! ### what stays: all but the objects of ms, and the tables of code objects -/
open LamX in
structure Ext (T : List (Addr × Str)) (ms : List Addr) (H H' : Hp) : Prop where
  keep : ∀ b o, b ∉ ms → (∀ ps, o ≠ .tbl ps) → H b = some o → H' b = some o
  tabs : LamX.Tabs T H → LamX.Tabs T H'
/-- nothing but a table of code objects stands there -/
def Nw (H : Hp) (p : Addr) : Prop := ∀ o, H p = some o → ∃ ps, o = .tbl ps
theorem Nw.of {H : Hp} {p : Addr} (h : H p = none) : Nw H p := fun o e => by
  rw [h] at e
  cases e
theorem Nw.ne {H : Hp} {p q : Addr} {o : HO} (f : Nw H p) (h : H q = some o) (hn : ∀ ps, o ≠ .tbl ps) : q ≠ p := fun z => by
  rw [z] at h
  obtain ⟨ps, e⟩ := f o h
  exact hn ps e
theorem Nw.lst {H : Hp} {p q : Addr} {xs : List V} (f : Nw H p) (h : H q = some (.lst xs)) : q ≠ p := f.ne h fun _ z => by cases z
theorem Nw.tup {H : Hp} {p q : Addr} {xs : List V} (f : Nw H p) (h : H q = some (.tup xs)) : q ≠ p := f.ne h fun _ z => by cases z
section
variable {T : List (Addr × Str)} {ms : List Addr} {K : PySem.W.Frag} {H H1 H2 : Hp}
theorem Ext.back {p : Addr} (e : Ext T ms H H1) (hp : p ∉ ms) (f : Nw H1 p) : Nw H p := fun o ho => Classical.byContradiction fun n => n (f o (e.keep p o hp (fun ps z => n ⟨ps, z⟩) ho))
theorem Ext.refl : Ext T ms H H := ⟨fun _ _ _ _ h => h, id⟩
theorem Ext.trans (a : Ext T ms H H1) (b : Ext T ms H1 H2) : Ext T ms H H2 := ⟨fun c o hc hn h => b.keep c o hc hn (a.keep c o hc hn h), fun t => b.tabs (a.tabs t)⟩
theorem Ext.same (s : Same H H1) : Ext T ms H H1 := ⟨fun c o _ _ h => s c o h, fun t => t.ext s⟩
theorem Ext.new {p : Addr} {o : HO} (h : H p = none) : Ext T ms H (upd H p o) := .same fun b x e => by
  rw [upd_ne (ne_of_none e h)]
  exact e
theorem Ext.wide {ms' : List Addr} (a : Ext T ms H H1) (h : ∀ b, b ∈ ms → b ∈ ms') : Ext T ms' H H1 := ⟨fun c o hc hn => a.keep c o (fun z => hc (h c z)) hn, a.tabs⟩
theorem Ext.any (a : Ext T [] H H1) : Ext T ms H H1 := a.wide fun b h => absurd h (by simp)
/-- a list that may change is changed -/
theorem Ext.mut {p : Addr} {xs : List V} {u : HO} (hp : p ∈ ms) (h : H p = some (.lst xs)) : Ext T ms H (upd H p u) := ⟨fun b x hb _ e => by
  rw [upd_ne (fun z => hb (by rw [z]; exact hp))]
  exact e, fun t q hq => by
  obtain ⟨ps, h1, h2, h3⟩ := t q hq
  refine ⟨ps, ?_, h2, fun pos cv hc => ?_⟩
  · rw [upd_ne]
    · exact h1
    · intro z
      rw [z, h] at h1
      cases h1
  · obtain ⟨c, e1, e2⟩ := h3 pos cv hc
    refine ⟨c, e1, ?_⟩
    rw [upd_ne]
    · exact e2
    · intro z
      rw [z, h] at e2
      unfold LamX.CodeO at e2
      cases e2⟩
theorem Ext.lst {p : Addr} {xs : List V} (e : Ext T ms H H1) (hp : p ∉ ms) (h : H p = some (.lst xs)) : H1 p = some (.lst xs) := e.keep p _ hp (fun _ z => by cases z) h
theorem Ext.tup {p : Addr} {xs : List V} (e : Ext T ms H H1) (hp : p ∉ ms) (h : H p = some (.tup xs)) : H1 p = some (.tup xs) := e.keep p _ hp (fun _ z => by cases z) h
theorem Ext.seqL {a : Addr} {xs : List V} (e : Ext T ms H H1) (ha : a ∉ ms) (h : SqL K H a xs) : SqL K H1 a xs := by
  rcases h with (h | ⟨o, h⟩) | h
  · exact .inl (.inl (e.keep a _ ha (fun _ z => by cases z) h))
  · exact .inl (.inr ⟨o, e.keep a _ ha (fun _ z => by cases z) h⟩)
  · exact .inr h
theorem Ext.seqT {a : Addr} {xs : List V} (e : Ext T ms H H1) (ha : a ∉ ms) (h : SqT K H a xs) : SqT K H1 a xs := by
  rcases h with (h | ⟨o, h⟩) | h
  · exact .inl (.inl (e.keep a _ ha (fun _ z => by cases z) h))
  · exact .inl (.inr ⟨o, e.keep a _ ha (fun _ z => by cases z) h⟩)
  · exact .inr h
end
/-! ### the law's tape -/
/-- the tape at t: the script's list at l, its place, what is left of a cell, the running number, the budget -/
def Tape (l : Addr) (H : Hp) (t : Addr) : Prop := ∃ (ns : List Int) (pos : Nat) (rest st bud : Int), H t = some (.lst [.ref l, .int (pos : Int), .int rest, .int st, .int bud]) ∧ H l = some (.lst (ns.map V.int)) ∧ l ≠ t ∧ 0 ≤ rest ∧ 0 ≤ st
theorem Tape.ext {T : List (Addr × Str)} {H H1 : Hp} {l t : Addr} (p : Tape l H t) (e : Ext T [] H H1) : Tape l H1 t := by
  obtain ⟨ns, pos, rest, st, bud, h1, h2, h3⟩ := p
  exact ⟨ns, pos, rest, st, bud, e.lst (by simp) h1, e.lst (by simp) h2, h3⟩
theorem Tape.upd {H : Hp} {l t q : Addr} {o : HO} (p : Tape l H t) (h : H q = none) : Tape l (upd H q o) t := p.ext (T := []) (.new h)
/-- another object is changed -/
theorem Tape.own {H : Hp} {l t q : Addr} {o : HO} (p : Tape l H t) (h1 : q ≠ t) (h2 : q ≠ l) : Tape l (L2.upd H q o) t := by
  obtain ⟨ns, pos, rest, st, bud, a1, a2, h3⟩ := p
  exact ⟨ns, pos, rest, st, bud, by rw [upd_ne h1.symm]; exact a1, by rw [upd_ne h2.symm]; exact a2, h3⟩
theorem Tape.ne {H : Hp} {l t q : Addr} (p : Tape l H t) (h : Nw H q) : q ≠ t ∧ q ≠ l := by
  obtain ⟨ns, pos, rest, st, bud, a1, a2, _⟩ := p
  exact ⟨(h.lst a1).symm, (h.lst a2).symm⟩
def mixI (n : Int) : Int :=
  ((n * 6364136223846793005 + 1442695040888963407) % 18446744073709551616 * ((n * 6364136223846793005 + 1442695040888963407) % 18446744073709551616) / 4294967296 + (n * 6364136223846793005 + 1442695040888963407) % 18446744073709551616 * 69621) % 18446744073709551557
theorem mixI_nn (n : Int) : 0 ≤ mixI n := Int.emod_nonneg _ (by decide)
def spMix : Sp := fun vs H Q _ => ∃ n : Int, vs = [.int n] ∧ Q (.int (mixI n)) H
def spTape (T : List (Addr × Str)) (K : PySem.W.Frag) : Sp := fun vs H Q _ => ∃ (a : Addr) (ns : List Int) (b : Int), vs = [.ref a, .int b] ∧ SqL K H a (ns.map V.int) ∧ ns.length ≤ 63 ∧ ∀ t l H', Nw H t → Ext T [] H H' → Tape l H' t → Q (.ref t) H'
def spTake (T : List (Addr × Str)) : Sp := fun vs H Q _ => ∃ (l t : Addr) (m : Int), vs = [.ref t, .int m] ∧ 0 < m ∧ m < 2 ^ 64 ∧ Tape l H t ∧ ∀ d H', 0 ≤ d → d < m → Ext T [t] H H' → Tape l H' t → Q (.int d) H'
section
variable {T : List (Addr × Str)} {ms : List Addr} {K : PySem.W.Frag} {H H1 H2 : Hp}
/-- an own new list is changed -/
theorem Ext.own {p : Addr} {xs : List V} {u : HO} (e : Ext T ms H H1) (hn : Nw H p) (h : H1 p = some (.lst xs)) : Ext T ms H (upd H1 p u) := ⟨fun b x hb hx q => by
  rw [upd_ne (hn.ne q hx)]
  exact e.keep b x hb hx q, fun t => (Ext.mut (T := T) (ms := [p]) (u := u) (by simp) h).tabs (e.tabs t)⟩
theorem Ext.newR {p : Addr} {o : HO} (e : Ext T ms H H1) (h : H1 p = none) : Ext T ms H (upd H1 p o) := e.trans (.new h)
theorem wipe1 {σ : L2.St} {k : Nat} {v : Option V} : wipe ((wipe σ [k]).set k v) [k] = wipe σ [k] := by
  show ((σ.set k none).set k v).set k none = σ.set k none
  rw [List.set_set, List.set_set]
/-- a comprehension over one name whose test and element are functions of the item -/
theorem lc_pure {J : It} {n : Nat} {G : Hp → Prop} {Y : Nat → Hp → V → Hp → Prop} {tt : TT} {te : TE} {σ : L2.St} {D : Addr} {Qd : Hp → Prop} {k : Nat} (w : Walk J n G Y) (xs : List V) (hn : n = xs.length) (hY : ∀ i H x H', Y i H x H' → H' = H ∧ xs[i]? = some x) (hD : H1 D = none)
    (hG : ∀ H, Ext T ms H1 H → G H) (p : V → Bool) (f : V → V) (hl : xs.length < sizeLine)
    (step : ∀ x ∈ xs, ∀ H, Ext T ms H1 H → ∀ (R : V → Hp → Prop) (S : Hp → Prop), (p x = true → ∀ H2, Ext T ms H H2 → R (f x) H2) → (p x = false → ∀ H2, Ext T ms H H2 → S H2) →
      tt ((wipe σ [k]).set k (some x)) H fun b H2 => if b = true then te ((wipe σ [k]).set k (some x)) H2 R else S H2)
    (hDm : D ∉ ms) (hd : ∀ H, Ext T ms H1 H → H D = some (.lst ((xs.filter p).map f)) → Qd H) :
    ∃ W : Nat → Nat → Hp → Prop, (∃ z, W 0 z (upd H1 D (.lst []))) ∧ ∀ j z H, W j z H →
      (J.stop j H ∧ Qd H) ∨ (J.go j H ∧ ∃ Nx : Hp → Prop, (∀ H', Nx H' → ∃ y, y < z ∧ W (j + 1) y H') ∧ ∀ x H', J.yld j H x H' → gName k x (wipe σ [k]) H' fun σ2 H2 => wipe σ2 [k] = wipe σ [k] ∧ tt σ2 H2 fun b H3 =>
        if b = true then te σ2 H3 fun y H4 => ∃ acc, H4 D = some (.lst acc) ∧ acc.length < sizeLine ∧ Nx (upd H4 D (.lst (acc ++ [y]))) else Nx H3) := by
  refine lc_it w (fun i H => Ext T ms H1 H ∧ H D = some (.lst (((xs.take i).filter p).map f))) ⟨.new hD, by rw [List.take_zero]; exact upd_same⟩ (fun i H _ h => hG H h.1) (fun i x H H' hi h y => ?_) (fun H h => ?_)
  · obtain ⟨e1, e2⟩ := hY i H x H' y
    subst e1
    obtain ⟨h1, h2⟩ := h
    have hx : x ∈ xs := List.mem_of_getElem? e2
    have et : xs.take (i + 1) = xs.take i ++ [x] := by rw [List.take_add_one, e2]; rfl
    refine ⟨wipe1, step x hx H' h1 _ _ (fun hp H2 e => ⟨_, e.lst hDm h2, ?_, ?_⟩) (fun hp H2 e => ?_)⟩
    · refine Nat.lt_of_le_of_lt ?_ hl
      rw [List.length_map]
      exact Nat.le_trans (List.length_filter_le _ _) (by rw [List.length_take]; exact Nat.min_le_right _ _)
    · refine ⟨(h1.trans e).own (.of hD) (e.lst hDm h2), ?_⟩
      rw [upd_same, et, List.filter_append, List.map_append, List.filter_cons_of_pos hp]
      rfl
    · refine ⟨h1.trans e, ?_⟩
      rw [et, List.filter_append, List.filter_cons_of_neg (by rw [hp]; decide), List.filter_nil, List.append_nil]
      exact e.lst hDm h2
  · obtain ⟨h1, h2⟩ := h
    rw [hn, List.take_length] at h2
    exact hd H h1 h2
end
/-! ### a list or a tuple walked -/
def iSeq (K : PySem.W.Frag) (tl : TE) : TI := fun σ H R => tl σ H fun x H1 => ∃ a, x = .ref a ∧ (((∃ xs, SqL K H1 a xs) ∧ R (Itl K a) H1) ∨ ((∃ xs, SqT K H1 a xs) ∧ R (Itt K a) H1))
theorem pi_seq {X : Cx} (K : PySem.W.Frag) (hK : X.K = K) {tg l : Expr} {tl : TE} (hl : PE X l tl) : PI X tg l (iSeq K tl) := by
  subst hK
  refine ⟨fun pins s σ H R I h => ?_⟩
  refine thn (hl.run pins s σ H _ I h) fun v s1 ⟨x, H1, I1, r1, a, e, q⟩ => ?_
  subst e
  cases r1
  have fr : ∀ b, b ∈ [s1.heap.objs.size] → ∀ {o : Obj}, FpOk X pins H1 b := fun b hb _ => by
    have e : b = s1.heap.objs.size := by simpa using hb
    rw [e]
    exact I1.fpOk (Nat.le_refl _) (I1.hok.fresh (Nat.le_refl _))
  rcases q with ⟨⟨xs, hq⟩, q⟩ | ⟨⟨xs, hq⟩, q⟩
  · obtain ⟨us, ru, pl, _⟩ := I1.list hq
    refine wpAny_pyIter_list pl.isList ?_
    exact ⟨s1.heap.objs.size, [s1.heap.objs.size], _, _, H1, rfl, I1.kept (t' := s1.toks) fun b o e => Heap.get?_push_of_some _ e, turn_list a _, ⟨_, Heap.get?_push_size _ rfl, rfl, rfl⟩, fun b hb => fr b hb (o := default), q⟩
  · obtain ⟨us, ru, pl, _⟩ := I1.tuple hq
    refine wpAny_pyIter_tuple (show s1.heap.IsTuple a us.toArray from pl) ?_
    exact ⟨s1.heap.objs.size, [s1.heap.objs.size], _, _, H1, rfl, I1.kept (t' := s1.toks) fun b o e => Heap.get?_push_of_some _ e, turn_tuple a _, ⟨_, Heap.get?_push_size _ rfl, rfl, rfl⟩, fun b hb => fr b hb (o := default), q⟩
/-! ### texts as lists of signs -/
abbrev sg (z : Str) : List Nat := z.cps.toList
theorem sg_len (z : Str) : (sg z).length = z.length := Array.length_toList
theorem sg_inj {a b : Str} (h : sg a = sg b) : a = b := TL.ext_tl h
theorem sg_app (a b : Str) : sg (a ++ b) = sg a ++ sg b := TL.tl_append a b
theorem endswith_iff (x y : Str) : Txt.endswith x y = true ↔ sg y <:+ sg x := by
  unfold Txt.endswith
  rw [StrLaws.subAt_eq, Bool.and_eq_true, decide_eq_true_eq, beq_iff_eq]
  rw [List.suffix_iff_eq_drop, ← sg_len, ← sg_len]
  have hx : x.cps.toList.length = (sg x).length := rfl
  constructor
  · rintro ⟨h1, h2⟩
    rw [List.take_of_length_le (by rw [List.length_drop]; omega)] at h2
    exact h2.symm
  · intro h
    have hl := congrArg List.length h
    rw [List.length_drop] at hl
    refine ⟨by omega, ?_⟩
    rw [List.take_of_length_le (by rw [List.length_drop]; omega)]
    exact h.symm
/-! ### comprehensions, read -/
def LcG (J : It) (g : TG) (tt : TT) (te : TE) (vs : List Nat) (σ : L2.St) (H1 : Hp) (Q : VK) : Prop := ∀ D, H1 D = none → ∃ W : Nat → Nat → Hp → Prop, (∃ z, W 0 z (upd H1 D (.lst []))) ∧ ∀ j z H, W j z H →
  (J.stop j H ∧ Q (.ref D) H) ∨ (J.go j H ∧ ∃ Nx : Hp → Prop, (∀ H', Nx H' → ∃ y, y < z ∧ W (j + 1) y H') ∧ ∀ x H', J.yld j H x H' → g x (wipe σ vs) H' fun σ2 H2 => wipe σ2 vs = wipe σ vs ∧ tt σ2 H2 fun b H3 =>
    if b = true then te σ2 H3 fun y H4 => ∃ acc, H4 D = some (.lst acc) ∧ acc.length < sizeLine ∧ Nx (upd H4 D (.lst (acc ++ [y]))) else Nx H3)
section
variable {K : PySem.W.Frag} {σ : L2.St} {H H1 : Hp} {Q : VK} {wi : TI} {g : TG} {tt : TT} {te : TE} {vs : List Nat} {R : It → Hp → Prop}
theorem rd_lc (q : wi σ H fun J H1 => LcG J g tt te vs σ H1 Q) : tLc wi g tt te vs σ H Q := q
theorem rd_iStr (q : te σ H fun v H1 => ∃ x, v = .str x ∧ R (Its x) H1) : iStr te σ H R := q
theorem rd_exStr {z : Str} {P : Str → Prop} (q : P z) : ∃ x, V.str z = .str x ∧ P x := ⟨z, rfl, q⟩
theorem rd_exRef {a : Addr} {P : Addr → Prop} (q : P a) : ∃ x, V.ref a = .ref x ∧ P x := ⟨a, rfl, q⟩
theorem rd_exInt {a : Int} {P : Int → Prop} (q : P a) : ∃ x, V.int a = .int x ∧ P x := ⟨a, rfl, q⟩
theorem rd_exInts {a : Int} {P : Int → Prop} (q : P a) : ∃ x, [V.int a] = [.int x] ∧ P x := ⟨a, rfl, q⟩
theorem rd_seqL {a : Addr} {xs : List V} {B C : Prop} (h : SqL K H1 a xs) (q : B) : ((∃ xs, SqL K H1 a xs) ∧ B) ∨ C := .inl ⟨⟨xs, h⟩, q⟩
theorem rd_iSeq (q : te σ H fun x H1 => ∃ a, x = .ref a ∧ (((∃ xs, SqL K H1 a xs) ∧ R (Itl K a) H1) ∨ ((∃ xs, SqT K H1 a xs) ∧ R (Itt K a) H1))) : iSeq K te σ H R := q
theorem rd_rng {ta : TA} (q : ta σ H fun vs H1 => ∃ j : Int, vs = [.int j] ∧ -(2 ^ 62) ≤ j ∧ j < 2 ^ 62 ∧ R (Itr 0 j.toNat) H1) : iRng1 ta σ H R := q
/-- the signs of a text, each a text -/
def chrs (z : Str) : List V := (sg z).map fun c => .str ⟨#[c]⟩
variable (T : List (Addr × Str)) (ms : List Addr)
theorem lcg_str {z : Str} {k : Nat} (p : V → Bool) (f : V → V) (hz : z.length < sizeLine) (hm : ∀ D, H D = none → D ∉ ms)
    (step : ∀ x ∈ chrs z, ∀ H', Ext T ms H H' → ∀ (R : V → Hp → Prop) (S : Hp → Prop), (p x = true → ∀ H2, Ext T ms H' H2 → R (f x) H2) → (p x = false → ∀ H2, Ext T ms H' H2 → S H2) →
      tt ((wipe σ [k]).set k (some x)) H' fun b H2 => if b = true then te ((wipe σ [k]).set k (some x)) H2 R else S H2)
    (q : ∀ D H2, Nw H D → Ext T ms H H2 → H2 D = some (.lst (((chrs z).filter p).map f)) → Q (.ref D) H2) : LcG (Its z) (gName k) tt te [k] σ H Q := fun D hD =>
  lc_pure walk_str (chrs z) (by rw [chrs, List.length_map, sg_len]; rfl) (fun i H x H' y => by
    obtain ⟨e, c, h1, h2⟩ := y
    refine ⟨e, ?_⟩
    rw [chrs, List.getElem?_map, h2, show (sg z)[i]? = some c by rw [← h1]; exact Array.getElem?_toList]
    rfl) hD (fun _ _ => True.intro) p f (by rw [chrs, List.length_map, sg_len]; exact hz) step (hm D hD) fun H2 e h => q D H2 (.of hD) e h
theorem lcg_list {a : Addr} {xs : List V} {k : Nat} (h : SqL K H a xs) (p : V → Bool) (f : V → V) (hz : xs.length < sizeLine) (ha : a ∉ ms) (hm : ∀ D, H D = none → D ∉ ms)
    (step : ∀ x ∈ xs, ∀ H', Ext T ms H H' → ∀ (R : V → Hp → Prop) (S : Hp → Prop), (p x = true → ∀ H2, Ext T ms H' H2 → R (f x) H2) → (p x = false → ∀ H2, Ext T ms H' H2 → S H2) →
      tt ((wipe σ [k]).set k (some x)) H' fun b H2 => if b = true then te ((wipe σ [k]).set k (some x)) H2 R else S H2)
    (q : ∀ D H2, Nw H D → Ext T ms H H2 → H2 D = some (.lst ((xs.filter p).map f)) → Q (.ref D) H2) : LcG (Itl K a) (gName k) tt te [k] σ H Q := fun D hD =>
  lc_pure walk_list xs rfl (fun i H x H' y => y) hD (fun H' e => e.seqL ha h) p f hz step (hm D hD) fun H2 e h => q D H2 (.of hD) e h
end
/-! ### loops, read -/
def ForG (J : It) (g : TG) (tb : TS) (D : Ends) (σ : L2.St) (H1 : Hp) : Prop := ∃ W : Nat → Nat → L2.St → Hp → Prop, (∃ z, W 0 z σ H1) ∧ ∀ j z σ H, W j z σ H →
  (J.stop j H ∧ D.nx σ H) ∨ (J.go j H ∧ ∃ N : L2.St → Hp → Prop, (∀ σ' H', N σ' H' → ∃ y, y < z ∧ W (j + 1) y σ' H') ∧ ∀ x H', J.yld j H x H' → g x σ H' fun σ2 H2 => tb { D with nx := N, ct := N, bk := D.nx } σ2 H2)
section
variable {K : PySem.W.Frag} {σ : L2.St} {H H1 : Hp} {wi : TI} {g : TG} {tb : TS} {nx bk ct : L2.St → Hp → Prop} {rt : VK}
theorem rd_for {D : Ends} (q : wi σ H fun J H1 => ForG J g tb D σ H1) : tFor wi g tb D σ H := q
theorem forg_it {J : It} {n : Nat} {G : Hp → Prop} {Y : Nat → Hp → V → Hp → Prop} (w : Walk J n G Y) (Pv : Nat → L2.St → Hp → Prop) (h0 : Pv 0 σ H) (hG : ∀ i σ H, i ≤ n → Pv i σ H → G H)
    (hs : ∀ i x σ H H', i < n → Pv i σ H → Y i H x H' → g x σ H' fun σ2 H2 => tb ⟨Pv (i + 1), rt, nx, Pv (i + 1)⟩ σ2 H2) (hd : ∀ σ H, Pv n σ H → nx σ H) : ForG J g tb ⟨nx, rt, bk, ct⟩ σ H := for_it w Pv h0 hG hs hd
theorem forg_list {a : Addr} {xs : List V} (Pv : Nat → L2.St → Hp → Prop) (h0 : Pv 0 σ H) (hl : ∀ i σ H, i ≤ xs.length → Pv i σ H → SqL K H a xs)
    (hs : ∀ i x σ H, xs[i]? = some x → Pv i σ H → g x σ H fun σ2 H2 => tb ⟨Pv (i + 1), rt, nx, Pv (i + 1)⟩ σ2 H2) (hd : ∀ σ H, Pv xs.length σ H → nx σ H) : ForG (Itl K a) g tb ⟨nx, rt, bk, ct⟩ σ H :=
  forg_it walk_list Pv h0 hl (fun i x σ H H' hi p y => by
    rw [y.1]
    exact hs i x σ H y.2 p) hd
theorem forg_tup {a : Addr} {xs : List V} (Pv : Nat → L2.St → Hp → Prop) (h0 : Pv 0 σ H) (hl : ∀ i σ H, i ≤ xs.length → Pv i σ H → SqT K H a xs)
    (hs : ∀ i x σ H, xs[i]? = some x → Pv i σ H → g x σ H fun σ2 H2 => tb ⟨Pv (i + 1), rt, nx, Pv (i + 1)⟩ σ2 H2) (hd : ∀ σ H, Pv xs.length σ H → nx σ H) : ForG (Itt K a) g tb ⟨nx, rt, bk, ct⟩ σ H :=
  forg_it walk_tup Pv h0 hl (fun i x σ H H' hi p y => by
    rw [y.1]
    exact hs i x σ H y.2 p) hd
theorem forg_range {lo : Int} {n : Nat} (Pv : Nat → L2.St → Hp → Prop) (h0 : Pv 0 σ H)
    (hs : ∀ (i : Nat) σ H, i < n → Pv i σ H → g (.int (lo + i)) σ H fun σ2 H2 => tb ⟨Pv (i + 1), rt, nx, Pv (i + 1)⟩ σ2 H2) (hd : ∀ σ H, Pv n σ H → nx σ H) : ForG (Itr lo n) g tb ⟨nx, rt, bk, ct⟩ σ H :=
  forg_it walk_range Pv h0 (fun _ _ _ _ _ => True.intro) (fun i x σ H H' hi p y => by
    obtain ⟨e1, e2⟩ := y
    rw [e1, e2]
    exact hs i σ H hi p) hd
end
theorem rd_ntt {A B : Prop} (h : B) : if (!true) = true then A else B := h
theorem rd_nff {A B : Prop} (h : A) : if (!false) = true then A else B := h
theorem rd_cut {σ : L2.St} {H : Hp} {nx bk ct : L2.St → Hp → Prop} {rt : VK} {t u : TS} (Mid : L2.St → Hp → Prop) (h1 : ∀ nx' : L2.St → Hp → Prop, (∀ σ' H', Mid σ' H' → nx' σ' H') → t ⟨nx', rt, bk, ct⟩ σ H) (h2 : ∀ σ' H', Mid σ' H' → u ⟨nx, rt, bk, ct⟩ σ' H') : tSeq t u ⟨nx, rt, bk, ct⟩ σ H := h1 _ h2
theorem filtT {α : Type} (l : List α) : l.filter (fun _ => true) = l := List.filter_eq_self.mpr fun _ _ => rfl
/-! ### further steps -/
section
variable {K : PySem.W.Frag} {σ : L2.St} {H : Hp} {Q : VK} {te : TE}
theorem rd_tyes {Q : Bool → Hp → Prop} (q : Q true H) : tYes σ H Q := q
theorem dec_str (a b : Str) : decide (V.str a = V.str b) = decide (a = b) := by
  by_cases h : a = b
  · rw [h]
    simp
  · rw [decide_eq_false h]
    exact decide_eq_false fun z => h (V.str.inj z)
theorem dec_intV (a b : Int) : decide (V.int a = V.int b) = decide (a = b) := by
  by_cases h : a = b
  · rw [h]
    simp
  · rw [decide_eq_false h]
    exact decide_eq_false fun z => h (V.int.inj z)
theorem dec_bl (a b : Bool) : decide (V.bl a = V.bl b) = decide (a = b) := by
  by_cases h : a = b
  · rw [h]
    simp
  · rw [decide_eq_false h]
    exact decide_eq_false fun z => h (V.bl.inj z)
theorem rd_isBool {z : Bool} (q : Q (.bl true) H) : rIsi K [.bl z, .ty "bool"] H Q := ⟨_, _, _, _, true, rfl, .ty _, .base (.bl _), rfl, q⟩
theorem rd_ixS {z : Str} {i : Int} {c : Nat} (hz : z.length ≤ sizeLine) (h : atI z.cps.toList i = some c) (q : Q (.str ⟨#[c]⟩) H) : rIx K (.str z) (.int i) H Q := .inr (.inr ⟨z, i, c, rfl, rfl, hz, h, q⟩)
theorem rd_cat {a b : Addr} {xs ys : List V} (h1 : H a = some (.lst xs)) (h2 : H b = some (.lst ys)) (c : xs.length + ys.length ≤ sizeLine) (q : ∀ p, H p = none → Q (.ref p) (upd H p (.lst (xs ++ ys)))) : rPlus K (.ref a) (.ref b) H Q := .inr (.inr (.inl ⟨a, b, xs, ys, rfl, rfl, h1, h2, c, q⟩))
theorem rd_slS {z : Str} {lo hi : Option Int} (hz : z.length ≤ sizeLine) (q : Q (.str (cutS z lo hi)) H) : rSlU K (.str z) lo hi H Q := .inr (.inl ⟨z, rfl, hz, q⟩)
theorem rd_slL {a : Addr} {xs : List V} {lo hi : Option Int} (h : SqL K H a xs) (q : ∀ p, H p = none → Q (.ref p) (upd H p (.lst (cutV xs lo hi)))) : rSlU K (.ref a) lo hi H Q := .inl ⟨a, xs, rfl, h, q⟩
theorem rd_sl {r : V → Option Int → Option Int → Hp → VK → Prop} {tl th : TO} (q : te σ H fun x H1 => tl σ H1 fun lo H2 => th σ H2 fun hi H3 => r x lo hi H3 Q) : tSl r te tl th σ H Q := q
theorem rd_noP {Q : Option Int → Hp → Prop} (q : Q none H) : tNoPart σ H Q := q
theorem rd_part {Q : Option Int → Hp → Prop} (q : te σ H fun v H1 => ∃ i, v = .int i ∧ Q (some i) H1) : tPart te σ H Q := q
theorem rd_eqStr {a b : Str} (q : Q (.bl (decide (a = b))) H) : rEqU K (.str a) (.str b) H Q := .inl ⟨rfl, by rw [dec_str]; exact q⟩
theorem rd_neStr {a b : Str} (q : Q (.bl (!decide (a = b))) H) : rNeU K (.str a) (.str b) H Q := .inl ⟨rfl, by rw [dec_str]; exact q⟩
theorem rd_eqInt {a b : Int} (q : Q (.bl (decide (a = b))) H) : rEqU K (.int a) (.int b) H Q := .inl ⟨rfl, by rw [dec_intV]; exact q⟩
theorem rd_neInt {a b : Int} (q : Q (.bl (!decide (a = b))) H) : rNeU K (.int a) (.int b) H Q := .inl ⟨rfl, by rw [dec_intV]; exact q⟩
theorem rd_eqBl {a b : Bool} (q : Q (.bl (decide (a = b))) H) : rEqU K (.bl a) (.bl b) H Q := .inl ⟨rfl, by rw [dec_bl]; exact q⟩
theorem rd_rev (q : te σ H fun x H1 => ∃ a xs, x = .ref a ∧ SqL K H1 a xs ∧ ∀ p, H1 p = none → Q (.ref p) (upd H1 p (.lst xs.reverse))) : tRevL K te σ H Q := q
theorem rd_exA {a : Str} {P : Prop} (q : P) : (∃ b, V.str a = .str b) ∧ P := ⟨⟨a, rfl⟩, q⟩
def tFs (ts : List TE) : TE := fun σ H Q => tJs ts Str.empty σ H fun out H1 => Q (.str out) H1
theorem rd_fs {ts : List TE} (q : tJs ts Str.empty σ H fun out H1 => Q (.str out) H1) : tFs ts σ H Q := q
theorem rd_jc {t : TE} {ts : List TE} {acc : Str} {Q : Str → Hp → Prop} (q : t σ H fun x H1 => ∃ y : Str, x = .str y ∧ (acc ++ y).length ≤ sizeLine ∧ tJs ts (acc ++ y) σ H1 Q) : tJs (t :: ts) acc σ H Q := q
theorem rd_jn {acc : Str} {Q : Str → Hp → Prop} (q : Q acc H) : tJs [] acc σ H Q := q
theorem rd_fmt {t : TE} (q : t σ H fun x H1 => (∃ y : Str, x = .str y ∧ y.length ≤ sizeLine ∧ Q (.str y) H1) ∨ ∃ i : Int, x = .int i ∧ i.natAbs.log2 < 1920 ∧ Q (.str (toString i)) H1) : tFmt t σ H Q := q
theorem rd_fmtS {y : Str} {C : Prop} (h : y.length ≤ sizeLine) (q : Q (.str y) H) : (∃ z : Str, V.str y = .str z ∧ z.length ≤ sizeLine ∧ Q (.str z) H) ∨ C := .inl ⟨y, rfl, h, q⟩
theorem rd_bm {T : String} {r : V → List V → Hp → VK → Prop} {t : TA} (q : te σ H fun x H1 => tyV K T x H1 ∧ t σ H1 fun xs H2 => r x xs H2 Q) : tBM K T r te t σ H Q := q
theorem rd_tyL {p : Addr} {xs : List V} {P : Prop} (h : H p = some (.lst xs)) (q : P) : tyV K "list" (.ref p) H ∧ P := ⟨.inl ⟨rfl, xs, .inl (.inl h)⟩, q⟩
theorem rd_app {p : Addr} {xs : List V} {y : V} (h : H p = some (.lst xs)) (c : xs.length < sizeLine) (q : Q .non (upd H p (.lst (xs ++ [y])))) : rAppend (.ref p) [y] H Q := ⟨p, xs, y, rfl, rfl, h, c, q⟩
end
/-! ### a list of data, sorted -/
section
open PySem.W
def Srt (xs : List V) (ds : List PyData) (ys : List V) : Prop := EachIs (fun y d => (y, d) ∈ xs.zip ds) ys (ds.mergeSort (dataLe false id))
def rSortD (K : PySem.W.Frag) : List V → Hp → VK → Prop := fun vs H Q => ∃ (a : Addr) (xs : List V) (ds : List PyData), vs = [.ref a] ∧ SqL K H a xs ∧ DpAll K H xs ds ∧ AllAlike ds ∧ Sortable ds ∧ (∀ d ∈ ds, d.depth ≤ 60) ∧
  ∀ (ys : List V) (p : Addr), Srt xs ds ys → H p = none → Q (.ref p) (upd H p (.lst ys))
end
def dotS : Str := "."
theorem sg_dot : sg dotS = [46] := by decide +kernel
def lettersS : Str := "abcdefghijklmnopqrstuvwxyz0123456789"
def wordB (z ls : Str) (m : Int) : Bool := decide ((1 : Int) ≤ (z.length : Int)) && (decide ((z.length : Int) ≤ m) && (sg z).all fun c => decide (c ∈ sg ls))
def idB (z : Str) : Bool := wordB z lettersS 4
def labelB (z : Str) : Bool := wordB z lettersS 8
def partsL (z : Str) : List Str := Txt.split z dotS
def nameB (z : Str) : Bool := decide (z = dotS) || (decide (((partsL z).length : Int) ≤ 4) && (partsL z).all labelB)
def endsB (n o : Str) : Bool := decide (o = dotS) || (decide (n = o) || Txt.endswith n (dotS ++ o))
theorem parts_sg (z : Str) : (partsL z).map sg = TL.spl [46] 0 [] (sg z) := by
  have h := TL.split_spl z dotS (by rw [show TL.tl dotS = [46] from sg_dot]; simp) (TL.kind_ok (by decide +kernel))
  rw [show TL.tl dotS = [46] from sg_dot] at h
  exact h
theorem dot_len : (Str.ofString ".").length = 1 := by decide +kernel
/-! ### an index that lies in it -/
theorem at_in {α : Type} {l : List α} {i : Int} (h0 : 0 ≤ i) (h : i < l.length) : ∃ c, atI l i = some c ∧ l[i.toNat]? = some c ∧ c ∈ l := by
  have hi : i.toNat < l.length := by omega
  have e : i = ((i.toNat : Nat) : Int) := by omega
  obtain ⟨c, hc⟩ : ∃ c, l[i.toNat]? = some c := ⟨_, List.getElem?_eq_getElem hi⟩
  have h2 := atI_nat hc
  rw [← e] at h2
  exact ⟨c, h2, hc, List.mem_of_getElem? hc⟩
theorem sum_le {B : Nat} : ∀ {l : List Nat}, (∀ x ∈ l, x ≤ B) → l.sum ≤ l.length * B
  | [], _ => by simp
  | x :: r, h => by
    have h1 := h x List.mem_cons_self
    have h2 := sum_le (l := r) fun y hy => h y (List.mem_cons_of_mem _ hy)
    rw [List.sum_cons, List.length_cons, Nat.succ_mul]
    omega
def joinS (ys : List Str) : Str := Txt.join dotS ys
theorem parts_join {ys : List Str} (hne : ys ≠ []) (h : ∀ y ∈ ys, 46 ∉ sg y) : partsL (joinS ys) = ys := TL.split_join sg_dot (by decide +kernel) hne h
theorem label_nodot {y : Str} (h : labelB y = true) : 46 ∉ sg y := fun hm => by
  unfold labelB wordB at h
  rw [Bool.and_eq_true, Bool.and_eq_true] at h
  have h2 := of_decide_eq_true (List.all_eq_true.mp h.2.2 46 hm)
  exact absurd h2 (by decide +kernel)
theorem name_join {ys : List Str} (hne : ys ≠ []) (hl : ys.length ≤ 4) (h : ∀ y ∈ ys, labelB y = true) : nameB (joinS ys) = true := by
  unfold nameB
  rw [parts_join hne fun y hy => label_nodot (h y hy), decide_eq_true (show (ys.length : Int) ≤ 4 by omega), List.all_eq_true.mpr h]
  simp
theorem at_last {α : Type} {l : List α} {v : α} (h : l.getLast? = some v) : atI l (-1) = some v := by
  obtain ⟨r, e⟩ := List.getLast?_eq_some_iff.mp h
  rw [e]
  exact atI_last _ _
/-! ### sorted of data -/
section
open PySem.W
theorem each_zip {γ : Type} : ∀ {xs : List V} {us : List Value} {ds : List γ}, Vals xs us → ds.length = xs.length → EachIs (fun u d => ∃ y, RelV y u ∧ (y, d) ∈ xs.zip ds) us ds
  | _, _, [], .nil, _ => .nil
  | _, _, d :: ds, .nil, h => by cases h
  | _, _, [], .cons _ _, h => by cases h
  | _, _, d :: ds, .cons (a := x) r t, h => by
    refine .cons ⟨x, r, List.mem_cons_self⟩ ?_
    exact (each_zip t (by simpa using h)).mono fun u e ⟨y, h1, h2⟩ => ⟨y, h1, List.mem_cons_of_mem _ h2⟩
/-- the sorted values, by their abstract ones -/
theorem each_back {γ : Type} {R : V → γ → Prop} : ∀ {us : List Value} {ds : List γ}, EachIs (fun u d => ∃ y, RelV y u ∧ R y d) us ds → ∃ ys, Vals ys us ∧ EachIs R ys ds
  | _, _, .nil => ⟨[], .nil, .nil⟩
  | _, _, .cons ⟨y, h1, h2⟩ t => by
    obtain ⟨ys, a, b⟩ := each_back t
    exact ⟨y :: ys, .cons h1 a, .cons h2 b⟩
theorem dpAll_len {K : PySem.W.Frag} {H : Hp} : ∀ {xs : List V} {ds : List PyData}, DpAll K H xs ds → ds.length = xs.length
  | _, _, .nil => rfl
  | _, _, .cons _ t => by rw [List.length_cons, List.length_cons, dpAll_len t]
theorem call_sortedU {X : Cx} (K : PySem.W.Frag) (hK : X.K = K) (hu : X.A.units + 64 < cLine) : CallR X (.builtin "sorted") (rSortD K) := by
  subst hK
  intro pins s σ H vs us Q I r h
  obtain ⟨a, xs, ds, rfl, hs, hd, hal, hk, hdep, q⟩ := h
  cases r with
  | cons r t =>
    cases t
    cases r
    obtain ⟨its, rv, hl, hz⟩ := I.list hs
    have hlen := dpAll_len hd
    obtain ⟨as, hr⟩ := Dp.readsAll I ds xs its hd rv
    have er : EachIs (fun v d => ∃ as, Reads s.heap v (id d) as) its ds := readsAll_each (enc := id) (bs := ds) (by rw [List.map_id]; exact hr)
    refine sorted_data (bs := ds) (enc := id) hl.isList (each_zip rv hlen) er (by rw [List.map_id]; exact hal) (by rw [List.map_id]; exact hk) (by rw [hlen]; exact hz) (fun d hm => ?_) fun out ho he => ?_
    · have := hdep d hm
      show X.A.units + 2 + d.depth < cLine
      omega
    · obtain ⟨ys, h1, h2⟩ := each_back he
      obtain ⟨ep, hp⟩ := PyProof.Rows.sortedAll_at s.heap its (List.toArray out)
      refine ⟨.ref _, upd H (s.heap.objs.size + 1) (.lst ys), I.laid (t' := s.toks) (fun _ _ => PyProof.Rows.sortedAll_old) (Nat.le_succ _) ⟨?_, out, ep, h1, hp⟩, rfl, q ys _ h2 (I.hok.fresh (Nat.le_succ _))⟩
      rw [h1.length, ho, hlen]
      exact hz
end
/-! ### sorted(xs, key=lambda x: ..) whose keys are ints -/
section
open PySem.W
def tSortLam (T : List (Addr × Str)) (K : PySem.W.Frag) (N : List Str) (ta : TA) (tb : TE) : TE := fun σ H Q => ta σ H fun vs H1 => ∃ (a : Addr) (xs : List V) (κ : V → Int), vs = [.ref a] ∧ SqL K H1 a xs ∧ LamX.Tabs T H1 ∧
  (∀ x ∈ xs, ∀ H2, Ext T [] H1 H2 → ∀ Q' : VK, (∀ H3, Ext T [] H2 H3 → Q' (.int (κ x)) H3) → tb (start N [x]) H2 Q') ∧ ∀ q H3, Nw H1 q → Ext T [] H1 H3 → H3 q = some (.lst (xs.mergeSort fun a b => decide (κ a ≤ κ b))) → Q (.ref q) H3
theorem rd_sortLam {T : List (Addr × Str)} {K : PySem.W.Frag} {N : List Str} {ta : TA} {tb : TE} {σ : L2.St} {H : Hp} {Q : VK} (q : ta σ H fun vs H1 => ∃ (a : Addr) (xs : List V) (κ : V → Int), vs = [.ref a] ∧ SqL K H1 a xs ∧ LamX.Tabs T H1 ∧
  (∀ x ∈ xs, ∀ H2, Ext T [] H1 H2 → ∀ Q' : VK, (∀ H3, Ext T [] H2 H3 → Q' (.int (κ x)) H3) → tb (start N [x]) H2 Q') ∧ ∀ q H3, Nw H1 q → Ext T [] H1 H3 → H3 q = some (.lst (xs.mergeSort fun a b => decide (κ a ≤ κ b))) → Q (.ref q) H3) : tSortLam T K N ta tb σ H Q := q
end
/-! ### a def whose own code object is known: it makes a lambda -/
def DefC (K : PySem.W.Frag) (mg : Str → Option Value) (x : Str) (st : Stmt) (ps : List Str) (c : Addr) : Prop :=
  ∃ (f : Addr) (oc : Value) (od : Option Addr) (kV doc pm : Value) (an : Option Addr) (ct : Value) (osl : Array (Option Value)),
    K.lookup f = some ⟨oc, od, .func (PySem.W.fnOf x x (defArgs st) (defBody st) (defScope st) .none kV doc pm an (.ref c) ct), osl⟩ ∧ PySem.W.codeIn K (.ref c) x = true ∧ PySem.W.keepIn K (.ref f) = true ∧ mg x = some (.ref f) ∧
    Binds K (PySem.W.fnOf x x (defArgs st) (defBody st) (defScope st) .none kV doc pm an (.ref c) ct) ps []
theorem DefC.ok {P : Program} {w : World} {K : PySem.W.Frag} {mg : Str → Option Value} {base : Heap} {x : Str} {st : Stmt} {N ps : List Str} {k : Nat} {sp : Sp} {c : Addr} (D : DefC K mg x st ps c) (S : FnScope N ps (defScope st)) (len : ∀ vs H Q E, sp vs H Q E → vs.length = ps.length)
    (hbody : ∀ (f : Addr) (A : Around) (outer : List Env) (s : Shared) (H : Hp) (vs : List V) (Q : VK) (E : XK), Room k (A.deeper (envOfC x (defScope st) s.heap.objs.size f (.ref c))) → sp vs H Q E →
      ∃ t, PSs (cxOf CX0 P w K mg base N x (defScope st) f (.ref c) A outer s H E).nox (defBody st) t ∧ t { nx := fun _ H' => Q .non H', rt := Q } (start N vs) H) : Ok P w K mg base (k + 1) x ps sp := by
  obtain ⟨f, oc, od, kV, doc, pm, an, ct, osl, lk, hcd, hk, hm, hb⟩ := D
  refine ⟨f, _, fn_of lk hcd S len fun A outer s H vs Q E hr h => ?_, hm, hk, hb⟩
  obtain ⟨t, h1, h2⟩ := hbody f A outer s H vs Q E hr h
  exact ⟨t, h1.nox, h2⟩
/-! ### tuple(xs) whose object is known, dict() of it -/
section
variable {X : Cx}
/-- a tuple's object without a dict of its own -/
def PlT (H : Hp) (a : Addr) (xs : List V) : Prop := ∃ o : Obj, o.dict = none ∧ H a = some (.frz o (.tup xs))
def rTupF (K : PySem.W.Frag) : List V → Hp → VK → Prop := fun xs H Q => ∃ p ys, xs = [.ref p] ∧ ((SqL K H p ys ∧ ∀ l o, H l = none → o.dict = none → Q (.ref l) (upd H l (.frz o (.tup ys)))) ∨ (SqT K H p ys ∧ Q (.ref p) H))
theorem call_tupF (K : PySem.W.Frag) (hK : X.K = K) : CallR X (.type "tuple") (rTupF K) := by
  subst hK
  intro pins s σ H xs us Q I r h
  obtain ⟨p, ys, rfl, h⟩ := h
  obtain ⟨u, rfl, rx⟩ := vals1 r
  cases rx
  rcases h with ⟨hq, q⟩ | ⟨hq, q⟩
  · obtain ⟨its, r', pl, hz⟩ := I.list hq
    have hlen := r'.length
    refine call_tuple_list pl.isList (fun h' kp => ?_) (by simp only [List.size_toArray] <;> omega)
    have I1 : Inv X pins σ H { s with heap := h' } := I.kept (t' := s.toks) kp
    have I2 : Inv X pins σ (upd H h'.objs.size (.frz { cls := .type "tuple", data := .seq its.toArray } (.tup ys))) { s with heap := h'.push { cls := .type "tuple", data := .seq its.toArray } } :=
      I1.laid (t' := s.toks) (fun b o e => Heap.get?_push_of_some _ e) (Nat.le_refl _) (show ObjOk X.prog X.w _ _ _ (.frz _ (.tup ys)) from ⟨Heap.get?_push_size _ rfl, hz, its, r', IsTup.new _ _⟩)
    exact ⟨.ref h'.objs.size, _, I2, rfl, q _ _ (I1.hok.fresh (Nat.le_refl _)) rfl⟩
  · obtain ⟨its, r', pl, hz⟩ := I.tuple hq
    exact call_tuple_same pl ⟨.ref p, H, I, rfl, q⟩
/-- the pairs of a tuple, whose keys are tuples -/
def PairsT (K : PySem.W.Frag) (H : Hp) : List Addr → List (List L2.Key × V) → Prop := Paired fun p kv => ∃ b, SqT K H p [.ref b, kv.2] ∧ H b = some (.tup (kv.1.map kV))
theorem pairsT_of {pins : List (Addr × Obj)} {σ : L2.St} {H : Hp} {s : Shared} (I : Inv X pins σ H s) : ∀ {ps : List Addr} {kvs : List (List L2.Key × V)}, PairsT X.K H ps kvs →
    ∃ prs : List (List L2.Key × Addr × Value), KT H kvs prs ∧ prs.length = ps.length ∧ ∀ (j : Nat) (q : List L2.Key × Addr × Value), prs[j]? = some q → ∃ b : Addr, ps[j]? = some b ∧ s.heap.IsTuple b #[.ref q.2.1, q.2.2] ∧ (tupleKind (mixKind X.prog X.w)).is s.heap q.1 q.2.1
  | _, _, .nil => ⟨[], .nil, rfl, fun j q e => by simp at e⟩
  | _, _, .cons (a := p) (b := kv) ⟨kb, h, hb⟩ t => by
    obtain ⟨prs, r, hl, hp⟩ := pairsT_of I t
    obtain ⟨its, rv, ht, _⟩ := I.tuple h
    obtain ⟨u, y, ei, ru, ry⟩ := vals2 rv
    subst ei
    cases ru
    refine ⟨(kv.1, kb, y) :: prs, .cons ⟨rfl, hb, ry⟩ r, by rw [List.length_cons, List.length_cons, hl], fun j q e => ?_⟩
    cases j with
    | zero =>
      have e' : (kv.1, kb, y) = q := Option.some.inj e
      subst e'
      exact ⟨p, rfl, ht, key_of I.hok hb⟩
    | succ j =>
      obtain ⟨b, e1, e2, e3⟩ := hp j q (by simpa using e)
      exact ⟨b, by simpa using e1, e2, e3⟩
theorem kt_keys {H : Hp} : ∀ {kvs : List (List L2.Key × V)} {prs : List (List L2.Key × Addr × Value)}, KT H kvs prs → prs.map (·.1) = kvs.map (·.1)
  | _, _, .nil => rfl
  | _, _, .cons h t => by rw [List.map_cons, List.map_cons, kt_keys t, h.1]
theorem kt_upd {H : Hp} {p : Addr} {o : HO} (hp : H p = none) : ∀ {kvs : List (List L2.Key × V)} {prs : List (List L2.Key × Addr × Value)}, KT H kvs prs → KT (upd H p o) kvs prs
  | _, _, .nil => .nil
  | _, _, .cons h t => .cons ⟨h.1, (upd_ne (ne_of_none h.2.1 hp)).trans h.2.1, h.2.2⟩ (kt_upd hp t)
def rDictT (K : PySem.W.Frag) : List V → Hp → VK → Prop := fun xs H Q => ∃ (a : Addr) (ps : List Addr) (kvs : List (List L2.Key × V)), xs = [.ref a] ∧ PlT H a (ps.map V.ref) ∧ PairsT K H ps kvs ∧ (kvs.map (·.1)).Nodup ∧
    ∀ p, H p = none → Q (.ref p) (upd H p (.dT kvs))
theorem call_dictT (K : PySem.W.Frag) (hK : X.K = K) (hcalm : X.calm = true) (hu : X.A.units + 64 < cLine) : CallR X (.type "dict") (rDictT K) := by
  subst hK
  intro pins s σ H xs us Q I r q
  obtain ⟨a, ps, kvs, ex, ⟨o, hdn, ha⟩, hp, hnd, q⟩ := q
  subst ex
  obtain ⟨u, eu, rx⟩ := vals1 r
  subst eu
  cases rx
  obtain ⟨hget, hz, its, rv, hit⟩ := (show ObjOk X.prog X.w H s.heap a (.frz o (.tup (ps.map V.ref))) from I.hok a _ ha)
  have ei := refs_at rv
  subst ei
  rw [List.length_map] at hz
  obtain ⟨prs, rel, hl, hpr⟩ := pairsT_of I hp
  obtain ⟨o', ho', hc, n, hd⟩ := hit
  have eo : o' = o := by
    rw [hget] at ho'
    exact (Option.some.inj ho').symm
  subst eo
  have hnd2 : (prs.map (·.1)).Nodup := by rw [kt_keys rel]; exact hnd
  have hP := PySem.PairArg.tuple (prog := X.prog) (w := X.w) a (ps.map Value.ref).toArray (fun j => ps.getD j 0) (prs.map fun q => (Value.ref q.2.1, q.2.2))
  have hitem : PySem.PairItems s.heap (ps.map Value.ref).toArray (fun j => ps.getD j 0) (prs.map fun q => (Value.ref q.2.1, q.2.2)) := by
    refine ⟨by simp [hl], fun j k v e => ?_⟩
    rw [List.getElem?_map] at e
    obtain ⟨q', e1, e2⟩ := Option.map_eq_some_iff.mp e
    obtain ⟨b, h1, h2, h3⟩ := hpr j q' e1
    have e3 : k = .ref q'.2.1 := (congrArg Prod.fst e2).symm
    have e4 : v = q'.2.2 := (congrArg Prod.snd e2).symm
    have e5 : ps.getD j 0 = b := by rw [List.getD_eq_getElem?_getD, h1]; rfl
    refine ⟨by simp [h1], ?_⟩
    rw [e3, e4]
    show PySem.PairAt s.heap (ps.getD j 0) _ _
    rw [e5]
    exact .inl h2
  have hmem : ∀ x ∈ prs, (tupleKind (mixKind X.prog X.w)).is s.heap x.1 x.2.1 := fun x hx => by
    obtain ⟨j, hj⟩ := List.mem_iff_getElem?.mp hx
    obtain ⟨b, _, _, h3⟩ := hpr j x hj
    exact h3
  refine PySem.call_dict_pairsH (knd := tupleKind (mixKind X.prog X.w)) (ps := prs) hP (I.ok.hd hcalm) (show X.A.units + 1 + 1 < cLine by omega) ⟨⟨o', n, hget, hc, hdn, hd⟩, hitem⟩ ⟨by rw [List.length_map], fun i key v e => ?_⟩ (fun h' hk x hx => ?_) (by rw [List.length_map, hl]; exact hz) fun h' tk hd' k => ?_
  · have e : (prs.map fun q => (Value.ref q.2.1, q.2.2))[i]? = some (key, v) := e
    rw [List.getElem?_map] at e
    obtain ⟨q', e1, e2⟩ := Option.map_eq_some_iff.mp e
    refine ⟨q'.1, q'.2.1, ?_, (congrArg Prod.fst e2).symm⟩
    have e6 : q'.2.2 = v := congrArg Prod.snd e2
    rw [e1, ← e6]
  · obtain ⟨o2, its2, n2, h1, h2, h3, h4⟩ := hmem x hx
    exact ⟨o2, its2, n2, hk _ _ (Nat.ne_of_lt (Heap.lt_size h1)) (by simp) h1, h2, h3, h4⟩
  · rw [PySem.storedAllH_nil_of_nodup _ hnd2] at hd'
    have hm : (s.heap.objs.size == sysModules) = false := beq_eq_false_iff_ne.mpr (Nat.ne_of_gt I.big)
    have fr := I.hok.fresh (a := s.heap.objs.size) (Nat.le_refl _)
    obtain ⟨od, es, ep, w1, w2, w3, w4, w5, w6⟩ := hd'
    have hlen : kvs.length ≤ sizeLine := by
      have e1 := congrArg List.length (kt_keys rel)
      rw [List.length_map, List.length_map] at e1
      rw [← e1, hl]
      exact hz
    exact ⟨.ref s.heap.objs.size, upd H s.heap.objs.size (.dT kvs), I.laid (t' := tk) (fun b u e => k b u (by simp) e) (Nat.le_refl _) (show ObjOk X.prog X.w _ _ _ (.dT kvs) from ⟨hlen, hm, prs, kt_upd fr rel, od, es, ep, w1, w2, w3, w4, w6⟩), rfl, q _ fr⟩
end
/-! ### data without lists -/
def SqP (H : Hp) (a : Addr) (xs : List V) : Prop := Rd H a (.tup xs)
mutual
inductive Im (H : Hp) : V → PyData → Prop
  | non : Im H .non .none
  | int (i : Int) : Im H (.int i) (.int i)
  | str (x : Str) (h : PyData.strOk x = true) : Im H (.str x) (.str x)
  | tup {a : Addr} {xs : List V} {ds : List PyData} : H a = some (.tup xs) → ImAll H xs ds → Im H (.ref a) (.tuple ds)
  | tupF {a : Addr} {xs : List V} {ds : List PyData} {o : Obj} : H a = some (.frz o (.tup xs)) → (∀ d ∈ ds, ∃ es, d = .tuple es) → ImAll H xs ds → Im H (.ref a) (.tuple ds)
inductive ImAll (H : Hp) : List V → List PyData → Prop
  | nil : ImAll H [] []
  | cons {v : V} {vs : List V} {d : PyData} {ds : List PyData} : Im H v d → ImAll H vs ds → ImAll H (v :: vs) (d :: ds)
end
theorem SqP.of {H : Hp} {a : Addr} {xs : List V} (h : H a = some (.tup xs)) : SqP H a xs := .inl h
theorem SqP.sq {K : PySem.W.Frag} {H : Hp} {a : Addr} {xs : List V} (h : SqP H a xs) : SqT K H a xs := .inl h
theorem Im.tup' {H : Hp} {v : V} {ds : List PyData} (h : Im H v (.tuple ds)) : ∃ a xs, v = .ref a ∧ SqP H a xs ∧ ImAll H xs ds := by
  cases h with
  | tup h1 h2 => exact ⟨_, _, rfl, .inl h1, h2⟩
  | tupF h1 _ h2 => exact ⟨_, _, rfl, .inr ⟨_, h1⟩, h2⟩
/-- a tuple that begins with something else than a tuple is one that is tracked -/
theorem Im.tupS {H : Hp} {v : V} {d : PyData} {ds : List PyData} (h : Im H v (.tuple (d :: ds))) (hd : ∀ es, d ≠ .tuple es) : ∃ a xs, v = .ref a ∧ H a = some (.tup xs) ∧ ImAll H xs (d :: ds) := by
  cases h with
  | tup h1 h2 => exact ⟨_, _, rfl, h1, h2⟩
  | tupF h1 h3 h2 =>
    obtain ⟨es, e⟩ := h3 d List.mem_cons_self
    exact absurd e (hd es)
mutual
theorem Im.dp {K : PySem.W.Frag} {H : Hp} : ∀ (d : PyData) (v : V), Im H v d → Dp K H v d
  | .none, _, h => by cases h; exact .non
  | .bool b, _, h => by cases h
  | .int i, _, h => by cases h; exact .int i
  | .str x, _, h => by cases h; exact .str x
  | .list _, _, h => by cases h
  | .dict _, _, h => by cases h
  | .tuple ds, _, h => by
    obtain ⟨a, xs, rfl, h1, h2⟩ := h.tup'
    exact .tup h1.sq (ImAll.dp ds _ h2)
theorem ImAll.dp {K : PySem.W.Frag} {H : Hp} : ∀ (ds : List PyData) (vs : List V), ImAll H vs ds → DpAll K H vs ds
  | [], _, h => by cases h; exact .nil
  | d :: ds, _, h => by
    cases h with
    | cons h1 h2 => exact .cons (Im.dp d _ h1) (ImAll.dp ds _ h2)
end
/-- all the objects that may change are lists -/
def Lsts (H : Hp) (ms : List Addr) : Prop := ∀ b ∈ ms, ∃ xs, H b = some (.lst xs)
theorem tup.ext {T : List (Addr × Str)} {ms : List Addr} {H H' : Hp} {a : Addr} {xs : List V} (h : H a = some (.tup xs)) (e : Ext T ms H H') (hm : Lsts H ms) : H' a = some (.tup xs) := by
  have hn : ∀ o, H a = some o → (∀ xs, o ≠ .lst xs) → a ∉ ms := fun o ho hl hb => by
    obtain ⟨ys, hy⟩ := hm a hb
    rw [ho] at hy
    exact hl ys (Option.some.inj hy)
  exact e.keep a _ (hn _ h fun _ z => by cases z) (fun _ z => by cases z) h
theorem frz.ext {T : List (Addr × Str)} {ms : List Addr} {H H' : Hp} {a : Addr} {o : Obj} {u : HO} (h : H a = some (.frz o u)) (e : Ext T ms H H') (hm : Lsts H ms) : H' a = some (.frz o u) := by
  have hn : ∀ o, H a = some o → (∀ xs, o ≠ .lst xs) → a ∉ ms := fun o ho hl hb => by
    obtain ⟨ys, hy⟩ := hm a hb
    rw [ho] at hy
    exact hl ys (Option.some.inj hy)
  exact e.keep a _ (hn _ h fun _ z => by cases z) (fun _ z => by cases z) h
theorem SqP.ext {T : List (Addr × Str)} {ms : List Addr} {H H' : Hp} {a : Addr} {xs : List V} (h : SqP H a xs) (e : Ext T ms H H') (hm : Lsts H ms) : SqP H' a xs := by
  rcases h with h | ⟨o, h⟩
  · exact .inl (tup.ext h e hm)
  · exact .inr ⟨o, frz.ext h e hm⟩
theorem SqP.inj {H : Hp} {a : Addr} {xs ys : List V} (h : SqP H a xs) (q : SqP H a ys) : xs = ys := by
  rcases h with h | ⟨o, h⟩ <;> rcases q with q | ⟨o', q⟩ <;> rw [h] at q <;> cases q <;> rfl
mutual
theorem Im.ext {T : List (Addr × Str)} {ms : List Addr} {H H' : Hp} (e : Ext T ms H H') (hm : Lsts H ms) : ∀ (d : PyData) (v : V), Im H v d → Im H' v d
  | .none, _, h => by cases h; exact .non
  | .bool b, _, h => by cases h
  | .int i, _, h => by cases h; exact .int i
  | .str x, _, h => by
    cases h with
    | str _ q => exact .str x q
  | .list _, _, h => by cases h
  | .dict _, _, h => by cases h
  | .tuple ds, _, h => by
    cases h with
    | tup h1 h2 => exact .tup (tup.ext h1 e hm) (ImAll.ext e hm ds _ h2)
    | tupF h1 h3 h2 => exact .tupF (frz.ext h1 e hm) h3 (ImAll.ext e hm ds _ h2)
theorem ImAll.ext {T : List (Addr × Str)} {ms : List Addr} {H H' : Hp} (e : Ext T ms H H') (hm : Lsts H ms) : ∀ (ds : List PyData) (vs : List V), ImAll H vs ds → ImAll H' vs ds
  | [], _, h => by cases h; exact .nil
  | d :: ds, _, h => by
    cases h with
    | cons h1 h2 => exact .cons (Im.ext e hm d _ h1) (ImAll.ext e hm ds _ h2)
end
theorem ImAll.len {H : Hp} : ∀ {vs : List V} {ds : List PyData}, ImAll H vs ds → vs.length = ds.length
  | _, _, .nil => rfl
  | _, _, .cons _ t => by rw [List.length_cons, List.length_cons, t.len]
theorem ImAll.get {H : Hp} : ∀ {vs : List V} {ds : List PyData} {i : Nat} {d : PyData}, ImAll H vs ds → ds[i]? = some d → ∃ v, vs[i]? = some v ∧ Im H v d
  | _, _, 0, d, .cons h t, e => ⟨_, rfl, by rw [← Option.some.inj (show some _ = some d from e)]; exact h⟩
  | _, _, i + 1, d, .cons h t, e => t.get (i := i) e
theorem ImAll.get' {H : Hp} : ∀ {vs : List V} {ds : List PyData} {i : Nat} {v : V}, ImAll H vs ds → vs[i]? = some v → ∃ d, ds[i]? = some d ∧ Im H v d
  | _, _, 0, d, .cons h t, e => ⟨_, rfl, by rw [← Option.some.inj (show some _ = some d from e)]; exact h⟩
  | _, _, i + 1, d, .cons h t, e => t.get' (i := i) e
theorem ImAll.app {H : Hp} : ∀ {vs ws : List V} {ds es : List PyData}, ImAll H vs ds → ImAll H ws es → ImAll H (vs ++ ws) (ds ++ es)
  | _, _, _, _, .nil, h => h
  | _, _, _, _, .cons a t, h => .cons a (t.app h)
theorem ImAll.snoc {H : Hp} {vs : List V} {ds : List PyData} {v : V} {d : PyData} (h : ImAll H vs ds) (x : Im H v d) : ImAll H (vs ++ [v]) (ds ++ [d]) := h.app (.cons x .nil)
theorem ImAll.drop {H : Hp} : ∀ {vs : List V} {ds : List PyData} (n : Nat), ImAll H vs ds → ImAll H (vs.drop n) (ds.drop n)
  | _, _, 0, h => h
  | _, _, n + 1, .nil => .nil
  | _, _, n + 1, .cons _ t => t.drop n
theorem ImAll.take {H : Hp} : ∀ {vs : List V} {ds : List PyData} (n : Nat), ImAll H vs ds → ImAll H (vs.take n) (ds.take n)
  | _, _, 0, h => .nil
  | _, _, n + 1, .nil => .nil
  | _, _, n + 1, .cons h t => .cons h (t.take n)
theorem ImAll.strs {H : Hp} : ∀ {zs : List Str}, (∀ z ∈ zs, PyData.strOk z = true) → ImAll H (zs.map V.str) (zs.map PyData.str)
  | [], _ => .nil
  | z :: zs, h => .cons (.str z (h z List.mem_cons_self)) (ImAll.strs fun y hy => h y (List.mem_cons_of_mem _ hy))
mutual
theorem Im.lay {H : Hp} : ∀ (d : PyData) (v : V), Im H v d → d.canLay0 = true
  | .none, _, h => rfl
  | .bool b, _, h => by cases h
  | .int i, _, h => rfl
  | .str x, _, h => by
    cases h with
    | str _ q => exact q
  | .list _, _, h => by cases h
  | .dict _, _, h => by cases h
  | .tuple ds, _, h => by
    obtain ⟨a, xs, rfl, h1, h2⟩ := h.tup'
    exact ImAll.lay ds _ h2
theorem ImAll.lay {H : Hp} : ∀ (ds : List PyData) (vs : List V), ImAll H vs ds → PyData.canLayAll0 ds = true
  | [], _, h => rfl
  | d :: ds, _, h => by
    cases h with
    | cons h1 h2 =>
      show (d.canLay0 && PyData.canLayAll0 ds) = true
      rw [Im.lay d _ h1, ImAll.lay ds _ h2]
      rfl
end
theorem Im.shaped {H : Hp} {d : PyData} {v : V} (h : Im H v d) (hd : d.depth ≤ 64) : SeqAt.shaped d = true := by
  unfold SeqAt.shaped
  rw [Im.lay d v h, decide_eq_true hd]
  rfl
theorem ImAll.strs' {H : Hp} : ∀ {zs : List Str} {vs : List V}, ImAll H vs (zs.map PyData.str) → vs = zs.map V.str
  | [], _, h => by cases h; rfl
  | z :: zs, _, h => by
    cases h with
    | cons a t =>
      cases a
      rw [List.map_cons, ImAll.strs' t]
theorem Im.str' {H : Hp} {v : V} {z : Str} (h : Im H v (.str z)) : v = .str z := by cases h; rfl
theorem Im.int' {H : Hp} {v : V} {z : Int} (h : Im H v (.int z)) : v = .int z := by cases h; rfl
theorem Im.pair' {H : Hp} {v : V} {d1 d2 : PyData} (h : Im H v (.tuple [d1, d2])) : ∃ a x y, v = .ref a ∧ SqP H a [x, y] ∧ Im H x d1 ∧ Im H y d2 := by
  obtain ⟨a, xs, rfl, h1, h2⟩ := h.tup'
  cases h2 with
  | cons a1 t =>
    cases t with
    | cons a2 t =>
      cases t
      exact ⟨a, _, _, rfl, h1, a1, a2⟩
theorem Im.new2 {H : Hp} {a : Addr} {v1 v2 : V} {d1 d2 : PyData} (h1 : Im H v1 d1) (h2 : Im H v2 d2) (ha : H a = some (.tup [v1, v2])) : Im H (.ref a) (.tuple [d1, d2]) := .tup ha (.cons h1 (.cons h2 .nil))
theorem Im.new3 {H : Hp} {a : Addr} {v1 v2 v3 : V} {d1 d2 d3 : PyData} (h1 : Im H v1 d1) (h2 : Im H v2 d2) (h3 : Im H v3 d3) (ha : H a = some (.tup [v1, v2, v3])) : Im H (.ref a) (.tuple [d1, d2, d3]) := .tup ha (.cons h1 (.cons h2 (.cons h3 .nil)))
/-- a list of such data -/
def Ls (H : Hp) (a : Addr) (ds : List PyData) : Prop := ∃ xs, H a = some (.lst xs) ∧ ImAll H xs ds
theorem Ls.ext {T : List (Addr × Str)} {ms : List Addr} {H H' : Hp} {a : Addr} {ds : List PyData} (h : Ls H a ds) (e : Ext T ms H H') (ha : a ∉ ms) (hm : Lsts H ms) : Ls H' a ds := by
  obtain ⟨xs, h1, h2⟩ := h
  exact ⟨xs, e.lst ha h1, ImAll.ext e hm _ _ h2⟩
theorem Lsts.nil {H : Hp} : Lsts H [] := fun b hb => by cases hb
theorem Tape.lsts {H : Hp} {l t : Addr} (h : Tape l H t) : Lsts H [t] := fun b hb => by
  rw [List.mem_singleton.mp hb]
  obtain ⟨ns, pos, rest, st, bud, h1, _⟩ := h
  exact ⟨_, h1⟩
theorem no_iff {p : Prop} {q : Prop} (h1 : ¬ p) (h2 : ¬ q) : p ↔ q := ⟨fun h => absurd h h1, fun h => absurd h h2⟩
mutual
theorem Im.eqv {H G : Hp} : ∀ (d e : PyData) (v u : V), Im H v d → Im G u e → (PyData.eqv d e = true ↔ d = e)
  | .none, e, v, u, _, h2 => by
    cases h2 with
    | non => exact ⟨fun _ => rfl, fun _ => rfl⟩
    | int i => exact no_iff (fun h => by cases h) (fun h => by cases h)
    | str i _ => exact no_iff (fun h => by cases h) (fun h => by cases h)
    | tup a b => exact no_iff (fun h => by cases h) (fun h => by cases h)
    | tupF a c b => exact no_iff (fun h => by cases h) (fun h => by cases h)
  | .bool _, e, v, u, h1, h2 => by cases h1
  | .list _, e, v, u, h1, h2 => by cases h1
  | .dict _, e, v, u, h1, h2 => by cases h1
  | .int i, e, v, u, _, h2 => by
    cases h2 with
    | non => exact no_iff (fun h => by cases h) (fun h => by cases h)
    | int j =>
      show ((i == j) = true) ↔ _
      rw [beq_iff_eq]
      exact ⟨fun h => by rw [h], fun h => by injection h⟩
    | str i _ => exact no_iff (fun h => by cases h) (fun h => by cases h)
    | tup a b => exact no_iff (fun h => by cases h) (fun h => by cases h)
    | tupF a c b => exact no_iff (fun h => by cases h) (fun h => by cases h)
  | .str x, e, v, u, _, h2 => by
    cases h2 with
    | non => exact no_iff (fun h => by cases h) (fun h => by cases h)
    | int i => exact no_iff (fun h => by cases h) (fun h => by cases h)
    | str y _ =>
      show ((x == y) = true) ↔ _
      rw [beq_iff_eq]
      exact ⟨fun h => by rw [h], fun h => by injection h⟩
    | tup a b => exact no_iff (fun h => by cases h) (fun h => by cases h)
    | tupF a c b => exact no_iff (fun h => by cases h) (fun h => by cases h)
  | .tuple ds, e, v, u, h0, h2 => by
    obtain ⟨_, _, _, _, h1⟩ := h0.tup'
    cases h2 with
    | non => exact no_iff (fun h => by cases h) (fun h => by cases h)
    | int i => exact no_iff (fun h => by cases h) (fun h => by cases h)
    | str i _ => exact no_iff (fun h => by cases h) (fun h => by cases h)
    | tup _ h3 =>
      have key := ImAll.eqv ds _ _ _ h1 h3
      exact ⟨fun h => by rw [key.mp h], fun h => key.mpr (by injection h)⟩
    | tupF _ _ h3 =>
      have key := ImAll.eqv ds _ _ _ h1 h3
      exact ⟨fun h => by rw [key.mp h], fun h => key.mpr (by injection h)⟩
theorem ImAll.eqv {H G : Hp} : ∀ (ds es : List PyData) (vs us : List V), ImAll H vs ds → ImAll G us es → (PyData.eqvAll ds es = true ↔ ds = es)
  | [], es, vs, us, h1, h2 => by
    cases h2 with
    | nil => exact ⟨fun _ => rfl, fun _ => rfl⟩
    | cons a b => exact no_iff (fun h => by cases h) (fun h => by cases h)
  | d :: ds, es, vs, us, h1, h2 => by
    cases h1 with
    | cons h3 h4 =>
      cases h2 with
      | nil => exact no_iff (fun h => by cases h) (fun h => by cases h)
      | cons h5 h6 =>
        have k1 := Im.eqv d _ _ _ h3 h5
        have k2 := ImAll.eqv ds _ _ _ h4 h6
        show ((PyData.eqv _ _ && PyData.eqvAll _ _) = true) ↔ _
        rw [Bool.and_eq_true, k1, k2]
        exact ⟨fun h => by rw [h.1, h.2], fun h => (by injection h with a b; exact ⟨a, b⟩)⟩
end
theorem any_eqv {H : Hp} {v : V} {d : PyData} (h : Im H v d) : ∀ {ds : List PyData} {vs : List V}, ImAll H vs ds → ((ds.any fun z => PyData.eqv z d) = true ↔ d ∈ ds)
  | [], _, _ => by simp
  | e :: ds, _, .cons h1 h2 => by
    rw [List.any_cons, Bool.or_eq_true, Im.eqv _ _ _ _ h1 h, any_eqv h h2, List.mem_cons]
    exact ⟨fun h => h.imp Eq.symm id, fun h => h.imp Eq.symm id⟩
theorem bool_of {a b : Bool} (h : a = true ↔ b = true) : a = b := by
  cases a <;> cases b <;> simp_all
/-! ### reading such data -/
section
variable {K : PySem.W.Frag} {σ : L2.St} {H : Hp} {Q : VK}
theorem SqP.t {a : Addr} {xs : List V} (h : SqP H a xs) : SqT K H a xs := h.sq
theorem rd_ixI {v : V} {ds : List PyData} {i : Int} {d : PyData} (h : Im H v (.tuple ds)) (a : atI ds i = some d) (q : ∀ u, Im H u d → Q u H) : rIx K v (.int i) H Q := by
  obtain ⟨p, xs, rfl, h1, h2⟩ := h.tup'
  have key : ∃ u, atI xs i = some u ∧ Im H u d := by
    unfold atI at a ⊢
    cases e : ixN ds.length i with
    | none =>
      rw [e] at a
      cases a
    | some k =>
      rw [e] at a
      obtain ⟨u, e1, e2⟩ := h2.get (i := k) (by simpa using a)
      exact ⟨u, by rw [h2.len, e]; simpa using e1, e2⟩
  obtain ⟨u, h3, h4⟩ := key
  exact rd_ixT (SqP.t h1) h3 (q u h4)
end
open PySem.W (EachIs AllAlike Sortable dataLe)
/-! ### signs over data -/
section
variable {X : Cx}
def rInDT (K : PySem.W.Frag) : R2 := fun x y H Q => ∃ d ds, Dp K H x d ∧ Dp K H y (.tuple ds) ∧ SeqAt.shaped d = true ∧ SeqAt.shaped (.tuple ds) = true ∧ Q (.bl (ds.any fun z => PyData.eqv z d)) H
def rNinDT (K : PySem.W.Frag) : R2 := fun x y H Q => ∃ d ds, Dp K H x d ∧ Dp K H y (.tuple ds) ∧ SeqAt.shaped d = true ∧ SeqAt.shaped (.tuple ds) = true ∧ Q (.bl (!ds.any fun z => PyData.eqv z d)) H
theorem canLay_shapedT {xs : List PyData} (h : SeqAt.shaped (.tuple xs) = true) : PyData.canLayAll0 xs = true := (Bool.and_eq_true _ _ ▸ h : _ ∧ _).1
theorem room_in_shapedT {a : Nat} {d : PyData} {xs : List PyData} (h : SeqAt.shaped d = true) (hu : a + 65 < cLine) : a + 1 + min (PyData.depthAll xs) d.depth < cLine := by
  have h1 : d.depth ≤ 64 := of_decide_eq_true (Bool.and_eq_true _ _ ▸ h : _ ∧ _).2
  have h2 : min (PyData.depthAll xs) d.depth ≤ d.depth := Nat.min_le_right _ _
  omega
theorem op_inDT (hu : X.A.units + 65 < cLine) : OpR X (compareOp .In) (rInDT X.K) := by
  intro pins s σ H x y v u Q I rx ry h
  obtain ⟨d, ds, hd, he, sd, se, q⟩ := h
  obtain ⟨as, r1⟩ := Dp.reads I d x v hd rx
  obtain ⟨bs, r2⟩ := Dp.reads I (.tuple ds) y u he ry
  exact SeqAt.in_tuple_reads r2 r1 (canLay_shapedT se) (SeqAt.canLay_of_shaped sd) (room_in_shapedT sd hu) ⟨.bl _, H, I, rfl, q⟩
theorem op_ninDT (hu : X.A.units + 65 < cLine) : OpR X (compareOp .NotIn) (rNinDT X.K) := by
  intro pins s σ H x y v u Q I rx ry h
  obtain ⟨d, ds, hd, he, sd, se, q⟩ := h
  obtain ⟨as, r1⟩ := Dp.reads I d x v hd rx
  obtain ⟨bs, r2⟩ := Dp.reads I (.tuple ds) y u he ry
  exact SeqAt.notIn_tuple_reads r2 r1 (canLay_shapedT se) (SeqAt.canLay_of_shaped sd) (room_in_shapedT sd hu) ⟨.bl _, H, I, rfl, q⟩
def rInW (K : PySem.W.Frag) : R2 := fun x y H Q => rInU K x y H Q ∨ (rInD K x y H Q ∨ rInDT K x y H Q)
def rNinW (K : PySem.W.Frag) : R2 := fun x y H Q => rNinU K x y H Q ∨ (rNotInD K x y H Q ∨ rNinDT K x y H Q)
theorem Room.units65 {k : Nat} {A : Around} (r : Room k A) : A.units + 65 < cLine := by have := r.un; omega
theorem op_inW (K : PySem.W.Frag) (hK : X.K = K) (hu : X.A.units + 65 < cLine) : OpR X (compareOp .In) (rInW K) := by
  have h := op_inU (X := X) K hK
  subst hK
  exact h.or ((op_inD hu).or (op_inDT hu))
theorem op_ninW (K : PySem.W.Frag) (hK : X.K = K) (hu : X.A.units + 65 < cLine) : OpR X (compareOp .NotIn) (rNinW K) := by
  have h := op_ninU (X := X) K hK
  subst hK
  exact h.or ((op_notInD hu).or (op_ninDT hu))
/-- unpacking a tuple or a list -/
def gTupU (K : PySem.W.Frag) (n : Nat) (t : TGs) : TG := fun v σ H Q => gTup K n t v σ H Q ∨ gUnl K n t v σ H Q
theorem pg_tupU (K : PySem.W.Frag) (hK : X.K = K) {es : List Expr} {k : Nat} {t : TGs} {n : Nat} {pos : Pos} (hc : X.calm = true) (h : PGs X es t)
    (hn : (assignEach es X.env).length = n := by rfl) (hst : (assignEach es X.env).findIdx? (·.1) = none := by rfl) : PG X (.Tuple es k pos) (gTupU K n t) := by
  subst hK
  refine ⟨fun pins s σ H v u Q I r hw => ?_⟩
  rcases hw with hw | hw
  · exact (pg_tup hc h hn hst).run pins s σ H v u Q I r hw
  · exact (pg_unl hc h hn hst).run pins s σ H v u Q I r hw
end
section
variable {X : Cx}
theorem pa_starU (K : PySem.W.Frag) (hK : X.K = K) {e : Expr} {es : List Expr} {te : TE} {t : TA} {p : Pos} (he : PE X e te) (ht : PA X es t)
    (hs : starEach (e.Starred p :: es) X.env = (true, eval e X.env) :: starEach es X.env := by rfl) : PA X (e.Starred p :: es) (StX.tStar K te t) := by
  subst hK
  exact StX.pa_star he ht hs
end
/-! ### reading -/
section
variable {K : PySem.W.Frag} {σ : L2.St} {H : Hp} {Q : VK}
theorem rd_star {te : TE} {t : TA} {Q : List V → Hp → Prop} (q : te σ H fun x H1 => ∃ p xs, x = V.ref p ∧ (SqT K H1 p xs ∨ SqL K H1 p xs) ∧ t σ H1 fun ys H2 => Q (xs ++ ys) H2) : StX.tStar K te t σ H Q := q
theorem rd_gtup {n : Nat} {t : TGs} {a : Addr} {xs : List V} {Q : L2.St → Hp → Prop} (h : SqT K H a xs) (hl : xs.length = n) (q : t xs σ H Q) : gTupU K n t (.ref a) σ H Q := .inl ⟨a, xs, rfl, h, hl, q⟩
theorem rd_glst {n : Nat} {t : TGs} {a : Addr} {xs : List V} {Q : L2.St → Hp → Prop} (h : SqL K H a xs) (hl : xs.length = n) (q : t xs σ H Q) : gTupU K n t (.ref a) σ H Q := .inr ⟨a, xs, rfl, h, hl, q⟩
theorem rd_gcons {t : TG} {u : TGs} {v : V} {r : List V} {Q : L2.St → Hp → Prop} (q : t v σ H fun σ' H' => u r σ' H' Q) : gCons t u (v :: r) σ H Q := ⟨v, r, rfl, q⟩
theorem rd_gnil {Q : L2.St → Hp → Prop} (q : Q σ H) : gNil [] σ H Q := ⟨rfl, q⟩
theorem rd_gpair {i j : Nat} {v : V} {d1 d2 : PyData} {Q : L2.St → Hp → Prop} (h : Im H v (.tuple [d1, d2])) (q : ∀ v1 v2, Im H v1 d1 → Im H v2 d2 → Q ((σ.set i (some v1)).set j (some v2)) H) : gTupU K 2 (gCons (gName i) (gCons (gName j) gNil)) v σ H Q := by
  obtain ⟨a, x, y, rfl, h1, h2, h3⟩ := h.pair'
  exact rd_gtup (SqP.t h1) rfl (rd_gcons (rd_name (rd_gcons (rd_name (rd_gnil (q x y h2 h3))))))
theorem rd_inWs {o : Str} {a : Addr} {zs : List Str} (ha : H a = some (.lst (zs.map V.str))) (q : Q (.bl (decide (o ∈ zs))) H) : rInW K (.str o) (.ref a) H Q := by
  refine .inl (.inl ⟨a, _, rfl, .inl (.inl (.inl ha)), rfl, ?_, ?_⟩)
  · rw [List.all_map]
    exact List.all_eq_true.mpr fun _ _ => rfl
  · have e : inV (.str o) (zs.map V.str) = decide (o ∈ zs) := by
      induction zs with
      | nil => rfl
      | cons z zs ih =>
        have h2 : inV (.str o) ((z :: zs).map V.str) = ((z == o) || inV (.str o) (zs.map V.str)) := rfl
        rw [h2]
        have ih2 : inV (.str o) (zs.map V.str) = decide (o ∈ zs) := by
          clear h2 ha q ih
          induction zs with
          | nil => rfl
          | cons y ys ih =>
            show ((y == o) || inV (.str o) (ys.map V.str)) = _
            rw [ih]
            by_cases h : y = o
            · subst h
              simp
            · have h2 : ¬ o = y := fun e => h e.symm
              simp [h, h2]
        rw [ih2]
        by_cases h : z = o
        · subst h
          simp
        · have h2 : ¬ o = z := fun e => h e.symm
          simp [h, h2]
    rw [show (if false = true then (!inV (.str o) (zs.map V.str)) else inV (.str o) (zs.map V.str)) = inV (.str o) (zs.map V.str) from rfl, e]
    exact q
theorem inV_strs0 (o : Str) : ∀ zs : List Str, inV (.str o) (zs.map V.str) = decide (o ∈ zs)
  | [] => rfl
  | z :: zs => by
    show ((z == o) || inV (.str o) (zs.map V.str)) = _
    rw [inV_strs0 o zs]
    by_cases h : z = o
    · subst h
      simp
    · have h2 : ¬ o = z := fun e => h e.symm
      simp [h, h2]
theorem rd_ninWs {o : Str} {a : Addr} {zs : List Str} (ha : H a = some (.lst (zs.map V.str))) (q : Q (.bl (!decide (o ∈ zs))) H) : rNinW K (.str o) (.ref a) H Q := by
  refine .inl (.inl ⟨a, _, rfl, .inl (.inl (.inl ha)), rfl, ?_, ?_⟩)
  · rw [List.all_map]
    exact List.all_eq_true.mpr fun _ _ => rfl
  · rw [if_pos rfl, inV_strs0]
    exact q
theorem rd_eqI {v u : V} {d e : PyData} (h1 : Im H v d) (h2 : Im H u e) (s1 : d.depth ≤ 64) (s2 : e.depth ≤ 64) {b : Bool} (hb : d = e ↔ b = true) (q : Q (.bl b) H) : rEqU K v u H Q := .inr ⟨_, _, h1.dp, h2.dp, h1.shaped s1, h2.shaped s2, by rw [bool_of ((Im.eqv _ _ _ _ h1 h2).trans hb)]; exact q⟩
theorem rd_neI {v u : V} {d e : PyData} (h1 : Im H v d) (h2 : Im H u e) (s1 : d.depth ≤ 64) (s2 : e.depth ≤ 64) {b : Bool} (hb : d = e ↔ b = true) (q : Q (.bl (!b)) H) : rNeU K v u H Q := .inr ⟨_, _, h1.dp, h2.dp, h1.shaped s1, h2.shaped s2, by rw [bool_of ((Im.eqv _ _ _ _ h1 h2).trans hb)]; exact q⟩
theorem rd_inWI {v u : V} {d : PyData} {ds : List PyData} (h1 : Im H v d) (h2 : Im H u (.tuple ds)) (s1 : d.depth ≤ 64) (s2 : PyData.depth (.tuple ds) ≤ 64) {b : Bool} (hb : d ∈ ds ↔ b = true) (q : Q (.bl b) H) : rInW K v u H Q := .inr (.inr ⟨d, ds, h1.dp, h2.dp, h1.shaped s1, h2.shaped s2, by
  obtain ⟨a, xs, _, _, h3⟩ := h2.tup'
  rw [bool_of ((any_eqv h1 h3).trans hb)]
  exact q⟩)
theorem Ls.dp {a : Addr} {ds : List PyData} (h : Ls H a ds) : Dp K H (.ref a) (.list ds) := by
  obtain ⟨xs, h1, h2⟩ := h
  exact .lst (SqL.of h1) h2.dp
theorem rd_ninWL {v : V} {a : Addr} {d : PyData} {ds : List PyData} (h1 : Im H v d) (h2 : Ls H a ds) (s1 : d.depth ≤ 64) (s2 : PyData.depth (.list ds) ≤ 64) {b : Bool} (hb : d ∈ ds ↔ b = true) (q : Q (.bl (!b)) H) : rNinW K v (.ref a) H Q := .inr (.inl ⟨d, ds, h1.dp, h2.dp, h1.shaped s1, by
  obtain ⟨xs, e1, e2⟩ := h2
  unfold SeqAt.shaped
  rw [show PyData.canLay0 (.list ds) = true from ImAll.lay ds _ e2, decide_eq_true s2]
  rfl, by
  obtain ⟨xs, e1, e2⟩ := h2
  rw [bool_of ((any_eqv h1 e2).trans hb)]
  exact q⟩)
theorem each_im {H : Hp} {xs : List V} {ds : List PyData} (h : ImAll H xs ds) : ∀ {ys : List V} {es : List PyData}, EachIs (fun y d => (y, d) ∈ xs.zip ds) ys es → ImAll H ys es
  | _, _, .nil => .nil
  | _, _, .cons a t => by
    refine .cons ?_ (each_im h t)
    clear t
    have key : ∀ {xs : List V} {ds : List PyData} {v : V} {d : PyData}, ImAll H xs ds → (v, d) ∈ xs.zip ds → Im H v d := by
      intro xs ds v d h
      induction xs generalizing ds with
      | nil => intro a; simp at a
      | cons x xs ih =>
        cases h with
        | cons h1 h2 =>
          intro a
          rw [List.zip_cons_cons] at a
          rcases List.mem_cons.mp a with a | a
          · cases a
            exact h1
          · exact ih h2 a
    exact key h a
/-- sorted of a list of data -/
def srtD (ds : List PyData) : List PyData := ds.mergeSort (dataLe false id)
theorem rd_sortI {a : Addr} {ds : List PyData} (h : Ls H a ds) (h1 : AllAlike ds) (h2 : Sortable ds) (h3 : ∀ d ∈ ds, d.depth ≤ 60) (q : ∀ p ys, H p = none → ImAll H ys (srtD ds) → Q (.ref p) (upd H p (.lst ys))) : rSortD K [.ref a] H Q := by
  obtain ⟨xs, e1, e2⟩ := h
  exact ⟨a, xs, ds, rfl, SqL.of e1, e2.dp, h1, h2, h3, fun ys p hs hp => q p ys hp (each_im e2 hs)⟩
theorem rd_tupF {p : Addr} {ys : List V} (h : SqL K H p ys) (q : ∀ l o, H l = none → o.dict = none → Q (.ref l) (upd H l (.frz o (.tup ys)))) : rTupF K [.ref p] H Q := ⟨p, ys, rfl, .inl ⟨h, q⟩⟩
theorem rd_listT {p : Addr} {ys : List V} (h : SqT K H p ys) (q : ∀ l, H l = none → Q (.ref l) (upd H l (.lst ys))) : rListOf K [.ref p] H Q := ⟨p, ys, rfl, .inr h, q⟩
theorem rd_lenT {p : Addr} {ys : List V} (h : SqT K H p ys) (q : Q (.int ys.length) H) : rLenU K [.ref p] H Q := .inr ⟨p, ys, rfl, .inr h, q⟩
theorem rd_slT {a : Addr} {xs : List V} {lo hi : Option Int} (h : SqT K H a xs) (hw : ¬ (HT.sIx xs.length 0 lo = 0 ∧ HT.sIx xs.length xs.length hi = xs.length)) (q : ∀ p, H p = none → Q (.ref p) (upd H p (.tup (cutV xs lo hi)))) : rSlU K (.ref a) lo hi H Q := .inr (.inr ⟨a, xs, rfl, h, hw, q⟩)
theorem rd_catT {a b : Addr} {xs ys : List V} (h1 : SqT K H a xs) (h2 : SqT K H b ys) (n1 : xs ≠ []) (n2 : ys ≠ []) (c : xs.length + ys.length ≤ sizeLine) (q : ∀ p, H p = none → Q (.ref p) (upd H p (.tup (xs ++ ys)))) : rPlus K (.ref a) (.ref b) H Q := .inr (.inr (.inr (.inl ⟨a, b, xs, ys, rfl, rfl, h1, h2, n1, c, fun e => absurd e n2, fun _ => q⟩)))
/-! ### comprehensions over data -/
theorem lcg_im (T : List (Addr × Str)) (ms : List Addr) {J : It} {n : Nat} {G : Hp → Prop} {Y : Nat → Hp → V → Hp → Prop} {g : TG} {tt : TT} {te : TE} {vs : List Nat} (w : Walk J n G Y) (xs : List V) (hn : n = xs.length) (hY : ∀ i H x H', Y i H x H' → H' = H ∧ xs[i]? = some x)
    (Iv : Hp → Prop) (h0 : Iv H) (hI0 : ∀ D o, H D = none → Iv (upd H D o)) (hI : ∀ D H', Nw H D → Iv H' → ∀ ys u, H' D = some (.lst ys) → Iv (upd H' D u)) (hL : ∀ H', Iv H' → Lsts H' ms) (hG : ∀ H', Ext T ms H H' → Iv H' → G H') (hl : xs.length < sizeLine)
    (p : V → Bool) (Rel : PyData → V → Prop)
    (step : ∀ (i : Nat) (x : V), xs[i]? = some x → ∀ H', Ext T ms H H' → Iv H' → ∀ (R : V → Hp → Prop) (S : Hp → Prop), (p x = true → ∀ v d H2, Ext T ms H' H2 → Iv H2 → Im H2 v d → Rel d x → R v H2) → (p x = false → ∀ H2, Ext T ms H' H2 → Iv H2 → S H2) →
      g x (wipe σ vs) H' fun σ2 H2 => wipe σ2 vs = wipe σ vs ∧ tt σ2 H2 fun b H3 => if b = true then te σ2 H3 R else S H3)
    (q : ∀ D H2 ds, Nw H D → Ext T ms H H2 → Iv H2 → Ls H2 D ds → EachIs Rel ds (xs.filter p) → Q (.ref D) H2) : LcG J g tt te vs σ H Q := fun D hD => by
  have hDm : D ∉ ms := fun hm => by
    obtain ⟨ys, e⟩ := hL H h0 D hm
    rw [hD] at e
    cases e
  refine lc_it w (fun i H2 => Ext T ms H H2 ∧ Iv H2 ∧ ∃ ds, Ls H2 D ds ∧ EachIs Rel ds ((xs.take i).filter p)) ⟨.new hD, hI0 D _ hD, [], ⟨[], upd_same, .nil⟩, .nil⟩ (fun i H2 _ h => hG H2 h.1 h.2.1) (fun i x H1 H' hi h y => ?_) (fun H1 h => ?_)
  · obtain ⟨e1, e2⟩ := hY i H1 x H' y
    subst e1
    obtain ⟨h1, h2, ds, h3, h4⟩ := h
    have et : xs.take (i + 1) = xs.take i ++ [x] := by rw [List.take_add_one, e2]; rfl
    refine step i x e2 H' h1 h2 _ _ (fun hp v d H2 e i2 hv hr => ?_) (fun hp H2 e i2 => ?_)
    · have h3' := h3.ext e hDm (hL H' h2)
      obtain ⟨acc, h5, h6⟩ := h3'
      refine ⟨acc, h5, ?_, (h1.trans e).own (.of hD) h5, hI D H2 (.of hD) i2 acc _ h5, ds ++ [d], ⟨acc ++ [v], upd_same, ?_⟩, ?_⟩
      · refine Nat.lt_of_le_of_lt ?_ hl
        rw [h6.len, h4.length]
        exact Nat.le_trans (List.length_filter_le _ _) (by rw [List.length_take]; exact Nat.min_le_right _ _)
      · have eD : Ext T [D] H2 (upd H2 D (.lst (acc ++ [v]))) := Ext.mut (by simp) h5
        have hLD : Lsts H2 [D] := fun b hb => ⟨acc, by rw [List.mem_singleton.mp hb]; exact h5⟩
        exact (ImAll.ext eD hLD _ _ h6).snoc (Im.ext eD hLD _ _ hv)
      · rw [et, List.filter_append, List.filter_cons_of_pos hp]
        exact PySem.W.each_snoc hr h4
    · refine ⟨h1.trans e, i2, ds, h3.ext e hDm (hL H' h2), ?_⟩
      rw [et, List.filter_append, List.filter_cons_of_neg (by rw [hp]; decide), List.filter_nil, List.append_nil]
      exact h4
  · obtain ⟨h1, h2, ds, h3, h4⟩ := h
    rw [hn, List.take_length] at h4
    exact q D H1 ds (.of hD) h1 h2 h3 h4
end
/-! ### names are plain texts -/
theorem spl_cover : ∀ (l acc : List Nat) (c : Nat), c ∈ l → c = 46 ∨ ∃ p ∈ TL.spl [46] 0 acc l, c ∈ p
  | [], _, _, h => by cases h
  | d :: r, acc, c, h => by
    by_cases hd : d = 46
    · subst hd
      have e : TL.spl [46] 0 acc (46 :: r) = acc :: TL.spl [46] 0 [] r := by
        rw [TL.spl, if_pos (by rfl)]
        rfl
      rcases List.mem_cons.mp h with h | h
      · exact .inl h
      · rcases spl_cover r [] c h with h2 | ⟨p, h2, h3⟩
        · exact .inl h2
        · exact .inr ⟨p, by rw [e]; exact List.mem_cons_of_mem _ h2, h3⟩
    · have e : TL.spl [46] 0 acc (d :: r) = TL.spl [46] 0 (acc ++ [d]) r := by
        rw [TL.spl, if_neg]
        show ¬ (TL.pre [46] (d :: r) = true)
        unfold TL.pre
        simpa using hd
      rw [e]
      rcases List.mem_cons.mp h with h | h
      · refine .inr ?_
        subst h
        have key : ∀ (l acc : List Nat), c ∈ acc → ∃ p ∈ TL.spl [46] 0 acc l, c ∈ p := by
          intro l
          induction l with
          | nil => exact fun acc h => ⟨acc, List.mem_singleton.mpr rfl, h⟩
          | cons d r ih =>
            intro acc h
            by_cases hd : d = 46
            · subst hd
              have e : TL.spl [46] 0 acc (46 :: r) = acc :: TL.spl [46] 0 [] r := by
                rw [TL.spl, if_pos (by rfl)]
                rfl
              exact ⟨acc, by rw [e]; exact List.mem_cons_self, h⟩
            · have e : TL.spl [46] 0 acc (d :: r) = TL.spl [46] 0 (acc ++ [d]) r := by
                rw [TL.spl, if_neg]
                show ¬ (TL.pre [46] (d :: r) = true)
                unfold TL.pre
                simpa using hd
              rw [e]
              exact ih _ (List.mem_append_left _ h)
        exact key r _ (by simp)
      · exact spl_cover r _ c h
theorem label_mem {y : Str} (h : labelB y = true) {c : Nat} (hc : c ∈ sg y) : c ∈ sg lettersS := by
  unfold labelB wordB at h
  rw [Bool.and_eq_true, Bool.and_eq_true] at h
  exact of_decide_eq_true (List.all_eq_true.mp h.2.2 c hc)
theorem label_len {y : Str} (h : labelB y = true) : y.length ≤ 8 := by
  unfold labelB wordB at h
  rw [Bool.and_eq_true, Bool.and_eq_true] at h
  have := of_decide_eq_true h.2.1
  omega
theorem letters_lt : ∀ c ∈ sg lettersS, c < 128 := by decide +kernel
theorem name_parts {z : Str} (h : nameB z = true) : z = dotS ∨ ((partsL z).length ≤ 4 ∧ ∀ p ∈ partsL z, labelB p = true) := by
  unfold nameB at h
  rw [Bool.or_eq_true, Bool.and_eq_true] at h
  rcases h with h | ⟨h1, h2⟩
  · exact .inl (of_decide_eq_true h)
  · have := of_decide_eq_true h1
    exact .inr ⟨by omega, List.all_eq_true.mp h2⟩
theorem name_plain {z : Str} (h : nameB z = true) : ∀ c ∈ sg z, c < 128 := fun c hc => by
  rcases name_parts h with e | ⟨_, h2⟩
  · rw [e, sg_dot] at hc
    rw [List.mem_singleton.mp hc]
    decide
  · rcases spl_cover (sg z) [] c hc with e | ⟨p, hp, hcp⟩
    · rw [e]
      decide
    · rw [← parts_sg] at hp
      obtain ⟨y, hy, rfl⟩ := List.mem_map.mp hp
      exact letters_lt c (label_mem (h2 y hy) hcp)
/-! ### texts that may stand in data -/
theorem plain_ok {z : Str} (h : ∀ c ∈ sg z, c < 128) : PyData.strOk z = true := by
  unfold PyData.strOk
  rw [← Array.all_toList, List.all_eq_true]
  intro c hc
  have := h c hc
  exact decide_eq_true (by omega)
theorem id_plain {y : Str} (h : idB y = true) : ∀ c ∈ sg y, c < 128 := fun c hc => by
  unfold idB wordB at h
  rw [Bool.and_eq_true, Bool.and_eq_true] at h
  exact letters_lt c (of_decide_eq_true (List.all_eq_true.mp h.2.2 c hc))
theorem id_ok {y : Str} (h : idB y = true) : PyData.strOk y = true := plain_ok (id_plain h)
theorem id_len {y : Str} (h : idB y = true) : y.length ≤ 4 := by
  unfold idB wordB at h
  rw [Bool.and_eq_true, Bool.and_eq_true] at h
  have := of_decide_eq_true h.2.1
  omega
theorem name_ok {y : Str} (h : nameB y = true) : PyData.strOk y = true := plain_ok (name_plain h)
theorem app_len (a b : Str) : (a ++ b).length = a.length + b.length := by rw [← sg_len, sg_app, List.length_append, sg_len, sg_len]
theorem dotS_len : dotS.length = 1 := by decide +kernel
/-- a word made of two -/
theorem word_app {a b : Str} {n m k : Int} (ha : wordB a lettersS n = true) (hb : wordB b lettersS m = true) (hk : n + m ≤ k) : wordB (a ++ b) lettersS k = true := by
  unfold wordB at ha hb ⊢
  rw [Bool.and_eq_true, Bool.and_eq_true] at ha hb ⊢
  have h1 := of_decide_eq_true ha.1
  have h2 := of_decide_eq_true ha.2.1
  have h3 := of_decide_eq_true hb.2.1
  rw [app_len, sg_app, List.all_append, Bool.and_eq_true]
  refine ⟨decide_eq_true ?_, decide_eq_true ?_, ha.2.2, hb.2.2⟩
  · have := of_decide_eq_true hb.1
    omega
  · omega
theorem word_mono {a : Str} {n k : Int} (ha : wordB a lettersS n = true) (hk : n ≤ k) : wordB a lettersS k = true := by
  unfold wordB at ha ⊢
  rw [Bool.and_eq_true, Bool.and_eq_true] at ha ⊢
  have h2 := of_decide_eq_true ha.2.1
  exact ⟨ha.1, decide_eq_true (by omega), ha.2.2⟩
/-! ### names joined of labels -/
theorem join_sg (ys : List Str) : sg (joinS ys) = TL.joinL [46] (ys.map sg) := by
  show sg (Txt.join dotS ys) = _
  rw [TL.join_eq, ← sg_dot]
  exact TL.tl_join dotS ys
theorem join_one (y : Str) : joinS [y] = y := sg_inj (by rw [join_sg]; rfl)
theorem join_cons (y : Str) {ys : List Str} (h : ys ≠ []) : joinS (y :: ys) = y ++ (dotS ++ joinS ys) := by
  refine sg_inj ?_
  rw [sg_app, sg_app, join_sg, join_sg, sg_dot]
  cases ys with
  | nil => exact absurd rfl h
  | cons z r => rfl
theorem str_assoc (a b c : Str) : (a ++ b) ++ c = a ++ (b ++ c) := sg_inj (by rw [sg_app, sg_app, sg_app, sg_app, List.append_assoc])
/-- a zone below the root -/
def zoneB (z : Str) : Prop := ∃ ys : List Str, z = joinS ys ∧ ys ≠ [] ∧ ys.length ≤ 3 ∧ ∀ y ∈ ys, labelB y = true
theorem zone_name {z : Str} (h : zoneB z) : nameB z = true := by
  obtain ⟨ys, rfl, h1, h2, h3⟩ := h
  exact name_join h1 (by omega) h3
theorem dot_name : nameB dotS = true := by decide +kernel
theorem zone_ne {z : Str} (h : zoneB z) : z ≠ dotS := fun e => by
  obtain ⟨ys, rfl, h1, h2, h3⟩ := h
  have e2 := parts_join h1 fun y hy => label_nodot (h3 y hy)
  rw [e] at e2
  have e3 : partsL dotS = [⟨#[]⟩, ⟨#[]⟩] := by decide +kernel
  rw [e3] at e2
  have := h3 ⟨#[]⟩ (by rw [← e2]; simp)
  exact absurd this (by decide +kernel)
theorem join_inj {ys zs : List Str} (h1 : ys ≠ []) (h2 : zs ≠ []) (h3 : ∀ y ∈ ys, labelB y = true) (h4 : ∀ y ∈ zs, labelB y = true) (e : joinS ys = joinS zs) : ys = zs := by
  have e1 := parts_join h1 fun y hy => label_nodot (h3 y hy)
  have e2 := parts_join h2 fun y hy => label_nodot (h4 y hy)
  rw [← e1, ← e2, e]
/-- a label put ahead of a zone, or alone -/
theorem name_cons {a z : Str} (ha : labelB a = true) (h : zoneB z) : nameB (a ++ (dotS ++ z)) = true := by
  obtain ⟨ys, rfl, h1, h2, h3⟩ := h
  rw [← join_cons a h1]
  refine name_join (by simp) (by rw [List.length_cons]; omega) fun y hy => ?_
  rcases List.mem_cons.mp hy with e | hy
  · rw [e]
    exact ha
  · exact h3 y hy
theorem label_name {a : Str} (ha : labelB a = true) : nameB a = true := by
  rw [← join_one a]
  exact name_join (by simp) (by simp) fun y hy => by rw [List.mem_singleton.mp hy]; exact ha
theorem name_len {z : Str} (h : nameB z = true) : z.length ≤ 40 := by
  rcases name_parts h with e | ⟨h1, h2⟩
  · rw [e, dotS_len]
    omega
  · have key : ∀ (l acc : List Nat) (B : Nat), (∀ p ∈ TL.spl [46] 0 acc l, p.length ≤ B) → acc.length + l.length ≤ (TL.spl [46] 0 acc l).length * (B + 1) - 1 ∧ 0 < (TL.spl [46] 0 acc l).length := by
      intro l
      induction l with
      | nil =>
        intro acc B h
        have := h acc (List.mem_singleton.mpr rfl)
        exact ⟨by show acc.length + 0 ≤ 1 * (B + 1) - 1; omega, Nat.one_pos⟩
      | cons c r ih =>
        intro acc B h
        by_cases hc : c = 46
        · subst hc
          have e : TL.spl [46] 0 acc (46 :: r) = acc :: TL.spl [46] 0 [] r := by
            rw [TL.spl, if_pos (by rfl)]
            rfl
          rw [e] at h ⊢
          have h1 := h acc List.mem_cons_self
          obtain ⟨h2, h3⟩ := ih [] B fun p hp => h p (List.mem_cons_of_mem _ hp)
          have h5 := Nat.mul_pos h3 (show 0 < B + 1 by omega)
          simp only [List.length_cons, List.length_nil] at h2 ⊢
          rw [Nat.succ_mul]
          omega
        · have e : TL.spl [46] 0 acc (c :: r) = TL.spl [46] 0 (acc ++ [c]) r := by
            rw [TL.spl, if_neg]
            show ¬ (TL.pre [46] (c :: r) = true)
            unfold TL.pre
            simpa using hc
          rw [e] at h ⊢
          obtain ⟨h2, h3⟩ := ih (acc ++ [c]) B h
          have h5 := Nat.mul_pos h3 (show 0 < B + 1 by omega)
          simp only [List.length_cons, List.length_append, List.length_nil] at h2 ⊢
          omega
    have hp : ∀ p ∈ TL.spl [46] 0 [] (sg z), p.length ≤ 8 := fun p hp => by
      rw [← parts_sg] at hp
      obtain ⟨y, hy, rfl⟩ := List.mem_map.mp hp
      rw [sg_len]
      exact label_len (h2 y hy)
    obtain ⟨h3, _⟩ := key (sg z) [] 8 hp
    have h4 : (TL.spl [46] 0 [] (sg z)).length ≤ 4 := by rw [← parts_sg, List.length_map]; exact h1
    rw [sg_len] at h3
    simp only [List.length_nil] at h3
    omega
open PySem.W (sort_maps dataLe_eq dataLt_pair dataLt_int dataLt_str)
/-! ### the data of a realm, a state, a plan -/
def siD (p : Str × Int) : PyData := .tuple [.str p.1, .int p.2]
def ssD (p : Str × Str) : PyData := .tuple [.str p.1, .str p.2]
inductive Sl where
  | k (z : Str) | l (z : Str) | h (z : Str) | s (n k : Str)
  deriving DecidableEq
def slD : Sl → PyData
  | .k z => .tuple [.str "keys", .str z]
  | .l z => .tuple [.str "link", .str z]
  | .h z => .tuple [.str "hosts", .str z]
  | .s n k => .tuple [.str "set", .str n, .str k]
structure Itm where
  c : List Str
  li : Int
  g : List Str
  a : Int
  b : Int
def itD (i : Itm) : PyData := .tuple [.tuple (i.c.map .str), .int i.li, .tuple (i.g.map .str), .int i.a, .int i.b]
structure Rm where
  zs : List (Str × Int)
  an : List Str
  ss : List (Str × Str)
def rmD (r : Rm) : PyData := .tuple [.tuple (r.zs.map siD), .tuple (r.an.map .str), .tuple (r.ss.map ssD)]
def rowD2 (r : Sl × Itm) : PyData := .tuple [slD r.1, itD r.2]
structure Sta where
  its : List (Sl × Itm)
  on : List (Str × Str)
def stD (s : Sta) : PyData := .tuple [.tuple (s.its.map rowD2), .tuple (s.on.map ssD)]
inductive Dd where
  | put (s : Sl) (i : Itm) | on (x z : Str) | off (x z : Str)
def ddD : Dd → PyData
  | .put s i => .tuple [.str "put", slD s, itD i]
  | .on x z => .tuple [.str "on", .str x, .str z]
  | .off x z => .tuple [.str "off", .str x, .str z]
def plD (p : Int × Dd) : PyData := .tuple [.int p.1, ddD p.2]
theorem ssD_inj {a b : Str × Str} (h : ssD a = ssD b) : a = b := by
  obtain ⟨a1, a2⟩ := a
  obtain ⟨b1, b2⟩ := b
  unfold ssD at h
  injection h with h
  injection h with h1 h
  injection h with h2 _
  injection h1 with h1
  injection h2 with h2
  have h1 : a1 = b1 := h1
  have h2 : a2 = b2 := h2
  rw [h1, h2]
theorem slD_inj {a b : Sl} (h : slD a = slD b) : a = b := by
  have two : ∀ {u v x y : Str}, PyData.tuple [.str u, .str x] = PyData.tuple [.str v, .str y] → u = v ∧ x = y := by
    intro u v x y h
    injection h with h
    injection h with h1 h
    injection h with h2 _
    injection h1 with h1
    injection h2 with h2
    exact ⟨h1, h2⟩
  cases a <;> cases b <;> unfold slD at h <;> first
    | (cases (two h).2; rfl)
    | (exact absurd (two h).1 (by decide +kernel))
    | (injection h with h; injection h with _ h; injection h with h1 h; injection h with h2 _; injection h1 with h1; injection h2 with h2; rw [h1, h2])
    | (injection h with h; injection h with _ h; injection h with _ h; cases h)
theorem map_inj {α β : Type} {f : α → β} (hf : ∀ a b, f a = f b → a = b) : ∀ {xs ys : List α}, xs.map f = ys.map f → xs = ys
  | [], [], _ => rfl
  | [], _ :: _, h => by cases h
  | _ :: _, [], h => by cases h
  | x :: xs, y :: ys, h => by
    rw [List.map_cons, List.map_cons] at h
    injection h with h1 h2
    rw [hf _ _ h1, map_inj hf h2]
theorem strs_inj {xs ys : List Str} (h : xs.map PyData.str = ys.map PyData.str) : xs = ys := map_inj (fun _ _ e => by injection e) h
theorem itD_inj {a b : Itm} (h : itD a = itD b) : a = b := by
  obtain ⟨a1, a2, a3, a4, a5⟩ := a
  obtain ⟨b1, b2, b3, b4, b5⟩ := b
  unfold itD at h
  injection h with h
  injection h with h1 h
  injection h with h2 h
  injection h with h3 h
  injection h with h4 h
  injection h with h5 h
  injection h1 with h1
  injection h2 with h2
  injection h3 with h3
  injection h4 with h4
  injection h5 with h5
  have h1 : a1 = b1 := strs_inj h1
  have h2 : a2 = b2 := h2
  have h3 : a3 = b3 := strs_inj h3
  have h4 : a4 = b4 := h4
  have h5 : a5 = b5 := h5
  rw [h1, h2, h3, h4, h5]
theorem dep_strs0 : ∀ zs : List Str, PyData.depthAll (zs.map PyData.str) = 0
  | [] => rfl
  | z :: zs => by
    show max (PyData.depth (.str z)) (PyData.depthAll (zs.map PyData.str)) = 0
    rw [dep_strs0 zs]
    rfl
theorem dep_map {α : Type} {f : α → PyData} {n : Nat} (hf : ∀ a, (f a).depth ≤ n) : ∀ xs : List α, PyData.depthAll (xs.map f) ≤ n
  | [] => Nat.zero_le _
  | x :: xs => Nat.max_le.mpr ⟨hf x, dep_map hf xs⟩
theorem dep_ss (p : Str × Str) : (ssD p).depth ≤ 1 := by show 0 + 1 ≤ 1; omega
theorem dep_sl (s : Sl) : (slD s).depth ≤ 1 := by cases s <;> (show 0 + 1 ≤ 1; omega)
theorem dep_it (i : Itm) : (itD i).depth ≤ 2 := by
  show max (PyData.depthAll (i.c.map .str) + 1) (max 0 (max (PyData.depthAll (i.g.map .str) + 1) (max 0 (max 0 0)))) + 1 ≤ 2
  rw [dep_strs0, dep_strs0]
  decide
/-! ### deeds done -/
def srtSS (l : List (Str × Str)) : List (Str × Str) := l.mergeSort fun a b => dataLe false id (ssD a) (ssD b)
theorem srtSS_eq (l : List (Str × Str)) : srtD (l.map ssD) = (srtSS l).map ssD := (sort_maps ssD fun _ _ _ _ => rfl).symm
def srtS (l : List Str) : List Str := l.mergeSort fun a b => dataLe false id (.str a) (.str b)
theorem srtS_eq (l : List Str) : srtD (l.map .str) = (srtS l).map .str := (sort_maps PyData.str fun _ _ _ _ => rfl).symm
theorem srtS_perm (l : List Str) : (srtS l).Perm l := List.mergeSort_perm _ _
theorem srtSS_perm (l : List (Str × Str)) : (srtSS l).Perm l := List.mergeSort_perm _ _
theorem alike_ss (l : List (Str × Str)) : AllAlike (l.map ssD) := fun d hd e he => by
  obtain ⟨y, _, rfl⟩ := List.mem_map.mp hd
  obtain ⟨z, _, rfl⟩ := List.mem_map.mp he
  rfl
theorem sortable_ss (l : List (Str × Str)) : Sortable (l.map ssD) := .inl fun d hd => by
  obtain ⟨y, _, rfl⟩ := List.mem_map.mp hd
  exact ⟨_, _, rfl⟩
theorem depth_ss (l : List (Str × Str)) : ∀ d ∈ l.map ssD, d.depth ≤ 60 := fun d hd => by
  obtain ⟨y, _, rfl⟩ := List.mem_map.mp hd
  exact Nat.le_trans (dep_ss y) (by decide)
theorem alike_s (l : List Str) : AllAlike (l.map PyData.str) := fun d hd e he => by
  obtain ⟨y, _, rfl⟩ := List.mem_map.mp hd
  obtain ⟨z, _, rfl⟩ := List.mem_map.mp he
  rfl
theorem sortable_s (l : List Str) : Sortable (l.map PyData.str) := .inr fun d hd => by
  obtain ⟨y, _, rfl⟩ := List.mem_map.mp hd
  exact ⟨fun h => (by cases h), fun _ h => (by cases h)⟩
theorem depth_s (l : List Str) : ∀ d ∈ l.map PyData.str, d.depth ≤ 60 := fun d hd => by
  obtain ⟨y, _, rfl⟩ := List.mem_map.mp hd
  show 0 ≤ 60
  decide
def aft (s : Sta) : Dd → Sta
  | .put sl i => ⟨s.its.map fun r => (r.1, if r.1 = sl then i else r.2), s.on⟩
  | .on x z => ⟨s.its, srtSS (s.on ++ [(x, z)])⟩
  | .off x z => ⟨s.its, s.on.filter fun p => !decide (p = (x, z))⟩
theorem aft_keys (s : Sta) (d : Dd) : (aft s d).its.map (·.1) = s.its.map (·.1) := by
  cases d with
  | put sl i =>
    show (s.its.map _).map _ = _
    rw [List.map_map]
    rfl
  | on x z => rfl
  | off x z => rfl
/-! ### what the drawing functions give -/
theorem nodup_len {α : Type} [DecidableEq α] : ∀ {l ys : List α}, l.Nodup → (∀ x ∈ l, x ∈ ys) → l.length ≤ ys.length
  | [], ys, _, _ => Nat.zero_le _
  | x :: l, ys, hn, h => by
    have hx := h x List.mem_cons_self
    have h1 := List.nodup_cons.mp hn
    have h2 := nodup_len (ys := ys.erase x) h1.2 fun y hy => (List.mem_erase_of_ne (fun e => h1.1 (by rw [← e]; exact hy))).mpr (h y (List.mem_cons_of_mem _ hy))
    rw [List.length_erase_of_mem hx] at h2
    have := List.length_pos_of_mem hx
    rw [List.length_cons]
    omega
theorem nodup_snoc {α : Type} {l : List α} {x : α} (h : l.Nodup) (hx : x ∉ l) : (l ++ [x]).Nodup := by
  rw [List.nodup_append]
  refine ⟨h, by simp, fun a ha b hb e => ?_⟩
  rw [List.mem_singleton.mp hb] at e
  rw [e] at ha
  exact hx ha
section
variable (T : List (Addr × Str))
def spId : Sp := fun vs H Q _ => ∃ (l t : Addr), vs = [.ref t] ∧ Tape l H t ∧ ∀ z H', idB z = true → Ext T [t] H H' → Tape l H' t → Q (.str z) H'
def spIds : Sp := fun vs H Q _ => ∃ (l t : Addr) (m : Int), vs = [.ref t, .int m] ∧ 0 ≤ m ∧ m ≤ 5 ∧ Tape l H t ∧
  ∀ (p : Addr) (ys : List Str) (H' : Hp), Nw H p → (ys.length : Int) = m → ys.Nodup → (∀ y ∈ ys, idB y = true) → H' p = some (.lst (ys.map V.str)) → Ext T [t] H H' → Tape l H' t → Q (.ref p) H'
def spLabel : Sp := fun vs H Q _ => ∃ (l t : Addr), vs = [.ref t] ∧ Tape l H t ∧ ∀ z H', labelB z = true → Ext T [t] H H' → Tape l H' t → Q (.str z) H'
def spLabels : Sp := fun vs H Q _ => ∃ (l t : Addr), vs = [.ref t] ∧ Tape l H t ∧
  ∀ (p : Addr) (ys : List Str) (a b c : Str) (H' : Hp), Nw H p → a ≠ b → a ≠ c → b ≠ c → (∀ y ∈ (a :: b :: c :: ys), labelB y = true) → ys.length ≤ 10 → H' p = some (.lst ((a :: b :: c :: ys).map V.str)) → Ext T [t] H H' → Tape l H' t → Q (.ref p) H'
/-- a number of a range drawn -/
def spInt (lo hi : Int) : Sp := fun vs H Q _ => ∃ (l t : Addr), vs = [.ref t] ∧ Tape l H t ∧ ∀ z H', lo ≤ z → z ≤ hi → Ext T [t] H H' → Tape l H' t → Q (.int z) H'
end
def qsL : List Str := ["q1", "q2", "q3", "q4", "q5"]
theorem qs_ok : ∀ y ∈ qsL, idB y = true := by decide +kernel
theorem qs_nodup : qsL.Nodup := by decide +kernel
/-! ### three labels -/
def ksL : List Str := ["k1", "k22", "k333", "k4"]
theorem ks_ok : ∀ y ∈ ksL, labelB y = true := by decide +kernel
/-- the text ends with this sign and a w -/
def EndW (c : Nat) (y : Str) : Prop := ∃ a, sg y = a ++ [c, 119]
theorem endW_inj {c d : Nat} {y : Str} (h1 : EndW c y) (h2 : EndW d y) : c = d := by
  obtain ⟨a, e1⟩ := h1
  obtain ⟨b, e2⟩ := h2
  rw [e1] at e2
  have e3 := congrArg List.reverse e2
  simp only [List.reverse_append, List.reverse_cons, List.reverse_nil, List.nil_append, List.cons_append] at e3
  injection e3 with _ e3
  injection e3 with e3 _
theorem endW_last {c : Nat} {y : Str} (h : EndW c y) : (sg y).getLast? = some 119 := by
  obtain ⟨a, e⟩ := h
  rw [e]
  simp
theorem k1_last : (sg "k1").getLast? = some 49 := by decide +kernel
theorem labels_shape {F fs : List Str} (hn : F.Nodup) (hl : ∀ y ∈ F, labelB y = true) (h4 : F.length + fs.length = 4) (hf : fs.Nodup) (hs : ∀ y ∈ fs, y ∈ F ∧ ∃ c, EndW c y) :
    ∃ a b c r, F ++ ksL = a :: b :: c :: r ∧ a ≠ b ∧ a ≠ c ∧ b ≠ c ∧ (∀ y ∈ (a :: b :: c :: r), labelB y = true) ∧ r.length ≤ 10 := by
  have hall : ∀ y ∈ F ++ ksL, labelB y = true := fun y hy => (List.mem_append.mp hy).elim (hl y) (ks_ok y)
  have hle := nodup_len hf fun y hy => (hs y hy).1
  match F, hn, hl, h4, hs, hle, hall with
  | [], _, _, h4, _, hle, _ => simp only [List.length_nil] at h4 hle; omega
  | [a], _, _, h4, _, hle, _ => simp only [List.length_cons, List.length_nil] at h4 hle; omega
  | [a, b], hn, _, h4, hs, _, hall =>
    have e2 : fs.length = 2 := by simp only [List.length_cons, List.length_nil] at h4; omega
    have hab : a ≠ b := fun e => by simp [e] at hn
    have hsub : ∀ y ∈ [a, b], y ∈ fs := by
      intro y hy
      refine Classical.byContradiction fun hno => ?_
      have h5 := nodup_len (ys := [a, b].erase y) hf fun z hz => (List.mem_erase_of_ne (fun e => hno (by rw [← e]; exact hz))).mpr (hs z hz).1
      rw [List.length_erase_of_mem hy, e2] at h5
      simp at h5
    have nk : ∀ y ∈ [a, b], y ≠ "k1" := fun y hy e => by
      obtain ⟨c, hc⟩ := (hs y (hsub y hy)).2
      have h6 := endW_last hc
      rw [e, k1_last] at h6
      cases h6
    exact ⟨a, b, "k1", ["k22", "k333", "k4"], rfl, hab, nk a (by simp), nk b (by simp), hall, by decide⟩
  | a :: b :: c :: r, hn, _, h4, _, _, hall =>
    refine ⟨a, b, c, r ++ ksL, rfl, fun e => ?_, fun e => ?_, fun e => ?_, hall, ?_⟩
    · simp [e] at hn
    · simp [e] at hn
    · simp [e] at hn
    · rw [List.length_append]
      simp only [List.length_cons] at h4
      show r.length + 4 ≤ 10
      omega
/-- the last eight signs of a word with two more -/
theorem cut8 (z : Str) (hz : 1 ≤ z.length) (hc : ∀ c ∈ sg z, c ∈ sg lettersS) : labelB (cutS z (some (-8)) none) = true ∧ (∀ c, EndW c z → EndW c (cutS z (some (-8)) none)) := by
  have e : sg (cutS z (some (-8)) none) = (sg z).drop (z.length - 8) := by
    unfold cutS
    have h : HT.sIx z.length 0 (some (-8)) = z.length - 8 := by
      unfold HT.sIx
      simp only []
      split <;> omega
    rw [h, HT.sIx_none]
    show (List.toArray _).toList = _
    rw [List.take_of_length_le]
    rw [List.length_drop, show z.cps.toList.length = z.length from sg_len z]
    omega
  have hl : (cutS z (some (-8)) none).length = z.length - (z.length - 8) := by
    rw [← sg_len, e, List.length_drop, sg_len]
  constructor
  · unfold labelB wordB
    rw [decide_eq_true (show (1 : Int) ≤ ((cutS z (some (-8)) none).length : Int) by omega), decide_eq_true (show ((cutS z (some (-8)) none).length : Int) ≤ 8 by omega), e]
    rw [List.all_eq_true.mpr fun c h => decide_eq_true (hc c (List.mem_of_mem_drop h))]
    rfl
  · rintro c ⟨a, ea⟩
    refine ⟨a.drop (z.length - 8), ?_⟩
    have h9 : z.length = a.length + 2 := by
      rw [← sg_len, ea, List.length_append]
      rfl
    rw [e, ea, List.drop_append_of_le_length (by omega)]
def xyzL : List Str := ["", "x", "y", "z"]
def xyzC : List Nat := [0, 120, 121, 122]
theorem xyz_len : ∀ y ∈ xyzL, y.length ≤ 1 := by decide +kernel
theorem xyz_let : ∀ y ∈ xyzL, ∀ c ∈ sg y, c ∈ sg lettersS := by decide +kernel
theorem w_let : ∀ c ∈ sg (Str.ofString "w"), c ∈ sg lettersS := by decide +kernel
theorem w_len : (Str.ofString "w").length = 1 := by decide +kernel
theorem w_sg : sg (Str.ofString "w") = [119] := by decide +kernel
theorem xyz_end {i : Nat} {y : Str} (h0 : i ≠ 0) (h : xyzL[i]? = some y) : ∃ c, xyzC[i]? = some c ∧ sg y = [c] := by
  match i, h0, h with
  | 0, h0, _ => exact absurd rfl h0
  | 1, _, h => exact ⟨120, rfl, by rw [← Option.some.inj h]; decide +kernel⟩
  | 2, _, h => exact ⟨121, rfl, by rw [← Option.some.inj h]; decide +kernel⟩
  | 3, _, h => exact ⟨122, rfl, by rw [← Option.some.inj h]; decide +kernel⟩
  | n + 4, _, h => cases h
theorem xyz_ne {i j c d : Nat} (h : j < i) (h1 : xyzC[j]? = some c) (h2 : xyzC[i]? = some d) : c ≠ d := fun e => by
  subst e
  have hn : xyzC.Nodup := by decide
  have e := (List.getElem?_inj (List.getElem?_eq_some_iff.mp h1).1 hn).mp (h1.trans h2.symm)
  omega
section
variable (T : List (Addr × Str))
def spZones : Sp := fun vs H Q _ => ∃ (l t : Addr) (m : Int), vs = [.ref t, .int m] ∧ 0 ≤ m ∧ m ≤ 5 ∧ Tape l H t ∧
  ∀ (p : Addr) (lag : Int) (rest : List (Str × Int)) (ns : List Str) (H' : Hp), Nw H p → rest.map (·.1) = srtS ns → ns.Nodup → (ns.length : Int) ≤ m → (∀ z ∈ ns, zoneB z) → (∀ r ∈ (dotS, lag) :: rest, 0 ≤ r.2 ∧ r.2 ≤ 100) → Ls H' p (((dotS, lag) :: rest).map siD) → Ext T [t] H H' → Tape l H' t → Q (.ref p) H'
end
/-- what a row of a zone is made of -/
def ZRel (d : PyData) (x : V) : Prop := ∃ (z : Str) (n : Int), x = .str z ∧ d = siD (z, n) ∧ 0 ≤ n ∧ n ≤ 100
theorem zrel_all : ∀ {ds : List PyData} {zs : List Str}, PySem.W.EachIs ZRel ds (zs.map V.str) → ∃ rest : List (Str × Int), ds = rest.map siD ∧ rest.map (·.1) = zs ∧ ∀ r ∈ rest, 0 ≤ r.2 ∧ r.2 ≤ 100
  | _, [], .nil => ⟨[], rfl, rfl, by simp⟩
  | _, z :: zs, .cons h t => by
    obtain ⟨rest, e1, e2, h3⟩ := zrel_all t
    obtain ⟨z', n, e3, e4, h4⟩ := h
    injection e3 with e3
    subst e3
    refine ⟨(z, n) :: rest, by rw [e4, e1]; rfl, by rw [List.map_cons, e2], fun r hr => ?_⟩
    rcases List.mem_cons.mp hr with e | hr
    · rw [e]
      exact h4
    · exact h3 r hr
/-- the six names that zones may have -/
def poolL (a b c : Str) : List Str := [a, b ++ dotS ++ a, c ++ dotS ++ b ++ dotS ++ a, b, c, c ++ dotS ++ a]
theorem pool_eq (a b c : Str) : poolL a b c = [joinS [a], joinS [b, a], joinS [c, b, a], joinS [b], joinS [c], joinS [c, a]] := by
  unfold poolL
  rw [join_cons c (ys := [b, a]) (by simp), join_cons b (ys := [a]) (by simp), join_cons c (ys := [a]) (by simp), join_one, join_one, join_one, str_assoc, str_assoc, str_assoc, str_assoc, str_assoc]
theorem pool_zone {a b c : Str} (h : ∀ y ∈ [a, b, c], labelB y = true) : ∀ z ∈ poolL a b c, zoneB z := by
  rw [pool_eq]
  have ha := h a (by simp)
  have hb := h b (by simp)
  have hc := h c (by simp)
  intro z hz
  simp only [List.mem_cons, List.not_mem_nil, or_false] at hz
  rcases hz with rfl | rfl | rfl | rfl | rfl | rfl
  all_goals refine ⟨_, rfl, by simp, by simp, ?_⟩
  all_goals
    intro y hy
    simp only [List.mem_cons, List.not_mem_nil, or_false] at hy
    first
      | (subst hy; assumption)
      | (rcases hy with rfl | rfl <;> assumption)
      | (rcases hy with rfl | rfl | rfl <;> assumption)
theorem pool_nodup {a b c : Str} (h : ∀ y ∈ [a, b, c], labelB y = true) (h1 : a ≠ b) (h2 : a ≠ c) (h3 : b ≠ c) : (poolL a b c).Nodup := by
  rw [pool_eq]
  have ha := h a (by simp)
  have hb := h b (by simp)
  have hc := h c (by simp)
  have hl : ∀ ys ∈ [[a], [b, a], [c, b, a], [b], [c], [c, a]], ys ≠ [] ∧ ∀ y ∈ ys, labelB y = true := by
    intro ys hy
    simp only [List.mem_cons, List.not_mem_nil, or_false] at hy
    rcases hy with rfl | rfl | rfl | rfl | rfl | rfl <;> simp [ha, hb, hc]
  have hn : [[a], [b, a], [c, b, a], [b], [c], [c, a]].Nodup := by
    simp [h1, h2, h3, h1.symm, h2.symm, h3.symm]
  have key : ∀ {L : List (List Str)}, (∀ ys ∈ L, ys ≠ [] ∧ ∀ y ∈ ys, labelB y = true) → L.Nodup → (L.map joinS).Nodup := by
    intro L
    induction L with
    | nil => intro _ _; simp
    | cons x L ih =>
      intro hL hn
      rw [List.map_cons, List.nodup_cons]
      have h4 := List.nodup_cons.mp hn
      refine ⟨fun hm => ?_, ih (fun ys hy => hL ys (List.mem_cons_of_mem _ hy)) h4.2⟩
      obtain ⟨y, hy, e⟩ := List.mem_map.mp hm
      have hx := hL x List.mem_cons_self
      have hy2 := hL y (List.mem_cons_of_mem _ hy)
      have := join_inj hy2.1 hx.1 hy2.2 hx.2 e
      rw [this] at hy
      exact h4.1 hy
  exact key hl hn
/-- a member of a list in place of what an index gives -/
theorem at_inV {xs : List V} {i : Int} (h0 : 0 ≤ i) (h : i < xs.length) : ∃ c, atI xs i = some c ∧ xs[i.toNat]? = some c := by
  obtain ⟨c, h1, h2, _⟩ := at_in h0 h
  exact ⟨c, h1, h2⟩
/-! ### a realm drawn -/
structure RmOk (R : Rm) (m : Int) : Prop where
  zs : ∃ (lag : Int) (rest : List (Str × Int)) (ns : List Str), R.zs = (dotS, lag) :: rest ∧ rest.map (·.1) = srtS ns ∧ ns.Nodup ∧ (ns.length : Int) ≤ m ∧ ∀ z ∈ ns, zoneB z
  lags : ∀ r ∈ R.zs, 0 ≤ r.2 ∧ r.2 ≤ 100
  ss : ∃ l, R.ss.Sublist (srtSS l)
  ssn : R.ss.Nodup
  ssok : ∀ p ∈ R.ss, nameB p.1 = true ∧ idB p.2 = true
  used : ∀ z ∈ R.zs, ∃ p ∈ R.ss, endsB p.1 z.1 = true
  slen : (R.ss.length : Int) ≤ m + 2
  an : ∃ ys, R.an = srtS ys ∧ ys.Nodup ∧ (∀ y ∈ ys, idB y = true) ∧ 1 ≤ ys.length ∧ ys.length ≤ 3
/-- a realm whose tuple of zones is a plain one: dict of it -/
def RmF (H : Hp) (v : V) (R : Rm) : Prop := ∃ (a za : Addr) (x y : V) (xs : List V) (o : Obj), v = .ref a ∧ H a = some (.tup [.ref za, x, y]) ∧ H za = some (.frz o (.tup xs)) ∧ o.dict = none ∧ ImAll H xs (R.zs.map siD)
theorem RmF.ext {T : List (Addr × Str)} {ms : List Addr} {H H' : Hp} {v : V} {R : Rm} (h : RmF H v R) (e : Ext T ms H H') (hm : Lsts H ms) : RmF H' v R := by
  obtain ⟨a, za, x, y, xs, o, e1, e2, e3, e4, e5⟩ := h
  exact ⟨a, za, x, y, xs, o, e1, tup.ext e2 e hm, frz.ext e3 e hm, e4, ImAll.ext e hm _ _ e5⟩
theorem RmF.x {T : List (Addr × Str)} {H H' : Hp} {v : V} {R : Rm} (h : RmF H v R) (e : Ext T [] H H') : RmF H' v R := h.ext e Lsts.nil
theorem RmF.y {T : List (Addr × Str)} {H H' : Hp} {l t : Addr} {v : V} {R : Rm} (h : RmF H v R) (e : Ext T [t] H H') (hT : Tape l H t) : RmF H' v R := h.ext e hT.lsts
theorem siD_tups (zs : List (Str × Int)) : ∀ d ∈ zs.map siD, ∃ es, d = .tuple es := fun d hd => by
  obtain ⟨z, _, rfl⟩ := List.mem_map.mp hd
  exact ⟨_, rfl⟩
section
variable (T : List (Addr × Str))
def spRealm : Sp := fun vs H Q _ => ∃ (l t : Addr) (m : Int), vs = [.ref t, .int m] ∧ 0 ≤ m ∧ m ≤ 5 ∧ Tape l H t ∧ ∀ (v : V) (R : Rm) (H' : Hp), RmOk R m → RmF H' v R → Im H' v (rmD R) → Ext T [t] H H' → Tape l H' t → Q v H'
end
theorem rd_appLs {H : Hp} {Q : VK} {p : Addr} {ds : List PyData} {v : V} {d : PyData} (h : Ls H p ds) (hv : Im H v d) (c : ds.length < sizeLine) (q : ∀ xs, H p = some (.lst xs) → Ls (upd H p (.lst (xs ++ [v]))) p (ds ++ [d]) → Q .non (upd H p (.lst (xs ++ [v])))) : rAppend (.ref p) [v] H Q := by
  obtain ⟨xs, h1, h2⟩ := h
  refine rd_app h1 (by rw [h2.len]; exact c) (q xs h1 ⟨_, upd_same, ?_⟩)
  have e : Ext [] [p] H (upd H p (.lst (xs ++ [v]))) := Ext.mut (by simp) h1
  have hl : Lsts H [p] := fun b hb => ⟨xs, by rw [List.mem_singleton.mp hb]; exact h1⟩
  exact (ImAll.ext e hl _ _ h2).snoc (Im.ext e hl _ _ hv)
theorem Ls.list {H : Hp} {p : Addr} {ds : List PyData} (h : Ls H p ds) : ∃ xs, H p = some (.lst xs) ∧ ImAll H xs ds := h
theorem lsts_one {H : Hp} {p : Addr} {xs : List V} (h : H p = some (.lst xs)) : Lsts H [p] := fun b hb => ⟨xs, by rw [List.mem_singleton.mp hb]; exact h⟩
theorem Ls.new {H : Hp} {p q : Addr} {o : HO} {ds : List PyData} (h : Ls H p ds) (hq : H q = none) : Ls (upd H q o) p ds := h.ext (T := []) (ms := []) (.new hq) (by simp) Lsts.nil
theorem Im.new {H : Hp} {q : Addr} {o : HO} {v : V} {d : PyData} (h : Im H v d) (hq : H q = none) : Im (upd H q o) v d := Im.ext (T := []) (ms := []) (.new hq) Lsts.nil _ _ h
theorem SqP.new {H : Hp} {q a : Addr} {o : HO} {xs : List V} (h : SqP H a xs) (hq : H q = none) : SqP (upd H q o) a xs := SqP.ext (T := []) (ms := []) h (.new hq) Lsts.nil
theorem ImAll.new {H : Hp} {q : Addr} {o : HO} {vs : List V} {ds : List PyData} (h : ImAll H vs ds) (hq : H q = none) : ImAll (upd H q o) vs ds := ImAll.ext (T := []) (ms := []) (.new hq) Lsts.nil _ _ h
theorem Ls.ne {H : Hp} {p q : Addr} {ds : List PyData} (h : Ls H p ds) (hq : H q = none) : p ≠ q := by
  obtain ⟨xs, h1, _⟩ := h
  exact (Nw.of hq).lst h1
theorem ends_self (n : Str) : endsB n n = true := by
  unfold endsB
  rw [decide_eq_true (show n = n from rfl)]
  simp
theorem ends_dot (n : Str) : endsB n dotS = true := by
  unfold endsB
  rw [decide_eq_true (show dotS = dotS from rfl)]
  rfl
theorem ends_app (a z : Str) : endsB (a ++ (dotS ++ z)) z = true := by
  unfold endsB
  rw [(endswith_iff _ _).mpr ⟨sg a, (sg_app a (dotS ++ z)).symm⟩]
  simp
theorem mem_ssD {r : Str × Str} {l : List (Str × Str)} : ssD r ∈ l.map ssD ↔ r ∈ l := by
  constructor
  · intro h
    obtain ⟨x, hx, e⟩ := List.mem_map.mp h
    rw [← ssD_inj e]
    exact hx
  · exact fun h => List.mem_map_of_mem h
theorem rd_ixLs {K : PySem.W.Frag} {H : Hp} {Q : VK} {p : Addr} {ds : List PyData} {i : Int} {d : PyData} (h : Ls H p ds) (a : atI ds i = some d) (q : ∀ u, Im H u d → Q u H) : rIx K (.ref p) (.int i) H Q := by
  obtain ⟨xs, h1, h2⟩ := h
  have key : ∃ u, atI xs i = some u ∧ Im H u d := by
    unfold atI at a ⊢
    cases e : ixN ds.length i with
    | none =>
      rw [e] at a
      cases a
    | some k =>
      rw [e] at a
      obtain ⟨u, e1, e2⟩ := h2.get (i := k) (by simpa using a)
      exact ⟨u, by rw [h2.len, e]; simpa using e1, e2⟩
  obtain ⟨u, h3, h4⟩ := key
  exact rd_ixL (SqL.of h1) h3 (q u h4)
theorem rd_ixSs {K : PySem.W.Frag} {H : Hp} {Q : VK} {v : V} {ds : List PyData} {i : Int} {z : Str} (h : Im H v (.tuple ds)) (a : atI ds i = some (.str z)) (q : Q (.str z) H) : rIx K v (.int i) H Q := rd_ixI h a fun u hu => by
  rw [hu.str']
  exact q
theorem last_map {α β : Type} {f : α → β} {l : List α} {x : α} (h : l.getLast? = some x) : atI (l.map f) (-1) = some (f x) := at_last (by rw [List.getLast?_map, h]; rfl)
theorem last_some {α : Type} {l : List α} (h : l ≠ []) : ∃ x, l.getLast? = some x ∧ x ∈ l := ⟨l.getLast h, List.getLast?_eq_some_getLast h, List.getLast_mem h⟩
mutual
theorem Im.inj {H : Hp} : ∀ (d e : PyData) (v : V), Im H v d → Im H v e → d = e
  | .none, e, v, h1, h2 => by
    cases h1
    cases h2
    rfl
  | .bool _, e, v, h1, h2 => by cases h1
  | .list _, e, v, h1, h2 => by cases h1
  | .dict _, e, v, h1, h2 => by cases h1
  | .int i, e, v, h1, h2 => by
    cases h1
    cases h2
    rfl
  | .str x, e, v, h1, h2 => by
    cases h1
    cases h2
    rfl
  | .tuple ds, e, v, h1, h2 => by
    obtain ⟨a, xs, rfl, a1, b⟩ := h1.tup'
    cases h2 with
    | tup c d =>
      have e1 := a1.inj (.inl c)
      subst e1
      rw [ImAll.inj ds _ _ b d]
    | tupF c _ d =>
      have e1 := a1.inj (.inr ⟨_, c⟩)
      subst e1
      rw [ImAll.inj ds _ _ b d]
theorem ImAll.inj {H : Hp} : ∀ (ds es : List PyData) (vs : List V), ImAll H vs ds → ImAll H vs es → ds = es
  | [], es, vs, h1, h2 => by
    cases h1
    cases h2
    rfl
  | d :: ds, es, vs, h1, h2 => by
    cases h1 with
    | cons a b =>
      cases h2 with
      | cons c d =>
        rw [Im.inj _ _ _ a c, ImAll.inj _ _ _ b d]
end
/-- a comprehension whose items are told by a relation that no heap changes -/
theorem lcg_rel (T : List (Addr × Str)) (ms : List Addr) {σ : L2.St} {H : Hp} {Q : VK} {J : It} {n : Nat} {G : Hp → Prop} {Y : Nat → Hp → V → Hp → Prop} {g : TG} {tt : TT} {te : TE} {vs : List Nat} (w : Walk J n G Y) (xs : List V) (hn : n = xs.length) (hY : ∀ i H x H', Y i H x H' → H' = H ∧ xs[i]? = some x)
    (hDm : ∀ D, H D = none → D ∉ ms) (hG : ∀ H', Ext T ms H H' → G H') (hl : xs.length < sizeLine) (p : V → Bool) (Rel : V → V → Prop)
    (step : ∀ (i : Nat) (x : V), xs[i]? = some x → ∀ H', Ext T ms H H' → ∀ (R : V → Hp → Prop) (S : Hp → Prop), (p x = true → ∀ v H2, Ext T ms H' H2 → Rel v x → R v H2) → (p x = false → ∀ H2, Ext T ms H' H2 → S H2) →
      g x (wipe σ vs) H' fun σ2 H2 => wipe σ2 vs = wipe σ vs ∧ tt σ2 H2 fun b H3 => if b = true then te σ2 H3 R else S H3)
    (q : ∀ D H2 ys, Nw H D → Ext T ms H H2 → H2 D = some (.lst ys) → EachIs Rel ys (xs.filter p) → Q (.ref D) H2) : LcG J g tt te vs σ H Q := fun D hD => by
  refine lc_it w (fun i H2 => Ext T ms H H2 ∧ ∃ ys, H2 D = some (.lst ys) ∧ EachIs Rel ys ((xs.take i).filter p)) ⟨.new hD, [], upd_same, .nil⟩ (fun i H2 _ h => hG H2 h.1) (fun i x H1 H' hi h y => ?_) (fun H1 h => ?_)
  · obtain ⟨e1, e2⟩ := hY i H1 x H' y
    subst e1
    obtain ⟨h1, ys, h3, h4⟩ := h
    have et : xs.take (i + 1) = xs.take i ++ [x] := by rw [List.take_add_one, e2]; rfl
    refine step i x e2 H' h1 _ _ (fun hp v H2 e hr => ?_) (fun hp H2 e => ?_)
    · have h5 := e.lst (hDm D hD) h3
      refine ⟨ys, h5, ?_, (h1.trans e).own (.of hD) h5, ys ++ [v], upd_same, ?_⟩
      · refine Nat.lt_of_le_of_lt ?_ hl
        rw [h4.length]
        exact Nat.le_trans (List.length_filter_le _ _) (by rw [List.length_take]; exact Nat.min_le_right _ _)
      · rw [et, List.filter_append, List.filter_cons_of_pos hp]
        exact PySem.W.each_snoc hr h4
    · refine ⟨h1.trans e, ys, e.lst (hDm D hD) h3, ?_⟩
      rw [et, List.filter_append, List.filter_cons_of_neg (by rw [hp]; decide), List.filter_nil, List.append_nil]
      exact h4
  · obtain ⟨h1, ys, h3, h4⟩ := h
    rw [hn, List.take_length] at h4
    exact q D H1 ys (.of hD) h1 h3 h4
/-! ### the law's chain, slots, home -/
def isD (p : Int × Str) : PyData := .tuple [.int p.1, .str p.2]
def onZ (n : Str) (z : Str × Int) : Bool := !decide (z.1 = dotS) && endsB n z.1
def chF (R : Rm) (n : Str) : List (Int × Str) := (0, dotS) :: ((R.zs.filter (onZ n)).map fun z => ((z.1.length : Int), z.1))
def srtIS (l : List (Int × Str)) : List (Int × Str) := l.mergeSort fun a b => dataLe false id (isD a) (isD b)
theorem srtIS_eq (l : List (Int × Str)) : srtD (l.map isD) = (srtIS l).map isD := (sort_maps isD fun _ _ _ _ => rfl).symm
theorem srtIS_perm (l : List (Int × Str)) : (srtIS l).Perm l := List.mergeSort_perm _ _
theorem alike_is (l : List (Int × Str)) : AllAlike (l.map isD) := fun d hd e he => by
  obtain ⟨y, _, rfl⟩ := List.mem_map.mp hd
  obtain ⟨z, _, rfl⟩ := List.mem_map.mp he
  rfl
theorem sortable_is (l : List (Int × Str)) : Sortable (l.map isD) := .inl fun d hd => by
  obtain ⟨y, _, rfl⟩ := List.mem_map.mp hd
  exact ⟨_, _, rfl⟩
theorem depth_is (l : List (Int × Str)) : ∀ d ∈ l.map isD, d.depth ≤ 60 := fun d hd => by
  obtain ⟨y, _, rfl⟩ := List.mem_map.mp hd
  show 0 + 1 ≤ 60
  omega
def chL (R : Rm) (n : Str) : List Str := (srtIS (chF R n)).map (·.2)
theorem chL_mem {R : Rm} {n z : Str} : z ∈ chL R n ↔ z = dotS ∨ ∃ y ∈ R.zs, onZ n y = true ∧ y.1 = z := by
  unfold chL
  rw [((srtIS_perm (chF R n)).map _).mem_iff]
  unfold chF
  simp only [List.map_cons, List.mem_cons, List.map_map, List.mem_map, List.mem_filter, Function.comp_apply]
  constructor
  · rintro (h | ⟨y, ⟨h1, h2⟩, h3⟩)
    · exact .inl h
    · exact .inr ⟨y, h1, h2, h3⟩
  · rintro (h | ⟨y, h1, h2, h3⟩)
    · exact .inl h
    · exact .inr ⟨y, ⟨h1, h2⟩, h3⟩
theorem chL_len (R : Rm) (n : Str) : (chL R n).length = 1 + (R.zs.filter (onZ n)).length := by
  unfold chL
  rw [List.length_map, (srtIS_perm (chF R n)).length_eq]
  unfold chF
  rw [List.length_cons, List.length_map]
  omega
def slotsR (R : Rm) : List Sl := (.k dotS :: R.zs.tail.flatMap fun z => [.k z.1, .l z.1, .h z.1]) ++ R.ss.map fun p => .s p.1 p.2
def homeR (R : Rm) : Sl → Str
  | .k z => z
  | .s n _ => (chL R n).getLast?.getD dotS
  | .l z => (chL R z).dropLast.getLast?.getD dotS
  | .h z => (chL R z).dropLast.getLast?.getD dotS
theorem at_last2 {α : Type} {l : List α} {v : α} (h : l.dropLast.getLast? = some v) : atI l (-2) = some v := by
  obtain ⟨r, e⟩ := List.getLast?_eq_some_iff.mp h
  have hl : l ≠ [] := fun z => by rw [z] at h; cases h
  have e2 := List.dropLast_concat_getLast hl
  rw [e] at e2
  obtain ⟨x, e3⟩ : ∃ x, l = r ++ [v, x] := ⟨l.getLast hl, by rw [List.append_assoc] at e2; exact e2.symm⟩
  rw [e3]
  unfold atI
  have h1 : ixN (r ++ [v, x]).length (-2) = some r.length := by
    unfold ixN
    rw [List.length_append]
    simp only [List.length_cons, List.length_nil]
    rw [if_neg (by decide), if_pos (by omega)]
    congr 1
    omega
  rw [h1]
  simp
theorem cutV_from {α : Type} (l : List V) {i : Int} (h0 : 0 ≤ i) : cutV l (some i) none = l.drop i.toNat := by
  unfold cutV
  rw [HT.sIx_none]
  have e : HT.sIx l.length 0 (some i) = min i.toNat l.length := by
    obtain ⟨k, rfl⟩ := Int.eq_ofNat_of_zero_le h0
    exact HT.sIx_nat l.length 0 k
  rw [e, List.take_of_length_le (by rw [List.length_drop]; omega)]
  by_cases h : i.toNat ≤ l.length
  · rw [Nat.min_eq_left h]
  · rw [Nat.min_eq_right (by omega), List.drop_length, List.drop_eq_nil_of_le (by omega)]
theorem cutV_to (l : List V) {i : Int} (h0 : 0 ≤ i) : cutV l none (some i) = l.take i.toNat := by
  unfold cutV
  have e0 : HT.sIx l.length 0 none = 0 := HT.sIx_none ..
  have e : HT.sIx l.length l.length (some i) = min i.toNat l.length := by
    obtain ⟨k, rfl⟩ := Int.eq_ofNat_of_zero_le h0
    exact HT.sIx_nat l.length l.length k
  rw [e0, e]
  show (l.drop 0).take (min i.toNat l.length - 0) = _
  rw [List.drop_zero, Nat.sub_zero]
  by_cases h : i.toNat ≤ l.length
  · rw [Nat.min_eq_left h]
  · rw [Nat.min_eq_right (by omega), List.take_length, List.take_of_length_le (by omega)]
/-- a realm as the drawing functions read it -/
structure RmIn (R : Rm) : Prop where
  ne : ∃ lag rest, R.zs = (dotS, lag) :: rest ∧ ∀ r ∈ rest, r.1 ≠ dotS
  len : R.zs.length ≤ 6
  nm : ∀ z ∈ R.zs, nameB z.1 = true
  nd : (R.zs.map (·.1)).Nodup
  sok : ∀ p ∈ R.ss, nameB p.1 = true ∧ idB p.2 = true
  sn : R.ss.Nodup
  slen : R.ss.length ≤ 7
  an : ∃ a r, R.an = a :: r ∧ idB a = true
section
variable (T : List (Addr × Str))
def spChainL : Sp := fun vs H Q _ => ∃ (v : V) (R : Rm) (n : Str), vs = [v, .str n] ∧ Im H v (rmD R) ∧ RmIn R ∧ nameB n = true ∧ ∀ (p : Addr) (H' : Hp), Nw H p → Ext T [] H H' → H' p = some (.lst ((chL R n).map V.str)) → Q (.ref p) H'
def spSlots : Sp := fun vs H Q _ => ∃ (v : V) (R : Rm), vs = [v] ∧ Im H v (rmD R) ∧ RmIn R ∧ ∀ (p : Addr) (H' : Hp), Nw H p → Ext T [] H H' → Ls H' p ((slotsR R).map slD) → Q (.ref p) H'
def spHome : Sp := fun vs H Q _ => ∃ (v u : V) (R : Rm) (s : Sl), vs = [v, u] ∧ Im H v (rmD R) ∧ Im H u (slD s) ∧ RmIn R ∧ s ∈ slotsR R ∧ ∀ (H' : Hp), Ext T [] H H' → homeR R s ∈ R.zs.map (·.1) → Q (.str (homeR R s)) H'
end
theorem RmOk.rin {R : Rm} {m : Int} (h : RmOk R m) (hm : m ≤ 5) : RmIn R := by
  obtain ⟨lag, rest, ns, e1, e2, e3, e4, e5⟩ := h.zs
  have hmem : ∀ z, z ∈ rest.map (·.1) ↔ z ∈ ns := fun z => by rw [e2]; exact (srtS_perm ns).mem_iff
  have hr : ∀ r ∈ rest, zoneB r.1 := fun r hr => e5 _ ((hmem _).mp (List.mem_map_of_mem hr))
  have hlen : rest.length = ns.length := by
    have := congrArg List.length e2
    rw [List.length_map, (srtS_perm ns).length_eq] at this
    exact this
  refine ⟨⟨lag, rest, e1, fun r hr' => zone_ne (hr r hr')⟩, ?_, fun z hz => ?_, ?_, h.ssok, h.ssn, ?_, ?_⟩
  · rw [e1, List.length_cons]
    omega
  · rw [e1] at hz
    rcases List.mem_cons.mp hz with e | hz
    · rw [e]
      exact dot_name
    · exact zone_name (hr z hz)
  · rw [e1, List.map_cons, List.nodup_cons, e2]
    refine ⟨fun hd => ?_, (srtS_perm ns).nodup_iff.mpr e3⟩
    exact zone_ne (e5 _ ((srtS_perm ns).mem_iff.mp hd)) rfl
  · have := h.slen
    omega
  · obtain ⟨ys, h1, h2, h3, h4, h5⟩ := h.an
    cases e : srtS ys with
    | nil =>
      have := (srtS_perm ys).length_eq
      rw [e] at this
      simp only [List.length_nil] at this
      omega
    | cons a r =>
      exact ⟨a, r, by rw [h1, e], h3 a ((srtS_perm ys).mem_iff.mp (by rw [e]; simp))⟩
/-! ### the keys of the zones: a list of pairs whose seconds are lists -/
def PoolRow (H : Hp) (ms : List Addr) (v : V) (r : Str × List Str) : Prop := ∃ ta pa, v = .ref ta ∧ H ta = some (.tup [.str r.1, .ref pa]) ∧ H pa = some (.lst (r.2.map V.str)) ∧ pa ∉ ms
def Pools (H : Hp) (t a : Addr) (ps : List (Str × List Str)) : Prop := ∃ xs, H a = some (.lst xs) ∧ a ≠ t ∧ EachIs (PoolRow H [t]) xs ps
theorem PoolRow.ext {T : List (Addr × Str)} {ms ms' : List Addr} {H H' : Hp} {v : V} {r : Str × List Str} (h : PoolRow H ms v r) (e : Ext T ms' H H') (hs : ∀ b ∈ ms', b ∈ ms) (hl : Lsts H ms') : PoolRow H' ms v r := by
  obtain ⟨ta, pa, e1, e2, e3, e4⟩ := h
  exact ⟨ta, pa, e1, tup.ext (xs := [.str r.1, .ref pa]) e2 e hl, e.lst (fun hb => e4 (hs _ hb)) e3, e4⟩
theorem rows_ext {T : List (Addr × Str)} {ms ms' : List Addr} {H H' : Hp} {xs : List V} {ps : List (Str × List Str)} (h : EachIs (PoolRow H ms) xs ps) (e : Ext T ms' H H') (hs : ∀ b ∈ ms', b ∈ ms) (hl : Lsts H ms') : EachIs (PoolRow H' ms) xs ps := h.mono fun _ _ x => x.ext e hs hl
theorem rows_weak {ms ms' : List Addr} {H : Hp} {xs : List V} {ps : List (Str × List Str)} (h : EachIs (PoolRow H ms) xs ps) (hs : ∀ b ∈ ms', b ∈ ms) : EachIs (PoolRow H ms') xs ps := h.mono fun _ _ ⟨ta, pa, e1, e2, e3, e4⟩ => ⟨ta, pa, e1, e2, e3, fun hb => e4 (hs _ hb)⟩
theorem Pools.ext {T : List (Addr × Str)} {H H' : Hp} {l t a : Addr} {ps : List (Str × List Str)} (h : Pools H t a ps) (e : Ext T [t] H H') (hT : Tape l H t) : Pools H' t a ps := by
  obtain ⟨xs, h1, h2, h3⟩ := h
  exact ⟨xs, e.lst (by simpa using h2) h1, h2, rows_ext h3 e (fun _ h => h) hT.lsts⟩
theorem Pools.new {H : Hp} {t a q : Addr} {o : HO} {ps : List (Str × List Str)} (h : Pools H t a ps) (hq : H q = none) : Pools (upd H q o) t a ps := by
  obtain ⟨xs, h1, h2, h3⟩ := h
  have e : Ext [] [] H (upd H q o) := .new hq
  exact ⟨xs, e.lst (by simp) h1, h2, rows_ext h3 e (by simp) Lsts.nil⟩
theorem Pools.ext0 {T : List (Addr × Str)} {H H' : Hp} {t a : Addr} {ps : List (Str × List Str)} (h : Pools H t a ps) (e : Ext T [] H H') : Pools H' t a ps := by
  obtain ⟨xs, h1, h2, h3⟩ := h
  exact ⟨xs, e.lst (by simp) h1, h2, rows_ext h3 e (by simp) Lsts.nil⟩
structure PsOk (R : Rm) (ps : List (Str × List Str)) : Prop where
  nm : ps.map (·.1) = R.zs.map (·.1)
  nd : ∀ p ∈ ps, p.2.Nodup
  ok : ∀ p ∈ ps, ∀ y ∈ p.2, idB y = true
  len : ∀ p ∈ ps, p.2.length = 3
structure ItmOk (s : Sl) (i : Itm) : Prop where
  c : ∃ cs : List Str, i.c = srtS cs ∧ cs.Nodup ∧ (∀ y ∈ cs, idB y = true) ∧ cs.length ≤ 4
  g : ∃ gs : List Str, i.g = srtS gs ∧ gs.Nodup ∧ (∀ y ∈ gs, idB y = true) ∧ gs.length ≤ 3
  li : 1 ≤ i.li ∧ i.li ≤ 1000
  ab : 0 ≤ i.a ∧ i.a ≤ i.b ∧ i.b ≤ 10000
  h : ∀ z, s = .h z → i.g = [] ∧ i.a = 0 ∧ i.b = 10000
  kc : ∀ z, s = .k z → i.c ≠ []
/-- the first of the servers that an item names, s1 where it names none -/
def Itm.hd (i : Itm) : Str := i.c.headD "s1"
/-- one signer, and it is one of the keys -/
def Seal (i : Itm) : Prop := ∃ x, i.g = [x] ∧ x ∈ i.c
section
variable (T : List (Addr × Str))
def spPools : Sp := fun vs H Q _ => ∃ (l t : Addr) (v : V) (R : Rm), vs = [.ref t, v] ∧ Tape l H t ∧ Im H v (rmD R) ∧ RmIn R ∧ ∀ (a : Addr) (ps : List (Str × List Str)) (H' : Hp), Nw H a → Pools H' t a ps → PsOk R ps → Ext T [t] H H' → Tape l H' t → Q (.ref a) H'
def spPool : Sp := fun vs H Q _ => ∃ (t a : Addr) (ps : List (Str × List Str)) (z : Str) (ks : List Str), vs = [.ref a, .str z] ∧ Pools H t a ps ∧ ps.length ≤ 6 ∧ (ps.map (·.1)).Nodup ∧ (z, ks) ∈ ps ∧
  ∀ (pa : Addr) (H' : Hp), pa ≠ t → H pa = some (.lst (ks.map V.str)) → Ext T [] H H' → Q (.ref pa) H'
def spItem : Sp := fun vs H Q _ => ∃ (ca sa : Addr) (cs gs : List Str) (li : Int), vs = [.ref ca, .int li, .ref sa] ∧ H ca = some (.lst (cs.map V.str)) ∧ H sa = some (.lst (gs.map V.str)) ∧ (∀ y ∈ cs, idB y = true) ∧ (∀ y ∈ gs, idB y = true) ∧
  ∀ (v : V) (H' : Hp), Ext T [] H H' → Im H' v (itD ⟨srtS cs, li, srtS gs, 0, 10000⟩) → Q v H'
def spFirst : Sp := fun vs H Q _ => ∃ (l t pa : Addr) (v u : V) (R : Rm) (ps : List (Str × List Str)) (s : Sl), vs = [.ref t, v, .ref pa, u] ∧ Tape l H t ∧ Im H v (rmD R) ∧ RmIn R ∧ Pools H t pa ps ∧ PsOk R ps ∧ Im H u (slD s) ∧ s ∈ slotsR R ∧
  ∀ (x : V) (i : Itm) (H' : Hp), ItmOk s i → (∀ z, s = .k z → Seal i) → (∀ z, s = .h z → i.hd = "s1") → Im H' x (itD i) → Ext T [t] H H' → Tape l H' t → Q x H'
end
theorem filter_key {ps : List (Str × List Str)} {z : Str} {ks : List Str} (hn : (ps.map (·.1)).Nodup) (hm : (z, ks) ∈ ps) : ps.filter (fun p => decide (p.1 = z)) = [(z, ks)] := by
  induction ps with
  | nil => cases hm
  | cons p ps ih =>
    rw [List.map_cons, List.nodup_cons] at hn
    rcases List.mem_cons.mp hm with e | hm
    · subst e
      rw [List.filter_cons_of_pos (by simp), List.filter_eq_nil_iff.mpr]
      intro y hy h
      have h2 : y.1 = z := of_decide_eq_true h
      exact hn.1 (List.mem_map.mpr ⟨y, hy, h2⟩)
    · rw [List.filter_cons_of_neg, ih hn.2 hm]
      intro h
      have h2 : p.1 = z := of_decide_eq_true h
      exact hn.1 (List.mem_map.mpr ⟨_, hm, h2.symm⟩)
theorem filter_others {ks : List Str} {a : Str} (hn : ks.Nodup) : ks.length ≤ (ks.filter fun k => !decide (k = a)).length + 1 := by
  induction ks with
  | nil => simp
  | cons k ks ih =>
    rw [List.nodup_cons] at hn
    by_cases h : k = a
    · rw [List.filter_cons_of_neg (by simp [h])]
      have : ks.filter (fun k => !decide (k = a)) = ks := List.filter_eq_self.mpr fun x hx => by
        simp only [Bool.not_eq_true', decide_eq_false_iff_not]
        intro e
        rw [← h] at e
        rw [e] at hx
        exact hn.1 hx
      rw [this]
      simp
    · rw [List.filter_cons_of_pos (by simp [h])]
      have := ih hn.2
      simp only [List.length_cons]
      omega
theorem srtS_ne {cs : List Str} (h : cs ≠ []) : srtS cs ≠ [] := fun e => h (by
  have := (srtS_perm cs).length_eq
  rw [e] at this
  exact List.eq_nil_of_length_eq_zero this.symm)
theorem srtS_oneL (z : Str) : srtS [z] = [z] := List.mergeSort_singleton _
theorem seal_srt {cs gs : List Str} {li a b : Int} (h : ∃ x, gs = [x] ∧ x ∈ cs) : Seal ⟨srtS cs, li, srtS gs, a, b⟩ := by
  obtain ⟨x, rfl, hx⟩ := h
  exact ⟨x, srtS_oneL x, (srtS_perm cs).mem_iff.mpr hx⟩
/-! ### what is made new, the heap told by what it keeps -/
section
variable {T : List (Addr × Str)} {H H' : Hp}
theorem Im.x {v : V} {d : PyData} (h : Im H v d) (e : Ext T [] H H') : Im H' v d := Im.ext e Lsts.nil _ _ h
theorem ImAll.x {vs : List V} {ds : List PyData} (h : ImAll H vs ds) (e : Ext T [] H H') : ImAll H' vs ds := ImAll.ext e Lsts.nil _ _ h
theorem Ls.x {a : Addr} {ds : List PyData} (h : Ls H a ds) (e : Ext T [] H H') : Ls H' a ds := h.ext e (by simp) Lsts.nil
theorem tup.x {a : Addr} {xs : List V} (h : H a = some (.tup xs)) (e : Ext T [] H H') : H' a = some (.tup xs) := e.tup (by simp) h
theorem tup.y {l t a : Addr} {xs : List V} (h : H a = some (.tup xs)) (e : Ext T [t] H H') (hT : Tape l H t) : H' a = some (.tup xs) := tup.ext h e hT.lsts
theorem SqP.x {a : Addr} {xs : List V} (h : SqP H a xs) (e : Ext T [] H H') : SqP H' a xs := SqP.ext h e Lsts.nil
theorem lst.x {a : Addr} {xs : List V} (h : H a = some (.lst xs)) (e : Ext T [] H H') : H' a = some (.lst xs) := e.lst (by simp) h
theorem Im.y {l t : Addr} {v : V} {d : PyData} (h : Im H v d) (e : Ext T [t] H H') (hT : Tape l H t) : Im H' v d := Im.ext e hT.lsts _ _ h
theorem ImAll.y {l t : Addr} {vs : List V} {ds : List PyData} (h : ImAll H vs ds) (e : Ext T [t] H H') (hT : Tape l H t) : ImAll H' vs ds := ImAll.ext e hT.lsts _ _ h
theorem Ls.y {l t a : Addr} {ds : List PyData} (h : Ls H a ds) (e : Ext T [t] H H') (ha : a ≠ t) (hT : Tape l H t) : Ls H' a ds := h.ext e (by simpa using ha) hT.lsts
theorem lst.y {t a : Addr} {xs : List V} (h : H a = some (.lst xs)) (e : Ext T [t] H H') (ha : a ≠ t) : H' a = some (.lst xs) := e.lst (by simpa using ha) h
end
section
variable (T : List (Addr × Str)) {K : PySem.W.Frag} {H : Hp} {Q : VK}
theorem rd_takeS {a : Addr} {zs : List Str} {i : Int} (h : H a = some (.lst (zs.map V.str))) (h0 : 0 ≤ i) (q : ∀ p H', Nw H p → Ext T [] H H' → H' p = some (.lst ((zs.take i.toNat).map V.str)) → Q (.ref p) H') : rSlU K (.ref a) none (some i) H Q :=
  rd_slL (SqL.of h) fun p hp => q p _ (.of hp) (.new hp) (by rw [cutV_to _ h0, ← List.map_take]; exact upd_same)
theorem rd_tupA {p : Addr} {ys : List V} (h : H p = some (.lst ys)) (q : ∀ l H', Nw H l → Ext T [] H H' → H' l = some (.tup ys) → Q (.ref l) H') : rTupOf K [.ref p] H Q := rd_tupL (SqL.of h) fun l hl => q l _ (.of hl) (.new hl) upd_same
theorem rd_tupFA {p : Addr} {ys : List V} (h : H p = some (.lst ys)) (q : ∀ l H' o, Nw H l → Ext T [] H H' → o.dict = none → H' l = some (.frz o (.tup ys)) → Q (.ref l) H') : rTupF K [.ref p] H Q := rd_tupF (SqL.of h) fun l o hl ho => q l _ o (.of hl) (.new hl) ho upd_same
theorem rd_listA {p : Addr} {ys : List V} (h : SqT K H p ys) (q : ∀ l H', Nw H l → Ext T [] H H' → H' l = some (.lst ys) → Q (.ref l) H') : rListOf K [.ref p] H Q := rd_listT h fun l hl => q l _ (.of hl) (.new hl) upd_same
theorem rd_catA {a b : Addr} {xs ys : List V} (h1 : H a = some (.lst xs)) (h2 : H b = some (.lst ys)) (c : xs.length + ys.length ≤ 1000) (q : ∀ p H', Nw H p → Ext T [] H H' → H' p = some (.lst (xs ++ ys)) → Q (.ref p) H') : rPlus K (.ref a) (.ref b) H Q :=
  rd_cat h1 h2 (Nat.le_trans c (by decide)) fun p hp => q p _ (.of hp) (.new hp) upd_same
theorem rd_sortA {a : Addr} {ds : List PyData} (h : Ls H a ds) (h1 : PySem.W.AllAlike ds) (h2 : PySem.W.Sortable ds) (h3 : ∀ d ∈ ds, d.depth ≤ 60) (q : ∀ p H' ys, Nw H p → Ext T [] H H' → H' p = some (.lst ys) → ImAll H' ys (srtD ds) → Q (.ref p) H') : rSortD K [.ref a] H Q :=
  rd_sortI h h1 h2 h3 fun p ys hp hy => q p _ ys (.of hp) (.new hp) upd_same (hy.new hp)
end
/-! ### a state: its items' tuple is a plain one -/
def StAt (H : Hp) (v : V) (s : Sta) : Prop := ∃ (a ia : Addr) (oa : V) (xs : List V) (o : Obj), v = .ref a ∧ H a = some (.tup [.ref ia, oa]) ∧ H ia = some (.frz o (.tup xs)) ∧ o.dict = none ∧ ImAll H xs (s.its.map rowD2) ∧ Im H oa (.tuple (s.on.map ssD))
theorem StAt.ext {T : List (Addr × Str)} {ms : List Addr} {H H' : Hp} {v : V} {s : Sta} (h : StAt H v s) (e : Ext T ms H H') (hm : Lsts H ms) : StAt H' v s := by
  obtain ⟨a, ia, oa, xs, o, e1, e2, e3, e4, e5, e6⟩ := h
  refine ⟨a, ia, oa, xs, o, e1, tup.ext (xs := [.ref ia, oa]) e2 e hm, e.keep ia _ (fun hb => ?_) (fun _ z => by cases z) e3, e4, ImAll.ext e hm _ _ e5, Im.ext e hm _ _ e6⟩
  obtain ⟨ys, hy⟩ := hm ia hb
  rw [e3] at hy
  cases hy
theorem StAt.x {T : List (Addr × Str)} {H H' : Hp} {v : V} {s : Sta} (h : StAt H v s) (e : Ext T [] H H') : StAt H' v s := h.ext e Lsts.nil
theorem StAt.y {T : List (Addr × Str)} {H H' : Hp} {l t : Addr} {v : V} {s : Sta} (h : StAt H v s) (e : Ext T [t] H H') (hT : Tape l H t) : StAt H' v s := h.ext e hT.lsts
structure StaOk (R : Rm) (s : Sta) : Prop where
  nm : s.its.map (·.1) = slotsR R
  ok : ∀ r ∈ s.its, ItmOk r.1 r.2
  on : s.on.length ≤ 100
/-- the item of the root's keys seals itself -/
def SealR (s : Sta) : Prop := ∀ i, (Sl.k dotS, i) ∈ s.its → Seal i
/-- deeds of servers that are allowed -/
def okD (s : Sta) : Dd → Prop
  | .put _ _ => True
  | .on x z => (x, z) ∉ s.on
  | .off x z => (x, z) ∈ s.on
def OnOk : Sta → List Dd → Prop
  | _, [] => True
  | s, d :: r => okD s d ∧ OnOk (aft s d) r
theorem onOk_snoc {d : Dd} : ∀ {ds : List Dd} {s : Sta}, OnOk s ds → okD (ds.foldl aft s) d → OnOk s (ds ++ [d])
  | [], _, _, h => ⟨h, trivial⟩
  | _ :: _, _, h, g => ⟨h.1, onOk_snoc h.2 g⟩
def isPut : Dd → Prop
  | .put _ _ => True
  | .on _ _ => False
  | .off _ _ => False
theorem onOk_puts : ∀ {ds : List Dd} {s : Sta}, (∀ d ∈ ds, isPut d) → OnOk s ds
  | [], _, _ => trivial
  | d :: ds, s, h => by
    refine ⟨?_, onOk_puts fun e he => h e (List.mem_cons_of_mem _ he)⟩
    have h1 := h d List.mem_cons_self
    cases d with
    | put sl i => trivial
    | on x z => exact h1.elim
    | off x z => exact h1.elim
/-- the start's servers: s1 is on, s3 is not, and items name s1 or s3 first -/
structure SrvOk (R : Rm) (s : Sta) : Prop where
  s1 : ∀ z ∈ R.zs.tail.map (·.1), (("s1", z) : Str × Str) ∈ s.on
  s3 : ∀ z : Str, (("s3", z) : Str × Str) ∉ s.on
  h : ∀ z it, (Sl.h z, it) ∈ s.its → it.hd = "s1" ∨ it.hd = "s3"
theorem srt_two : srtS ["s1", "s2"] = (["s1", "s2"] : List Str) := List.mergeSort_of_pairwise (by decide +kernel)
theorem srt_two' : srtS ["s1", "t9"] = (["s1", "t9"] : List Str) := List.mergeSort_of_pairwise (by decide +kernel)
section
variable (T : List (Addr × Str))
def spAt : Sp := fun vs H Q _ => ∃ (v u : V) (s : Sta) (sl : Sl) (i : Itm), vs = [v, u] ∧ StAt H v s ∧ Im H u (slD sl) ∧ (sl, i) ∈ s.its ∧ (s.its.map (·.1)).Nodup ∧ s.its.length ≤ 100 ∧ ∀ (x : V) (H' : Hp), Ext T [] H H' → Im H' x (itD i) → Q x H'
def spAfter : Sp := fun vs H Q _ => ∃ (v u : V) (s : Sta) (d : Dd), vs = [v, u] ∧ StAt H v s ∧ Im H u (ddD d) ∧ s.its.length ≤ 100 ∧ s.on.length ≤ 500 ∧ ∀ (x : V) (H' : Hp), Ext T [] H H' → StAt H' x (aft s d) → Q x H'
end
theorem nodup_mapI {α β : Type} {f : α → β} (hf : ∀ a b, f a = f b → a = b) : ∀ {l : List α}, l.Nodup → (l.map f).Nodup
  | [], _ => by simp
  | x :: l, h => by
    rw [List.nodup_cons] at h
    rw [List.map_cons, List.nodup_cons]
    refine ⟨fun hm => ?_, nodup_mapI hf h.2⟩
    obtain ⟨y, hy, e⟩ := List.mem_map.mp hm
    rw [hf _ _ e] at hy
    exact h.1 hy
theorem slots_nodup {R : Rm} (h : RmIn R) : (slotsR R).Nodup := by
  unfold slotsR
  obtain ⟨lag, rest, e, hr⟩ := h.ne
  have hnd := h.nd
  rw [e, List.map_cons, List.nodup_cons] at hnd
  have ht : R.zs.tail = rest := by rw [e]; rfl
  rw [ht, List.nodup_append]
  refine ⟨?_, ?_, ?_⟩
  · rw [List.nodup_cons]
    refine ⟨fun hm => ?_, ?_⟩
    · obtain ⟨y, hy, h2⟩ := List.mem_flatMap.mp hm
      simp only [List.mem_cons, List.not_mem_nil, or_false, Sl.k.injEq, reduceCtorEq] at h2
      exact hr y hy h2.symm
    · have key : ∀ {rest : List (Str × Int)}, (rest.map (·.1)).Nodup → (rest.flatMap fun z => [Sl.k z.1, .l z.1, .h z.1]).Nodup := by
        intro rest
        induction rest with
        | nil => intro _; simp
        | cons z rest ih =>
          intro hn
          rw [List.map_cons, List.nodup_cons] at hn
          rw [List.flatMap_cons, List.nodup_append]
          refine ⟨by simp, ih hn.2, fun a ha b hb e => ?_⟩
          subst e
          obtain ⟨y, hy, h2⟩ := List.mem_flatMap.mp hb
          have : z.1 = y.1 := by
            simp only [List.mem_cons, List.not_mem_nil, or_false] at ha h2
            rcases ha with rfl | rfl | rfl <;> simp at h2 <;> exact h2
          exact hn.1 (by rw [this]; exact List.mem_map_of_mem hy)
      exact key hnd.2
  · exact nodup_mapI (fun a b h => by
      injection h with h1 h2
      exact Prod.ext h1 h2) h.sn
  · intro a ha b hb e
    subst e
    obtain ⟨p, _, rfl⟩ := List.mem_map.mp hb
    rcases List.mem_cons.mp ha with h2 | h2
    · cases h2
    · obtain ⟨y, _, h3⟩ := List.mem_flatMap.mp h2
      simp at h3
/-- an object made at p: what the new heap keeps -/
theorem alL {T : List (Addr × Str)} {H : Hp} {p : Addr} (h : H p = none) (xs : List V) : Nw H p ∧ Ext T [] H (upd H p (.lst xs)) ∧ (upd H p (.lst xs)) p = some (.lst xs) := ⟨.of h, .new h, upd_same⟩
theorem alT {T : List (Addr × Str)} {H : Hp} {p : Addr} (h : H p = none) (xs : List V) : Nw H p ∧ Ext T [] H (upd H p (.tup xs)) ∧ (upd H p (.tup xs)) p = some (.tup xs) := ⟨.of h, .new h, upd_same⟩
/-! ### the start's servers, told in full -/
def s9L : List Str := [Str.ofString "s1", Str.ofString "s2", Str.ofString "t9"]
def OnR (R : Rm) (s : Sta) : Prop := ∃ on, s.on = srtSS on ∧ on.Nodup ∧ ∀ p ∈ on, p.1 ∈ s9L ∧ p.2 ∈ R.zs.tail.map (·.1)
section
variable (T : List (Addr × Str))
def spStartF : Sp := fun vs H Q _ => ∃ (l t pa : Addr) (v : V) (R : Rm) (ps : List (Str × List Str)), vs = [.ref t, v, .ref pa] ∧ Tape l H t ∧ Im H v (rmD R) ∧ RmIn R ∧ Pools H t pa ps ∧ PsOk R ps ∧
  ∀ (x : V) (s : Sta) (H' : Hp), StaOk R s → SealR s → SrvOk R s → OnR R s → s.on.length ≤ 20 → StAt H' x s → Ext T [t] H H' → Tape l H' t → Q x H'
end
/-! ### items of data that pass a test -/
open Classical in
noncomputable def pIm (H : Hp) {α : Type} (f : α → PyData) (c : α → Bool) (x : V) : Bool := decide (∃ a, Im H x (f a) ∧ c a = true)
theorem pIm_eq {H : Hp} {α : Type} {f : α → PyData} {c : α → Bool} {x : V} {a : α} (hf : ∀ a b, f a = f b → a = b) (h : Im H x (f a)) : pIm H f c x = c a := by
  unfold pIm
  cases hc : c a with
  | true => exact @decide_eq_true _ (Classical.propDecidable _) ⟨a, h, hc⟩
  | false =>
    refine @decide_eq_false _ (Classical.propDecidable _) fun ⟨b, h1, h2⟩ => ?_
    have := hf _ _ (Im.inj _ _ _ h h1)
    rw [← this, hc] at h2
    cases h2
theorem each_filter {H : Hp} {α : Type} {f : α → PyData} {c : α → Bool} (hf : ∀ a b, f a = f b → a = b) : ∀ {xs : List V} {as : List α}, ImAll H xs (as.map f) → EachIs (fun x a => Im H x (f a)) (xs.filter (pIm H f c)) (as.filter c)
  | xs, [], h => by
    cases h
    exact .nil
  | xs, a :: as, h => by
    cases h with
    | cons h1 h2 =>
      have e := pIm_eq (c := c) hf h1
      cases hc : c a with
      | true =>
        rw [List.filter_cons_of_pos (by rw [e, hc]), List.filter_cons_of_pos hc]
        exact .cons h1 (each_filter hf h2)
      | false =>
        rw [List.filter_cons_of_neg (by rw [e, hc]; decide), List.filter_cons_of_neg (by rw [hc]; decide)]
        exact each_filter hf h2
theorem each_comp {α β γ : Type} {R : α → β → Prop} {S : β → γ → Prop} : ∀ {as : List α} {bs : List β} {cs : List γ}, EachIs R as bs → EachIs S bs cs → EachIs (fun a c => ∃ b, R a b ∧ S b c) as cs
  | _, _, _, .nil, .nil => .nil
  | _, _, _, .cons a s, .cons b t => .cons ⟨_, a, b⟩ (each_comp s t)
theorem rowD2_inj {a b : Sl × Itm} (h : rowD2 a = rowD2 b) : a = b := by
  unfold rowD2 at h
  injection h with h
  injection h with h1 h
  injection h with h2 _
  exact Prod.ext (slD_inj h1) (itD_inj h2)
theorem filter_fst {its : List (Sl × Itm)} {sl : Sl} {i : Itm} (hn : (its.map (·.1)).Nodup) (hm : (sl, i) ∈ its) : its.filter (fun r => decide (r.1 = sl)) = [(sl, i)] := by
  induction its with
  | nil => cases hm
  | cons p ps ih =>
    rw [List.map_cons, List.nodup_cons] at hn
    rcases List.mem_cons.mp hm with e | hm
    · subst e
      rw [List.filter_cons_of_pos (by simp), List.filter_eq_nil_iff.mpr]
      intro y hy h
      have h2 : y.1 = sl := of_decide_eq_true h
      exact hn.1 (List.mem_map.mpr ⟨y, hy, h2⟩)
    · rw [List.filter_cons_of_neg, ih hn.2 hm]
      intro h
      have h2 : p.1 = sl := of_decide_eq_true h
      exact hn.1 (List.mem_map.mpr ⟨_, hm, h2.symm⟩)
theorem SqF {K : PySem.W.Frag} {H : Hp} {a : Addr} {o : Obj} {xs : List V} (h : H a = some (.frz o (.tup xs))) : SqT K H a xs := .inl (.inr ⟨o, h⟩)
theorem frz.x {T : List (Addr × Str)} {H H' : Hp} {a : Addr} {o : Obj} {u : HO} (h : H a = some (.frz o u)) (e : Ext T [] H H') : H' a = some (.frz o u) := e.keep a _ (by simp) (fun _ z => by cases z) h
/-! ### deeds drawn -/
def DdOk (R : Rm) : Dd → Prop
  | .put s i => s ∈ slotsR R ∧ ItmOk s i
  | .on x z => idB x = true ∧ z ∈ R.zs.tail.map (·.1)
  | .off x z => idB x = true ∧ z ∈ R.zs.tail.map (·.1)
theorem aft_on (s : Sta) (d : Dd) : (aft s d).on.length ≤ s.on.length + 1 := by
  cases d with
  | put sl i => exact Nat.le_succ _
  | on x z =>
    show (srtSS _).length ≤ _
    rw [(srtSS_perm _).length_eq, List.length_append]
    exact Nat.le_refl _
  | off x z => exact Nat.le_succ_of_le (List.length_filter_le _ _)
theorem aft_ok {R : Rm} {s : Sta} {d : Dd} (h : StaOk R s) (hd : DdOk R d) (hl : s.on.length + 1 ≤ 100) : StaOk R (aft s d) := by
  refine ⟨(aft_keys s d).trans h.nm, ?_, Nat.le_trans (aft_on s d) hl⟩
  cases d with
  | put sl i =>
    intro r hr
    obtain ⟨y, hy, e⟩ := List.mem_map.mp (show r ∈ s.its.map (fun r => (r.1, if r.1 = sl then i else r.2)) from hr)
    rw [← e]
    by_cases h2 : y.1 = sl
    · show ItmOk y.1 (if y.1 = sl then i else y.2)
      rw [if_pos h2, h2]
      exact hd.2
    · show ItmOk y.1 (if y.1 = sl then i else y.2)
      rw [if_neg h2]
      exact h.ok y hy
  | on x z => exact h.ok
  | off x z => exact h.ok
theorem sta_len {R : Rm} {s : Sta} (hR : RmIn R) (h : StaOk R s) (hl : (slotsR R).length ≤ 30) : s.its.length ≤ 100 := by
  have := congrArg List.length h.nm
  rw [List.length_map] at this
  omega
theorem sta_nodup {R : Rm} {s : Sta} (hR : RmIn R) (h : StaOk R s) : (s.its.map (·.1)).Nodup := by
  rw [h.nm]
  exact slots_nodup hR
theorem sta_find {R : Rm} {s : Sta} {sl : Sl} (h : StaOk R s) (hs : sl ∈ slotsR R) : ∃ i, (sl, i) ∈ s.its := by
  rw [← h.nm] at hs
  obtain ⟨r, hr, e⟩ := List.mem_map.mp hs
  exact ⟨r.2, by rw [← e]; exact hr⟩
section
variable (T : List (Addr × Str))
def spServer : Sp := fun vs H Q _ => ∃ (l t : Addr) (v u : V) (R : Rm) (s : Sta), vs = [.ref t, v, u] ∧ Tape l H t ∧ Im H v (rmD R) ∧ RmIn R ∧ 1 < R.zs.length ∧ StAt H u s ∧ s.on.length ≤ 100 ∧
  ∀ (x : V) (d : Dd) (H' : Hp), DdOk R d → okD s d → Im H' x (ddD d) → Ext T [t] H H' → Tape l H' t → Q x H'
def spMixed : Sp := fun vs H Q _ => ∃ (l t pa : Addr) (v u x : V) (R : Rm) (ps : List (Str × List Str)) (s : Sl) (i : Itm), vs = [.ref t, v, .ref pa, u, x] ∧ Tape l H t ∧ Im H v (rmD R) ∧ RmIn R ∧ Pools H t pa ps ∧ PsOk R ps ∧ Im H u (slD s) ∧ s ∈ slotsR R ∧ (∀ z, s ≠ .h z) ∧ Im H x (itD i) ∧ ItmOk s i ∧
  ∀ (y : V) (j : Itm) (H' : Hp), ItmOk s j → Im H' y (itD j) → Ext T [t] H H' → Tape l H' t → Q y H'
def spDeed : Sp := fun vs H Q _ => ∃ (l t pa : Addr) (v u : V) (R : Rm) (ps : List (Str × List Str)) (s : Sta), vs = [.ref t, v, .ref pa, u] ∧ Tape l H t ∧ Im H v (rmD R) ∧ RmIn R ∧ Pools H t pa ps ∧ PsOk R ps ∧ StAt H u s ∧ StaOk R s ∧
  ∀ (x : V) (d : Dd) (H' : Hp), DdOk R d → okD s d → Im H' x (ddD d) → Ext T [t] H H' → Tape l H' t → Q x H'
def spDeeds : Sp := fun vs H Q _ => ∃ (l t pa : Addr) (v u : V) (R : Rm) (ps : List (Str × List Str)) (s : Sta) (m : Int), vs = [.ref t, v, .ref pa, u, .int m] ∧ Tape l H t ∧ Im H v (rmD R) ∧ RmIn R ∧ Pools H t pa ps ∧ PsOk R ps ∧ StAt H u s ∧ StaOk R s ∧ s.on.length ≤ 50 ∧ 0 ≤ m ∧ m ≤ 20 ∧
  ∀ (x : V) (ds : List Dd) (H' : Hp), (∀ d ∈ ds, DdOk R d) → OnOk s ds → (ds.length : Int) = m → Im H' x (.tuple (ds.map ddD)) → Ext T [t] H H' → Tape l H' t → Q x H'
end
def s4L : List Str := ["s1", "s2", "s3", "t9"]
theorem s4_ok : ∀ y ∈ s4L, idB y = true := by decide +kernel
def hostL : List (List Str) := [["s1"], ["s2"], ["s1", "s3"], ["s3"], ["s2", "t9"]]
theorem host_ok : ∀ c ∈ hostL, c.Nodup ∧ (∀ y ∈ c, idB y = true) ∧ c.length ≤ 4 := by decide +kernel
theorem zin {R : Rm} (h : RmIn R) {z : Str} (hz : z ∈ R.zs.tail.map (·.1)) : nameB z = true ∧ Sl.h z ∈ slotsR R := by
  obtain ⟨y, hy, rfl⟩ := List.mem_map.mp hz
  refine ⟨h.nm y (List.mem_of_mem_tail hy), ?_⟩
  unfold slotsR
  refine List.mem_append_left _ (List.mem_cons_of_mem _ (List.mem_flatMap.mpr ⟨y, hy, by simp⟩))
/-! ### lists of ids -/
structure CL (H : Hp) (t a : Addr) (n : Nat) (cs : List Str) : Prop where
  at_ : H a = some (.lst (cs.map V.str))
  ne : a ≠ t
  nd : cs.Nodup
  ok : ∀ y ∈ cs, idB y = true
  len : cs.length ≤ n
section
variable {T : List (Addr × Str)} {K : PySem.W.Frag} {H H' : Hp} {Q : VK} {l t a : Addr} {n : Nat} {cs : List Str}
theorem CL.x (h : CL H t a n cs) (e : Ext T [] H H') : CL H' t a n cs := ⟨lst.x h.at_ e, h.ne, h.nd, h.ok, h.len⟩
theorem CL.y (h : CL H t a n cs) (e : Ext T [t] H H') : CL H' t a n cs := ⟨lst.y h.at_ e h.ne, h.ne, h.nd, h.ok, h.len⟩
theorem CL.sub {ds : List Str} (h : CL H t a n cs) (hs : ds.Sublist cs) (p : Addr) (hp : H' p = some (.lst (ds.map V.str))) (hn : p ≠ t) : CL H' t p n ds := ⟨hp, hn, h.nd.sublist hs, fun y hy => h.ok y (hs.subset hy), Nat.le_trans hs.length_le h.len⟩
theorem CL.wide {m : Nat} (h : CL H t a n cs) (hm : n ≤ m) : CL H t a m cs := ⟨h.at_, h.ne, h.nd, h.ok, Nat.le_trans h.len hm⟩
theorem cutV_mid (xs : List V) {i j : Int} (h0 : 0 ≤ i) (h1 : 0 ≤ j) : cutV xs (some i) (some j) = (xs.take j.toNat).drop i.toNat := by
  unfold cutV
  have e0 : HT.sIx xs.length 0 (some i) = min i.toNat xs.length := by
    obtain ⟨k, rfl⟩ := Int.eq_ofNat_of_zero_le h0
    exact HT.sIx_nat xs.length 0 k
  have e1 : HT.sIx xs.length xs.length (some j) = min j.toNat xs.length := by
    obtain ⟨k, rfl⟩ := Int.eq_ofNat_of_zero_le h1
    exact HT.sIx_nat xs.length xs.length k
  rw [e0, e1]
  generalize i.toNat = a
  generalize j.toNat = b
  rw [List.drop_take]
  by_cases ha : a ≤ xs.length
  · rw [Nat.min_eq_left ha]
    by_cases hb : b ≤ xs.length
    · rw [Nat.min_eq_left hb]
    · rw [Nat.min_eq_right (by omega), List.take_of_length_le (by rw [List.length_drop]; omega), List.take_of_length_le (by rw [List.length_drop]; omega)]
  · have e3 : min a xs.length = xs.length := by omega
    rw [e3, List.drop_length, List.drop_eq_nil_of_le (by omega), List.take_nil, List.take_nil]
theorem CL.take {i : Int} (h : CL H t a n cs) (hT : Tape l H t) (h0 : 0 ≤ i) (q : ∀ p H', Nw H p → Ext T [] H H' → CL H' t p n (cs.take i.toNat) → Q (.ref p) H') : rSlU K (.ref a) none (some i) H Q :=
  rd_takeS T h.at_ h0 fun p H' np e hp => q p H' np e (h.sub (List.take_sublist _ _) p hp (hT.ne np).1)
theorem CL.mid {i j : Int} (h : CL H t a n cs) (hT : Tape l H t) (h0 : 0 ≤ i) (h1 : 0 ≤ j) (q : ∀ p H', Nw H p → Ext T [] H H' → CL H' t p n ((cs.take j.toNat).drop i.toNat) → Q (.ref p) H') : rSlU K (.ref a) (some i) (some j) H Q :=
  rd_slL (SqL.of h.at_) fun p hp => q p _ (.of hp) (.new hp) (h.sub ((List.drop_sublist _ _).trans (List.take_sublist _ _)) p (by rw [cutV_mid _ h0 h1, ← List.map_take, ← List.map_drop]; exact upd_same) (hT.ne (.of hp)).1)
end
theorem srt_nd {cs : List Str} (h : cs.Nodup) : (srtS cs).Nodup := (srtS_perm cs).nodup_iff.mpr h
theorem itm_c {s : Sl} {i : Itm} (h : ItmOk s i) : i.c.Nodup ∧ (∀ y ∈ i.c, idB y = true) ∧ i.c.length ≤ 4 := by
  obtain ⟨cs, e, h1, h2, h3⟩ := h.c
  rw [e]
  exact ⟨srt_nd h1, fun y hy => h2 y ((srtS_perm cs).mem_iff.mp hy), by rw [(srtS_perm cs).length_eq]; exact h3⟩
theorem itm_g {s : Sl} {i : Itm} (h : ItmOk s i) : i.g.Nodup ∧ (∀ y ∈ i.g, idB y = true) ∧ i.g.length ≤ 3 := by
  obtain ⟨cs, e, h1, h2, h3⟩ := h.g
  rw [e]
  exact ⟨srt_nd h1, fun y hy => h2 y ((srtS_perm cs).mem_iff.mp hy), by rw [(srtS_perm cs).length_eq]; exact h3⟩
/-- the word and the name of a slot -/
theorem sl_word (s : Sl) : ∃ (kw z : Str) (r : List PyData), slD s = .tuple (.str kw :: .str z :: r) ∧ ((kw = Str.ofString "link") ↔ ∃ z, s = .l z) ∧ ((kw = Str.ofString "set") ↔ ∃ n k, s = .s n k) ∧ (∀ y, s = .l y → z = y) := by
  cases s with
  | k z => exact ⟨"keys", z, [], rfl, no_iff (by decide +kernel) (fun ⟨_, h⟩ => by cases h), no_iff (by decide +kernel) (fun ⟨_, _, h⟩ => by cases h), fun y h => by cases h⟩
  | l z => exact ⟨"link", z, [], rfl, ⟨fun _ => ⟨z, rfl⟩, fun _ => rfl⟩, no_iff (by decide +kernel) (fun ⟨_, _, h⟩ => by cases h), fun y h => by injection h⟩
  | h z => exact ⟨"hosts", z, [], rfl, no_iff (by decide +kernel) (fun ⟨_, h⟩ => by cases h), no_iff (by decide +kernel) (fun ⟨_, _, h⟩ => by cases h), fun y h => by cases h⟩
  | s n k => exact ⟨"set", n, [.str k], rfl, no_iff (by decide +kernel) (fun ⟨_, h⟩ => by cases h), ⟨fun _ => ⟨n, k, rfl⟩, fun _ => rfl⟩, fun y h => by cases h⟩
theorem pick_cl {H : Hp} {t : Addr} {n : Nat} {as : List Addr} (h : ∀ a ∈ as, ∃ gs, CL H t a n gs) {i : Int} (h0 : 0 ≤ i) (h1 : i < as.length) : ∃ a gs, atI (as.map V.ref) i = some (.ref a) ∧ CL H t a n gs := by
  obtain ⟨c, hc1, hc2, hc3⟩ := at_in (l := as.map V.ref) h0 (by rw [List.length_map]; exact h1)
  obtain ⟨a, ha, rfl⟩ := List.mem_map.mp hc3
  obtain ⟨gs, hg⟩ := h a ha
  exact ⟨a, gs, hc1, hg⟩
theorem pick_clP {p : List Str → Prop} {H : Hp} {t : Addr} {n : Nat} {as : List Addr} (h : ∀ a ∈ as, ∃ gs, CL H t a n gs ∧ p gs) {i : Int} (h0 : 0 ≤ i) (h1 : i < as.length) : ∃ a gs, atI (as.map V.ref) i = some (.ref a) ∧ CL H t a n gs ∧ p gs := by
  obtain ⟨c, hc1, hc2, hc3⟩ := at_in (l := as.map V.ref) h0 (by rw [List.length_map]; exact h1)
  obtain ⟨a, ha, rfl⟩ := List.mem_map.mp hc3
  obtain ⟨gs, hg⟩ := h a ha
  exact ⟨a, gs, hc1, hg⟩
/-! ### what a new heap keeps, on demand -/
theorem al_of {T : List (Addr × Str)} {H G : Hp} {p : Addr} {o : HO} (np : H p = none) (hG : upd H p o = G) : Nw H p ∧ Ext T [] H G ∧ G p = some o := by
  subst hG
  exact ⟨.of np, .new np, upd_same⟩
section
variable {T : List (Addr × Str)} {H H' H1 : Hp}
theorem SqP.y {l t a : Addr} {xs : List V} (h : SqP H a xs) (e : Ext T [t] H H') (hT : Tape l H t) : SqP H' a xs := SqP.ext h e hT.lsts
theorem frz.y {l t a : Addr} {o : Obj} {u : HO} (h : H a = some (.frz o u)) (e : Ext T [t] H H') (hT : Tape l H t) : H' a = some (.frz o u) := e.keep a _ (fun hb => by
  obtain ⟨ys, hy⟩ := hT.lsts a hb
  rw [h] at hy
  cases hy) (fun _ z => by cases z) h
theorem Tape.ne1 {l t q : Addr} (p : Tape l H t) (h : Nw H q) : q ≠ t := (p.ne h).1
theorem Ext.back1 {p t : Addr} (e : Ext T [t] H H1) (hp : p ≠ t) (f : Nw H1 p) : Nw H p := e.back (by simpa using hp) f
theorem Ext.back0 {p : Addr} (e : Ext T [] H H1) (f : Nw H1 p) : Nw H p := e.back (by simp) f
end
section
variable (T : List (Addr × Str))
def spBent : Sp := fun vs H Q _ => ∃ (l t pa : Addr) (v u : V) (R : Rm) (ps : List (Str × List Str)) (s : Sta), vs = [.ref t, v, .ref pa, u] ∧ Tape l H t ∧ Im H v (rmD R) ∧ RmIn R ∧ Pools H t pa ps ∧ PsOk R ps ∧ StAt H u s ∧ StaOk R s ∧ s.on.length ≤ 50 ∧
  ∀ (x : V) (s' : Sta) (H' : Hp), StaOk R s' → (SealR s → SealR s') → (SrvOk R s → SrvOk R s') → s'.on = s.on → StAt H' x s' → Ext T [t] H H' → Tape l H' t → Q x H'
end
def bentL : List (List Str) := [[], ["s3"], ["s1", "t9"]]
theorem bent_ok : ∀ c ∈ bentL, c.Nodup ∧ (∀ y ∈ c, idB y = true) ∧ c.length ≤ 4 := by decide +kernel
/-! ### rows of deeds drawn -/
theorem zn_key {H : Hp} : ∀ {us ys : List V} {rs : List (Str × Int)}, ImAll H ys (rs.map siD) → EachIs (fun v x => ∃ r, Im H x (siD r) ∧ v = .str r.1) us ys → us = (rs.map (·.1)).map V.str := by
  intro us ys rs
  induction rs generalizing us ys with
  | nil =>
    intro h1 h2
    cases h1
    cases h2
    rfl
  | cons r rs ih =>
    intro h1 h2
    cases h1 with
    | cons a b =>
      cases h2 with
      | cons c d =>
        obtain ⟨r', c1, c2⟩ := c
        have e := Im.inj _ _ _ a c1
        injection e with e
        injection e with e _
        injection e with e
        rw [ih b d, c2, List.map_cons, List.map_cons, e]
/-- an item whose content may be of six ids: a move adds a server -/
structure ItmW (s : Sl) (i : Itm) : Prop where
  c : ∃ cs : List Str, i.c = srtS cs ∧ cs.Nodup ∧ (∀ y ∈ cs, idB y = true) ∧ cs.length ≤ 6
  g : ∃ gs : List Str, i.g = srtS gs ∧ gs.Nodup ∧ (∀ y ∈ gs, idB y = true) ∧ gs.length ≤ 3
  li : 1 ≤ i.li ∧ i.li ≤ 1000
  ab : 0 ≤ i.a ∧ i.a ≤ i.b ∧ i.b ≤ 10000
  h : ∀ z, s = .h z → i.g = [] ∧ i.a = 0 ∧ i.b = 10000
  kc : ∀ z, s = .k z → i.c ≠ []
theorem ItmOk.w {s : Sl} {i : Itm} (h : ItmOk s i) : ItmW s i := by
  obtain ⟨cs, h1, h2, h3, h4⟩ := h.c
  exact ⟨⟨cs, h1, h2, h3, by omega⟩, h.g, h.li, h.ab, h.h, h.kc⟩
def DdW (R : Rm) : Dd → Prop
  | .put s i => s ∈ slotsR R ∧ ItmW s i
  | .on x z => idB x = true ∧ z ∈ R.zs.tail.map (·.1)
  | .off x z => idB x = true ∧ z ∈ R.zs.tail.map (·.1)
theorem DdOk.w {R : Rm} {d : Dd} (h : DdOk R d) : DdW R d := by
  cases d with
  | put s i => exact ⟨h.1, h.2.w⟩
  | on x z => exact h
  | off x z => exact h
theorem im_filter {H : Hp} {α : Type} {f : α → PyData} {c : α → Bool} (hf : ∀ a b, f a = f b → a = b) {xs us : List V} {as : List α} (hx : ImAll H xs (as.map f)) (hu : EachIs (fun v x => v = x) us (xs.filter (pIm H f c))) : ImAll H us ((as.filter c).map f) := by
  have h1 : us = xs.filter (pIm H f c) := by
    have key : ∀ {us vs : List V}, EachIs (fun v x => v = x) us vs → us = vs := by
      intro us vs h
      induction h with
      | nil => rfl
      | cons a b ih => rw [a, ih]
    exact key hu
  rw [h1]
  have key : ∀ {xs : List V} {as : List α}, EachIs (fun x a => Im H x (f a)) xs as → ImAll H xs (as.map f) := by
    intro xs as h
    induction h with
    | nil => exact .nil
    | cons a b ih => exact .cons a ih
  exact key (each_filter (c := c) hf hx)
/-! ### a list of one's own that grows -/
section
variable {T : List (Addr × Str)} {H H' : Hp}
theorem Im.z {p : Addr} {v : V} {d : PyData} (h : Im H v d) (e : Ext T [p] H H') (hm : Lsts H [p]) : Im H' v d := Im.ext e hm _ _ h
theorem ImAll.z {p : Addr} {vs : List V} {ds : List PyData} (h : ImAll H vs ds) (e : Ext T [p] H H') (hm : Lsts H [p]) : ImAll H' vs ds := ImAll.ext e hm _ _ h
theorem StAt.z {p : Addr} {v : V} {s : Sta} (h : StAt H v s) (e : Ext T [p] H H') (hm : Lsts H [p]) : StAt H' v s := h.ext e hm
theorem SqP.z {p a : Addr} {xs : List V} (h : SqP H a xs) (e : Ext T [p] H H') (hm : Lsts H [p]) : SqP H' a xs := SqP.ext h e hm
theorem tup.z {p a : Addr} {xs : List V} (h : H a = some (.tup xs)) (e : Ext T [p] H H') (hm : Lsts H [p]) : H' a = some (.tup xs) := tup.ext h e hm
theorem Ls.z {p a : Addr} {ds : List PyData} (h : Ls H a ds) (e : Ext T [p] H H') (hm : Lsts H [p]) (ha : a ≠ p) : Ls H' a ds := h.ext e (by simpa using ha) hm
theorem lst.z {p a : Addr} {xs : List V} (h : H a = some (.lst xs)) (e : Ext T [p] H H') (ha : a ≠ p) : H' a = some (.lst xs) := e.lst (by simpa using ha) h
theorem CL.z {p a t : Addr} {n : Nat} {cs : List Str} (h : CL H t a n cs) (e : Ext T [p] H H') (ha : a ≠ p) : CL H' t a n cs := ⟨lst.z h.at_ e ha, h.ne, h.nd, h.ok, h.len⟩
end
section
variable {T : List (Addr × Str)} {K : PySem.W.Frag} {Hb H : Hp} {Q : VK} {l t dp : Addr} {ds : List PyData}
theorem push_step {v : V} {d : PyData} (hb : Ext T [t] Hb H) (hn : Nw Hb dp) (hTb : Tape l Hb t) (hT : Tape l H t) (hds : Ls H dp ds) (hv : Im H v d) (hl : ds.length < 1000)
    (q : ∀ H', Ext T [t] Hb H' → Tape l H' t → Ext T [dp] H H' → Lsts H [dp] → Ls H' dp (ds ++ [d]) → Q .non H') : rAppend (.ref dp) [v] H Q :=
  rd_appLs hds hv (Nat.lt_of_lt_of_le hl (by decide)) fun ys hy h => q _ (hb.own hn hy) (hT.own (hTb.ne hn).1 (hTb.ne hn).2) (Ext.mut (by simp) hy) (lsts_one hy) h
end
/-! ### the program's chain is the law's chain -/
def lk (z : Str) : Int := if z = dotS then 0 else (z.length : Int)
/-! ### dict of a plain tuple of pairs whose keys are texts or numbers -/
theorem Im.trip' {H : Hp} {v : V} {d1 d2 d3 : PyData} (h : Im H v (.tuple [d1, d2, d3])) : ∃ a x y z, v = .ref a ∧ SqP H a [x, y, z] ∧ Im H x d1 ∧ Im H y d2 ∧ Im H z d3 := by
  obtain ⟨a, xs, rfl, h1, h2⟩ := h.tup'
  cases h2 with
  | cons a1 t =>
    cases t with
    | cons a2 t =>
      cases t with
      | cons a3 t =>
        cases t
        exact ⟨a, _, _, _, rfl, h1, a1, a2, a3⟩
/-- the state at a moment -/
def stM (s : Sta) (pl : List (Int × Dd)) (m : Int) : Sta := pl.foldl (fun s p => if p.1 ≤ m then aft s p.2 else s) s
theorem stM_snoc {s : Sta} {pl : List (Int × Dd)} {m : Int} {i : Nat} {p : Int × Dd} (h : pl[i]? = some p) : stM s (pl.take (i + 1)) m = if p.1 ≤ m then aft (stM s (pl.take i) m) p.2 else stM s (pl.take i) m := by
  unfold stM
  rw [List.take_add_one, h, List.foldl_append]
  rfl
theorem stM_its (s : Sta) (m : Int) : ∀ pl : List (Int × Dd), (stM s pl m).its.map (·.1) = s.its.map (·.1) := by
  intro pl
  induction pl generalizing s with
  | nil => rfl
  | cons p pl ih =>
    show (stM (if p.1 ≤ m then aft s p.2 else s) pl m).its.map (·.1) = _
    rw [ih]
    by_cases h : p.1 ≤ m
    · rw [if_pos h, aft_keys]
    · rw [if_neg h]
theorem stM_on (s : Sta) (m : Int) : ∀ pl : List (Int × Dd), (stM s pl m).on.length ≤ s.on.length + pl.length := by
  intro pl
  induction pl generalizing s with
  | nil => exact Nat.le_refl _
  | cons p pl ih =>
    have h1 := ih (if p.1 ≤ m then aft s p.2 else s)
    have h2 : (if p.1 ≤ m then aft s p.2 else s).on.length ≤ s.on.length + 1 := by
      by_cases h : p.1 ≤ m
      · rw [if_pos h]
        exact aft_on s p.2
      · rw [if_neg h]
        exact Nat.le_succ _
    show (stM (if p.1 ≤ m then aft s p.2 else s) pl m).on.length ≤ _
    rw [List.length_cons]
    omega
/-! ### spans, item by item -/
/-! ### how deep the data are -/
theorem dep_row2 (r : Sl × Itm) : (rowD2 r).depth ≤ 3 := by
  show max (slD r.1).depth (max (itD r.2).depth 0) + 1 ≤ 3
  have h1 := dep_sl r.1
  have h2 := dep_it r.2
  omega
theorem dep_st (s : Sta) : (stD s).depth ≤ 64 := by
  show max (PyData.depthAll (s.its.map rowD2) + 1) (max (PyData.depthAll (s.on.map ssD) + 1) 0) + 1 ≤ 64
  have h1 := dep_map dep_row2 s.its
  have h2 := dep_map dep_ss s.on
  omega
section
variable {K : PySem.W.Frag}
theorem StAt.dp {H : Hp} {v : V} {s : Sta} (h : StAt H v s) : Dp K H v (stD s) ∧ SeqAt.shaped (stD s) = true ∧ PyData.eqv (stD s) (stD s) = true := by
  obtain ⟨a, ia, oa, xs, o, rfl, ha, hia, hod, hxi, hoa⟩ := h
  refine ⟨.tup (SqT.of ha) (.cons (.tup (SqF hia) hxi.dp) (.cons hoa.dp .nil)), ?_, ?_⟩
  · unfold SeqAt.shaped
    rw [show PyData.canLay0 (stD s) = true from ?_, decide_eq_true (dep_st s)]
    · rfl
    · show (PyData.canLay0 (.tuple (s.its.map rowD2)) && (PyData.canLay0 (.tuple (s.on.map ssD)) && true)) = true
      rw [show PyData.canLay0 (.tuple (s.its.map rowD2)) = true from ImAll.lay _ _ hxi, show PyData.canLay0 (.tuple (s.on.map ssD)) = true from Im.lay _ _ hoa]
      rfl
  · show (PyData.eqvAll (s.its.map rowD2) (s.its.map rowD2) && (PyData.eqv (.tuple (s.on.map ssD)) (.tuple (s.on.map ssD)) && true)) = true
    rw [(ImAll.eqv _ _ _ _ hxi hxi).mpr rfl, (Im.eqv _ _ _ _ hoa hoa).mpr rfl]
    rfl
end
/-! ### a tuple of texts that the module has made: read, compared, a key of a dict -/
def TupK (K : PySem.W.Frag) (a : Addr) (xs : List V) : Prop := ∃ (o : Obj) (its : Array Value) (n : Nat), K.lookup a = some o ∧ o.cls = .type "tuple" ∧ o.data = .seq its n ∧ its.size ≤ sizeLine ∧ Vals xs its.toList
theorem TupK.sq {K : PySem.W.Frag} {H : Hp} {a : Addr} {xs : List V} (h : TupK K a xs) : SqT K H a xs := .inr h
/-- ('put', ROOT) and ROOT itself as data -/
def rootD : PyData := slD (.k dotS)
section
variable {K : PySem.W.Frag} {H : Hp} {Q : VK}
/-- what lies at the module's ROOT -/
def RootK (K : PySem.W.Frag) (ra : Addr) : Prop := TupK K ra [.str "keys", .str dotS]
theorem RootK.dp {ra : Addr} (h : RootK K ra) : Dp K H (.ref ra) rootD := .tup h.sq (.cons (.str _) (.cons (.str _) .nil))
end
theorem wipe_setG {σ : L2.St} {k : Nat} {x : Option V} : ∀ vs : List Nat, wipe (σ.set k x) vs = if k ∈ vs then wipe σ vs else (wipe σ vs).set k x
  | [] => rfl
  | v :: vs => by
    show (wipe (σ.set k x) vs).set v none = _
    rw [wipe_setG vs]
    by_cases h : k ∈ vs
    · rw [if_pos h, if_pos (List.mem_cons_of_mem _ h)]
      rfl
    · rw [if_neg h]
      by_cases e : k = v
      · subst e
        rw [if_pos List.mem_cons_self, List.set_set]
        rfl
      · rw [if_neg (by rw [List.mem_cons]; exact fun z => z.elim e h), List.set_comm _ _ e]
        rfl
theorem wipe_set {σ : L2.St} {k : Nat} {x : Option V} {vs : List Nat} (h : k ∈ vs) : wipe (σ.set k x) vs = wipe σ vs := by rw [wipe_setG, if_pos h]
theorem wipe_wipeG {σ : L2.St} {vs : List Nat} : ∀ us : List Nat, (∀ u ∈ us, u ∈ vs) → wipe (wipe σ us) vs = wipe σ vs
  | [], _ => rfl
  | u :: us, h => by
    show wipe ((wipe σ us).set u none) vs = _
    rw [wipe_set (h u List.mem_cons_self), wipe_wipeG us fun u hu => h u (List.mem_cons_of_mem _ hu)]
theorem wipe_wipe {σ : L2.St} {vs : List Nat} : wipe (wipe σ vs) vs = wipe σ vs := wipe_wipeG vs fun _ h => h
/-- a comprehension over data, told item by item; its elements are data -/
theorem lcg_fm (T : List (Addr × Str)) {α : Type} (f g : α → PyData) (c : α → Bool) {σ : L2.St} {H : Hp} {Q : VK} {J : It} {n : Nat} {G : Hp → Prop} {Y : Nat → Hp → V → Hp → Prop} {gT : TG} {tt : TT} {te : TE} {vs : List Nat} (w : Walk J n G Y) {xs : List V} {as : List α} (hx : ImAll H xs (as.map f)) (hn : n = xs.length)
    (hY : ∀ i H x H', Y i H x H' → H' = H ∧ xs[i]? = some x) (hG : ∀ H', Ext T [] H H' → G H') (hl : as.length ≤ 100000)
    (step : ∀ (i : Nat) (a : α) (x : V), as[i]? = some a → ∀ H', Ext T [] H H' → Im H' x (f a) → ∀ (R : V → Hp → Prop) (S : Hp → Prop), (c a = true → ∀ v H2, Ext T [] H' H2 → Im H2 v (g a) → R v H2) → (c a = false → ∀ H2, Ext T [] H' H2 → S H2) →
      gT x (wipe σ vs) H' fun σ2 H2 => wipe σ2 vs = wipe σ vs ∧ tt σ2 H2 fun b H3 => if b = true then te σ2 H3 R else S H3)
    (q : ∀ D H2, Nw H D → Ext T [] H H2 → Ls H2 D ((as.filter c).map g) → Q (.ref D) H2) : LcG J gT tt te vs σ H Q := fun D hD => by
  have hxl : xs.length = as.length := by rw [hx.len, List.length_map]
  refine lc_it w (fun i H2 => Ext T [] H H2 ∧ Ls H2 D (((as.take i).filter c).map g)) ⟨.new hD, ⟨[], upd_same, .nil⟩⟩ (fun i H2 _ h => hG H2 h.1) (fun i x H1 H' hi h y => ?_) (fun H1 h => ?_)
  · obtain ⟨e1, e2⟩ := hY i H1 x H' y
    subst e1
    obtain ⟨h1, h3⟩ := h
    obtain ⟨d, hd, hxd⟩ := hx.get' e2
    rw [List.getElem?_map] at hd
    obtain ⟨a, ha, rfl⟩ := Option.map_eq_some_iff.mp hd
    have et : as.take (i + 1) = as.take i ++ [a] := by rw [List.take_add_one, ha]; rfl
    have hD0 : D ∉ ([] : List Addr) := by simp
    refine step i a x ha H' h1 (Im.ext h1 Lsts.nil _ _ hxd) _ _ (fun hp v H2 e hv => ?_) (fun hp H2 e => ?_)
    · obtain ⟨acc, h5, h6⟩ := h3.ext e hD0 Lsts.nil
      refine ⟨acc, h5, ?_, (h1.trans e).own (.of hD) h5, ?_⟩
      · refine Nat.lt_of_le_of_lt ?_ (Nat.lt_of_le_of_lt hl (show (100000 : Nat) < sizeLine by decide))
        rw [h6.len, List.length_map]
        exact Nat.le_trans (List.length_filter_le _ _) (by rw [List.length_take]; exact Nat.min_le_right _ _)
      · have eD : Ext T [D] H2 (upd H2 D (.lst (acc ++ [v]))) := Ext.mut (by simp) h5
        have hLD : Lsts H2 [D] := fun b hb => ⟨acc, by rw [List.mem_singleton.mp hb]; exact h5⟩
        refine ⟨acc ++ [v], upd_same, ?_⟩
        rw [et, List.filter_append, List.filter_cons_of_pos hp, List.map_append]
        exact (ImAll.ext eD hLD _ _ h6).snoc (Im.ext eD hLD _ _ hv)
    · refine ⟨h1.trans e, ?_⟩
      rw [et, List.filter_append, List.filter_cons_of_neg (by rw [hp]; decide), List.filter_nil, List.append_nil]
      exact h3.ext e hD0 Lsts.nil
  · obtain ⟨h1, h3⟩ := h
    rw [hn, hxl, List.take_length] at h3
    exact q D H1 (.of hD) h1 h3
/-! an own exception whose __init__ says super().__init__(f"..") and keeps its one argument -/
section
open PySem.W PySem.Calls PySem.HandSPX
def supA (fld : Str) (p1 p2 : Pos) : Arguments := { posonlyargs := [], args := [{ arg := "self", annotation := none, pos := p1 }, { arg := fld, annotation := none, pos := p2 }], vararg := none, kwonlyargs := [], kw_defaults := [], kwarg := none, defaults := [] }
def supB (fld : Str) (parts : List Expr) (ps : List Pos) (q1 q2 q3 q4 : Pos) : List Stmt :=
  [.Expr (.Call (.Attribute (.Call (.Name "super" (ps.getD 0 ⟨0, 0, 0, 0⟩)) [] [] (ps.getD 1 ⟨0, 0, 0, 0⟩)) "__init__" (ps.getD 2 ⟨0, 0, 0, 0⟩)) [.JoinedStr parts (ps.getD 3 ⟨0, 0, 0, 0⟩)] [] (ps.getD 4 ⟨0, 0, 0, 0⟩)) (ps.getD 5 ⟨0, 0, 0, 0⟩),
   .Assign [.Attribute (.Name "self" q1) fld q2] (.Name fld q3) q4]
def supS (fld : Str) : Scope := { kind := .function, names := [(PySem.Str.ofString "self", .local), (fld, .local), (PySem.Str.ofString "__class__", .free), (PySem.Str.ofString "super", .globalImplicit)], isGenerator := false, isCoroutine := false, more := [] }
/-- a word or a number that an f-string shows -/
def Showable (v : Value) : Prop := (∃ z t, v = .str z t ∧ z.length ≤ 1000) ∨ ∃ i t, v = .int i t ∧ i.natAbs.log2 < 1920
/-- the f-string gives some text -/
def PartsOk (fld : Str) (parts : List Expr) (jp : Pos) : Prop := ∀ (prog : Program) (w : World) (A : Around) (E : Value → Shared → Prop) (qual : Str) (L a cc : Addr) (cd : Value) (s : Shared) (m : Str → Option Value) (v : Value) (Q : Value → Shared → Prop),
  s.heap.Ns L m → m fld = some v → Showable v → (∀ z tk t', Q (.str z tk) { s with toks := t' }) → wpAny (model prog w) A (eval (.JoinedStr parts jp) (ksEnv qual (supS fld) L a cd cc)) Q E s
def pz (ps : List Pos) (i : Nat) : Pos := ps.getD i ⟨0, 0, 0, 0⟩
def CallOk (fld : Str) (parts : List Expr) (ps : List Pos) : Prop := ∀ (qual : Str) (L a cc : Addr) (cd : Value), ∃ pl : Sem Bool,
  eval (.Call (.Attribute (.Call (.Name "super" (pz ps 0)) [] [] (pz ps 1)) "__init__" (pz ps 2)) [.JoinedStr parts (pz ps 3)] [] (pz ps 4)) (ksEnv qual (supS fld) L a cd cc) = (do
      let ov ← attributeBase (.Call (.Name "super" (pz ps 0)) [] [] (pz ps 1)) "__init__" (ksEnv qual (supS fld) L a cd cc) (eval (.Call (.Name "super" (pz ps 0)) [] [] (pz ps 1)) (ksEnv qual (supS fld) L a cd cc))
      standAt (pz ps 2).atName
      let (f, first) ← holding [ov] (getMethod ov "__init__" pl)
      callWith (pz ps 4) f first (backTo (pz ps 4) (starEach [.JoinedStr parts (pz ps 3)] (ksEnv qual (supS fld) L a cd cc))) [])
structure SupTxt (P : Program) (K : Frag) (mg : Str → Option Value) (nm fld : Str) (C fI : Addr) : Prop where
  gC : mg nm = some (.ref C)
  cls : ∃ nm q N bs bm sn sub ab col dd k0 k1 k2 k3 k5, K.lookup C = some (excClassObj nm q C N bs bm true sn sub ab col dd k0 k1 k2 k3 k5 "ValueError.__new__") ∧ refsVE bm = true
  sa : findIn K (.ref C) "__setattr__" = some (some (.builtin "object.__setattr__"))
  ga : findIn K (.ref C) "__getattribute__" = some (some (.builtin "BaseException.__getattribute__"))
  gg : findIn K (.ref C) "__getattr__" = some none
  noN : findIn K (.ref C) fld = some none
  iC : findIn K (.ref C) "__init__" = some (some (.ref fI))
  tC : typeIn K (.ref fI) = some (.type "function")
  kC : keepIn K (.ref C) = true
  exC : subIn K (.ref C) (.type "BaseException") = some true
  tyC : typeIn K (.ref C) = some (.type "type")
  hdC : hasDictIn K C = true
  te : exmOne K (.ref C) (.ref C) = some true
  sup : ks_superIn K C C "__init__" = some (some (.builtin "ValueError.__init__"))
  subV : subIn K (.ref C) (.type "ValueError") = some true
  selfC : mroIn K C (.ref C) = some true
  gsup : nsIn K mainGlobals "super" = some none
  opq : nsIn K cStatics "thirdparty.any" = some none
  htop : (P.main.scope.names.lookup ("super" : Str)).isSome = false
  fn : ∃ (oc : Value) (od : Option Addr) (doc pm kV : Value) (an : Option Addr) (cda cc : Addr) (ct : Value) (osl : Array (Option Value)) (p1 p2 q1 q2 q3 q4 : Pos) (ps : List Pos) (parts : List Expr) (qual : Str),
    K.lookup fI = some ⟨oc, od, .func (ksFn "__init__" qual (supA fld p1 p2) (supB fld parts ps q1 q2 q3 q4) (supS fld) .none kV doc pm an (.ref cda) ct cc), osl⟩ ∧ codeIn K (.ref cda) qual = true ∧
    (∃ ccl cdd vs ccs file tf, K.lookup cda = some ⟨ccl, cdd, .fields vs, ccs⟩ ∧ vs[2]? = some (.str file tf) ∧ ((P.main.file : Str) == file) = true) ∧
    (∃ cl cld csl, K.lookup cc = some ⟨cl, cld, .cell (some (.ref C)), csl⟩) ∧ PartsOk fld parts (pz ps 3) ∧ CallOk fld parts ps
theorem kept_but {K : Frag} {h h' : Heap} {x : Addr} (X : K.In h) (hx : K.lookup x = none) (k : ∀ b o, b ≠ x → h.get? b = some o → h'.get? b = some o) : K.In h' := fun a o e =>
  k a o (fun z => by rw [z, hx] at e; cases e) (X a o e)
/-- what __init__ leaves of a fresh exception at x -/
structure InitEnd (h h' : Heap) (x C dx : Addr) (fld : Str) (v : Value) : Prop where
  keep : ∀ b o, b ≠ x → h.get? b = some o → h'.get? b = some o
  obj : ∃ t1 : Addr, h'.get? x = some { cls := .ref C, dict := some dx, data := .fields #[.ref t1, .none, .none, .none, .bool false, .none] }
  dbig : h.objs.size ≤ dx
  dne : dx ≠ x
  ns : h'.Ns1 dx (fun y => if y = fld then some v else none)
structure OwnMade (h h' : Heap) (e C d : Addr) (fld : Str) (v : Value) : Prop where
  keep : ∀ b o, h.get? b = some o → h'.get? b = some o
  new : h.objs.size ≤ e
  obj : ∃ oe vs, h'.get? e = some oe ∧ oe.cls = .ref C ∧ oe.dict = some d ∧ oe.data = .fields vs ∧ vs[1]? = some .none
  dbig : h.objs.size ≤ d
  dne : d ≠ e
  ns : h'.Ns1 d (fun y => if y = fld then some v else none)
theorem one_size (v : Value) : [v].length ≤ sizeLine := by
  rw [sizeLine_eq]
  exact (by decide : 1 ≤ 16777216)
theorem ld_ks {M : Model} {s : Shared} {name : Str} {scope : Scope} {L a cc : Addr} {cd : Value} {m : Str → Option Value} {x : Str} {pos : Pos} {v : Value} {Q : Value → Shared → Prop} {A : Around} {E : Value → Shared → Prop} (hn : s.heap.Ns L m) (hv : m x = some v) (h : Q v s)
    (hk : scope.kind = .function) (hl : (ksEnv name scope L a cd cc).kindOf x = some .local) (hd : (x == ("__debug__" : Str)) = false) :
    wpAny M A (eval (.Name x pos) (ksEnv name scope L a cd cc)) Q E s := wpAny_Name (wpAny_loadName_local hk hl hn hv h) hd
theorem len_small {z : Str} (h : z.length ≤ 100000) : z.length ≤ sizeLine := Nat.le_trans h (by rw [sizeLine_eq]; decide)
end
section
open PySem.W PySem.Calls PySem.HandSPX
section
variable {prog : Program} {w : World} {A : Around} {E : Value → Shared → Prop} {qual fld : Str} {L a cc : Addr} {cd : Value} {s : Shared} {m : Str → Option Value} {v : Value}
theorem fmt_fld {pos p : Pos} {Q : Value → Shared → Prop} (hn : s.heap.Ns L m) (hv : m fld = some v) (hs : Showable v) (hl : (ksEnv qual (supS fld) L a cd cc).kindOf fld = some .local) (hd : (fld == ("__debug__" : Str)) = false)
    (h : ∀ (z : Str) tk t', z.length ≤ 2000 → Q (.str z tk) { s with toks := t' }) : wpAny (model prog w) A (eval (.FormattedValue (.Name fld p) (-1) none pos) (ksEnv qual (supS fld) L a cd cc)) Q E s := by
  refine wpAny_FormattedValue_plain (ld_ks hn hv ?_ rfl hl hd)
  rcases hs with ⟨z, t, rfl, hz⟩ | ⟨i, t, rfl, hi⟩
  · exact wpAny_formatField_str (h z t _ (by omega)) (h z _ _ (by omega)) (len_small (by omega))
  · refine wpAny_formatField_int hi (h _ _ _ ?_)
    have e := int_text_length_le (k := 1920) (by decide) hi
    have e2 : (Str.ofString (toString i)).length = (toString i).length := PySem.ofString_length _
    show (Str.ofString (toString i)).length ≤ 2000
    omega
theorem join2 {c1 : Str} {k1 : Nat} {p1 p2 p3 jp : Pos} {Q : Value → Shared → Prop} (hn : s.heap.Ns L m) (hv : m fld = some v) (hs : Showable v) (hl : (ksEnv qual (supS fld) L a cd cc).kindOf fld = some .local) (hd : (fld == ("__debug__" : Str)) = false) (hc : c1.length ≤ 100)
    (h : ∀ z tk t', Q (.str z tk) { s with toks := t' }) : wpAny (model prog w) A (eval (.JoinedStr [.Constant (.str c1) k1 p1, .FormattedValue (.Name fld p2) (-1) none p3] jp) (ksEnv qual (supS fld) L a cd cc)) Q E s := by
  refine wpAny_JoinedStr ?_
  show wpAny _ _ (eval (.Constant (.str c1) k1 p1) _) _ _ _
  refine Constant_str ?_
  refine ⟨_, _, rfl, ?_, ?_⟩
  · rw [strLen_append]
    have e0 : Str.empty.length = 0 := rfl
    exact Nat.le_trans (show _ ≤ 100000 by omega) (by rw [sizeLine_eq]; decide)
  · show wpAny _ _ (eval (.FormattedValue (.Name fld p2) (-1) none p3) _) _ _ _
    refine fmt_fld (s := { s with toks := s.toks + 1 }) hn hv hs hl hd fun z tk t' hz => ?_
    have e : ((Str.empty ++ c1) ++ z).length ≤ 100000 := by
      rw [strLen_append, strLen_append]
      have e0 : Str.empty.length = 0 := rfl
      omega
    exact ⟨_, _, rfl, len_small e, len_small e, h _ _ _⟩
end
section
variable {prog : Program} {w : World} {A : Around} {E : Value → Shared → Prop} {R : Result → Shared → Prop} {s : Shared} {K : Frag} {mg : Str → Option Value} {nm fld : Str} {C fI : Addr}
/-- ValueError.__init__ bound, called -/
theorem call_mw {h : Heap} {g : Array GenState} {d : Drawn} {t : Nat} {os : OsState} {nm q : Str} {N : Addr} {bs bm : List Value} {hdct : Bool} {sn : List Str} {sub : List Value} {ab : Bool} {col : Option Bool} {dd : Option Addr} {k0 k1 k2 k3 k5 : Option Value} {u e t0 : Addr} {rest : List Value} {Q : Value → Shared → Prop}
    (hC : h.get? C = some (excClassObj nm q C N bs bm hdct sn sub ab col dd k0 k1 k2 k3 k5 "ValueError.__new__")) (he : h.get? e = some (excO C t0)) (hu : h.get? u = some (kxs_mw "ValueError.__init__" e)) (hrest : rest.length ≤ sizeLine)
    (hq : ∀ h' t1, (∀ b o, b ≠ e → h.get? b = some o → h'.get? b = some o) → h'.get? e = some (excO C t1) → Q .none ⟨h', g, d, t, os⟩) :
    wpAny (model prog w) A (call (.ref u) rest) Q E ⟨h, g, d, t, os⟩ := by
  refine wpAny_call (codeAny_of_tree ?_)
  show wpAny _ A.in1 (callAny (.ref u) ⟨rest, []⟩) _ _ _
  simp only [callAny]
  refine wpAny_bind (wpAny_load hu ?_)
  simp only [kxs_mw, show (Value.type "method-wrapper" == Value.type "method" || Value.type "method-wrapper" == Value.type "builtin_function_or_method" || Value.type "method-wrapper" == Value.type "method-wrapper") = true by decide, if_true]
  refine KFB.if_so (by decide) ?_
  refine wpAny_bind (check_bound_init F.excBase_ValueError.toExcCallFacts hC he rfl ?_)
  refine wpAny_bind (wpAny_pure (wpAny_pure ?_))
  refine ⟨plainId_quiet F.excBase_ValueError.init.plain _, codeAny_builtin F.excBase_ValueError.initEntry ?_⟩
  rw [Around.under_plainId F.excBase_ValueError.init.plain _]
  wp_walk
  refine hq _ h.objs.size (fun b o hb ho => ?_) ?_
  · rw [Heap.get?_update_other _ _ (Ne.symm hb)]
    exact Heap.get?_push_of_some _ ho
  · rw [Heap.get?_update_self _ (Heap.get?_push_of_some _ he) rfl]
    rfl
end
end
section
open PySem.W PySem.Calls PySem.HandSPX
section
variable {prog : Program} {w : World} {A : Around} {E : Value → Shared → Prop} {R : Result → Shared → Prop} {s : Shared} {K : Frag} {mg : Str → Option Value} {nm fld : Str} {C fI : Addr}
structure FldOk (fld : Str) : Prop where
  fs : ("self" : Str) ≠ fld
  fl : ((supS fld).names.lookup fld) = some .local
  lo : (supS fld).names.lookup ("self" : Str) = some .local
  fr : (supS fld).names.lookup ("__class__" : Str) = some .free
  gl : (supS fld).names.lookup ("super" : Str) = some .globalImplicit
  db : (fld == ("__debug__" : Str)) = false
  nc : ∀ x ∈ (supS fld).names, x.2 ≠ .cell
  bd : ∀ (qual : Str) (p1 p2 : Pos) (body : List Stmt) (kV doc pm : Value) (an : Option Addr) (cdv ct : Value) (cc : Addr) (x v : Value), bindArgs (ksFn "__init__" qual (supA fld p1 p2) body (supS fld) .none kV doc pm an cdv ct cc) ⟨[x, v], []⟩ = pure [(("self" : Str), x), (fld, v)]
theorem fld_word : FldOk "word" := ⟨by decide +kernel, rfl, rfl, rfl, rfl, by decide +kernel, by decide +kernel, fun _ _ _ _ _ _ _ _ _ _ _ _ _ => rfl⟩
theorem sup_init (T : SupTxt prog K mg nm fld C fI) {x t0 : Addr} {v : Value} (X : K.In s.heap) (hlim : s.heap.NoLimit) (hG : s.heap.Ns mainGlobals mg) (hB : ∃ mb, s.heap.Ns builtinsNs mb ∧ ∀ x : Str, x ≠ "__name__" → mb x = bootBuiltins x)
    (hx : s.heap.get? x = some (excO C t0)) (hnx : K.lookup x = none) (hroom : A.depth < recursionLimit) (hs : Showable v) (FO : FldOk fld)
    (hq : ∀ h' tk dx, InitEnd s.heap h' x C dx fld v → R (.ok (.ret .none)) { s with heap := h', toks := tk }) :
    codeAny (model prog w) A (.call (.ref fI) ⟨[.ref x, v], []⟩) R s := by
  obtain ⟨hfs, hfl, hlo, hfr, hgl, hdb, hnc, hbd⟩ := FO
  obtain ⟨oc, od, doc, pm, kV, an, cda, cc, ct, osl, p1, p2, q1, q2, q3, q4, ps, parts, qual, ho, hcd, ⟨ccl, cdd, cvs, ccs, file, tf, hcode, hvs, hfile⟩, ⟨cl, cld, csl, hcell⟩, hpo, hco⟩ := T.fn
  obtain ⟨nm', q, N, bs, bm, sn, sub, ab, col, dd, k0, k1, k2, k3, k5, hC, hbm⟩ := T.cls
  have hcl : clsIn K C = some { name := nm', bases := bs, mro := .ref C :: bm, ns := N, qualname := q, hasDict := true, slotNames := sn, subclasses := sub, abstract := ab, collection := col, hasDel := false } := by unfold clsIn; rw [hC] <;> rfl
  refine ks_codeAny_call_defAt (fd := ksFn "__init__" qual (supA fld p1 p2) (supB fld parts ps q1 q2 q3 q4) (supS fld) .none kV doc pm an (.ref cda) ct cc) (body := supB fld parts ps q1 q2 q3 q4) (binds := [("self", .ref x), (fld, v)]) hroom (X _ _ ho) rfl hlim (codeRec_of X hcd) rfl
    (BindsTo.of_eq (hbd _ _ _ _ _ _ _ _ _ _ _ _ _)) hnc (fun y hy => ?_) (fun h₀ hns hk => ?_)
  · rcases List.mem_cons.mp hy with rfl | hy
    · exact hlo
    · rw [List.mem_singleton.mp hy]
      exact hfl
  obtain ⟨hp, g, d, tk, os⟩ := s
  dsimp only at hns hk hx X hlim hG hB hq ⊢
  have X₀ : K.In h₀ := X.keeps hk
  have hself : ([(("self" : Str), Value.ref x), (fld, v)].reverse.lookup ("self" : Str)) = some (.ref x) := by
    show List.lookup _ [(fld, v), (("self" : Str), Value.ref x)] = _
    have e : (("self" : Str) == fld) = false := by simpa using hfs
    simp [List.lookup, e]
  have hfld : ([(("self" : Str), Value.ref x), (fld, v)].reverse.lookup fld) = some v := by
    show List.lookup _ [(fld, v), (("self" : Str), Value.ref x)] = _
    simp [List.lookup]
  generalize hm : (fun x_1 => [(("self" : Str), Value.ref x), (fld, v)].reverse.lookup x_1) = m at hns
  have hself : m "self" = some (.ref x) := by rw [← hm]; exact hself
  have hfld : m fld = some v := by rw [← hm]; exact hfld
  have hx₀ := hk _ _ hx
  have I₀ : InstAt h₀ x (excO C t0) C none := ⟨hx₀, rfl, rfl, trivial⟩
  have hD1 := X₀ _ _ hC
  show _root_.PySem.wpAt (model prog w) _ (.func _ (ksEnv qual (supS fld) hp.objs.size fI (.ref cda) cc)) (execs (supB fld parts ps q1 q2 q3 q4) (ksEnv qual (supS fld) hp.objs.size fI (.ref cda) cc)) _ _ _
  obtain ⟨pl, hco⟩ := hco qual hp.objs.size fI cc (.ref cda)
  refine ks_wpAt_execs_cons (ks_wpAt_Expr_any (ks_wpAt_MethodCall (pl := pl) ?_ hco))
  obtain ⟨mb, hB1, hB2⟩ := hB
  refine ks_wpAt_super_base (env := ksEnv qual (supS fld) hp.objs.size fI (.ref cda) cc) hgl hfr rfl rfl (X₀ _ _ ho) rfl rfl rfl (X₀ _ _ hcode) rfl hvs hfile T.htop ?_
  refine ks_loadName_global rfl hgl (loadGlobal_builtin (env := ksEnv qual (supS fld) hp.objs.size fI (.ref cda) cc) (hG.keeps hk) (mg_none_of X hG T.gsup) (hB1.keeps hk) ((hB2 _ (by decide +kernel)).trans (by first | boot_by_name | rfl | kernel_rfl)) ⟨rfl, ?_⟩)
  refine wpAny_loadName_free rfl hfr rfl ⟨_, X₀ _ _ hcell, rfl⟩ ?_
  refine wpAny_loadName_local rfl hlo hns hself ?_
  refine ks_wpAny_isType_cls hD1 rfl ⟨rfl, ?_⟩
  refine ks_wpAny_call_super hD1 rfl hx₀ rfl (fun c e => by cases e) (looks_mroIn X₀ T.selfC) (fun h₁ hso k₁ => ?_)
  have X₁ : K.In h₁ := X₀.keeps k₁
  have hx₁ := k₁ _ _ hx₀
  have I₁ : InstAt h₁ x (excO C t0) C none := ⟨hx₁, rfl, rfl, trivial⟩
  have hI : Looks (model prog w) h₁ (isInstance (.ref x) (.type "ValueError")) true := I₁.type.andThen (looks_subIn X₁ T.subV)
  have hsup := T.sup
  unfold ks_superIn at hsup
  rw [hcl] at hsup
  refine kxs_getMethod kxs_ValueError hso (looks_opaque X₁ T.opq) (l₀ := .ref C :: bm) ?_ rfl X₁ hsup hI (ks_ne X₁ I₁ hcl) rfl ?_
  · exact fun A Q E s k q => wpAny_bind ((looks_clsIn X₁ hcl) A _ E s k (wpAny_pure q))
  have hns₂ := (hns.keeps k₁).keeps (h' := h₁.push (kxs_mw "ValueError.__init__" x)) fun b o e => Heap.get?_push_of_some _ e
  have hmw : (h₁.push (kxs_mw "ValueError.__init__" x)).get? h₁.objs.size = some (kxs_mw "ValueError.__init__" x) := Heap.get?_push_at rfl rfl
  have k₂ : ∀ b o, h₀.get? b = some o → (h₁.push (kxs_mw "ValueError.__init__" x)).get? b = some o := fun b o e => Heap.get?_push_of_some _ (k₁ _ _ e)
  generalize hh2 : h₁.push (kxs_mw "ValueError.__init__" x) = h₂ at hns₂ hmw k₂
  refine kxs_callWith (i := "ValueError.__init__") (x := x) rfl (evalArgs_plain (spliced_cons ?_))
  refine hpo prog w _ _ qual _ _ _ _ _ m v _ hns₂ hfld hs fun z tk1 t1 => ?_
  refine spliced_nil ⟨hmw, ?_⟩
  have X₂ : K.In h₂ := X₀.keeps k₂
  have hx₂ := k₂ _ _ hx₀
  refine call_mw (X₂ _ _ hC) hx₂ hmw (one_size _) fun h₃ t3 k₃ hx₃ => ?_
  have X₃ : K.In h₃ := kept_but X₂ hnx k₃
  have hxL : hp.objs.size ≠ x := Nat.ne_of_gt (Heap.lt_size hx)
  have hns₃ : h₃.Ns hp.objs.size m := by
    obtain ⟨oL, es, ep, hL, r⟩ := hns₂
    exact ⟨oL, es, ep, k₃ _ _ hxL hL, r⟩
  show _root_.PySem.wpAt _ _ _ (execs _ _) _ _ _
  refine ks_wpAt_execs_cons (ks_wpAt_Assign_Attr ?_)
  refine wpAt_of_wpAny (ld_ks hns₃ hfld ?_ rfl hfl hdb)
  refine ld_ks hns₃ hself ?_ rfl hlo (by decide)
  refine set_plain X₃ (ox := excO C t3) (od := none) ⟨hx₃, rfl, rfl, trivial⟩ T.sa ?_
  refine exc_osa X₃ hx₃ hcl (show refsVE (.ref C :: bm) = true from hbm) rfl T.noN (fun h₄ tk₄ dx k₄ dn dne hx₄ hn₄ => ?_)
  show _root_.PySem.wpAt _ _ _ (execs _ _) _ _ _
  have z : hp.objs.size < h₃.objs.size := hns₃.lt
  refine wpAt_of_wpAny (wpAny_execs_nil (hq h₄ tk₄ dx ⟨fun b o hb e => k₄ b o hb (k₃ b o hb (k₂ b o (hk b o e))), ⟨t3, hx₄⟩, Nat.le_of_lt (Nat.lt_of_lt_of_le z dn), dne, hn₄⟩))
theorem sup_made (T : SupTxt prog K mg nm fld C fI) {v : Value} (X : K.In s.heap) (hlim : s.heap.NoLimit) (hG : s.heap.Ns mainGlobals mg) (hB : ∃ mb, s.heap.Ns builtinsNs mb ∧ ∀ x : Str, x ≠ "__name__" → mb x = bootBuiltins x) (hroom : A.depth + 1 < recursionLimit) (hs : Showable v)
    (FO : FldOk fld)
    (hq : ∀ h' tk e d, OwnMade s.heap h' e C d fld v → R (.ok (.ret (.ref e))) { s with heap := h', toks := tk }) :
    codeAny (model prog w) A (.call (.ref C) ⟨[v], []⟩) R s := by
  obtain ⟨nm, q, N, bs, bm, sn, sub, ab, col, dd, k0, k1, k2, k3, k5, hC, hbm⟩ := T.cls
  obtain ⟨hp, g, dr, tk, os⟩ := s
  have k : ∀ b o, hp.get? b = some o → ((hp.push (kdv_tup [v])).push (excO C hp.objs.size)).get? b = some o := fun b o e => Heap.get?_push_of_some _ (Heap.get?_push_of_some _ e)
  have hget : ((hp.push (kdv_tup [v])).push (excO C hp.objs.size)).get? (hp.objs.size + 1) = some (excO C hp.objs.size) := by heap_get
  have hnx : K.lookup (hp.objs.size + 1) = none := by
    cases e : K.lookup (hp.objs.size + 1) with
    | none => rfl
    | some o =>
      have z : hp.get? (hp.objs.size + 1) = some o := X _ _ e
      exact absurd (Nat.lt_of_succ_lt (Heap.lt_size z)) (Nat.lt_irrefl _)
  refine call_own F.excBase_ValueError (fun X => refsVE_contains X bm hbm) (X _ _ hC) (looks_findIn X T.iC) (fun self => bind_fn X self T.tC) (one_size v) ?_
  refine sup_init (s := ⟨(hp.push (kdv_tup [v])).push (excO C hp.objs.size), g, dr, tk, os⟩) T (X.keeps k) (hlim.keeps k) (hG.keeps k) (hB.imp fun mb h => ⟨h.1.keeps k, h.2⟩) hget hnx ?_ hs FO fun h' tk' dx ⟨k', hx, dn, dne, hns⟩ => ?_
  · show A.depth + 1 < recursionLimit
    exact hroom
  · have old : ∀ b o, hp.get? b = some o → h'.get? b = some o := fun b o e => k' b o (Nat.ne_of_lt (Nat.lt_succ_of_lt (Heap.lt_size e))) (k b o e)
    have z : hp.objs.size + 1 + 1 ≤ dx := by
      first
        | (simpa only [Heap.size_push] using dn)
        | exact dn
        | (have q := dn; rw [Heap.size_push, Heap.size_push] at q; exact q)
    obtain ⟨t1, hx⟩ := hx
    exact ⟨rfl, hq h' tk' (hp.objs.size + 1) dx ⟨old, Nat.le_succ _, ⟨_, _, hx, rfl, rfl, rfl, rfl⟩, Nat.le_trans (Nat.le_trans (Nat.le_succ _) (Nat.le_succ _)) z, dne, hns⟩⟩
end
end
section
theorem relO_fld {v : V} {v' : Value} (r : RelV v v') (fld f : Str) : RelO (List.lookup f [(fld, v)]) (if f = fld then some v' else none) := by
  by_cases hw : f = fld
  · subst hw
    rw [if_pos rfl]
    have q : List.lookup f [(f, v)] = some v := by simp [List.lookup]
    rw [q]
    exact r
  · rw [if_neg hw]
    have qw : (f == fld) = false := by simpa using hw
    have q2 : List.lookup f [(fld, v)] = none := by simp [List.lookup, qw]
    rw [q2]
    trivial
/-- a word or a small number -/
def ShowV (v : V) : Prop := (∃ z, v = .str z ∧ z.length ≤ 1000) ∨ ∃ i : Int, v = .int i ∧ i.natAbs.log2 < 1920
theorem showV_of {v : V} {u : Value} (h : ShowV v) (r : RelV v u) : Showable u := by
  rcases h with ⟨z, rfl, hz⟩ | ⟨i, rfl, hi⟩
  · obtain ⟨t, rfl⟩ := r
    exact .inl ⟨z, t, rfl, hz⟩
  · obtain ⟨t, rfl⟩ := r
    exact .inr ⟨i, t, rfl, hi⟩
section
variable {X : Cx} {C fI : Addr} {nm fld : Str}
/-- C(e) -/
def tMkSup (C : Addr) (fld : Str) (ta : TA) : L2.St → Hp → XK → Prop := fun σ H Q => ta σ H fun vs H1 => ∃ v, vs = [v] ∧ ShowV v ∧ ∀ d, H1 d = none → Q (.ref C) (some d) (upd H1 d (.xd [(fld, v)]))
theorem pmk_sup {a : Expr} {ta : TA} {p pos : Pos} {k : Nat} (FO : FldOk fld) (T : SupTxt X.prog X.K X.mg nm fld C fI) (hr : Room k X.A) (ha : PA X [a] ta) (hg : Gl X nm) (hdb : (nm == ("__debug__" : Str)) = false)
    (he : starEach (a :: []) X.env = (false, eval a X.env) :: starEach [] X.env) (hpl : (backTo pos (starEach [] X.env)).any (·.1) = false) :
    PMk X (.Call (.Name nm p) [a] [] pos) (tMkSup C fld ta) := by
  intro pins s σ H Q I h
  refine wpAny_Call_Name_kw (ld_glob I hg T.gC ?_ hdb)
  refine PySem.W.callWith_K (h₀ := X.base) I.ok.mod.kin T.kC (thn (ha.run pos pins s σ H _ I h) fun us s1 hh => ?_) he hpl
  obtain ⟨vs, H1, I1, r1, v, ev, hsv, q1⟩ := hh
  subst ev
  refine ⟨I1.kIn, ?_⟩
  cases r1 with
  | cons rv rn =>
    rename_i v' us'
    cases rn
    show wpAny _ _ (call (.ref C) [v']) _ _ _
    have hlim := I1.nolimit
    have hG := I1.mod.glob.keeps I1.bk
    have hB : ∃ mb, s1.heap.Ns builtinsNs mb ∧ ∀ x : Str, x ≠ "__name__" → mb x = bootBuiltins x := I1.mod.blt.imp fun mb h => ⟨h.1.keeps I1.bk, h.2⟩
    obtain ⟨hp, g, dr, tk, os⟩ := s1
    refine wpAny_call (sup_made T I1.kIn hlim hG hB (by have := hr.dp; omega) (showV_of hsv rv) FO fun h' tk' e d M => ?_)
    show MkP X pins σ Q (.ref e) ⟨h', g, dr, tk', os⟩
    obtain ⟨oe, fv, hoe, hc, hd, hdat, h1⟩ := M.obj
    have hns := M.ns
    obtain ⟨G', g1, g2⟩ := restrict h' fun b => decide (b ≠ e)
    have gk : ∀ b, b ≠ e → G'.get? b = h'.get? b := fun b hb => g1 b (decide_eq_true hb)
    have ge : G'.get? e = none := g2 e (by simp)
    have old : ∀ b o, hp.get? b = some o → G'.get? b = some o := fun b o q => (gk b (Nat.ne_of_lt (Nat.lt_of_lt_of_le (Heap.lt_size q) M.new))).trans (M.keep b o q)
    have ob : ObjOk X.prog X.w (upd H1 d (.xd [(fld, v)])) G' d (.xd [(fld, v)]) :=
      ⟨_, hns.at (fun o q => (gk d M.dne).trans q), fun f => relO_fld rv fld f⟩
    have J : Inv X pins σ (upd H1 d (.xd [(fld, v)])) ⟨G', g, dr, tk', os⟩ := I1.laid (t' := tk') old M.dbig ob
    refine ⟨e, oe, fv, ⟨G', g, dr, tk', os⟩, _, .ref C, some d, rfl, J, fun b o q => ?_, ge, hoe, ⟨hc, hd⟩, hdat, h1, ?_, rfl, I1.bare, raises_own T.exC T.tyC, q1 d (I1.hok.fresh M.dbig)⟩
    · by_cases hb : b = e
      · have q' : G'.get? b = some o := q
        rw [hb, ge] at q'; cases q'
      · exact (gk b hb).symm.trans q
    · rw [upd_ne (Ne.symm M.dne)]
      exact I1.hok.fresh M.new
/-- raise C(e) -/
def tRaiseSup (C : Addr) (fld : Str) (W : WX) (ta : TA) : TS := fun _ σ H => tMkSup C fld ta σ H fun cls d H' => W cls d σ H'
theorem ps_raiseSup {a : Expr} {ta : TA} {W : WX} {p pos pos2 : Pos} {k : Nat} (hc : X.calm = true) (FO : FldOk fld) (T : SupTxt X.prog X.K X.mg nm fld C fI) (hr : Room k X.A) (tk : Takes X W) (ha : PA X [a] ta) (hg : Gl X nm := by rfl) (hdb : (nm == ("__debug__" : Str)) = false := by decide)
    (he : starEach (a :: []) X.env = (false, eval a X.env) :: starEach [] X.env := by rfl) (hpl : (backTo pos (starEach [] X.env)).any (·.1) = false := by rfl) :
    PS X (.Raise (some (.Call (.Name nm p) [a] [] pos)) none pos2) (tRaiseSup C fld W ta) := ps_raise hc tk (pmk_sup FO T hr ha hg hdb he hpl)
end
end
/-! ### rows of moments: the least moments, and what a round of raising does -/
abbrev Rw := Nat × Nat × Int
def RwIn (n : Nat) (rs : List Rw) : Prop := ∀ r ∈ rs, r.1 ≤ n ∧ r.2.1 ≤ n
def fn (m : List Int) (k : Nat) : Int := m.getD k 0
structure Feas (rs : List Rw) (m : Nat → Int) : Prop where
  zero : m 0 = 0
  nn : ∀ k, 0 ≤ m k
  rows : ∀ r ∈ rs, m r.2.1 + r.2.2 ≤ m r.1
def Least (rs : List Rw) (n : Nat) (t : List Int) : Prop := t.length = n ∧ Feas rs (fn (0 :: t)) ∧ ∀ m, Feas rs m → ∀ k, fn (0 :: t) k ≤ m k
def LM (rs : List Rw) (n : Nat) : Option (List Int) → Prop
  | some t => Least rs n t
  | none => ∀ m, ¬ Feas rs m
theorem nat_min {P : Nat → Prop} : ∀ (n : Nat), P n → ∃ m, P m ∧ ∀ k, P k → m ≤ k := by
  intro n
  induction n using Nat.strongRecOn with
  | _ n ih =>
    intro h
    by_cases e : ∃ k, k < n ∧ P k
    · obtain ⟨k, h1, h2⟩ := e
      exact ih k h1 h2
    · exact ⟨n, h, fun k hk => Nat.le_of_not_lt fun hl => e ⟨k, hl, hk⟩⟩
theorem least_of {rs : List Rw} {m0 : Nat → Int} (h : Feas rs m0) : ∃ M, Feas rs M ∧ ∀ m, Feas rs m → ∀ k, M k ≤ m k := by
  have key : ∀ k, ∃ v : Int, (∃ m, Feas rs m ∧ m k = v) ∧ ∀ m, Feas rs m → v ≤ m k := fun k => by
    obtain ⟨v, ⟨m, h1, h2⟩, h3⟩ := nat_min (P := fun v => ∃ m, Feas rs m ∧ m k = (v : Int)) (m0 k).toNat ⟨m0, h, by have := h.nn k; omega⟩
    refine ⟨v, ⟨m, h1, h2⟩, fun m' h' => ?_⟩
    have := h3 (m' k).toNat ⟨m', h', by have := h'.nn k; omega⟩
    have := h'.nn k
    omega
  refine ⟨fun k => (key k).choose, ⟨?_, fun k => ?_, fun r hr => ?_⟩, fun m hm k => (key k).choose_spec.2 m hm⟩
  · obtain ⟨m, h1, h2⟩ := (key 0).choose_spec.1
    rw [← h2]
    exact h1.zero
  · obtain ⟨m, h1, h2⟩ := (key k).choose_spec.1
    rw [← h2]
    exact h1.nn k
  · obtain ⟨m, h1, h2⟩ := (key r.1).choose_spec.1
    have h3 := (key r.2.1).choose_spec.2 m h1
    have h4 := h1.rows r hr
    show (key r.2.1).choose + r.2.2 ≤ (key r.1).choose
    rw [← h2]
    omega
/-- how many of the numbers up to n are not yet at their least -/
def offs (M m : Nat → Int) (n : Nat) : Nat := (List.range (n + 1)).countP fun k => decide (m k ≠ M k)
theorem offs_zero {M m : Nat → Int} {n : Nat} (h : offs M m n = 0) : ∀ k, k ≤ n → m k = M k := fun k hk => by
  unfold offs at h
  rw [List.countP_eq_zero] at h
  have h2 := h k (List.mem_range.mpr (by omega))
  exact Classical.byContradiction fun e => h2 (decide_eq_true e)
/-! ### a round over a list of moments -/
/-- the state of the moments within the law's own search: a is the state at the begin of the round -/
structure Mid (rs : List Rw) (n : Nat) (a m : List Int) (i : Nat) : Prop where
  len : m.length = n + 1
  up : ∀ k, fn a k ≤ fn m k
  le : ∀ M, Feas rs M → ∀ k, fn m k ≤ M k
  rows : ∀ r ∈ rs.take i, fn a r.2.1 + r.2.2 ≤ fn m r.1
/-! ### the program's search: moments, causes, and what was raised last -/
structure SS where
  m : List Int
  c : List (Option Rw)
  r : Option Nat
def SS.step (s : SS) (w : Rw) : SS := if fn s.m w.1 < fn s.m w.2.1 + w.2.2 then ⟨s.m.set w.1 (fn s.m w.2.1 + w.2.2), s.c.set w.1 (some w), some w.1⟩ else s
def SS.pass (ws : List Rw) (s : SS) : SS := ws.foldl SS.step ⟨s.m, s.c, none⟩
def allRows (rs : List Rw) (n : Nat) : List Rw := rs ++ (List.range (n + 1)).map fun k => (k, 0, 0)
def SS.zero (n : Nat) : SS := ⟨List.replicate (n + 1) 0, List.replicate (n + 1) none, none⟩
theorem allRows_in {rs : List Rw} {n : Nat} (h : RwIn n rs) : RwIn n (allRows rs n) := fun r hr => by
  rcases List.mem_append.mp hr with hr | hr
  · exact h r hr
  · obtain ⟨k, hk, rfl⟩ := List.mem_map.mp hr
    have := List.mem_range.mp hk
    exact ⟨by show k ≤ n; omega, Nat.zero_le _⟩
theorem Feas.all {rs : List Rw} {n : Nat} {M : Nat → Int} (h : Feas rs M) : ∀ r ∈ allRows rs n, M r.2.1 + r.2.2 ≤ M r.1 := fun r hr => by
  rcases List.mem_append.mp hr with hr | hr
  · exact h.rows r hr
  · obtain ⟨k, hk, rfl⟩ := List.mem_map.mp hr
    show M 0 + 0 ≤ M k
    have := h.zero
    have := h.nn k
    omega
structure Search (rs : List Rw) (n i : Nat) (s : SS) : Prop where
  len : s.m.length = n + 1
  clen : s.c.length = n + 1
  nn : ∀ k, 0 ≤ fn s.m k
  le : ∀ M, Feas rs M → ∀ k, fn s.m k ≤ M k
  off : ∀ M, Feas rs M → (∀ m, Feas rs m → ∀ k, M k ≤ m k) → offs M (fn s.m) n ≤ n - i
theorem Search.never {rs : List Rw} {n i : Nat} {s : SS} (h : Search rs n i s) (hn : RwIn n rs) (hi : n ≤ i) (hr : (s.pass (allRows rs n)).r ≠ none) : LM rs n none := fun m0 h0 => by
  obtain ⟨M, hM, hl⟩ := least_of h0
  have hz := offs_zero (Nat.le_zero.mp (Nat.le_trans (h.off M hM hl) (by omega)))
  -- nothing is raised where all are at their least
  have key : ∀ ws : List Rw, (∀ r ∈ ws, r ∈ allRows rs n) → (ws.foldl SS.step ⟨s.m, s.c, none⟩) = ⟨s.m, s.c, none⟩ := by
    intro ws
    induction ws with
    | nil => intro _; rfl
    | cons w ws ih =>
      intro hw
      have h1 := hw w List.mem_cons_self
      have h2 := hM.all w h1
      obtain ⟨h3, h4⟩ := allRows_in hn w h1
      have e : SS.step ⟨s.m, s.c, none⟩ w = ⟨s.m, s.c, none⟩ := if_neg (by
        show ¬ fn s.m w.1 < fn s.m w.2.1 + w.2.2
        rw [hz _ h3, hz _ h4]
        omega)
      rw [List.foldl_cons, e]
      exact ih fun r hr => hw r (List.mem_cons_of_mem _ hr)
  refine hr ?_
  show ((allRows rs n).foldl SS.step ⟨s.m, s.c, none⟩).r = none
  rw [key _ fun _ h => h]
/-! ### the law's own search -/
structure Slow (rs : List Rw) (n i : Nat) (m : List Int) : Prop where
  len : m.length = n + 1
  zero : fn m 0 = 0
  nn : ∀ k, 0 ≤ fn m k
  le : ∀ M, Feas rs M → ∀ k, fn m k ≤ M k
  off : ∀ M, Feas rs M → (∀ m, Feas rs m → ∀ k, M k ≤ m k) → offs M (fn m) n ≤ n - i
  keep : n + 3 ≤ i → ∀ r ∈ rs, fn m r.2.1 + r.2.2 ≤ fn m r.1
theorem Slow.mid {rs : List Rw} {n i : Nat} {a : List Int} (h : Slow rs n i a) : Mid rs n a a 0 := ⟨h.len, fun _ => Int.le_refl _, h.le, fun r hr => by
  rw [List.take_zero] at hr
  cases hr⟩
/-! ### a list or a tuple, by one word -/
def SqK (K : PySem.W.Frag) (kd : Bool) (H : Hp) (a : Addr) (xs : List V) : Prop := if kd = true then SqL K H a xs else SqT K H a xs
theorem SqK.l {K : PySem.W.Frag} {H : Hp} {a : Addr} {xs : List V} (h : SqL K H a xs) : SqK K true H a xs := h
theorem SqK.ext {K : PySem.W.Frag} {kd : Bool} {T : List (Addr × Str)} {ms : List Addr} {H H' : Hp} {a : Addr} {xs : List V} (h : SqK K kd H a xs) (e : Ext T ms H H') (ha : a ∉ ms) : SqK K kd H' a xs := by
  cases kd with
  | true => exact e.seqL ha h
  | false => exact e.seqT ha h
theorem SqK.x {K : PySem.W.Frag} {kd : Bool} {T : List (Addr × Str)} {H H' : Hp} {a : Addr} {xs : List V} (h : SqK K kd H a xs) (e : Ext T [] H H') : SqK K kd H' a xs := h.ext e (by simp)
theorem SqK.or {K : PySem.W.Frag} {kd : Bool} {H : Hp} {a : Addr} {xs : List V} (h : SqK K kd H a xs) : SqT K H a xs ∨ SqL K H a xs := by
  cases kd with
  | true => exact .inr h
  | false => exact .inl h
/-- what is made later may change -/
theorem SqK.own {K : PySem.W.Frag} {kd : Bool} {T : List (Addr × Str)} {H H' : Hp} {a p : Addr} {xs : List V} (h : SqK K kd H a xs) (np : Nw H p) (e : Ext T [p] H H') : SqK K kd H' a xs := by
  have key : ∀ o, (∀ ps, o ≠ .tbl ps) → H a = some o → H' a = some o := fun o ho h1 => e.keep a o (by
    intro hm
    have := np.ne h1 ho
    simp at hm
    exact this hm) ho h1
  cases kd with
  | true =>
    rcases h with (h | ⟨o, h⟩) | h
    · exact .inl (.inl (key _ (fun _ z => by cases z) h))
    · exact .inl (.inr ⟨o, key _ (fun _ z => by cases z) h⟩)
    · exact .inr h
  | false =>
    rcases h with (h | ⟨o, h⟩) | h
    · exact .inl (.inl (key _ (fun _ z => by cases z) h))
    · exact .inl (.inr ⟨o, key _ (fun _ z => by cases z) h⟩)
    · exact .inr h
/-- data in a list or a tuple -/
def DsK (K : PySem.W.Frag) (kd : Bool) (H : Hp) (a : Addr) (ds : List PyData) : Prop := ∃ xs, SqK K kd H a xs ∧ ImAll H xs ds
theorem DsK.x {K : PySem.W.Frag} {kd : Bool} {T : List (Addr × Str)} {H H' : Hp} {a : Addr} {ds : List PyData} (h : DsK K kd H a ds) (e : Ext T [] H H') : DsK K kd H' a ds := by
  obtain ⟨xs, h1, h2⟩ := h
  exact ⟨xs, h1.x e, h2.x e⟩
section
variable {K : PySem.W.Frag} {σ : L2.St} {H : Hp} {Q : VK} {te : TE}
theorem rd_isBl {a b : Bool} (q : Q (.bl (decide (a = b))) H) : rIsU (.bl a) (.bl b) H Q := .inl ⟨a, b, rfl, rfl, q⟩
theorem rd_isnBl {a b : Bool} (q : Q (.bl (!decide (a = b))) H) : rIsNU (.bl a) (.bl b) H Q := .inl ⟨a, b, rfl, rfl, q⟩
end
/-! ### walked, whichever of the two it is -/
/-- over a range, data without drawing -/
theorem lcg_rangeD (T : List (Addr × Str)) {σ : L2.St} {H : Hp} {Q : VK} {te : TE} {n k : Nat} (f : Nat → PyData) (hn : n < sizeLine)
    (step : ∀ (i : Nat) H', i < n → Ext T [] H H' → ∀ R : VK, (∀ v H2, Ext T [] H' H2 → Im H2 v (f i) → R v H2) → te ((wipe σ [k]).set k (some (.int (0 + (i : Int))))) H' R)
    (q : ∀ D H2, Nw H D → Ext T [] H H2 → Ls H2 D ((List.range n).map f) → Q (.ref D) H2) : LcG (Itr 0 n) (gName k) tYes te [k] σ H Q := fun D hD => by
  refine lc_it walk_range (fun i H2 => Ext T [] H H2 ∧ ∃ ys, H2 D = some (.lst ys) ∧ ys.length = i ∧ ImAll H2 ys ((List.range i).map f)) ⟨.new hD, [], upd_same, rfl, .nil⟩ (fun _ _ _ _ => True.intro) (fun i x H1 H' hi h y => ?_) (fun H1 h => ?_)
  · obtain ⟨e1, e2⟩ := y
    subst e1
    subst e2
    obtain ⟨h1, ys, h3, h4, h5⟩ := h
    refine ⟨wipe1, step i H' hi h1 _ fun v H2 e hv => ?_⟩
    have h3' := lst.x h3 e
    refine ⟨ys, h3', by omega, (h1.trans e).own (.of hD) h3', ys ++ [v], upd_same, by rw [List.length_append, h4]; rfl, ?_⟩
    have eD : Ext T [D] H2 (upd H2 D (.lst (ys ++ [v]))) := Ext.mut (by simp) h3'
    have hLD : Lsts H2 [D] := fun b hb => ⟨ys, by rw [List.mem_singleton.mp hb]; exact h3'⟩
    rw [List.range_succ, List.map_append]
    exact (ImAll.ext eD hLD _ _ (h5.x e)).snoc (Im.ext eD hLD _ _ hv)
  · obtain ⟨h1, ys, h3, h4, h5⟩ := h
    exact q D H1 (.of hD) h1 ⟨ys, h3, h5⟩
/-! ### rows of three numbers -/
theorem Ls.app {T : List (Addr × Str)} {H : Hp} {a : Addr} {xs : List V} {ds : List PyData} {v : V} {d : PyData} (ha : H a = some (.lst xs)) (hi : ImAll H xs ds) (hv : Im H v d) : Ls (upd H a (.lst (xs ++ [v]))) a (ds ++ [d]) ∧ Ext T [a] H (upd H a (.lst (xs ++ [v]))) := by
  have eD : Ext T [a] H (upd H a (.lst (xs ++ [v]))) := Ext.mut (by simp) ha
  have hLD : Lsts H [a] := fun b hb => ⟨xs, by rw [List.mem_singleton.mp hb]; exact ha⟩
  exact ⟨⟨_, upd_same, (ImAll.ext eD hLD _ _ hi).snoc (Im.ext eD hLD _ _ hv)⟩, eD⟩
/-! ### causes: where they lead -/
def cz (c : List (Option Rw)) (k : Nat) : Option Rw := c.getD k none
/-! ### the way along the causes -/
def cs (c : List (Option Rw)) (k : Nat) : Rw := (cz c k).getD (0, 0, 0)
/-! ### rings -/
/-! ### the least of a list of data: one of its elements -/
/-! ### a slice that is the whole tuple: the tuple itself -/
namespace HTW
open PySem.W PySem.Calls HT
section
variable {prog : Program} {w : World} {A : Around} {E : Value → Shared → Prop} {s : Shared}
theorem tupleIsExact_ {t : Addr} {items : Array Value} {Q : Bool → Shared → Prop} (ht : IsTup s.heap t items) (h : Q true s) : wpAny (model prog w) A (Builtin.Tuple.tupleIsExact (.ref t)) Q E s := by
  obtain ⟨o, ho, hc, n, hd⟩ := id ht
  unfold Builtin.Tuple.tupleIsExact
  refine wpAny_bind (wpAny_typeOf ht.typeIs ?_)
  exact wpAny_pure h
theorem getItem_tuple_whole {t sl : Addr} {items : Array Value} {vl vu : Value} {lo hi : Option Int} {Q : Value → Shared → Prop} (ht : IsTup s.heap t items) (hs : s.heap.IsSliceOf sl vl vu .none) (pl : IsPart vl lo) (pu : IsPart vu hi)
    (hw : sIx items.size 0 lo = 0 ∧ sIx items.size items.size hi = items.size)
    (h : Q (.ref t) s) : wpAny (model prog w) A (getItem (.ref t) (.ref sl)) Q E s := by
  obtain ⟨os, hos, hcs, hds⟩ := id hs
  have hTs : s.TypeIs (.ref sl) "slice" := ⟨os, hos, hcs⟩
  unfold getItem
  try with_reducible refine wpAny_holding ?_
  first | refine wpAny_bind (wpAny_pure ?_) | skip
  refine wpAny_bind (wpAny_sequenceKey ht.typeIs (by decide) ?_)
  refine wpAny_bind (wpAny_callSpecial?_slot (name := Str.ofString "__getitem__") ht.typeIs PyProof.Rows.slot_tuple_getitem
    (wpAny_call_entry PyProof.Rows.slot_tuple_getitem ht.typeIs entry_tuple_getitem ?_ (args_tuple_getitem _ _)))
  show wpAny _ _ (Builtin.Tuple.tupleItemsOf (.ref t) >>= _) _ _ s
  refine wpAny_bind (tupleItemsOf_ ht ?_)
  refine wpAny_bind (wpAny_typeOf hTs ?_)
  rw [if_pos (by decide)]
  refine wpAny_bind (sliceApplied_gen hs pl pu ?_)
  have hyes : (((sIx items.size 0 lo : Nat) : Int) == 0 && (1 : Int) == 1 && (sIx items.size items.size hi - sIx items.size 0 lo) == items.size) = true := by
    rw [hw.1, hw.2]
    simp
  show wpAny _ _ (if (((sIx items.size 0 lo : Nat) : Int) == 0 && (1 : Int) == 1 && (sIx items.size items.size hi - sIx items.size 0 lo) == items.size) = true then _ else _) _ _ s
  rw [if_pos hyes]
  refine wpAny_bind (tupleIsExact_ ht ?_)
  rw [if_pos rfl]
  first
    | exact wpAny_bind (wpAny_rule (wpAny_bind (wpAny_pure (wpAny_pure ⟨_, rfl, wpAny_pure h⟩))))
    | exact wpAny_bind (wpAny_rule (wpAny_pure ⟨_, rfl, wpAny_pure h⟩))
    | exact wpAny_bind (wpAny_rule (wpAny_bind (wpAny_pure ⟨_, rfl, wpAny_pure h⟩)))
end
end HTW
section
def rSlW (K : PySem.W.Frag) : V → Option Int → Option Int → Hp → VK → Prop := fun x lo hi H Q => ∃ a xs, x = .ref a ∧ SqT K H a xs ∧ HT.sIx xs.length 0 lo = 0 ∧ HT.sIx xs.length xs.length hi = xs.length ∧ Q (.ref a) H
theorem sl_tupW {X : Cx} : SlR X (rSlW X.K) := by
  intro pins s σ H x v vl vu lo hi sl Q I rx hs pl pu h
  obtain ⟨a, xs, rfl, hx, hw1, hw2, q⟩ := h
  cases rx
  obtain ⟨its, r, ht, hz⟩ := I.tuple hx
  have hlen : its.toArray.size = xs.length := by rw [List.size_toArray]; exact r.length.symm
  refine ⟨"tuple", _, PyProof.Rows.slot_tuple_getitem.lookup, ht.typeIs, ?_⟩
  exact HTW.getItem_tuple_whole ht hs pl pu (by rw [hlen]; exact ⟨hw1, hw2⟩) ⟨.ref a, H, I, rfl, q⟩
def rSlU2 (K : PySem.W.Frag) : V → Option Int → Option Int → Hp → VK → Prop := fun x lo hi H Q => rSlU K x lo hi H Q ∨ rSlW K x lo hi H Q
theorem sl_U2 {X : Cx} (K : PySem.W.Frag) (hK : X.K = K) : SlR X (rSlU2 K) := by
  have h := sl_U (X := X) K hK
  subst hK
  exact h.or sl_tupW
end
/-! a caught exception with its own dict: isinstance, fields; defs that may raise -/
section
open PySem.W PySem.Calls
variable {prog : Program} {w : World} {A : Around} {E : Value → Shared → Prop} {s : Shared} {K : Frag} {x D : Addr} {ox : Obj}
theorem find_classD {C : Addr} {odx : Option Obj} {name : Str} {a g : Value} (hc : (clsIn K C).isSome = true) (ha : findIn K (.ref C) name = some (some a)) (hg : specialIn K a "__get__" = some (some g)) (ht : takesIn K a = some true) : findObj K C odx name = some (.bind g a) := by
  obtain ⟨cd, hc⟩ := Option.isSome_iff_exists.mp hc
  unfold findObj
  rw [hc, Option.bind_some, ha, Option.bind_some]
  simp [hg, ht]
theorem kin_classD {odx : Option Obj} {Q : Option Value → Shared → Prop} (C : L2.ExcC K D) (X : K.In s.heap) (I : InstAt s.heap x ox D odx) (h : Q (some (.ref D)) { s with toks := s.toks + 1 }) : wpAny (model prog w) A (getAttr? (.ref x) "__class__") Q E s := by
  have hf : findObj K D odx "__class__" = some (.bind (.builtin "getset_descriptor.__get__") (.builtin "object.__class__")) := find_classD (by obtain ⟨cd, hc, _⟩ := any_some C.hd; rw [hc]; rfl) C.ha C.hn C.ht
  obtain ⟨hp, g, d, t, os⟩ := s
  have L0 := I.type (M := model prog w)
  have L1 := looks_findIn (M := model prog w) X C.hg
  have L2 := looks_findIn (M := model prog w) X C.hk
  have L3 := looks_find (M := model prog w) X I hf
  have sub : Looks (model prog w) hp (isInstance (.ref x) (.type "BaseException")) true := L0.andThen (looks_subIn X C.hs)
  have hx0 : (false && onTheHeap (Value.builtin "BaseException.__getattribute__")) = false := rfl
  have hx2 : (Value.builtin "BaseException.__getattribute__" == Value.builtin "object.__getattribute__") = false := by decide +kernel
  have hx1 : (onTheHeap (Value.ref D) && Value.builtin "BaseException.__getattribute__" == Value.builtin "object.__getattribute__") = false := by rw [hx2]; rfl
  unfold getAttr? getAttrBy? getAttrBy
  refine wpAny_bind (wpAny_mkText (wpAny_bind (wpAny_attempt (wpAny_holding (wpAny_bind (L0.at (wpAny_bind (L1.at ?_))))))))
  show wpAny _ _ (if (onTheHeap (Value.ref D) && Value.builtin "BaseException.__getattribute__" == Value.builtin "object.__getattribute__") = true then _ else _) _ _ _
  rw [hx1, if_neg Bool.false_ne_true]
  unfold getAttrByItsOwn hookBefore
  refine wpAny_bind ?_
  rw [if_pos (show onTheHeap (Value.ref D) = true from rfl)]
  refine L2.at ?_
  refine wpAny_bind (wpAny_attempt (wpAny_holding ?_))
  unfold callGetattribute
  rw [hx0, if_neg Bool.false_ne_true]
  unfold boundAndCalled
  rw [PySem.F.excAttr_ValueError.ga.bind (.ref x)]
  refine wpAny_bind (wpAny_pure ?_)
  show wpAny _ _ (call (.builtin "BaseException.__getattribute__") [.ref x, .str "__class__" t]) _ _ _
  refine wpAny_call (codeAny_call_builtin PySem.F.excAttr_ValueError.ga.plain PySem.F.entry_bexc_ga ?_)
  refine @check_slot (model prog w) _ _ ⟨hp, g, d, t + 1, os⟩ "BaseException.__getattribute__" "BaseException" "__getattribute__" (.ref x) [.str "__class__" t] [] _ (by decide +kernel) (by decide +kernel) sub (PySem.F.args_bexc_ga (.ref x) (.str "__class__" t)) ?_
  unfold Builtin.«object.__getattribute__»
  refine wpAny_bind (wpAny_of_eq (a := ((Value.ref x : Value), [Value.str "__class__" t])) (by first | rfl | (simp only [slotArgs]; rfl)) ?_)
  refine wpAny_bind (wpAny_pure (wpAny_bind (L0.at (wpAny_bind (L3.at ?_)))))
  show wpAny _ _ (holding [Value.builtin "object.__class__"] (call (.builtin "getset_descriptor.__get__") [.builtin "object.__class__", .ref x, .ref D]) >>= ret) _ _ _
  refine wpAny_bind (wpAny_holding (wpAny_call (class_get (s := ⟨hp, g, d, t + 1, os⟩) (ox := ox) (od := odx) X I C.hm ?_)))
  refine wpAny_pure ?_
  show wpAny _ _ (handedOut (.ref D)) _ _ _
  rw [handedOut_of (v := .ref D) rfl]
  first
    | exact wpAny_pure (wpAny_pure h)
    | exact wpAny_pure h
    | exact wpAny_pure (wpAny_bind (wpAny_pure (wpAny_pure h)))
theorem kit_excD {odx : Option Obj} (C : L2.ExcC K D) : KitX K (.ref x) (.ref D) (fun h => InstAt h x ox D odx) where
  ty := fun _ _ _ I => I.type
  it := fun _ _ X _ => by
    obtain ⟨cdD, hcD, _⟩ := any_some C.hd
    unfold clsIn at hcD
    split at hcD
    · rename_i c' d' cd' sl' ho
      intro A' Q' E' s' k q
      unfold isType loadHead
      exact wpAny_bind (wpAny_loadPart (k _ _ (X _ _ ho)) (wpAny_pure q))
    · cases hcD
  ne := fun h tp dd its n sl X htp => by
    obtain ⟨cdD, hcD, _⟩ := any_some C.hd
    refine Bool.eq_false_iff.mpr fun q => ?_
    have e : D = tp := Value.ref.inj (beq_iff_eq.mp q)
    subst e
    unfold clsIn at hcD
    split at hcD
    · rename_i c' d' cd' sl' ho
      have z := (X _ _ ho).symm.trans htp
      cases z
    · cases hcD
  ca := fun X I k => kin_classD C X I k
end
section
/-- what is more to be seen of such a class -/
structure ExcT (P : Program) (K : PySem.W.Frag) (mg : Str → Option Value) (nm fld : Str) (C fI : Addr) : Prop extends SupTxt P K mg nm fld C fI where
  ec : ExcC K C
theorem ExcT.xf {P : Program} {K : PySem.W.Frag} {mg : Str → Option Value} {nm fld : Str} {C fI : Addr} (T : ExcT P K mg nm fld C fI) : XfC K C := ⟨T.ga, T.gg, T.exC, T.hdC⟩
/-- isinstance(e, c), e the exception that the suite holds -/
def rIsX (K : PySem.W.Frag) (D a : Addr) (cls : Value) (d : Option Addr) : List V → Hp → VK → Prop := fun xs H Q => ∃ (c : V) (cv : Value) (b : Bool) (dd : Addr) (fs : List (Str × V)), xs = [.ref a, c] ∧ cls = .ref D ∧ d = some dd ∧ H dd = some (.xd fs) ∧ (∀ u, RelV c u → u = cv) ∧ PySem.W.kitOne K (.ref D) cv = some b ∧ Q (.bl b) H
theorem call_isX {X : Cx} {a D fI : Addr} {nm fld : Str} {oe : Obj} {cls : Value} {d : Option Addr} {pn : List (Addr × Obj)} (T : ExcT X.prog X.K X.mg nm fld D fI) (hz : Zc cls d oe) (hf : ∃ vs, oe.data = .fields vs) : CallR (X.suite a ((a, oe) :: pn)) (.builtin "isinstance") (rIsX X.K D a cls d) := by
  intro pins s σ H xs us Q I r h
  obtain ⟨c, cv, b, dd, fs, rfl, ecl, ed, ea, hcv, e, q⟩ := h
  subst ecl
  subst ed
  cases r with
  | cons rx rr =>
    cases rr with
    | cons rt rr =>
      cases rr
      cases rx
      have ec := hcv _ rt
      subst ec
      obtain ⟨hget, _⟩ := I.pin (a, oe) (List.mem_append.mpr (.inl List.mem_cons_self))
      obtain ⟨vs, hv⟩ := hf
      have hx : ObjOk X.prog X.w H s.heap dd (.xd fs) := I.hok dd _ ea
      obtain ⟨mA, hns, hr⟩ := hx
      obtain ⟨od, ho, hl⟩ := lookIn_ns hns
      have J : PySem.W.InstAt s.heap a oe D (some od) := ⟨hget, hz.1, by unfold PySem.W.notCls; rw [hv] <;> rfl, by rw [hz.2]; exact ho⟩
      exact PySem.W.kia_one (kit_excD T.ec) I.kIn J e (fun z => nomatch z) fun tk => ⟨.bl b, H, I.kept (t' := tk) fun _ _ z => z, rfl, q⟩
/-! ### a def that may raise, found by its name -/
def OkX (P : Program) (w : World) (K : PySem.W.Frag) (mg : Str → Option Value) (base : Heap) (k : Nat) (x : Str) (ps : List Str) (sp : Sp) : Prop :=
  ∃ (f : Addr) (fd : FuncData), FnOk P w K mg base (L2.CX P w) k f fd ps sp ∧ mg x = some (.ref f) ∧ PySem.W.keepIn K (.ref f) = true ∧ Binds K fd ps []
section
variable {P : Program} {w : World} {K : PySem.W.Frag} {mg : Str → Option Value} {base : Heap}
theorem Def.okX {x : Str} {st : Stmt} {N ps : List Str} {k : Nat} {sp : Sp} (D : Def K mg x st ps) (S : FnScope N ps (defScope st)) (len : ∀ vs H Q E, sp vs H Q E → vs.length = ps.length)
    (hbody : ∀ (cdv : Value) (f : Addr) (A : Around) (outer : List Env) (s : Shared) (H : Hp) (vs : List V) (Q : VK) (E : XK), Room k (A.deeper (envOfC x (defScope st) s.heap.objs.size f cdv)) → sp vs H Q E →
      ∃ t, PSs (cxOf (L2.CX P w) P w K mg base N x (defScope st) f cdv A outer s H E) (defBody st) t ∧ t { nx := fun _ H' => Q .non H', rt := Q } (start N vs) H) : OkX P w K mg base (k + 1) x ps sp := by
  obtain ⟨f, fd, F, hm, hb⟩ := D
  exact ⟨f, fd, F.okX S len fun cdv A outer s H vs Q E hr h => hbody cdv f A outer s H vs Q E hr h, hm, F.kp, hb⟩
theorem OkX.mono {j k : Nat} {x : Str} {ps : List Str} {sp : Sp} (h : OkX P w K mg base j x ps sp) (hk : j ≤ k) : OkX P w K mg base k x ps sp := by
  obtain ⟨f, fd, F, r⟩ := h
  exact ⟨f, fd, F.mono hk, r⟩
/-- where nothing is raised -/
def sp0 (sp : Sp) : Sp := fun vs H Q _ => sp vs H Q (fun _ _ _ => False)
theorem OkX.ok0 {k : Nat} {x : Str} {ps : List Str} {sp : Sp} (h : OkX P w K mg base k x ps sp) : Ok P w K mg base k x ps (sp0 sp) := by
  obtain ⟨f, fd, F, r⟩ := h
  refine ⟨f, fd, ⟨fun vs H Q E h => F.len vs H Q _ h, fun A outer s H args us vs Q E hr e0 hb rv hsp => ?_⟩, r⟩
  refine codeAny_mono (F.run A outer s H args us vs Q _ hr e0 hb rv hsp) fun r s' hq => ?_
  cases r with
  | error e =>
    obtain ⟨_, _, _, _, _, _, _, _, _, _, _, _, z⟩ := hq
    exact z.elim
  | ok fl => cases fl <;> exact hq
end
section
variable {X : Cx}
theorem pe_callX {x : Str} {p pos : Pos} {e : Expr} {es : List Expr} {t : TA} {k : Nat} {ps : List Str} {sp : Sp} {W : WX} (h : OkX X.prog X.w X.K X.mg X.base k x ps sp) (hr : Room k X.A) (hg : Gl X x) (tk : Takes X W) (ha : PA X (e :: es) t)
    (hdb : (x == ("__debug__" : Str)) = false := by decide) (he : starEach (e :: es) X.env = (false, eval e X.env) :: starEach es X.env := by rfl) (hpl : (backTo pos (starEach es X.env)).any (·.1) = false := by rfl) :
    PE X (.Call (.Name x p) (e :: es) [] pos) (tCallS sp (WE W) t) := by
  obtain ⟨f, fd, F, hm, hk, hb⟩ := h
  exact pe_callS F hr hg hm hk hb (fun σ => passAt tk σ) ha hdb he hpl
end
end
/-! ### tables of waits: words, numbers, promises -/
section
variable {X : Cx}
theorem pi_zipAU (K : PySem.W.Frag) (hK : X.K = K) {e e2 : Expr} {ta : TA} {p pos tpos : Pos} {elts : List Expr} {kk : Nat} (hg : Gl X "zip") (hm : X.mg "zip" = none) (ha : PA X [e, e2] ta)
    (h1 : starEach [e, e2] X.env = (false, eval e X.env) :: starEach [e2] X.env := by rfl) (h2 : (backTo pos (starEach [e2] X.env)).any (·.1) = false := by rfl) : PI X (.Tuple elts kk tpos) (.Call (.Name "zip" p) [e, e2] [] pos) (RZ.iZipA K ta) := by
  subst hK
  exact RZ.pi_zipA hg hm ha h1 h2
end
section
variable {K : PySem.W.Frag} {σ : L2.St} {H : Hp} {Q : VK} {te : TE}
theorem rd_zipA {ta : TA} {R : It → Hp → Prop} (q : ta σ H fun vs H1 => ∃ a b xs ys, vs = [V.ref a, V.ref b] ∧ ((SqL K H1 a xs ∧ SqL K H1 b ys ∧ R (Itz K a b) H1) ∨ (SqT K H1 a xs ∧ SqT K H1 b ys ∧ R (RZ.ItzT K a b) H1))) : RZ.iZipA K ta σ H R := q
theorem rd_slW {a : Addr} {xs : List V} {lo hi : Option Int} (h : SqT K H a xs) (h1 : HT.sIx xs.length 0 lo = 0) (h2 : HT.sIx xs.length xs.length hi = xs.length) (q : Q (.ref a) H) : rSlU2 K (.ref a) lo hi H Q := .inr ⟨a, xs, rfl, h, h1, h2, q⟩
theorem rd_slT2 {a : Addr} {xs : List V} {lo hi : Option Int} (h : SqT K H a xs) (hw : ¬ (HT.sIx xs.length 0 lo = 0 ∧ HT.sIx xs.length xs.length hi = xs.length)) (q : ∀ p, H p = none → Q (.ref p) (upd H p (.tup (cutV xs lo hi)))) : rSlU2 K (.ref a) lo hi H Q := .inl (rd_slT h hw q)
end
abbrev Bd := Int × Int
section
variable (T : List (Addr × Str)) (K : PySem.W.Frag)
def wordS : Str := "word"
end
theorem walk_zipT {K : PySem.W.Frag} {a b : Addr} {xs ys : List V} {n : Nat} (hn : n = min xs.length ys.length) : Walk (RZ.ItzT K a b) n (fun H => SqT K H a xs ∧ SqT K H b ys) (YPair (fun i => xs[i]?) (fun i => ys[i]?)) := by
  subst hn
  refine ⟨fun i _ hi q => ?_, fun _ q => ⟨xs, ys, q.1, q.2, by omega⟩, fun i H v H' _ q y => ?_⟩
  · have h1 : i < xs.length := by omega
    have h2 : i < ys.length := by omega
    exact ⟨xs, ys, xs[i], ys[i], q.1, q.2, by simp [h1], by simp [h2]⟩
  · obtain ⟨T, x, z, h1, h2, h3, h4, h5⟩ := y
    exact ⟨T, x, z, h1, h2, h3, h4 xs q.1, h5 ys q.2⟩
def DIn (bs : List Bd) (ds : List Int) : Prop := ∀ j, j < ds.length → (bs.getD j (0, 0)).1 ≤ ds.getD j 0 ∧ ds.getD j 0 ≤ (bs.getD j (0, 0)).2
theorem getD_app_lt {α : Type} {l : List α} {x d : α} {j : Nat} (h : j < l.length) : (l ++ [x]).getD j d = l.getD j d := by
  rw [List.getD_eq_getElem?_getD, List.getD_eq_getElem?_getD, List.getElem?_append_left h]
theorem getD_app_eq {α : Type} {l : List α} {x d : α} : (l ++ [x]).getD l.length d = x := by
  rw [List.getD_eq_getElem?_getD, List.getElem?_append_right (Nat.le_refl _)]
  simp
theorem DIn.snoc {bs : List Bd} {ds : List Int} {d : Int} (h : DIn bs ds) (h1 : (bs.getD ds.length (0, 0)).1 ≤ d) (h2 : d ≤ (bs.getD ds.length (0, 0)).2) : DIn bs (ds ++ [d]) := by
  intro j hj
  rw [List.length_append] at hj
  by_cases c : j < ds.length
  · rw [getD_app_lt c]
    exact h j c
  · have e : j = ds.length := by
      have : [d].length = 1 := rfl
      omega
    rw [e, getD_app_eq]
    exact ⟨h1, h2⟩
theorem rd_rng2 {σ : L2.St} {H : Hp} {ta : TA} {R : It → Hp → Prop} (q : ta σ H fun vs H1 => ∃ i j : Int, vs = [.int i, .int j] ∧ (-(2 ^ 62) ≤ i ∧ i < 2 ^ 62 ∧ -(2 ^ 62) ≤ j ∧ j < 2 ^ 62) ∧ R (Itr i (j - i).toNat) H1) : iRng2 ta σ H R := q
/-- what is more known of the classes of errors -/
structure ErrIs (K : PySem.W.Frag) (mg : Str → Option Value) (C CN CB : Addr) : Prop where
  gN : mg "NeverdarkError" = some (.ref CN)
  gB : mg "BadText" = some (.ref CB)
  kN : PySem.W.kitOne K (.ref C) (.ref CN) = some true
  kB : PySem.W.kitOne K (.ref C) (.ref CB) = some false
theorem pe_cls {X : Cx} {x : Str} {C : Addr} {pos : Pos} (hg : Gl X x) (hm : X.mg x = some (.ref C)) (hd : (x == ("__debug__" : Str)) = false := by decide) : PE X (.Name x pos) (tC (.ref C)) := pe_glob hg hm (show RelV (.ref C) (.ref C) from rfl) hd
theorem rd_callS {sp : Sp} {E : L2.St → XK} {t : TA} {σ : L2.St} {H : Hp} {Q : VK} (q : t σ H fun vs H1 => sp vs H1 Q (E σ)) : tCallS sp E t σ H Q := q
theorem rd_xf {a : Addr} {cls : Value} {d : Option Addr} {C : Addr} {f : Str} {te : TE} {σ : L2.St} {H : Hp} {Q : VK} (q : te σ H fun x H1 => x = .ref a ∧ cls = .ref C ∧ ∃ (dd : Addr) (fs : List (Str × V)) (v : V), d = some dd ∧ H1 dd = some (.xd fs) ∧ fs.lookup f = some v ∧ Q v H1) : tXf a cls d C f te σ H Q := q
open PySem.W (dataLt)
/-! ### tables out of rows: the numbers -/
/-! ### the two lists of waits -/
/-! ### both in order -/
theorem dT.x {T : List (Addr × Str)} {H H' : Hp} {a : Addr} {kvs : List (List L2.Key × V)} (h : H a = some (.dT kvs)) (e : Ext T [] H H') : H' a = some (.dT kvs) := e.keep a _ (by simp) (fun _ z => by cases z) h
/-- a comprehension over data, told item by item; its elements are plain values -/
theorem lcg_fv (T : List (Addr × Str)) {α : Type} (f : α → PyData) (g : α → V) (c : α → Bool) {σ : L2.St} {H : Hp} {Q : VK} {J : It} {n : Nat} {G : Hp → Prop} {Y : Nat → Hp → V → Hp → Prop} {gT : TG} {tt : TT} {te : TE} {vs : List Nat} (w : Walk J n G Y) {xs : List V} {as : List α} (hx : ImAll H xs (as.map f)) (hn : n = xs.length)
    (hY : ∀ i H x H', Y i H x H' → H' = H ∧ xs[i]? = some x) (hG : ∀ H', Ext T [] H H' → G H') (hl : as.length ≤ 100000)
    (step : ∀ (i : Nat) (a : α) (x : V), as[i]? = some a → ∀ H', Ext T [] H H' → Im H' x (f a) → ∀ (R : V → Hp → Prop) (S : Hp → Prop), (c a = true → ∀ H2, Ext T [] H' H2 → R (g a) H2) → (c a = false → ∀ H2, Ext T [] H' H2 → S H2) →
      gT x (wipe σ vs) H' fun σ2 H2 => wipe σ2 vs = wipe σ vs ∧ tt σ2 H2 fun b H3 => if b = true then te σ2 H3 R else S H3)
    (q : ∀ D H2, Nw H D → Ext T [] H H2 → H2 D = some (.lst ((as.filter c).map g)) → Q (.ref D) H2) : LcG J gT tt te vs σ H Q := fun D hD => by
  have hxl : xs.length = as.length := by rw [hx.len, List.length_map]
  refine lc_it w (fun i H2 => Ext T [] H H2 ∧ H2 D = some (.lst (((as.take i).filter c).map g))) ⟨.new hD, upd_same⟩ (fun i H2 _ h => hG H2 h.1) (fun i x H1 H' hi h y => ?_) (fun H1 h => ?_)
  · obtain ⟨e1, e2⟩ := hY i H1 x H' y
    subst e1
    obtain ⟨h1, h3⟩ := h
    obtain ⟨d, hd, hxd⟩ := hx.get' e2
    rw [List.getElem?_map] at hd
    obtain ⟨a, ha, rfl⟩ := Option.map_eq_some_iff.mp hd
    have et : as.take (i + 1) = as.take i ++ [a] := by rw [List.take_add_one, ha]; rfl
    refine step i a x ha H' h1 (Im.ext h1 Lsts.nil _ _ hxd) _ _ (fun hp H2 e => ?_) (fun hp H2 e => ?_)
    · have h5 := lst.x h3 e
      refine ⟨_, h5, ?_, (h1.trans e).own (.of hD) h5, ?_⟩
      · refine Nat.lt_of_le_of_lt ?_ (Nat.lt_of_le_of_lt hl (show (100000 : Nat) < sizeLine by decide))
        rw [List.length_map]
        exact Nat.le_trans (List.length_filter_le _ _) (by rw [List.length_take]; exact Nat.min_le_right _ _)
      · rw [et, List.filter_append, List.filter_cons_of_pos hp, List.map_append]
        exact upd_same
    · refine ⟨h1.trans e, ?_⟩
      rw [et, List.filter_append, List.filter_cons_of_neg (by rw [hp]; decide), List.filter_nil, List.append_nil]
      exact lst.x h3 e
  · obtain ⟨h1, h3⟩ := h
    rw [hn, hxl, List.take_length] at h3
    exact q D H1 (.of hD) h1 h3
/-! own classes: methods that may raise, called under a try -/
/-! ### an own class: made, its fields, its methods -/
/-! own classes: made under a try; methods where nothing is raised -/
/-! match: patterns of lists of texts -/
/-! ### the cases -/
/-! enumerate(list, start=1) -/
abbrev S (l : List Nat) : Str := ⟨l.toArray⟩
/-! the text of a book: lines of entries -/
abbrev Ent := Str × Nat × Nat
def askedS : Str := "asked"
def doneS : Str := "done"
def lastM (es : List Ent) : Nat := match es.getLast? with | none => 0 | some e => e.2.2
def lastK (es : List Ent) : Nat := match es.getLast? with | none => 0 | some e => e.2.1
def isEntV (es : List Ent) (e : Ent) : Bool :=
  if es.length % 2 = 0 then decide (e.1 = askedS) && (decide (lastM es < e.2.2) && decide (e.2.1 = es.length / 2 + 1))
  else decide (e.1 = doneS) && (decide (lastM es ≤ e.2.2) && decide (e.2.1 = lastK es))
def lineP (e : Ent) : List (List Nat) := [sg e.1, TL.numL e.2.1, TL.numL e.2.2]
def lineL (e : Ent) : List Nat := TL.joinL [32] (lineP e)
/-! numbers -/
theorem num_free {n s : Nat} (h : s < 48 ∨ 57 < s) : s ∉ TL.numL n := TL.numL_free h
/-! an entry's line -/
def freeP (ps : List (List Nat)) : Prop := ∀ p ∈ ps, 32 ∉ p ∧ 10 ∉ p
theorem join_free : ∀ {ps : List (List Nat)}, freeP ps → 10 ∉ TL.joinL [32] ps
  | [], _ => by simp [TL.joinL]
  | [p], h => (h p List.mem_cons_self).2
  | p :: q :: r, h => by
    show 10 ∉ p ++ ([32] ++ TL.joinL [32] (q :: r))
    have ih := join_free (ps := q :: r) fun x hx => h x (List.mem_cons_of_mem _ hx)
    intro hx
    rcases List.mem_append.mp hx with hx | hx
    · exact (h p List.mem_cons_self).2 hx
    · rcases List.mem_append.mp hx with hx | hx
      · simp at hx
      · exact ih hx
def EntOk (e : Ent) : Prop := (e.1 = askedS ∨ e.1 = doneS) ∧ e.2.1 < 100000 ∧ e.2.2 < 100000
theorem word_free {a : Str} (h : a = askedS ∨ a = doneS) : 32 ∉ sg a ∧ 10 ∉ sg a := by
  rcases h with rfl | rfl <;> decide +kernel
theorem line_free {e : Ent} (h : EntOk e) : freeP (lineP e) := fun p hp => by
  rcases List.mem_cons.mp hp with rfl | hp
  · exact word_free h.1
  rcases List.mem_cons.mp hp with rfl | hp
  · exact ⟨num_free (.inl (by decide)), num_free (.inl (by decide))⟩
  rw [List.mem_singleton.mp hp]
  exact ⟨num_free (.inl (by decide)), num_free (.inl (by decide))⟩
/-- a history that a book may hold -/
def Good (es : List Ent) : Prop := ∀ i e, es[i]? = some e → EntOk e ∧ isEntV (es.take i) e = true
theorem Good.take {es : List Ent} (h : Good es) (n : Nat) : Good (es.take n) := fun i e hi => by
  have hl : i < (es.take n).length := (List.getElem?_eq_some_iff.mp hi).1
  rw [List.length_take] at hl
  rw [List.getElem?_take_of_lt (by omega)] at hi
  have := h i e hi
  rw [List.take_take, Nat.min_eq_left (by omega)]
  exact this
theorem Good.free {es : List Ent} (h : Good es) : ∀ l ∈ es.map lineL, 10 ∉ l := fun l hl => by
  obtain ⟨e, he, rfl⟩ := List.mem_map.mp hl
  obtain ⟨i, hi⟩ := List.getElem?_of_mem he
  exact join_free (line_free (h i e hi).1)
/-! lines that are no entry -/
/-! texts made of parts -/
/-! texts of words: numbers, lists of ids, slots, items, events -/
/-! ### slots, items, events -/
open PySem.W (alike)
/-! ### data of any form: of which type it is, which is less -/
section
variable {X : Cx}
def rLtD (K : PySem.W.Frag) : R2 := fun x y H Q => ∃ d e, Dp K H x d ∧ Dp K H y e ∧ alike d e = true ∧ d ≠ .none ∧ d.depth ≤ 64 ∧ Q (.bl (dataLt d e)) H
theorem op_ltD0 (hu : X.A.units + 65 < cLine) : OpR X (compareOp .Lt) (rLtD X.K) := by
  intro pins s σ H x y v u Q I rx ry h
  obtain ⟨d, e, hd, he, ha, hn, hl, q⟩ := h
  obtain ⟨as, r1⟩ := Dp.reads I d x v hd rx
  obtain ⟨bs, r2⟩ := Dp.reads I e y u he ry
  have h2 : min d.depth e.depth ≤ d.depth := Nat.min_le_left _ _
  exact PySem.W.lt_data r1 r2 ha hn (by omega) ⟨.bl _, H, I, rfl, q⟩
theorem op_ltD (K : PySem.W.Frag) (hK : X.K = K) (hu : X.A.units + 65 < cLine) : OpR X (compareOp .Lt) (rLtD K) := by
  subst hK
  exact op_ltD0 hu
end
section
variable {K : PySem.W.Frag} {H : Hp} {Q : VK}
theorem rd_ltD {v u : V} {d e : PyData} (h1 : Im H v d) (h2 : Im H u e) (ha : alike d e = true) (hn : d ≠ .none) (hl : d.depth ≤ 64) (q : Q (.bl (dataLt d e)) H) : rLtD K v u H Q := ⟨d, e, h1.dp, h2.dp, ha, hn, hl, q⟩
def tyN : PyData → String
  | .none => "NoneType"
  | .bool _ => "bool"
  | .int _ => "int"
  | .str _ => "str"
  | .list _ => "list"
  | .dict _ => "dict"
  | .tuple _ => "tuple"
theorem Im.ty {v : V} {d : PyData} (h : Im H v d) : TyX K H v (.type (tyN d)) := by
  cases h with
  | non => exact .base .non
  | int i => exact .base (.int i)
  | str x _ => exact .base (.str x)
  | tup h1 _ => exact .base (.tup h1)
  | tupF h1 _ _ => exact .fTuple h1
theorem Im.cases4 {v : V} {d : PyData} (h : Im H v d) : d = .none ∨ (∃ i, d = .int i) ∨ (∃ z, d = .str z) ∨ ∃ ds, d = .tuple ds := by
  cases h with
  | non => exact .inl rfl
  | int i => exact .inr (.inl ⟨i, rfl⟩)
  | str x _ => exact .inr (.inr (.inl ⟨x, rfl⟩))
  | tup h1 _ => exact .inr (.inr (.inr ⟨_, rfl⟩))
  | tupF h1 _ _ => exact .inr (.inr (.inr ⟨_, rfl⟩))
def isTup : PyData → Bool
  | .tuple _ => true
  | _ => false
def isInt : PyData → Bool
  | .int _ => true
  | _ => false
def isStr : PyData → Bool
  | .str _ => true
  | _ => false
theorem rd_isTupD {v : V} {d : PyData} (h : Im H v d) (q : Q (.bl (isTup d)) H) : rIsi K [v, .ty "tuple"] H Q := by
  refine ⟨_, _, _, _, isTup d, rfl, .ty _, h.ty, ?_, q⟩
  rcases h.cases4 with rfl | ⟨i, rfl⟩ | ⟨z, rfl⟩ | ⟨ds, rfl⟩
  · exact kit_ty (show kitB "NoneType" "tuple" = some false by decide +kernel)
  · exact kit_ty (show kitB "int" "tuple" = some false by decide +kernel)
  · exact kit_ty (show kitB "str" "tuple" = some false by decide +kernel)
  · exact kit_ty (show kitB "tuple" "tuple" = some true by decide +kernel)
theorem rd_isIntD {v : V} {d : PyData} (h : Im H v d) (q : Q (.bl (isInt d)) H) : rIsi K [v, .ty "int"] H Q := by
  refine ⟨_, _, _, _, isInt d, rfl, .ty _, h.ty, ?_, q⟩
  rcases h.cases4 with rfl | ⟨i, rfl⟩ | ⟨z, rfl⟩ | ⟨ds, rfl⟩
  · exact kit_ty (show kitB "NoneType" "int" = some false by decide +kernel)
  · exact kit_ty (show kitB "int" "int" = some true by decide +kernel)
  · exact kit_ty (show kitB "str" "int" = some false by decide +kernel)
  · exact kit_ty (show kitB "tuple" "int" = some false by decide +kernel)
theorem rd_isStrD {v : V} {d : PyData} (h : Im H v d) (q : Q (.bl (isStr d)) H) : rIsi K [v, .ty "str"] H Q := by
  refine ⟨_, _, _, _, isStr d, rfl, .ty _, h.ty, ?_, q⟩
  rcases h.cases4 with rfl | ⟨i, rfl⟩ | ⟨z, rfl⟩ | ⟨ds, rfl⟩
  · exact kit_ty (show kitB "NoneType" "str" = some false by decide +kernel)
  · exact kit_ty (show kitB "int" "str" = some false by decide +kernel)
  · exact kit_ty (show kitB "str" "str" = some true by decide +kernel)
  · exact kit_ty (show kitB "tuple" "str" = some false by decide +kernel)
theorem rd_isBlI {i : Int} (q : Q (.bl false) H) : rIsi K [.int i, .ty "bool"] H Q := ⟨_, _, _, _, false, rfl, .ty _, .base (.int i), kit_ty (by decide +kernel), q⟩
end
/-! ### the forms, as functions of data -/
mutual
/-- no text longer than a thousand signs, no tuple longer than a thousand -/
def Sm : PyData → Prop
  | .none => True
  | .bool _ => True
  | .int _ => True
  | .str z => z.length ≤ 1000
  | .list _ => True
  | .dict _ => True
  | .tuple ds => ds.length ≤ 1000 ∧ SmAll ds
def SmAll : List PyData → Prop
  | [] => True
  | d :: ds => Sm d ∧ SmAll ds
end
theorem smAll_iff : ∀ {ds : List PyData}, SmAll ds ↔ ∀ d ∈ ds, Sm d
  | [] => ⟨fun _ d h => (by cases h), fun _ => trivial⟩
  | e :: ds => by
    show Sm e ∧ SmAll ds ↔ _
    rw [smAll_iff (ds := ds)]
    exact ⟨fun h d hd => by
      rcases List.mem_cons.mp hd with e | hd
      · rw [e]; exact h.1
      · exact h.2 d hd, fun h => ⟨h e List.mem_cons_self, fun d hd => h d (List.mem_cons_of_mem _ hd)⟩⟩
theorem sm_tup {ds : List PyData} : Sm (.tuple ds) ↔ ds.length ≤ 1000 ∧ ∀ d ∈ ds, Sm d := by
  show ds.length ≤ 1000 ∧ SmAll ds ↔ _
  rw [smAll_iff]
def wordD (ls : Str) (m : Int) : PyData → Bool
  | .str z => wordB z ls m
  | _ => false
def idD : PyData → Bool
  | .str z => idB z
  | _ => false
def intB (lo hi : Int) : PyData → Bool
  | .int i => decide (lo ≤ i) && decide (i ≤ hi)
  | _ => false
def tupB (lo hi : Int) : PyData → Bool
  | .tuple ds => decide (lo ≤ (ds.length : Int)) && decide ((ds.length : Int) ≤ hi)
  | _ => false
theorem tupB_some {lo hi : Int} {d : PyData} (h : tupB lo hi d = true) : ∃ ds, d = .tuple ds ∧ lo ≤ (ds.length : Int) ∧ (ds.length : Int) ≤ hi := by
  cases d with
  | tuple ds =>
    have h : (decide (lo ≤ (ds.length : Int)) && decide ((ds.length : Int) ≤ hi)) = true := h
    rw [Bool.and_eq_true, decide_eq_true_eq, decide_eq_true_eq] at h
    exact ⟨ds, rfl, h.1, h.2⟩
  | none => cases h
  | bool _ => cases h
  | int _ => cases h
  | str _ => cases h
  | list _ => cases h
  | dict _ => cases h
/-- each is less than the next -/
def ascD : List PyData → Bool
  | [] => true
  | a :: r => match r with
    | [] => true
    | b :: _ => dataLt a b && ascD r
theorem ascD_cons (a b : PyData) (r : List PyData) : ascD (a :: b :: r) = (dataLt a b && ascD (b :: r)) := rfl
/-- the tests of neighbours, one by one -/
def ltAt (ds : List PyData) (i : Nat) : Bool := match ds[i]?, ds[i + 1]? with
  | some a, some b => dataLt a b
  | _, _ => true
theorem ascD_at : ∀ (ds : List PyData), ascD ds = (List.range (ds.length - 1)).all (ltAt ds)
  | [] => rfl
  | [a] => rfl
  | a :: b :: r => by
    have ih := ascD_at (b :: r)
    rw [ascD_cons, ih, show (a :: b :: r).length - 1 = ((b :: r).length - 1) + 1 by simp, List.range_succ_eq_map, List.all_cons, List.all_map]
    rfl
/-- data of one kind: texts, or pairs of texts -/
def Alike1 (ds : List PyData) : Prop := ∀ d ∈ ds, ∀ e ∈ ds, alike d e = true ∧ d ≠ .none ∧ d.depth ≤ 60
theorem alike_ss1 (l : List (Str × Str)) : Alike1 (l.map ssD) := fun d hd e he => by
  obtain ⟨y, _, rfl⟩ := List.mem_map.mp hd
  obtain ⟨z, _, rfl⟩ := List.mem_map.mp he
  exact ⟨rfl, (by intro h; cases h), Nat.le_trans (dep_ss y) (by decide)⟩
theorem alike_s1 (l : List Str) : Alike1 (l.map PyData.str) := fun d hd e he => by
  obtain ⟨y, _, rfl⟩ := List.mem_map.mp hd
  obtain ⟨z, _, rfl⟩ := List.mem_map.mp he
  exact ⟨rfl, (by intro h; cases h), show 0 ≤ 60 by decide⟩
theorem id_str {d : PyData} (h : idD d = true) : ∃ z, d = .str z ∧ idB z = true := by
  cases d with
  | str z => exact ⟨z, rfl, h⟩
  | none => cases h
  | bool _ => cases h
  | int _ => cases h
  | tuple _ => cases h
  | list _ => cases h
  | dict _ => cases h
theorem ids_strs : ∀ {ds : List PyData}, ds.all idD = true → ∃ zs : List Str, ds = zs.map .str ∧ ∀ z ∈ zs, idB z = true
  | [], _ => ⟨[], rfl, by simp⟩
  | d :: ds, h => by
    rw [List.all_cons, Bool.and_eq_true] at h
    obtain ⟨zs, e, h2⟩ := ids_strs h.2
    obtain ⟨z, rfl, hz⟩ := id_str h.1
    refine ⟨z :: zs, by rw [e]; rfl, fun y hy => ?_⟩
    rcases List.mem_cons.mp hy with e | hy
    · rw [e]; exact hz
    · exact h2 y hy
/-- over two lists or two tuples, the elements told by their places -/
theorem lcg_zipG (T : List (Addr × Str)) {J : It} {n : Nat} {G : Hp → Prop} {σ : L2.St} {H : Hp} {Q : VK} {g : TG} {te : TE} {vs : List Nat} {xs ys : List V} (w : Walk J n G (YPair (fun i => xs[i]?) (fun i => ys[i]?))) (hG : ∀ H', Ext T [] H H' → G H') (hs : n < sizeLine) (f : Nat → V)
    (step : ∀ (i : Nat) (x y : V) (t : Addr), xs[i]? = some x → ys[i]? = some y → ∀ H', Ext T [] H H' → H' t = some (.tup [x, y]) → ∀ R : VK, (∀ H2, Ext T [] H' H2 → R (f i) H2) → g (.ref t) (wipe σ vs) H' fun σ2 H2 => wipe σ2 vs = wipe σ vs ∧ tYes σ2 H2 fun b H3 => if b = true then te σ2 H3 R else True)
    (q : ∀ D H2, Nw H D → Ext T [] H H2 → H2 D = some (.lst ((List.range n).map f)) → Q (.ref D) H2) : LcG J g tYes te vs σ H Q := fun D hD => by
  refine lc_it w (fun i H2 => Ext T [] H H2 ∧ H2 D = some (.lst ((List.range i).map f))) ⟨.new hD, upd_same⟩ (fun i H2 _ h => hG H2 h.1) (fun i x H1 H' hi h y => ?_) (fun H1 h => ?_)
  · obtain ⟨t, u, v, rfl, nt, rfl, hu, hv⟩ := y
    obtain ⟨e1, e2⟩ := h
    obtain ⟨nt2, e3, ht⟩ := alT (T := T) nt [u, v]
    generalize upd H1 t _ = H' at e3 ht ⊢
    have h3 := step i u v t hu hv H' (e1.trans e3) ht
    have hD2 := lst.x e2 e3
    have h4 := h3 (fun y H4 => ∃ acc, H4 D = some (.lst acc) ∧ acc.length < sizeLine ∧ (Ext T [] H (upd H4 D (.lst (acc ++ [y]))) ∧ (upd H4 D (.lst (acc ++ [y]))) D = some (.lst ((List.range (i + 1)).map f)))) (fun H2 e4 => by
      have hD3 := lst.x hD2 e4
      refine ⟨_, hD3, ?_, ((e1.trans e3).trans e4).own (.of hD) hD3, ?_⟩
      · rw [List.length_map, List.length_range]
        omega
      · rw [upd_same, List.range_succ, List.map_append]
        rfl)
    exact h4
  · exact q D H1 (.of hD) h.1 h.2
/-! ### forms over data -/
def els : PyData → List PyData
  | .tuple ds => ds
  | _ => []
def idsD (lo hi : Int) (d : PyData) : Bool := tupB lo hi d && ((els d).all idD && ascD (els d))
theorem int_some {lo hi : Int} {d : PyData} (h : intB lo hi d = true) : ∃ i, d = .int i ∧ lo ≤ i ∧ i ≤ hi := by
  cases d with
  | int i =>
    have h : (decide (lo ≤ i) && decide (i ≤ hi)) = true := h
    rw [Bool.and_eq_true, decide_eq_true_eq, decide_eq_true_eq] at h
    exact ⟨i, rfl, h.1, h.2⟩
  | none => cases h
  | bool _ => cases h
  | str _ => cases h
  | tuple _ => cases h
  | list _ => cases h
  | dict _ => cases h
theorem all_some {α : Type} {f : PyData → Bool} {g : α → PyData} {p : α → Prop} (h : ∀ d, f d = true → ∃ r, d = g r ∧ p r) : ∀ {ds : List PyData}, ds.all f = true → ∃ l : List α, ds = l.map g ∧ ∀ r ∈ l, p r
  | [], _ => ⟨[], rfl, fun _ h => by cases h⟩
  | d :: ds, ha => by
    rw [List.all_cons, Bool.and_eq_true] at ha
    obtain ⟨r, e, hr⟩ := h d ha.1
    obtain ⟨l, e2, hl⟩ := all_some h ha.2
    exact ⟨r :: l, by rw [e, e2]; rfl, fun r' hr' => by
      rcases List.mem_cons.mp hr' with rfl | hr'
      · exact hr
      · exact hl r' hr'⟩
/-- an item, of a slot that is hosts' or not -/
def fromB : PyData → PyData → Bool
  | .int a, b => intB a 10000 b
  | _, _ => false
def bareB (g a b : PyData) : Bool := match g, a, b with
  | .tuple [], .int x, .int y => decide (x = 0) && decide (y = 10000)
  | _, _, _ => false
def itemD (hosts : Bool) : PyData → Bool
  | .tuple [c, l, g, a, b] => idsD 0 4 c && (intB 1 1000 l && (idsD 0 3 g && (intB 0 10000 a && (fromB a b && (!hosts || bareB g a b)))))
  | _ => false
theorem Im.sok {H : Hp} {v : V} {z : Str} (h : Im H v (.str z)) : PyData.strOk z = true := by
  cases h with
  | str _ q => exact q
/-! ### the stretches in which a server is off -/
/-! ### lost keys, items that were published, keys that are known -/
/-! ### the form of lost keys -/
def two : PyData → PyData
  | .tuple (a :: b :: _) => .tuple [a, b]
  | d => d
/-! ### texts, pairs and triples in their order -/
abbrev sLt (x y : Str) : Prop := sg x < sg y
theorem sLt_tri {x y : Str} (h1 : ¬ sLt y x) (h2 : x ≠ y) : sLt x y := by
  rcases List.le_iff_lt_or_eq.mp (List.not_lt.mp h1) with h | h
  · exact h
  · exact absurd (sg_inj h) h2
theorem sLt_tri3 (x y : Str) : sLt x y ∨ x = y ∨ sLt y x := by
  by_cases h : sLt y x
  · exact .inr (.inr h)
  · by_cases e : x = y
    · exact .inr (.inl e)
    · exact .inl (sLt_tri h e)
theorem sLt_irr (x : Str) : ¬ sLt x x := List.lt_irrefl _
theorem sLt_tr {x y z : Str} (h1 : sLt x y) (h2 : sLt y z) : sLt x z := List.lt_trans h1 h2
theorem eqv_str (x y : Str) : PyData.eqv (.str x) (.str y) = decide (x = y) := by
  show (x == y) = _
  by_cases h : x = y
  · rw [h]
    simp
  · rw [decide_eq_false h]
    exact beq_false_of_ne h
def ssLt (p q : Str × Str) : Prop := sLt p.1 q.1 ∨ (p.1 = q.1 ∧ sLt p.2 q.2)
theorem lt_s {x y : Str} : dataLt (.str x) (.str y) = true ↔ sLt x y := by
  rw [dataLt_str, decide_eq_true_eq]
theorem lt_ss {p q : Str × Str} : dataLt (ssD p) (ssD q) = true ↔ ssLt p q := by
  unfold ssD ssLt
  rw [dataLt_pair rfl rfl, eqv_str, eqv_str]
  by_cases h : p.1 = q.1
  · rw [if_pos (decide_eq_true h), h]
    by_cases h2 : p.2 = q.2
    · rw [if_pos (decide_eq_true h2), h2]
      exact ⟨(fun h => by cases h), fun h => h.elim (fun h => absurd h (sLt_irr _)) fun h => absurd h.2 (sLt_irr _)⟩
    · rw [if_neg (by rw [decide_eq_false h2]; decide), lt_s]
      exact ⟨fun h => .inr ⟨rfl, h⟩, fun h => h.elim (fun h => absurd h (sLt_irr _)) fun h => h.2⟩
  · rw [if_neg (by rw [decide_eq_false h]; decide), lt_s]
    exact ⟨fun h => .inl h, fun hh => hh.elim id fun hh => absurd hh.1 h⟩
/-- sorting by «not less the other way» -/
theorem sorted_of {α : Type} {f : α → PyData} {L : α → α → Prop} (hL : ∀ a b, dataLt (f a) (f b) = true ↔ L a b) (ir : ∀ a, ¬ L a a) (tr : ∀ a b c, L a b → L b c → L a c) (tri : ∀ a b, L a b ∨ a = b ∨ L b a) (l : List α) :
    (l.mergeSort fun a b => dataLe false id (f a) (f b)).Pairwise fun a b => ¬ L b a := by
  have hle : ∀ a b, dataLe false id (f a) (f b) = true ↔ ¬ L b a := fun a b => by
    rw [← hL b a, PySem.W.dataLe_eq]
    show (!dataLt (f b) (f a)) = true ↔ _
    cases dataLt (f b) (f a) <;> simp
  have h := List.pairwise_mergeSort (le := fun a b => dataLe false id (f a) (f b)) (fun a b c h1 h2 => by
    rw [hle] at *
    intro h3
    rcases tri a b with h | h | h
    · exact h2 (tr _ _ _ h3 h)
    · subst h
      exact h2 h3
    · exact h1 h) (fun a b => by
    rw [Bool.or_eq_true, hle, hle]
    by_cases h : L b a
    · exact .inr fun h2 => ir _ (tr _ _ _ h h2)
    · exact .inl h) l
  exact h.imp fun {a b} h => (hle a b).mp h
theorem ss_irr (p : Str × Str) : ¬ ssLt p p := fun h => h.elim (sLt_irr _) fun h => sLt_irr _ h.2
theorem ss_tr (a b c : Str × Str) (h1 : ssLt a b) (h2 : ssLt b c) : ssLt a c := by
  rcases h1 with h1 | ⟨e1, h1⟩ <;> rcases h2 with h2 | ⟨e2, h2⟩
  · exact .inl (sLt_tr h1 h2)
  · exact .inl (by rw [← e2]; exact h1)
  · exact .inl (by rw [e1]; exact h2)
  · exact .inr ⟨e1.trans e2, sLt_tr h1 h2⟩
theorem ss_tri (a b : Str × Str) : ssLt a b ∨ a = b ∨ ssLt b a := by
  rcases sLt_tri3 a.1 b.1 with h | h | h
  · exact .inl (.inl h)
  · rcases sLt_tri3 a.2 b.2 with h2 | h2 | h2
    · exact .inl (.inr ⟨h, h2⟩)
    · exact .inr (.inl (Prod.ext h h2))
    · exact .inr (.inr (.inr ⟨h.symm, h2⟩))
  · exact .inr (.inr (.inl h))
/-- a list told by its pairs in strict order ascends -/
theorem ascD_of {α : Type} {f : α → PyData} : ∀ {l : List α}, l.Pairwise (fun a b => dataLt (f a) (f b) = true) → ascD (l.map f) = true
  | [], _ => rfl
  | [a], _ => rfl
  | a :: b :: r, h => by
    have h1 := List.pairwise_cons.mp h
    show ascD (f a :: f b :: r.map f) = true
    rw [ascD_cons, h1.1 b List.mem_cons_self, Bool.true_and]
    exact ascD_of (l := b :: r) h1.2
/-! ### a drawn realm has the form -/
theorem pair_srtS {l : List Str} (hn : l.Nodup) : (srtS l).Pairwise fun a b => dataLt (.str a) (.str b) = true := by
  have h1 := sorted_of (f := PyData.str) (fun a b => lt_s) sLt_irr (fun _ _ _ => sLt_tr) sLt_tri3 l
  have h2 : (srtS l).Nodup := (srtS_perm l).nodup_iff.mpr hn
  refine (List.pairwise_and_iff.mpr ⟨h1, h2⟩).imp fun {a b} h => ?_
  rw [lt_s]
  rcases sLt_tri3 a b with g | g | g
  · exact g
  · exact absurd g h.2
  · exact absurd g h.1
theorem asc_srtS {l : List Str} (hn : l.Nodup) : ascD ((srtS l).map .str) = true := ascD_of (pair_srtS hn)
theorem asc_sub {ss l : List (Str × Str)} (hs : ss.Sublist (srtSS l)) (hn : ss.Nodup) : ascD (ss.map ssD) = true := by
  have h1 := (sorted_of (f := ssD) (fun a b => lt_ss) ss_irr ss_tr ss_tri l).sublist hs
  refine ascD_of ((List.pairwise_and_iff.mpr ⟨h1, hn⟩).imp fun {a b} h => ?_)
  rw [lt_ss]
  rcases ss_tri a b with g | g | g
  · exact g
  · exact absurd g h.2
  · exact absurd g h.1
/-! ### a label that no name ends with -/
/-! ### realms out of form -/
/-! ### they are small -/
theorem sn_tup {ds : List PyData} {k : Nat} (hl : ds.length ≤ 1000) (hk : k + 1 ≤ 40) (h : ∀ d ∈ ds, Sm d ∧ d.depth ≤ k) : Sm (.tuple ds) ∧ PyData.depth (.tuple ds) ≤ k + 1 := by
  refine ⟨sm_tup.mpr ⟨hl, fun d hd => (h d hd).1⟩, ?_⟩
  show PyData.depthAll ds + 1 ≤ k + 1
  have key : ∀ ds : List PyData, (∀ d ∈ ds, d.depth ≤ k) → PyData.depthAll ds ≤ k := by
    intro ds
    induction ds with
    | nil => intro _; exact Nat.zero_le _
    | cons d ds ih => exact fun h => Nat.max_le.mpr ⟨h d List.mem_cons_self, ih fun e he => h e (List.mem_cons_of_mem _ he)⟩
  have := key ds fun d hd => (h d hd).2
  omega
abbrev SnK (k : Nat) (d : PyData) : Prop := Sm d ∧ d.depth ≤ k
theorem snk_up {j k : Nat} {d : PyData} (h : SnK j d) (hk : j ≤ k) : SnK k d := ⟨h.1, Nat.le_trans h.2 hk⟩
theorem snk_str {z : Str} (h : z.length ≤ 1000) : SnK 0 (.str z) := ⟨h, Nat.le_refl _⟩
theorem snk_int (i : Int) : SnK 0 (.int i) := ⟨trivial, Nat.le_refl _⟩
theorem snk2 {k : Nat} {a b : PyData} (ha : SnK k a) (hb : SnK k b) (hk : k + 1 ≤ 40) : SnK (k + 1) (.tuple [a, b]) := sn_tup (by show 2 ≤ 1000; decide) hk fun d hd => by
  rcases List.mem_cons.mp hd with rfl | hd
  · exact ha
  · rw [List.mem_singleton.mp hd]
    exact hb
theorem snk1 {k : Nat} {a : PyData} (ha : SnK k a) (hk : k + 1 ≤ 40) : SnK (k + 1) (.tuple [a]) := sn_tup (by show 1 ≤ 1000; decide) hk fun d hd => by
  rw [List.mem_singleton.mp hd]
  exact ha
theorem snk0 {k : Nat} (hk : k + 1 ≤ 40) : SnK (k + 1) (.tuple []) := sn_tup (by show 0 ≤ 1000; decide) hk fun d hd => by cases hd
theorem snk3 {k : Nat} {a b c : PyData} (ha : SnK k a) (hb : SnK k b) (hc : SnK k c) (hk : k + 1 ≤ 40) : SnK (k + 1) (.tuple [a, b, c]) := sn_tup (by show 3 ≤ 1000; decide) hk fun d hd => by
  rcases List.mem_cons.mp hd with rfl | hd
  · exact ha
  rcases List.mem_cons.mp hd with rfl | hd
  · exact hb
  · rw [List.mem_singleton.mp hd]
    exact hc
/-! ### items out of form -/
def cI (i : Itm) : PyData := .tuple (i.c.map .str)
def gI (i : Itm) : PyData := .tuple (i.g.map .str)
theorem sn_strs {zs : List Str} (hl : zs.length ≤ 1000) (h : ∀ z ∈ zs, z.length ≤ 1000) : SnK 1 (.tuple (zs.map .str)) := sn_tup (by rw [List.length_map]; exact hl) (by decide) fun d hd => by
  obtain ⟨z, hz, rfl⟩ := List.mem_map.mp hd
  exact snk_str (h z hz)
/-! ### a drawn item has the form -/
theorem ids_okN {lo hi : Nat} {an : List Str} (h : ∃ ys, an = srtS ys ∧ ys.Nodup ∧ (∀ y ∈ ys, idB y = true) ∧ ys.length ≤ hi) (hlo : lo = 0) : idsD lo hi (.tuple (an.map .str)) = true := by
  obtain ⟨ys, rfl, hn, hi', h2⟩ := h
  have hl := (srtS_perm ys).length_eq
  unfold idsD
  rw [Bool.and_eq_true, Bool.and_eq_true]
  refine ⟨?_, ?_, asc_srtS hn⟩
  · show (decide ((lo : Int) ≤ (((srtS ys).map PyData.str).length : Int)) && decide ((((srtS ys).map PyData.str).length : Int) ≤ (hi : Int))) = true
    rw [Bool.and_eq_true, decide_eq_true_eq, decide_eq_true_eq, List.length_map]
    omega
  · show ((srtS ys).map PyData.str).all idD = true
    rw [List.all_map, List.all_eq_true]
    exact fun y hy => hi' y ((srtS_perm ys).mem_iff.mp hy)
theorem int_yes {lo hi i : Int} (h : lo ≤ i ∧ i ≤ hi) : intB lo hi (.int i) = true := by
  show (decide (lo ≤ i) && decide (i ≤ hi)) = true
  rw [decide_eq_true h.1, decide_eq_true h.2]
  rfl
theorem item_okD {s : Sl} {i : Itm} (h : ItmOk s i) {hb : Bool} (hh : hb = true → i.g = [] ∧ i.a = 0 ∧ i.b = 10000) : itemD hb (itD i) = true := by
  show (idsD 0 4 (.tuple (i.c.map .str)) && (intB 1 1000 (.int i.li) && (idsD 0 3 (.tuple (i.g.map .str)) && (intB 0 10000 (.int i.a) && (intB i.a 10000 (.int i.b) && (!hb || bareB (.tuple (i.g.map .str)) (.int i.a) (.int i.b))))))) = true
  have hc : idsD 0 4 (.tuple (i.c.map .str)) = true := ids_okN (lo := 0) (hi := 4) h.c rfl
  have hg : idsD 0 3 (.tuple (i.g.map .str)) = true := ids_okN (lo := 0) (hi := 3) h.g rfl
  have hab := h.ab
  rw [hc, hg, int_yes h.li, int_yes ⟨hab.1, by omega⟩, int_yes hab.2, Bool.true_and, Bool.true_and, Bool.true_and, Bool.true_and, Bool.true_and]
  cases hb with
  | false => rfl
  | true =>
    obtain ⟨e1, e2, e3⟩ := hh rfl
    rw [e1, e2, e3]
    rfl
theorem itm_sn {s : Sl} {i : Itm} (h : ItmOk s i) : SnK 1 (cI i) ∧ SnK 1 (gI i) := by
  obtain ⟨cs, e1, n1, i1, l1⟩ := h.c
  obtain ⟨gs, e2, n2, i2, l2⟩ := h.g
  refine ⟨sn_strs ?_ fun z hz => ?_, sn_strs ?_ fun z hz => ?_⟩
  · rw [e1, (srtS_perm cs).length_eq]; omega
  · rw [e1] at hz
    have := id_len (i1 z ((srtS_perm cs).mem_iff.mp hz))
    omega
  · rw [e2, (srtS_perm gs).length_eq]; omega
  · rw [e2] at hz
    have := id_len (i2 z ((srtS_perm gs).mem_iff.mp hz))
    omega
/-! ### forms of states, deeds, plans over data -/
def strOf : PyData → Str
  | .str z => z
  | _ => ⟨#[]⟩
theorem map_strOf (zs : List Str) : (zs.map PyData.str).map strOf = zs := by
  rw [List.map_map]
  exact List.map_id zs
def decSl : PyData → Option Sl
  | .tuple [.str k, .str z] => if k = Str.ofString "keys" then some (.k z) else if k = Str.ofString "link" then some (.l z) else if k = Str.ofString "hosts" then some (.h z) else none
  | .tuple [.str k, .str n, .str i] => if k = Str.ofString "set" then some (.s n i) else none
  | _ => none
theorem kw_ne : Str.ofString "link" ≠ Str.ofString "keys" ∧ Str.ofString "hosts" ≠ Str.ofString "keys" ∧ Str.ofString "hosts" ≠ Str.ofString "link" := by decide +kernel
theorem decSl_sl (s : Sl) : decSl (slD s) = some s := by
  cases s with
  | k z =>
    show (if Str.ofString "keys" = Str.ofString "keys" then some (Sl.k z) else if Str.ofString "keys" = Str.ofString "link" then some (Sl.l z) else if Str.ofString "keys" = Str.ofString "hosts" then some (Sl.h z) else none) = _
    rw [if_pos rfl]
  | l z =>
    show (if Str.ofString "link" = Str.ofString "keys" then some (Sl.k z) else if Str.ofString "link" = Str.ofString "link" then some (Sl.l z) else if Str.ofString "link" = Str.ofString "hosts" then some (Sl.h z) else none) = _
    rw [if_neg kw_ne.1, if_pos rfl]
  | h z =>
    show (if Str.ofString "hosts" = Str.ofString "keys" then some (Sl.k z) else if Str.ofString "hosts" = Str.ofString "link" then some (Sl.l z) else if Str.ofString "hosts" = Str.ofString "hosts" then some (Sl.h z) else none) = _
    rw [if_neg kw_ne.2.1, if_neg kw_ne.2.2, if_pos rfl]
  | s n k =>
    show (if Str.ofString "set" = Str.ofString "set" then some (Sl.s n k) else none) = _
    rw [if_pos rfl]
theorem decSl_some {d : PyData} {s : Sl} (h : decSl d = some s) : d = slD s := by
  unfold decSl at h
  split at h
  · split at h
    · rename_i e
      injection h with h
      rw [← h, e]
      rfl
    · split at h
      · rename_i e
        injection h with h
        rw [← h, e]
        rfl
      · split at h
        · rename_i e
          injection h with h
          rw [← h, e]
          rfl
        · cases h
  · split at h
    · rename_i e
      injection h with h
      rw [← h, e]
      rfl
    · cases h
  · cases h
def slotB (R : Rm) (d : PyData) : Bool := match decSl d with
  | some s => decide (s ∈ slotsR R)
  | none => false
theorem slotB_iff {R : Rm} {d : PyData} : d ∈ (slotsR R).map slD ↔ slotB R d = true := by
  constructor
  · intro h
    obtain ⟨s, hs, rfl⟩ := List.mem_map.mp h
    unfold slotB
    rw [decSl_sl]
    exact decide_eq_true hs
  · intro h
    unfold slotB at h
    cases e : decSl d with
    | none =>
      rw [e] at h
      cases h
    | some s =>
      rw [e] at h
      rw [decSl_some e]
      exact List.mem_map_of_mem (of_decide_eq_true h)
theorem slotB_some {R : Rm} {d : PyData} (h : slotB R d = true) : ∃ s, s ∈ slotsR R ∧ d = slD s := by
  obtain ⟨s, hs, e⟩ := List.mem_map.mp (slotB_iff.mpr h)
  exact ⟨s, hs, e.symm⟩
def hostSl : Sl → Bool
  | .h _ => true
  | _ => false
def hostW (d : PyData) : Bool := match decSl d with
  | some s => hostSl s
  | none => false
theorem hostW_sl (s : Sl) : hostW (slD s) = hostSl s := by
  unfold hostW
  rw [decSl_sl]
def tlZ (R : Rm) : List Str := R.zs.tail.map (·.1)
def inZ (R : Rm) : PyData → Bool
  | .str y => decide (y ∈ tlZ R)
  | _ => false
theorem inZ_iff {R : Rm} {d : PyData} : d ∈ (tlZ R).map PyData.str ↔ inZ R d = true := by
  constructor
  · intro h
    obtain ⟨z, hz, rfl⟩ := List.mem_map.mp h
    exact decide_eq_true hz
  · intro h
    cases d with
    | str z => exact List.mem_map_of_mem (of_decide_eq_true h)
    | none => cases h
    | bool _ => cases h
    | int _ => cases h
    | tuple _ => cases h
    | list _ => cases h
    | dict _ => cases h
def srvD (R : Rm) : PyData → Bool
  | .tuple [a, z] => idD a && inZ R z
  | _ => false
theorem srvD_some {R : Rm} {d : PyData} (h : srvD R d = true) : ∃ p : Str × Str, d = ssD p ∧ idB p.1 = true ∧ p.2 ∈ tlZ R := by
  unfold srvD at h
  split at h
  · rename_i a z
    rw [Bool.and_eq_true] at h
    obtain ⟨x, rfl, hx⟩ := id_str h.1
    obtain ⟨y, hy, rfl⟩ := List.mem_map.mp (inZ_iff.mpr h.2)
    exact ⟨(x, y), rfl, hx, hy⟩
  · cases h
theorem srvD_ss {R : Rm} {p : Str × Str} (h1 : idB p.1 = true) (h2 : p.2 ∈ tlZ R) : srvD R (ssD p) = true := by
  show (idB p.1 && decide (p.2 ∈ tlZ R)) = true
  rw [h1, decide_eq_true h2]
  rfl
theorem srvs_rows {R : Rm} {ds : List PyData} (h : ds.all (srvD R) = true) : ∃ l : List (Str × Str), ds = l.map ssD ∧ ∀ p ∈ l, idB p.1 = true ∧ p.2 ∈ tlZ R := all_some (fun _ => srvD_some) h
def isOnB (s : Sta) : PyData → PyData → Bool
  | .str a, .str b => decide ((a, b) ∈ s.on)
  | _, _ => false
theorem isOnB_iff {s : Sta} {p x : PyData} : PyData.tuple [p, x] ∈ s.on.map ssD ↔ isOnB s p x = true := by
  constructor
  · intro h
    obtain ⟨q, hq, e⟩ := List.mem_map.mp h
    have e : PyData.tuple [.str q.1, .str q.2] = .tuple [p, x] := e
    injection e with e
    injection e with e1 e
    injection e with e2 _
    rw [← e1, ← e2]
    exact decide_eq_true hq
  · intro h
    unfold isOnB at h
    split at h
    · exact List.mem_map.mpr ⟨_, of_decide_eq_true h, rfl⟩
    · cases h
def wB (w : Str) : PyData → Bool
  | .str z => decide (z = w)
  | _ => false
theorem wB_iff {w : Str} {d : PyData} : d = .str w ↔ wB w d = true := by
  constructor
  · rintro rfl
    exact decide_eq_true rfl
  · intro h
    cases d with
    | str z => rw [of_decide_eq_true (p := z = w) h]
    | none => cases h
    | bool _ => cases h
    | int _ => cases h
    | tuple _ => cases h
    | list _ => cases h
    | dict _ => cases h
def deedB (R : Rm) (s : Sta) : PyData → Bool
  | .tuple [w, p, x] => if wB "put" w = true then slotB R p && itemD (hostW p) x else if wB "on" w = true then srvD R (.tuple [p, x]) && !isOnB s p x else wB "off" w && isOnB s p x
  | _ => false
def rowsB : List Sl → List PyData → Bool
  | [], [] => true
  | s :: r, .tuple [a, b] :: ds => decide (decSl a = some s) && (itemD (hostSl s) b && rowsB r ds)
  | _, _ => false
def itemsB (R : Rm) : PyData → Bool
  | .tuple ds => rowsB (slotsR R) ds
  | _ => false
def stateB (R : Rm) : PyData → Bool
  | .tuple [i, o] => itemsB R i && (isTup o && ((els o).all (srvD R) && ascD (els o)))
  | _ => false
theorem rowsB_len : ∀ {ss : List Sl} {ds : List PyData}, rowsB ss ds = true → ds.length = ss.length
  | [], [], _ => rfl
  | [], _ :: _, h => by simp [rowsB] at h
  | s :: r, [], h => by simp [rowsB] at h
  | s :: r, d :: ds, h => by
    unfold rowsB at h
    split at h
    · rename_i e1 e2
      cases e1
    · rename_i e1 e2
      injection e1 with e1 e3
      injection e2 with e2 e4
      subst e1 e3 e4
      rw [Bool.and_eq_true, Bool.and_eq_true] at h
      rw [List.length_cons, List.length_cons, rowsB_len h.2.2]
    · cases h
/-- the steps of the walk over the items -/
theorem rowsB_pairs : ∀ {ss : List Sl} {ds : List PyData}, rowsB ss ds = true → ds.all (tupB 2 2) = true
  | [], [], _ => rfl
  | [], _ :: _, h => by simp [rowsB] at h
  | s :: r, [], h => by simp [rowsB] at h
  | s :: r, d :: ds, h => by
    unfold rowsB at h
    split at h
    · rename_i e1 e2
      cases e1
    · rename_i e1 e2
      injection e1 with e1 e3
      injection e2 with e2 e4
      subst e1 e2 e3 e4
      rw [Bool.and_eq_true, Bool.and_eq_true] at h
      rw [List.all_cons, rowsB_pairs h.2.2]
      rfl
    · cases h
theorem pair_of {d : PyData} (h : tupB 2 2 d = true) : ∃ a b, d = .tuple [a, b] := by
  obtain ⟨ds, rfl, h1, h2⟩ := tupB_some h
  match ds, h1, h2 with
  | [a, b], _, _ => exact ⟨a, b, rfl⟩
  | [], h1, _ => exact absurd h1 (by decide)
  | [_], h1, _ => exact absurd h1 (by simp)
  | _ :: _ :: _ :: _, _, h2 => simp only [List.length_cons] at h2; omega
def prD (p : PyData × PyData) : PyData := .tuple [p.1, p.2]
theorem pairs_map : ∀ {ds : List PyData}, ds.all (tupB 2 2) = true → ∃ l : List (PyData × PyData), ds = l.map prD := fun h => by
  obtain ⟨l, e, _⟩ := all_some (f := tupB 2 2) (g := prD) (p := fun _ => True) (fun d hd => by
    obtain ⟨a, b, e⟩ := pair_of hd
    exact ⟨(a, b), e, trivial⟩) h
  exact ⟨l, e⟩
theorem rowsB_firsts : ∀ {ss : List Sl} {l : List (PyData × PyData)}, rowsB ss (l.map prD) = true → l.map (·.1) = ss.map slD
  | [], [], _ => rfl
  | [], _ :: _, h => by simp [rowsB] at h
  | s :: r, [], h => by simp [rowsB] at h
  | s :: r, p :: l, h => by
    have h : (decide (decSl p.1 = some s) && (itemD (hostSl s) p.2 && rowsB r (l.map prD))) = true := h
    rw [Bool.and_eq_true, Bool.and_eq_true] at h
    rw [List.map_cons, List.map_cons, rowsB_firsts h.2.2, decSl_some (of_decide_eq_true h.1)]
/-- pairs whose firsts are the slots -/
theorem rowsB_of : ∀ {ss : List Sl} {l : List (PyData × PyData)}, l.map (·.1) = ss.map slD → rowsB ss (l.map prD) = (l.all fun p => itemD (hostW p.1) p.2)
  | [], [], _ => rfl
  | [], _ :: _, h => by cases h
  | s :: r, [], h => by cases h
  | s :: r, p :: l, h => by
    rw [List.map_cons, List.map_cons] at h
    injection h with h1 h2
    show (decide (decSl p.1 = some s) && (itemD (hostSl s) p.2 && rowsB r (l.map prD))) = _
    rw [List.all_cons, rowsB_of h2, h1, decSl_sl, decide_eq_true rfl, hostW_sl]
    rfl
theorem stateB_no {R : Rm} {d : PyData} (h : tupB 2 2 d = false) : stateB R d = false := by
  unfold stateB
  split
  · cases h
  · rfl
theorem deedB_no {R : Rm} {s : Sta} {d : PyData} (h : tupB 3 3 d = false) : deedB R s d = false := by
  unfold deedB
  split
  · cases h
  · rfl
theorem srvD_no {R : Rm} {d : PyData} (h : tupB 2 2 d = false) : srvD R d = false := by
  unfold srvD
  split
  · cases h
  · rfl
theorem trip_of {d : PyData} (h : tupB 3 3 d = true) : ∃ a b c, d = .tuple [a, b, c] := by
  obtain ⟨ds, rfl, h1, h2⟩ := tupB_some h
  match ds, h1, h2 with
  | [a, b, c], _, _ => exact ⟨a, b, c, rfl⟩
  | [], h1, _ => exact absurd h1 (by decide)
  | [_], h1, _ => exact absurd h1 (by simp)
  | [_, _], h1, _ => exact absurd h1 (by simp)
  | _ :: _ :: _ :: _ :: _, _, h2 => simp only [List.length_cons] at h2; omega
/-! ### deeds out of data -/
def itOf : PyData → Itm
  | .tuple [.tuple c, .int l, .tuple g, .int a, .int b] => ⟨c.map strOf, l, g.map strOf, a, b⟩
  | _ => ⟨[], 0, [], 0, 0⟩
theorem ids_some {lo hi : Int} {d : PyData} (h : idsD lo hi d = true) : ∃ zs : List Str, d = .tuple (zs.map .str) := by
  unfold idsD at h
  rw [Bool.and_eq_true, Bool.and_eq_true] at h
  obtain ⟨ds, rfl, _⟩ := tupB_some h.1
  obtain ⟨zs, e, _⟩ := ids_strs (ds := ds) h.2.1
  exact ⟨zs, by rw [e]⟩
theorem itOf_it {hb : Bool} {d : PyData} (h : itemD hb d = true) : itD (itOf d) = d := by
  unfold itemD at h
  split at h
  · rename_i c l g a b
    rw [Bool.and_eq_true, Bool.and_eq_true, Bool.and_eq_true, Bool.and_eq_true, Bool.and_eq_true] at h
    obtain ⟨h1, h2, h3, h4, h5, _⟩ := h
    obtain ⟨cs, rfl⟩ := ids_some h1
    obtain ⟨gs, rfl⟩ := ids_some h3
    obtain ⟨li, rfl, _⟩ := int_some h2
    obtain ⟨ai, rfl, _⟩ := int_some h4
    obtain ⟨bi, rfl, _⟩ := int_some (show intB ai 10000 b = true from h5)
    show itD ⟨(cs.map PyData.str).map strOf, li, (gs.map PyData.str).map strOf, ai, bi⟩ = _
    rw [map_strOf, map_strOf]
    rfl
  · cases h
def ddOf : PyData → Dd
  | .tuple [w, p, x] => if wB "put" w = true then .put ((decSl p).getD (.k dotS)) (itOf x) else if wB "on" w = true then .on (strOf p) (strOf x) else .off (strOf p) (strOf x)
  | _ => .off dotS dotS
theorem isOnB_some {s : Sta} {p x : PyData} (h : isOnB s p x = true) : p = .str (strOf p) ∧ x = .str (strOf x) := by
  unfold isOnB at h
  split at h
  · exact ⟨rfl, rfl⟩
  · cases h
theorem ddOf_dd {R : Rm} {s : Sta} {d : PyData} (h : deedB R s d = true) : ddD (ddOf d) = d := by
  unfold deedB at h
  split at h
  · rename_i w p x
    show ddD (if wB "put" w = true then .put ((decSl p).getD (.k dotS)) (itOf x) else if wB "on" w = true then .on (strOf p) (strOf x) else .off (strOf p) (strOf x)) = _
    by_cases h1 : wB "put" w = true
    · rw [if_pos h1] at h ⊢
      rw [Bool.and_eq_true] at h
      obtain ⟨sl, _, rfl⟩ := slotB_some h.1
      rw [decSl_sl, wB_iff.mpr h1]
      show PyData.tuple [.str "put", slD sl, itD (itOf x)] = _
      rw [itOf_it h.2]
    · rw [if_neg h1] at h ⊢
      by_cases h2 : wB "on" w = true
      · rw [if_pos h2] at h ⊢
        rw [Bool.and_eq_true] at h
        obtain ⟨q, e, _⟩ := srvD_some h.1
        have e : PyData.tuple [p, x] = .tuple [.str q.1, .str q.2] := e
        injection e with e
        injection e with e1 e
        injection e with e2 _
        rw [wB_iff.mpr h2, e1, e2]
        rfl
      · rw [if_neg h2] at h ⊢
        rw [Bool.and_eq_true] at h
        obtain ⟨e1, e2⟩ := isOnB_some h.2
        rw [wB_iff.mpr h.1]
        show PyData.tuple [.str "off", .str (strOf p), .str (strOf x)] = _
        rw [← e1, ← e2]
  · cases h
/-- deeds that are allowed -/
theorem wB_put : wB "on" (.str (Str.ofString "put")) = false ∧ wB "put" (.str (Str.ofString "on")) = false ∧ wB "put" (.str (Str.ofString "off")) = false ∧ wB "on" (.str (Str.ofString "off")) = false := by decide +kernel
theorem deedB_eq {R : Rm} {s : Sta} {w p x : PyData} : deedB R s (.tuple [w, p, x]) = if wB "put" w = true then slotB R p && itemD (hostW p) x else if wB "on" w = true then srvD R (.tuple [p, x]) && !isOnB s p x else wB "off" w && isOnB s p x := rfl
theorem deed_put {R : Rm} {s : Sta} {sl : Sl} {i : Itm} (h : sl ∈ slotsR R) (hi : ItmOk sl i) : deedB R s (ddD (.put sl i)) = true := by
  rw [show ddD (.put sl i) = .tuple [.str (Str.ofString "put"), slD sl, itD i] from rfl, deedB_eq, if_pos (wB_iff.mp rfl), slotB_iff.mp (List.mem_map_of_mem h), hostW_sl, item_okD hi fun hb => by
    cases sl with
    | h z => exact hi.h z rfl
    | k z => cases hb
    | l z => cases hb
    | s n k => cases hb]
  rfl
theorem deed_ok {R : Rm} {s : Sta} {d : Dd} (h : DdOk R d) (ho : okD s d) : deedB R s (ddD d) = true := by
  cases d with
  | put sl i => exact deed_put h.1 h.2
  | on x z =>
    rw [show ddD (.on x z) = .tuple [.str (Str.ofString "on"), .str x, .str z] from rfl, deedB_eq, if_neg (by rw [wB_put.2.1]; decide), if_pos (wB_iff.mp rfl), show srvD R (.tuple [.str x, .str z]) = true from srvD_ss (p := (x, z)) h.1 h.2, show isOnB s (.str x) (.str z) = false from decide_eq_false ho]
    rfl
  | off x z =>
    rw [show ddD (.off x z) = .tuple [.str (Str.ofString "off"), .str x, .str z] from rfl, deedB_eq, if_neg (by rw [wB_put.2.2.1]; decide), if_neg (by rw [wB_put.2.2.2]; decide), wB_iff.mp rfl, show isOnB s (.str x) (.str z) = true from decide_eq_true ho]
    rfl
/-! ### plans -/
def intOf : PyData → Int
  | .int i => i
  | _ => 0
def planF (R : Rm) : Sta → Int → List PyData → Bool
  | _, _, [] => true
  | s, last, .tuple [m, d] :: r => intB (last + 1) 10000 m && (deedB R s d && planF R (aft s (ddOf d)) (intOf m) r)
  | _, _, _ :: _ => false
def planB (R : Rm) (s : Sta) (d : PyData) : Bool := tupB 0 12 d && planF R s 0 (els d)
theorem planF_cons {R : Rm} {s : Sta} {last : Int} {m d : PyData} {r : List PyData} : planF R s last (.tuple [m, d] :: r) = (intB (last + 1) 10000 m && (deedB R s d && planF R (aft s (ddOf d)) (intOf m) r)) := rfl
theorem planF_no {R : Rm} {s : Sta} {last : Int} {d : PyData} {r : List PyData} (h : tupB 2 2 d = false) : planF R s last (d :: r) = false := by
  unfold planF
  split
  · rename_i e
    cases e
  · rename_i e
    injection e with e _
    subst e
    cases h
  · rfl
theorem ddD_injG {a b : Dd} (h : ddD a = ddD b) : a = b := by
  have k : Str.ofString "put" ≠ Str.ofString "on" ∧ Str.ofString "put" ≠ Str.ofString "off" ∧ Str.ofString "on" ≠ Str.ofString "off" := by decide +kernel
  have t3 : ∀ {w1 p1 x1 w2 p2 x2 : PyData}, PyData.tuple [w1, p1, x1] = .tuple [w2, p2, x2] → w1 = w2 ∧ p1 = p2 ∧ x1 = x2 := by
    intro w1 p1 x1 w2 p2 x2 h
    injection h with h
    injection h with h1 h
    injection h with h2 h
    injection h with h3 _
    exact ⟨h1, h2, h3⟩
  have si : ∀ {x y : Str}, PyData.str x = .str y → x = y := fun h => by injection h
  cases a with
  | put s i =>
    cases b with
    | put s2 j =>
      obtain ⟨_, h2, h3⟩ := t3 h
      rw [slD_inj h2, itD_inj h3]
    | on x z => exact absurd (si (t3 h).1) k.1
    | off x z => exact absurd (si (t3 h).1) k.2.1
  | on x z =>
    cases b with
    | put s2 j => exact absurd (si (t3 h).1).symm k.1
    | on y v =>
      obtain ⟨_, h2, h3⟩ := t3 h
      rw [si h2, si h3]
    | off y v => exact absurd (si (t3 h).1) k.2.2
  | off x z =>
    cases b with
    | put s2 j => exact absurd (si (t3 h).1).symm k.2.1
    | on y v => exact absurd (si (t3 h).1).symm k.2.2
    | off y v =>
      obtain ⟨_, h2, h3⟩ := t3 h
      rw [si h2, si h3]
theorem ddOf_of {R : Rm} {s : Sta} {d : Dd} (h : deedB R s (ddD d) = true) : ddOf (ddD d) = d := ddD_injG (ddOf_dd h)
/-- a plan of deeds that are allowed, at moments that ascend -/
theorem planF_ok {R : Rm} : ∀ {pl : List (Int × Dd)} {s : Sta} {last : Int}, (∀ p ∈ pl, DdOk R p.2) → OnOk s (pl.map (·.2)) → pl.Pairwise (fun a b => a.1 < b.1) → (∀ p ∈ pl, last < p.1 ∧ p.1 ≤ 10000) → planF R s last (pl.map plD) = true
  | [], _, _, _, _, _, _ => rfl
  | p :: pl, s, last, hd, ho, ha, hm => by
    have h0 := hm p List.mem_cons_self
    have hb := deed_ok (hd p List.mem_cons_self) ho.1
    show (intB (last + 1) 10000 (.int p.1) && (deedB R s (ddD p.2) && planF R (aft s (ddOf (ddD p.2))) p.1 (pl.map plD))) = true
    rw [int_yes ⟨by omega, h0.2⟩, hb, ddOf_of hb, planF_ok (fun q hq => hd q (List.mem_cons_of_mem _ hq)) ho.2 (List.pairwise_cons.mp ha).2 fun q hq => ⟨(List.pairwise_cons.mp ha).1 q hq, (hm q (List.mem_cons_of_mem _ hq)).2⟩]
    rfl
/-! ### states and deeds out of form -/
def I0 (s : Sta) : PyData := .tuple (s.its.map rowD2)
def O0 (s : Sta) : PyData := .tuple (s.on.map ssD)
def nsz : Str := Str.ofString "no.such.zone.at.all"
theorem nsz_no : nameB nsz = false := by decide +kernel
theorem tlZ_name {R : Rm} (hR : RmIn R) {z : Str} (h : z ∈ tlZ R) : nameB z = true ∧ z ≠ dotS := by
  obtain ⟨lag, rest, e, hn⟩ := hR.ne
  have h : z ∈ R.zs.tail.map (·.1) := h
  obtain ⟨y, hy, rfl⟩ := List.mem_map.mp h
  refine ⟨hR.nm y (List.mem_of_mem_tail hy), ?_⟩
  rw [e] at hy
  exact hn y hy
theorem inZ_dot {R : Rm} (hR : RmIn R) : inZ R (.str dotS) = false := decide_eq_false fun h => (tlZ_name hR h).2 rfl
theorem inZ_nsz {R : Rm} (hR : RmIn R) : inZ R (.str nsz) = false := decide_eq_false fun h => by
  have := (tlZ_name hR h).1
  rw [nsz_no] at this
  cases this
theorem sl30 {R : Rm} (h : RmIn R) : (slotsR R).length ≤ 30 := by
  unfold slotsR
  rw [List.length_append, List.length_cons, List.length_map, List.length_flatMap]
  have h1 : ∀ l : List (Str × Int), ((l.map fun z => ([Sl.k z.1, .l z.1, .h z.1] : List Sl).length).sum) = 3 * l.length := by
    intro l
    induction l with
    | nil => rfl
    | cons z l ih => rw [List.map_cons, List.sum_cons, ih, List.length_cons]; simp only [List.length_cons, List.length_nil]; omega
  rw [h1, List.length_tail]
  have := h.len
  have := h.slen
  omega
section
variable {R : Rm} {s : Sta} (hR : RmIn R) (hs : StaOk R s) (ho : OnR R s)
include hs in
theorem its_len : s.its.length = (slotsR R).length := by
  have := congrArg List.length hs.nm
  rw [List.length_map] at this
  exact this
theorem its_pos : 1 ≤ (slotsR R).length := by
  unfold slotsR
  rw [List.length_append, List.length_cons]
  omega
theorem items_len {ds : List PyData} (h : ds.length ≠ (slotsR R).length) : itemsB R (.tuple ds) = false := by
  cases e : itemsB R (.tuple ds) with
  | false => rfl
  | true => exact absurd (rowsB_len (ss := slotsR R) e) h
theorem st_items {i o : PyData} (h : itemsB R i = false) : stateB R (.tuple [i, o]) = false := by
  show (itemsB R i && _) = false
  rw [h]
  rfl
theorem st_on {i : PyData} {os : List PyData} (h : (os.all (srvD R) && ascD os) = false) : stateB R (.tuple [i, .tuple os]) = false := by
  show (itemsB R i && (true && (os.all (srvD R) && ascD os))) = false
  rw [h, Bool.and_false, Bool.and_false]
theorem st_srv {i x : PyData} {os : List PyData} (h : srvD R x = false) : stateB R (.tuple [i, .tuple (os ++ [x])]) = false := st_on (by
  rw [List.all_append, List.all_cons, h, Bool.false_and, Bool.and_false, Bool.false_and])
theorem st_asc {i : PyData} {os : List PyData} (h : ascD os = false) : stateB R (.tuple [i, .tuple os]) = false := st_on (by rw [h, Bool.and_false])
include hs in
theorem st_ok (ho : OnR R s) : stateB R (stD s) = true := by
  have hi : itemsB R (I0 s) = true := by
    have e1 : s.its.map rowD2 = (s.its.map fun r => (slD r.1, itD r.2)).map prD := by rw [List.map_map]; rfl
    show rowsB (slotsR R) (s.its.map rowD2) = true
    rw [e1, rowsB_of (by rw [List.map_map, ← hs.nm, List.map_map]; rfl), List.all_map, List.all_eq_true]
    intro r hr
    show itemD (hostW (slD r.1)) (itD r.2) = true
    have hk := hs.ok r hr
    rw [hostW_sl]
    refine item_okD hk fun hb => ?_
    cases e : r.1 with
    | h z => exact hk.h z e
    | k z => rw [e] at hb; cases hb
    | l z => rw [e] at hb; cases hb
    | s n k => rw [e] at hb; cases hb
  obtain ⟨on0, e, hn, hm⟩ := ho
  have hsv : (s.on.map ssD).all (srvD R) = true := by
    rw [List.all_map, List.all_eq_true, e]
    intro p hp
    have hp := (srtSS_perm on0).mem_iff.mp hp
    have h9 : ∀ y ∈ s9L, idB y = true := by decide +kernel
    exact srvD_ss (h9 _ (hm p hp).1) (hm p hp).2
  have has : ascD (s.on.map ssD) = true := by
    rw [e]
    exact asc_sub (List.Sublist.refl _) ((srtSS_perm on0).nodup_iff.mpr hn)
  show (itemsB R (I0 s) && (true && ((s.on.map ssD).all (srvD R) && ascD (s.on.map ssD)))) = true
  rw [hi, hsv, has]
  rfl
include hR hs in
theorem st_turn {a b : Sl × Itm} {r : List (Sl × Itm)} (h : s.its = a :: b :: r) {o : PyData} : stateB R (.tuple [.tuple (((b :: r).map rowD2) ++ [rowD2 a]), o]) = false := by
  refine st_items ?_
  have hn := slots_nodup hR
  rw [← hs.nm, h, List.map_cons, List.map_cons] at hn
  have hne : b.1 ≠ a.1 := fun e => (List.nodup_cons.mp hn).1 (by rw [e]; exact List.mem_cons_self)
  show rowsB (slotsR R) (rowD2 b :: ((r.map rowD2) ++ [rowD2 a])) = false
  rw [← hs.nm, h, List.map_cons]
  show (decide (decSl (slD b.1) = some a.1) && _) = false
  rw [decSl_sl, decide_eq_false fun e => hne (by injection e)]
  rfl
include hs in
theorem st_empty {sl : Sl} {i : Itm} (hm : (sl, i) ∈ s.its) {o : PyData} : stateB R (.tuple [.tuple (s.its.map fun r => .tuple [slD r.1, if r.1 = sl then .tuple [] else itD r.2]), o]) = false := by
  refine st_items ?_
  have e1 : (s.its.map fun r => PyData.tuple [slD r.1, if r.1 = sl then .tuple [] else itD r.2]) = (s.its.map fun r => (slD r.1, if r.1 = sl then PyData.tuple [] else itD r.2)).map prD := by rw [List.map_map]; rfl
  show rowsB (slotsR R) _ = false
  rw [e1, rowsB_of (by rw [List.map_map, ← hs.nm, List.map_map]; rfl), List.all_map]
  cases e : s.its.all _ with
  | false => rfl
  | true =>
    have := List.all_eq_true.mp e (sl, i) hm
    have h2 : itemD (hostW (slD sl)) (if sl = sl then PyData.tuple [] else itD i) = true := this
    rw [if_pos rfl] at h2
    cases h2
theorem asc_dup2 (x : PyData) (hx : dataLt x x = false) : ∀ os : List PyData, ascD (os ++ [x, x]) = false
  | [] => by
    show ascD [x, x] = false
    rw [ascD_cons, hx]
    rfl
  | [a] => by
    show ascD (a :: x :: [x]) = false
    rw [ascD_cons, ascD_cons, hx, Bool.false_and, Bool.and_false]
  | a :: b :: os => by
    have h := asc_dup2 x hx (b :: os)
    show ascD (a :: b :: (os ++ [x, x])) = false
    rw [ascD_cons]
    have h : ascD (b :: (os ++ [x, x])) = false := h
    rw [h, Bool.and_false]
theorem lt_irrS (p : Str × Str) : dataLt (ssD p) (ssD p) = false := by
  cases e : dataLt (ssD p) (ssD p) with
  | false => rfl
  | true => exact absurd (lt_ss.mp e) (ss_irr p)
theorem st_dup {i : PyData} (hne : s.on ≠ []) : stateB R (.tuple [i, .tuple (s.on.map ssD ++ [ssD (s.on.getLast hne)])]) = false := by
  refine st_asc ?_
  have e := (List.dropLast_concat_getLast hne).symm
  have e2 : s.on.map ssD ++ [ssD (s.on.getLast hne)] = s.on.dropLast.map ssD ++ [ssD (s.on.getLast hne), ssD (s.on.getLast hne)] := by
    have e3 : s.on.map ssD = s.on.dropLast.map ssD ++ [ssD (s.on.getLast hne)] := by
      have := congrArg (List.map ssD) e
      rw [List.map_append] at this
      exact this
    rw [e3, List.append_assoc]
    rfl
  rw [e2]
  exact asc_dup2 _ (lt_irrS _) _
include ho in
theorem on_pair : s.on.Pairwise ssLt := by
  obtain ⟨on0, e, hn, hm⟩ := ho
  rw [e]
  have h1 := sorted_of (f := ssD) (fun a b => lt_ss) ss_irr ss_tr ss_tri on0
  have h2 : (srtSS on0).Nodup := (srtSS_perm on0).nodup_iff.mpr hn
  refine (List.pairwise_and_iff.mpr ⟨h1, h2⟩).imp fun {a b} h => ?_
  rcases ss_tri a b with g | g | g
  · exact g
  · exact absurd g h.2
  · exact absurd g h.1
include ho in
theorem st_rev {i : PyData} (hl : 1 < s.on.length) : stateB R (.tuple [i, .tuple (s.on.map ssD).reverse]) = false := by
  refine st_asc ?_
  have hp := on_pair ho
  have hr : s.on.reverse.Pairwise fun a b => ssLt b a := List.pairwise_reverse.mpr hp
  rw [← List.map_reverse]
  have hl2 : 1 < s.on.reverse.length := by rw [List.length_reverse]; exact hl
  match e : s.on.reverse, hl2 with
  | a :: b :: r, _ =>
    rw [e] at hr
    have hab := (List.pairwise_cons.mp hr).1 b List.mem_cons_self
    show ascD (ssD a :: ssD b :: r.map ssD) = false
    rw [ascD_cons]
    have : dataLt (ssD a) (ssD b) = false := by
      cases g : dataLt (ssD a) (ssD b) with
      | false => rfl
      | true => exact absurd (ss_tr _ _ _ (lt_ss.mp g) hab) (ss_irr a)
    rw [this]
    rfl
  | [_], h => exact absurd h (by simp)
  | [], h => exact absurd h (by simp)
/-! sizes -/
include hR in
theorem sl_sn {sl : Sl} (h : sl ∈ slotsR R) : SnK 1 (slD sl) := by
  have hk : ∀ z : Str, nameB z = true → SnK 0 (.str z) := fun z hz => snk_str (Nat.le_trans (name_len hz) (by decide))
  have kw : SnK 0 (.str (Str.ofString "keys")) ∧ SnK 0 (.str (Str.ofString "link")) ∧ SnK 0 (.str (Str.ofString "hosts")) ∧ SnK 0 (.str (Str.ofString "set")) := ⟨snk_str (by decide +kernel), snk_str (by decide +kernel), snk_str (by decide +kernel), snk_str (by decide +kernel)⟩
  have hdot : nameB dotS = true := dot_name
  have hin : ∀ z ∈ R.zs, SnK 0 (.str z.1) := fun z hz => hk _ (hR.nm z hz)
  unfold slotsR at h
  rcases List.mem_append.mp h with h | h
  · rcases List.mem_cons.mp h with rfl | h
    · exact snk2 kw.1 (hk _ hdot) (by decide)
    · obtain ⟨y, hy, h⟩ := List.mem_flatMap.mp h
      have hy := hin y (List.mem_of_mem_tail hy)
      simp only [List.mem_cons, List.not_mem_nil, or_false] at h
      rcases h with rfl | rfl | rfl
      · exact snk2 kw.1 hy (by decide)
      · exact snk2 kw.2.1 hy (by decide)
      · exact snk2 kw.2.2.1 hy (by decide)
  · obtain ⟨p, hp, rfl⟩ := List.mem_map.mp h
    have h2 := hR.sok p hp
    exact snk3 kw.2.2.2 (hk _ h2.1) (snk_str (by have := id_len h2.2; omega)) (by decide)
theorem it_sn {s : Sl} {i : Itm} (h : ItmOk s i) : SnK 2 (itD i) := by
  obtain ⟨h1, h2⟩ := itm_sn h
  refine sn_tup (by show 5 ≤ 1000; decide) (by decide) fun d hd => ?_
  have hd : d ∈ [cI i, .int i.li, gI i, .int i.a, .int i.b] := hd
  simp only [List.mem_cons, List.not_mem_nil, or_false] at hd
  rcases hd with rfl | rfl | rfl | rfl | rfl
  · exact h1
  · exact snk_up (snk_int _) (by decide)
  · exact h2
  · exact snk_up (snk_int _) (by decide)
  · exact snk_up (snk_int _) (by decide)
include hR hs in
theorem row_sn {r : Sl × Itm} (hr : r ∈ s.its) : SnK 3 (rowD2 r) := snk2 (snk_up (sl_sn hR (by rw [← hs.nm]; exact List.mem_map_of_mem hr)) (by decide)) (it_sn (hs.ok r hr)) (by decide)
include hR ho in
theorem on_sn {p : Str × Str} (hp : p ∈ s.on) : SnK 1 (ssD p) := by
  obtain ⟨on0, e, hn, hm⟩ := ho
  rw [e] at hp
  have hp := (srtSS_perm on0).mem_iff.mp hp
  have h9 : ∀ y ∈ s9L, y.length ≤ 1000 := by decide +kernel
  exact snk2 (snk_str (h9 _ (hm p hp).1)) (snk_str (Nat.le_trans (name_len (tlZ_name hR (hm p hp).2).1) (by decide))) (by decide)
theorem sn_list {k : Nat} {ds : List PyData} (hl : ds.length ≤ 1000) (hk : k + 1 ≤ 40) (h : ∀ d ∈ ds, SnK k d) : SnK (k + 1) (.tuple ds) := sn_tup hl hk h
include hR hs in
theorem I0_sn : SnK 4 (I0 s) := sn_list (k := 3) (by rw [List.length_map, its_len hs]; have := sl30 hR; omega) (by decide) fun d hd => by
  obtain ⟨r, hr, rfl⟩ := List.mem_map.mp hd
  exact row_sn hR hs hr
include hR ho in
theorem O0_sn (hl : s.on.length ≤ 100) : SnK 2 (O0 s) := sn_list (k := 1) (by rw [List.length_map]; omega) (by decide) fun d hd => by
  obtain ⟨p, hp, rfl⟩ := List.mem_map.mp hd
  exact on_sn hR ho hp
end
/-! a tuple's slices with the step -1: t[::-1] and t[:0:-1] -/
namespace HT
open _root_.HT
section
variable {prog : Program} {w : World} {A : Around} {E : Value → Shared → Prop} {s : Shared}
/-- what the slice leaves out in front -/
def dnC : Option Int → Nat
  | none => 0
  | some _ => 1
theorem adjust_dn {hi : Option Int} (h0 : hi = none ∨ hi = some 0) (n : Nat) : Builtin.Slice.sliceAdjust none hi (-1) (n : Int) = ((n : Int) - 1, if hi = none then -1 else min 0 ((n : Int) - 1)) := by
  unfold Builtin.Slice.sliceAdjust
  have h1 : ((-1 : Int) < 0) := by omega
  rcases h0 with rfl | rfl
  · simp only [h1, if_true]
  · simp only [h1, if_true]
    refine Prod.ext rfl ?_
    show (if (0 : Int) < 0 then max (0 + (n : Int)) (-1) else min 0 ((n : Int) - 1)) = _
    rw [if_neg (by omega), if_neg (by simp)]
theorem places_dn {hi : Option Int} (h0 : hi = none ∨ hi = some 0) (n : Nat) : Builtin.Slice.slicePlaces ((n : Int) - 1) (if hi = none then -1 else min 0 ((n : Int) - 1)) (-1) = n - dnC hi := by
  unfold Builtin.Slice.slicePlaces
  have h1 : ¬ ((-1 : Int) > 0) := by omega
  rcases h0 with rfl | rfl
  · simp only [h1, if_false, if_true, show (- -1 : Int) = 1 from rfl, Int.ediv_one]
    show _ = n - 0
    split <;> omega
  · rw [if_neg (by simp : ¬ (some (0 : Int) = none))]
    simp only [h1, if_false, show (- -1 : Int) = 1 from rfl, Int.ediv_one]
    show _ = n - 1
    split <;> omega
theorem sliceApplied_dn {sl : Addr} {vl vu vs : Value} {hi : Option Int} {n : Nat} {Q : Int × Int × Nat → Shared → Prop} (h0 : hi = none ∨ hi = some 0) (hs : s.heap.IsSliceOf sl vl vu vs) (pl : IsPart vl none) (pu : IsPart vu hi) (ps : IsPart vs (some (-1)))
    (h : Q ((n : Int) - 1, -1, n - dnC hi) s) : wpAny (model prog w) A (Builtin.Slice.sliceApplied (.ref sl) (pure (n : Int))) Q E s := by
  obtain ⟨os, hos, hcs, hds⟩ := id hs
  unfold Builtin.Slice.sliceApplied Builtin.Slice.sliceFields
  refine wpAny_bind (wpAny_bind (wpAny_field hos hds (x := vl) rfl (wpAny_bind (wpAny_field hos hds (x := vu) rfl (wpAny_bind (wpAny_field hos hds (x := vs) rfl (wpAny_pure ?_)))))))
  refine wpAny_bind (slicePart_ ps ?_)
  show wpAny _ _ (if ((-1 : Int) == 0) = true then _ else _) _ _ s
  rw [if_neg (by decide)]
  refine wpAny_bind (slicePart_ pl (wpAny_bind (slicePart_ pu (wpAny_bind (wpAny_pure ?_)))))
  show wpAny _ _ (match Builtin.Slice.sliceAdjust none hi (-1) (n : Int) with | (lo, hi) => pure (lo, (-1 : Int), Builtin.Slice.slicePlaces lo hi (-1))) _ _ s
  rw [adjust_dn h0 n]
  show wpAny _ _ (pure ((n : Int) - 1, (-1 : Int), Builtin.Slice.slicePlaces ((n : Int) - 1) (if hi = none then -1 else min 0 ((n : Int) - 1)) (-1))) _ _ s
  rw [places_dn h0]
  exact wpAny_pure h
theorem fm_some {α β : Type} {f : α → Option β} {g : α → β} : ∀ {l : List α}, (∀ m ∈ l, f m = some (g m)) → l.filterMap f = l.map g
  | [], _ => rfl
  | m :: l, h => by
    rw [List.filterMap_cons, h m List.mem_cons_self, List.map_cons, fm_some fun x hx => h x (List.mem_cons_of_mem _ hx)]
theorem pick_dn (xs : Array Value) (c : Nat) : ((List.range (xs.size - c)).filterMap fun (m : Nat) => xs[(((xs.size : Int) - 1) + (m : Int) * -1).toNat]?).toArray = ((xs.toList.drop c).reverse).toArray := by
  congr 1
  apply List.ext_getElem?
  intro i
  have e : (fun (m : Nat) => xs[(((xs.size : Int) - 1) + (m : Int) * -1).toNat]?) = fun m => xs[xs.size - 1 - m]? := by
    funext m
    by_cases hm : m ≤ xs.size - 1
    · have : (((xs.size : Int) - 1) + (m : Int) * -1).toNat = xs.size - 1 - m := by omega
      rw [this]
    · have : (((xs.size : Int) - 1) + (m : Int) * -1).toNat = xs.size - 1 - m := by omega
      rw [this]
  rw [e]
  have e2 : (List.range (xs.size - c)).filterMap (fun m => xs[xs.size - 1 - m]?) = (List.range (xs.size - c)).map (fun m => (xs[xs.size - 1 - m]?).getD .none) := by
    refine fm_some fun m hm => ?_
    have := List.mem_range.mp hm
    have h2 : xs.size - 1 - m < xs.size := by omega
    simp [h2]
  rw [e2, List.getElem?_map]
  by_cases hi : i < xs.size - c
  · rw [List.getElem?_range hi, List.getElem?_reverse (by rw [List.length_drop, Array.length_toList]; exact hi), List.length_drop, Array.length_toList, List.getElem?_drop]
    have h2 : xs.size - 1 - i < xs.size := by omega
    have h3 : c + (xs.size - c - 1 - i) = xs.size - 1 - i := by omega
    rw [h3]
    simp [h2]
  · rw [List.getElem?_eq_none (by rw [List.length_range]; omega), List.getElem?_eq_none (by rw [List.length_reverse, List.length_drop, Array.length_toList]; omega)]
    rfl
theorem getItem_tuple_dn {t sl : Addr} {items : Array Value} {vl vu vs : Value} {hi : Option Int} {Q : Value → Shared → Prop} (h0 : hi = none ∨ hi = some 0) (ht : IsTup s.heap t items) (hs : s.heap.IsSliceOf sl vl vu vs) (pl : IsPart vl none) (pu : IsPart vu hi) (ps : IsPart vs (some (-1)))
    (h : Q (.ref s.heap.objs.size) { s with heap := s.heap.push { cls := .type "tuple", data := .seq ((items.toList.drop (dnC hi)).reverse).toArray } })
    (hsz : items.size ≤ sizeLine) : wpAny (model prog w) A (getItem (.ref t) (.ref sl)) Q E s := by
  have htake : sizeOk (.seq ((items.toList.drop (dnC hi)).reverse).toArray) := by
    show ((items.toList.drop (dnC hi)).reverse).toArray.size ≤ sizeLine
    rw [List.size_toArray, List.length_reverse, List.length_drop, Array.length_toList]
    omega
  obtain ⟨os, hos, hcs, hds⟩ := id hs
  have hTs : s.TypeIs (.ref sl) "slice" := ⟨os, hos, hcs⟩
  unfold getItem
  try with_reducible refine wpAny_holding ?_
  first | refine wpAny_bind (wpAny_pure ?_) | skip
  refine wpAny_bind (wpAny_sequenceKey ht.typeIs (by decide) ?_)
  refine wpAny_bind (wpAny_callSpecial?_slot (name := Str.ofString "__getitem__") ht.typeIs PyProof.Rows.slot_tuple_getitem
    (wpAny_call_entry PyProof.Rows.slot_tuple_getitem ht.typeIs entry_tuple_getitem ?_ (args_tuple_getitem _ _)))
  show wpAny _ _ (Builtin.Tuple.tupleItemsOf (.ref t) >>= _) _ _ s
  refine wpAny_bind (tupleItemsOf_ ht ?_)
  refine wpAny_bind (wpAny_typeOf hTs ?_)
  rw [if_pos (by decide)]
  refine wpAny_bind (sliceApplied_dn h0 hs pl pu ps ?_)
  have hno : ¬ ((((items.size : Int) - 1) == 0 && (-1 : Int) == 1 && (items.size - dnC hi) == items.size) = true) := by
    intro q
    rw [Bool.and_eq_true, Bool.and_eq_true] at q
    exact absurd q.1.2 (by decide)
  show wpAny _ _ (if (((items.size : Int) - 1) == 0 && (-1 : Int) == 1 && (items.size - dnC hi) == items.size) = true then _ else _) _ _ s
  rw [if_neg hno, pick_dn]
  first
    | exact wpAny_bind (m := Builtin.Tuple.tupleExact _) (wpAny_newObj_type (wpAny_pure ⟨_, rfl, wpAny_pure h⟩) htake)
    | exact wpAny_bind (m := Builtin.Tuple.tupleExact _) (wpAny_newObj_type (wpAny_bind (wpAny_pure (wpAny_pure ⟨_, rfl, wpAny_pure h⟩))) htake)
    | exact wpAny_bind (wpAny_bind (m := Builtin.Tuple.tupleExact _) (wpAny_newObj_type (wpAny_pure (wpAny_pure ⟨_, rfl, wpAny_pure h⟩)) htake))
    | exact wpAny_bind (wpAny_bind (m := Builtin.Tuple.tupleExact _) (wpAny_newObj_type (wpAny_pure ⟨_, rfl, wpAny_pure h⟩) htake))
end
end HT
section
variable {X : Cx}
/-- t[::-1], t[:0:-1] -/
def tDnT (K : PySem.W.Frag) (c : Nat) (te : TE) : TE := fun σ H Q => te σ H fun x H1 => ∃ a xs, x = .ref a ∧ SqT K H1 a xs ∧ ∀ p, H1 p = none → Q (.ref p) (upd H1 p (.tup (xs.drop c).reverse))
theorem dn_end {hi : Option Int} {pins : List (Addr × Obj)} {s2 : Shared} {σ : L2.St} {H1 : Hp} {Q : VK} {a : Addr} {xs : List V} {vl vu vs : Value} (h0 : hi = none ∨ hi = some 0) (pl : IsPart vl none) (pu : IsPart vu hi) (ps : IsPart vs (some (-1)))
    (hx : SqT X.K H1 a xs) (q : ∀ p, H1 p = none → Q (.ref p) (upd H1 p (.tup (xs.drop (HT.dnC hi)).reverse))) (I : Inv X pins σ H1 s2) :
    wpAny (model X.prog X.w) X.A (getItem (.ref a) (.ref s2.heap.objs.size)) (EP X pins σ Q) X.xe { s2 with heap := s2.heap.push { cls := .type "slice", data := .fields #[vl, vu, vs] } } := by
  have I5 : Inv X pins σ H1 { s2 with heap := s2.heap.push { cls := .type "slice", data := .fields #[vl, vu, vs] } } := I.kept (t' := s2.toks) fun b ob q => Heap.get?_push_of_some _ q
  obtain ⟨its, r, ht, hz⟩ := I5.tuple hx
  have hlen := r.length
  refine HT.getItem_tuple_dn h0 ht (Heap.IsSliceOf.new _ vl vu vs) pl pu ps ?_ (by rw [List.size_toArray]; omega)
  refine ⟨.ref _, _, I5.laid (t' := s2.toks) (o := .tup (xs.drop (HT.dnC hi)).reverse) (fun b ob q => Heap.get?_push_of_some _ q) (Nat.le_refl _) ?_, rfl, q _ (I5.hok.fresh (Nat.le_refl _))⟩
  refine ⟨?_, _, (r.drop (HT.dnC hi)).reverse, IsTup.new _ _⟩
  rw [List.length_reverse, List.length_drop]
  omega
theorem pe_dnT {e : Expr} {te : TE} {k : Nat} {p1 p2 p3 pos : Pos} (he : PE X e te) : PE X (.Subscript e (.Slice none none (some (.UnaryOp .USub (.Constant (.int 1) k p1) p2)) p3) pos) (tDnT X.K 0 te) := by
  refine ⟨fun pins s σ H Q I h => ?_⟩
  refine Subscript_ (thn (he.run pins s σ H _ I h) fun v s1 ⟨x, H1, I1, r1, q1⟩ => ?_)
  obtain ⟨a, xs, ex, hx, q⟩ := q1
  subst ex
  cases r1
  have hst : PO X (some (.UnaryOp .USub (.Constant (.int 1) k p1) p2)) (tPart (tUn (rU fun i => .int (-i)) (tC (.int 1)))) := po_some (pe_un un_neg pe_int)
  refine wpAny_Slice (thn (po_none.run pins s1 σ H1 (fun o H2 => o = none ∧ H2 = H1) I1 ⟨rfl, rfl⟩) fun vl s2 ⟨l, H2, I2, pl, el, e2⟩ => ?_)
  subst el e2
  refine thn (po_none.run pins s2 σ H2 (fun o H3 => o = none ∧ H3 = H2) I2 ⟨rfl, rfl⟩) fun vu s3 ⟨u, H3, I3, pu, eu, e3⟩ => ?_
  subst eu e3
  refine thn (hst.run pins s3 σ H3 (fun o H4 => o = some (-1) ∧ H4 = H3) I3 ⟨1, rfl, -1, rfl, rfl, rfl⟩) fun vs s4 ⟨o, H4, I4, ps, eo, e4⟩ => ?_
  subst eo e4
  have I5 : Inv X pins σ H4 { s4 with heap := s4.heap.push { cls := .type "slice", data := .fields #[vl, vu, vs] } } := I4.kept (t' := s4.toks) fun b ob q => Heap.get?_push_of_some _ q
  obtain ⟨its, r, ht, hz⟩ := I5.tuple hx
  show wpAny (model X.prog X.w) X.A (subscriptTail e (.Slice none none (some (.UnaryOp .USub (.Constant (.int 1) k p1) p2)) p3) (.ref a) (.ref s4.heap.objs.size)) (EP X pins σ Q) X.xe { s4 with heap := s4.heap.push { cls := .type "slice", data := .fields #[vl, vu, vs] } }
  exact tail_any (ops := [.ref a, .ref s4.heap.objs.size]) ht.typeIs PyProof.Rows.slot_tuple_getitem.lookup (dn_end (.inl rfl) pl pu ps hx q I4) (by with_unfolding_all rfl)
theorem pe_dnTU (K : PySem.W.Frag) (hK : X.K = K) {e : Expr} {te : TE} {k : Nat} {p1 p2 p3 pos : Pos} (he : PE X e te) : PE X (.Subscript e (.Slice none none (some (.UnaryOp .USub (.Constant (.int 1) k p1) p2)) p3) pos) (tDnT K 0 te) := by
  subst hK
  exact pe_dnT he
end
section
variable {K : PySem.W.Frag} {σ : L2.St} {H : Hp} {Q : VK}
theorem rd_dnT {te : TE} {c : Nat} (q : te σ H fun x H1 => ∃ a xs, x = .ref a ∧ SqT K H1 a xs ∧ ∀ p, H1 p = none → Q (.ref p) (upd H1 p (.tup (xs.drop c).reverse))) : tDnT K c te σ H Q := q
end
/-! ### the states known, plans out of form -/
def knL : Sta → Int → List (Int × Dd) → List (Int × Sta)
  | s, m, [] => [(m, s)]
  | s, m, p :: pl => (m, s) :: knL (aft s p.2) p.1 pl
def hereF (s : Sta) (pl : List (Int × Dd)) : Sta := pl.foldl (fun s p => aft s p.2) s
theorem knL_snoc (p : Int × Dd) : ∀ (pl : List (Int × Dd)) (s : Sta) (m : Int), knL s m (pl ++ [p]) = knL s m pl ++ [(p.1, aft (hereF s pl) p.2)]
  | [], s, m => rfl
  | q :: pl, s, m => by
    show (m, s) :: knL (aft s q.2) q.1 (pl ++ [p]) = (m, s) :: (knL (aft s q.2) q.1 pl ++ _)
    rw [knL_snoc p pl]
    rfl
theorem knL_len : ∀ (pl : List (Int × Dd)) (s : Sta) (m : Int), (knL s m pl).length = pl.length + 1
  | [], _, _ => rfl
  | q :: pl, s, m => by
    show (knL (aft s q.2) q.1 pl).length + 1 = _
    rw [knL_len pl]
    rfl
theorem hereF_snoc {s : Sta} {pl : List (Int × Dd)} {i : Nat} {p : Int × Dd} (h : pl[i]? = some p) : hereF s (pl.take (i + 1)) = aft (hereF s (pl.take i)) p.2 := by
  unfold hereF
  rw [List.take_add_one, h, List.foldl_append]
  rfl
theorem hereF_its (s : Sta) (pl : List (Int × Dd)) : (hereF s pl).its.map (·.1) = s.its.map (·.1) := by
  unfold hereF
  induction pl generalizing s with
  | nil => rfl
  | cons p pl ih => rw [List.foldl_cons, ih, aft_keys]
theorem hereF_on (s : Sta) (pl : List (Int × Dd)) : (hereF s pl).on.length ≤ s.on.length + pl.length := by
  unfold hereF
  induction pl generalizing s with
  | nil => exact Nat.le_refl _
  | cons p pl ih =>
    rw [List.foldl_cons, List.length_cons]
    have h1 := ih (aft s p.2)
    have h2 := aft_on s p.2
    omega
/-- the deeds one by one, each allowed where it is done -/
theorem onOk_at : ∀ {pl : List (Int × Dd)} {s : Sta} {i : Nat} {p : Int × Dd}, OnOk s (pl.map (·.2)) → pl[i]? = some p → okD (hereF s (pl.take i)) p.2
  | [], _, _, _, _, h => by cases h
  | q :: pl, s, 0, p, h, e => by
    have e : some q = some p := e
    injection e with e
    subst e
    exact h.1
  | q :: pl, s, i + 1, p, h, e => onOk_at (pl := pl) (s := aft s q.2) h.2 e
theorem stM_noneF {s : Sta} {M : Int} : ∀ {pl : List (Int × Dd)}, (∀ p ∈ pl, M < p.1) → stM s pl M = s
  | [], _ => rfl
  | p :: pl, h => by
    show stM (if p.1 ≤ M then aft s p.2 else s) pl M = s
    rw [if_neg (by have := h p List.mem_cons_self; omega)]
    exact stM_noneF fun q hq => h q (List.mem_cons_of_mem _ hq)
theorem knL_mem {s : Sta} {M m : Int} : ∀ {pl : List (Int × Dd)}, M < m → (∀ p ∈ pl, M < p.1) → (knL s m pl).filter (fun r => decide (r.1 ≤ M)) = []
  | [], h, _ => by
    show List.filter _ [(m, s)] = []
    rw [List.filter_cons_of_neg (by simp; omega)]
    rfl
  | p :: pl, h, hp => by
    show List.filter _ ((m, s) :: knL (aft s p.2) p.1 pl) = []
    rw [List.filter_cons_of_neg (by simp; omega)]
    exact knL_mem (hp p List.mem_cons_self) fun q hq => hp q (List.mem_cons_of_mem _ hq)
theorem kn_due {M : Int} : ∀ {pl : List (Int × Dd)} {s : Sta} {m : Int}, m ≤ M → pl.Pairwise (fun a b => a.1 < b.1) → ∃ l r, (knL s m pl).filter (fun r => decide (r.1 ≤ M)) = l ++ [r] ∧ r.2 = stM s pl M
  | [], s, m, h, _ => ⟨[], (m, s), by
    show List.filter _ [(m, s)] = _
    rw [List.filter_cons_of_pos (by simp; exact h)]
    rfl, rfl⟩
  | p :: pl, s, m, h, ha => by
    have ha := List.pairwise_cons.mp ha
    by_cases c : p.1 ≤ M
    · obtain ⟨l, r, e, er⟩ := kn_due (pl := pl) (s := aft s p.2) c ha.2
      refine ⟨(m, s) :: l, r, ?_, ?_⟩
      · show List.filter _ ((m, s) :: knL (aft s p.2) p.1 pl) = _
        rw [List.filter_cons_of_pos (by simp; exact h), e]
        rfl
      · rw [er]
        show _ = stM (if p.1 ≤ M then aft s p.2 else s) pl M
        rw [if_pos c]
    · have hl : ∀ q ∈ p :: pl, M < q.1 := fun q hq => by
        rcases List.mem_cons.mp hq with rfl | hq
        · omega
        · have := ha.1 q hq
          omega
      refine ⟨[], (m, s), ?_, ?_⟩
      · show List.filter _ ((m, s) :: knL (aft s p.2) p.1 pl) = _
        rw [List.filter_cons_of_pos (by simp; exact h), knL_mem (by omega) fun q hq => hl q (List.mem_cons_of_mem _ hq)]
        rfl
      · exact (stM_noneF hl).symm
theorem stM_max {s : Sta} {pl : List (Int × Dd)} {m : Int} (h : ∀ p ∈ pl, 1 ≤ p.1) : stM s pl (if m > 0 then m else 0) = stM s pl m := by
  by_cases c : m > 0
  · rw [if_pos c]
  · rw [if_neg c, stM_noneF fun p hp => by have := h p hp; omega, stM_noneF fun p hp => by have := h p hp; omega]
def knD (r : Int × Sta) : PyData := .tuple [.int r.1, stD r.2]
/-! plans -/
def momD : PyData → Int
  | .tuple [.int m, _] => m
  | _ => 0
theorem planF_mom {R : Rm} : ∀ {ds : List PyData} {s : Sta} {last : Int}, planF R s last ds = true → (∀ d ∈ ds, (∃ m x, d = .tuple [.int m, x] ∧ last < m ∧ m ≤ 10000)) ∧ ds.Pairwise (fun a b => momD a < momD b)
  | [], _, _, _ => ⟨fun d h => (by cases h), .nil⟩
  | d :: ds, s, last, h => by
    cases hp : tupB 2 2 d with
    | false =>
      rw [planF_no hp] at h
      cases h
    | true =>
      obtain ⟨md, x, rfl⟩ := pair_of hp
      rw [planF_cons, Bool.and_eq_true, Bool.and_eq_true] at h
      obtain ⟨h1, _, h3⟩ := h
      obtain ⟨m, rfl, hm1, hm2⟩ := int_some h1
      have h3 : planF R (aft s (ddOf x)) m ds = true := h3
      obtain ⟨i1, i2⟩ := planF_mom h3
      refine ⟨fun d hd => ?_, List.pairwise_cons.mpr ⟨fun d hd => ?_, i2⟩⟩
      · rcases List.mem_cons.mp hd with rfl | hd
        · exact ⟨m, x, rfl, by omega, hm2⟩
        · obtain ⟨m', x', e, h4, h5⟩ := i1 d hd
          exact ⟨m', x', e, by omega, h5⟩
      · obtain ⟨m', x', rfl, h4, h5⟩ := i1 d hd
        exact h4
theorem planB_mom {R : Rm} {s : Sta} {ds : List PyData} (h : planB R s (.tuple ds) = true) : (∀ d ∈ ds, (∃ m x, d = .tuple [.int m, x] ∧ 0 < m ∧ m ≤ 10000)) ∧ ds.Pairwise (fun a b => momD a < momD b) := by
  unfold planB at h
  rw [Bool.and_eq_true] at h
  exact planF_mom (ds := ds) h.2
theorem planB_false {R : Rm} {s : Sta} {d : PyData} (h : planB R s d = true → False) : planB R s d = false := by
  cases e : planB R s d with
  | false => rfl
  | true => exact (h e).elim
section
variable {R : Rm} {s : Sta} {pl : List (Int × Dd)}
theorem mom_pl (p : Int × Dd) : momD (plD p) = p.1 := rfl
theorem w_end {x : PyData} {e : PyData} (he : e ∈ pl.map plD) (h : ¬ momD e < momD x) : planB R s (.tuple (pl.map plD ++ [x])) = false := planB_false fun hp => by
  have := (List.pairwise_append.mp (planB_mom hp).2).2.2 e he x (by simp)
  exact h this
theorem w_bad {ds : List PyData} {x : PyData} (hx : ¬ ∃ m y, x = .tuple [.int m, y] ∧ 0 < m ∧ m ≤ 10000) (h : x ∈ ds) : planB R s (.tuple ds) = false := planB_false fun hp => hx ((planB_mom hp).1 x h)
theorem no_1 {y : PyData} : ¬ ∃ m z, PyData.tuple [.int 10001, y] = .tuple [.int m, z] ∧ 0 < m ∧ m ≤ 10000 := fun ⟨m, z, e, h1, h2⟩ => by
  injection e with e
  injection e with e _
  injection e with e
  omega
theorem no_2 : ¬ ∃ m z, PyData.tuple [.int 9999] = .tuple [.int m, z] ∧ 0 < m ∧ m ≤ 10000 := fun ⟨m, z, e, h1, h2⟩ => by
  injection e with e
  injection e with _ e
  cases e
theorem no_3 : ¬ ∃ m z, PyData.int 9999 = .tuple [.int m, z] ∧ 0 < m ∧ m ≤ 10000 := fun ⟨m, z, e, h1, h2⟩ => by cases e
theorem no_4 {y : PyData} : ¬ ∃ m z, PyData.tuple [.int 0, y] = .tuple [.int m, z] ∧ 0 < m ∧ m ≤ 10000 := fun ⟨m, z, e, h1, h2⟩ => by
  injection e with e
  injection e with e _
  injection e with e
  omega
theorem w_swap {a b : Int × Dd} (h : a.1 < b.1) : planB R s (.tuple [plD b, plD a]) = false := planB_false fun hp => by
  have := (List.pairwise_cons.mp (planB_mom hp).2).1 (plD a) (by simp)
  rw [mom_pl, mom_pl] at this
  omega
/-- the long plan: one deed thirteen times -/
def longP (sl : Sl) (i : Itm) (n : Nat) : List (Int × Dd) := (List.range n).map fun k : Nat => ((k : Int) + 1, .put sl i)
theorem long_ok {sl : Sl} {i : Itm} (hs : sl ∈ slotsR R) (hi : ItmOk sl i) : planB R s (.tuple ((longP sl i 12).map plD)) = true := by
  unfold planB
  rw [show tupB 0 12 (.tuple ((longP sl i 12).map plD)) = true from rfl, Bool.true_and]
  refine planF_ok (fun p hp => ?_) (onOk_puts fun d hd => ?_) ?_ fun p hp => ?_
  · obtain ⟨k, _, rfl⟩ := List.mem_map.mp hp
    exact ⟨hs, hi⟩
  · obtain ⟨p, hp, rfl⟩ := List.mem_map.mp hd
    obtain ⟨k, _, rfl⟩ := List.mem_map.mp hp
    trivial
  · unfold longP
    refine List.pairwise_map.mpr (List.pairwise_lt_range.imp fun {a b} h => ?_)
    show (a : Int) + 1 < (b : Int) + 1
    omega
  · obtain ⟨k, hk, rfl⟩ := List.mem_map.mp hp
    have := List.mem_range.mp hk
    show (0 : Int) < (k : Int) + 1 ∧ (k : Int) + 1 ≤ 10000
    omega
theorem long_no {sl : Sl} {i : Itm} : planB R s (.tuple ((longP sl i 13).map plD)) = false := by
  unfold planB
  rw [show tupB 0 12 (.tuple ((longP sl i 13).map plD)) = false from rfl]
  rfl
end
/-! sizes -/
theorem dd_sn {R : Rm} (hR : RmIn R) {d : Dd} (h : DdOk R d) : SnK 3 (ddD d) := by
  have kw : SnK 0 (.str (Str.ofString "put")) ∧ SnK 0 (.str (Str.ofString "on")) ∧ SnK 0 (.str (Str.ofString "off")) := ⟨snk_str (by decide +kernel), snk_str (by decide +kernel), snk_str (by decide +kernel)⟩
  have zn : ∀ z ∈ R.zs.tail.map (·.1), SnK 0 (.str z) := fun z hz => snk_str (Nat.le_trans (name_len (tlZ_name hR hz).1) (by decide))
  cases d with
  | put sl i => exact snk3 (k := 2) (snk_up kw.1 (by decide)) (snk_up (sl_sn hR h.1) (by decide)) (it_sn h.2) (by decide)
  | on x z => exact snk_up (snk3 (k := 0) kw.2.1 (snk_str (by have := id_len h.1; omega)) (zn z h.2) (by decide)) (by decide)
  | off x z => exact snk_up (snk3 (k := 0) kw.2.2 (snk_str (by have := id_len h.1; omega)) (zn z h.2) (by decide)) (by decide)
theorem pl_sn {R : Rm} (hR : RmIn R) {p : Int × Dd} (h : DdOk R p.2) : SnK 4 (plD p) := snk2 (k := 3) (snk_up (snk_int _) (by decide)) (dd_sn hR h) (by decide)
def topS (i : Nat) : Stmt := PySem.Challenge.pw_neverdark_k21_forms_of_states.main.body.getD i (.Pass ⟨0, 0, 0, 0⟩)
abbrev s_is_integer_in : Stmt := topS 5
theorem sc_is_integer_in : FnScope ["value", "least", "most"] ["value", "least", "most"] (defScope s_is_integer_in) := ⟨rfl, rfl, rfl, by decide +kernel, rfl, by decide +kernel, by decide +kernel⟩
abbrev s_is_tuple_of : Stmt := topS 6
theorem sc_is_tuple_of : FnScope ["value", "least", "most"] ["value", "least", "most"] (defScope s_is_tuple_of) := ⟨rfl, rfl, rfl, by decide +kernel, rfl, by decide +kernel, by decide +kernel⟩
abbrev s_is_ascending : Stmt := topS 7
abbrev N_is_ascending : List Str := ["values", "low", "high"]
theorem sc_is_ascending : FnScope ["values", "low", "high"] ["values"] (defScope s_is_ascending) := ⟨rfl, rfl, rfl, by decide +kernel, rfl, by decide +kernel, by decide +kernel⟩
abbrev s_is_word : Stmt := topS 11
abbrev N_is_word : List Str := ["text", "letters", "most", "letter"]
theorem sc_is_word : FnScope ["text", "letters", "most", "letter"] ["text", "letters", "most"] (defScope s_is_word) := ⟨rfl, rfl, rfl, by decide +kernel, rfl, by decide +kernel, by decide +kernel⟩
abbrev s_is_id : Stmt := topS 12
theorem sc_is_id : FnScope ["text"] ["text"] (defScope s_is_id) := ⟨rfl, rfl, rfl, by decide +kernel, rfl, by decide +kernel, by decide +kernel⟩
abbrev s_are_ids : Stmt := topS 19
abbrev N_are_ids : List Str := ["value", "least", "most", "part"]
theorem sc_are_ids : FnScope ["value", "least", "most", "part"] ["value", "least", "most"] (defScope s_are_ids) := ⟨rfl, rfl, rfl, by decide +kernel, rfl, by decide +kernel, by decide +kernel⟩
abbrev s_zone_names : Stmt := topS 20
abbrev N_zone_names : List Str := ["realm", "zone", "_"]
theorem sc_zone_names : FnScope ["realm", "zone", "_"] ["realm"] (defScope s_zone_names) := ⟨rfl, rfl, rfl, by decide +kernel, rfl, by decide +kernel, by decide +kernel⟩
abbrev s_slots : Stmt := topS 21
abbrev N_slots : List Str := ["realm", "found", "zone", "name", "kind"]
theorem sc_slots : FnScope ["realm", "found", "zone", "name", "kind"] ["realm"] (defScope s_slots) := ⟨rfl, rfl, rfl, by decide +kernel, rfl, by decide +kernel, by decide +kernel⟩
abbrev s_is_slot : Stmt := topS 22
theorem sc_is_slot : FnScope ["realm", "value"] ["realm", "value"] (defScope s_is_slot) := ⟨rfl, rfl, rfl, by decide +kernel, rfl, by decide +kernel, by decide +kernel⟩
abbrev s_is_item : Stmt := topS 23
theorem sc_is_item : FnScope ["slot", "value", "content", "life", "signers", "first", "last"] ["slot", "value"] (defScope s_is_item) := ⟨rfl, rfl, rfl, by decide +kernel, rfl, by decide +kernel, by decide +kernel⟩
abbrev s_are_items : Stmt := topS 24
abbrev N_are_items : List Str := ["realm", "value", "places", "slot", "item", "part", "_"]
theorem sc_are_items : FnScope ["realm", "value", "places", "slot", "item", "part", "_"] ["realm", "value"] (defScope s_are_items) := ⟨rfl, rfl, rfl, by decide +kernel, rfl, by decide +kernel, by decide +kernel⟩
abbrev s_is_server : Stmt := topS 25
theorem sc_is_server : FnScope ["realm", "value"] ["realm", "value"] (defScope s_is_server) := ⟨rfl, rfl, rfl, by decide +kernel, rfl, by decide +kernel, by decide +kernel⟩
abbrev s_is_state : Stmt := topS 26
abbrev N_is_state : List Str := ["realm", "value", "items", "on", "part"]
theorem sc_is_state : FnScope ["realm", "value", "items", "on", "part"] ["realm", "value"] (defScope s_is_state) := ⟨rfl, rfl, rfl, by decide +kernel, rfl, by decide +kernel, by decide +kernel⟩
abbrev s_item_of : Stmt := topS 27
theorem sc_item_of : FnScope ["state", "slot"] ["state", "slot"] (defScope s_item_of) := ⟨rfl, rfl, rfl, by decide +kernel, rfl, by decide +kernel, by decide +kernel⟩
abbrev s_is_on : Stmt := topS 28
theorem sc_is_on : FnScope ["state", "server", "zone"] ["state", "server", "zone"] (defScope s_is_on) := ⟨rfl, rfl, rfl, by decide +kernel, rfl, by decide +kernel, by decide +kernel⟩
abbrev s_is_deed : Stmt := topS 29
theorem sc_is_deed : FnScope ["realm", "state", "value", "word", "place", "worth"] ["realm", "state", "value"] (defScope s_is_deed) := ⟨rfl, rfl, rfl, by decide +kernel, rfl, by decide +kernel, by decide +kernel⟩
abbrev s_changed : Stmt := topS 30
abbrev N_changed : List Str := ["state", "deed", "items", "on", "word", "place", "worth", "pair", "slot", "item"]
theorem sc_changed : FnScope ["state", "deed", "items", "on", "word", "place", "worth", "pair", "slot", "item"] ["state", "deed"] (defScope s_changed) := ⟨rfl, rfl, rfl, by decide +kernel, rfl, by decide +kernel, by decide +kernel⟩
abbrev s_after : Stmt := topS 31
theorem sc_after : FnScope ["realm", "state", "deed"] ["realm", "state", "deed"] (defScope s_after) := ⟨rfl, rfl, rfl, by decide +kernel, rfl, by decide +kernel, by decide +kernel⟩
abbrev s_is_plan : Stmt := topS 32
theorem sc_is_plan : FnScope ["realm", "state", "value", "last", "step", "moment", "deed"] ["realm", "state", "value"] (defScope s_is_plan) := ⟨rfl, rfl, rfl, by decide +kernel, rfl, by decide +kernel, by decide +kernel⟩
abbrev s_state_at : Stmt := topS 33
theorem sc_state_at : FnScope ["realm", "state", "plan", "moment", "done", "deed"] ["realm", "state", "plan", "moment"] (defScope s_state_at) := ⟨rfl, rfl, rfl, by decide +kernel, rfl, by decide +kernel, by decide +kernel⟩
abbrev s_law_mix : Stmt := topS 35
theorem sc_law_mix : FnScope ["number"] ["number"] (defScope s_law_mix) := ⟨rfl, rfl, rfl, by decide +kernel, rfl, by decide +kernel, by decide +kernel⟩
abbrev s_law_tape : Stmt := topS 36
theorem sc_law_tape : FnScope ["script", "budget"] ["script", "budget"] (defScope s_law_tape) := ⟨rfl, rfl, rfl, by decide +kernel, rfl, by decide +kernel, by decide +kernel⟩
abbrev s_law_take : Stmt := topS 37
theorem sc_law_take : FnScope ["tape", "many", "cell", "digit"] ["tape", "many"] (defScope s_law_take) := ⟨rfl, rfl, rfl, by decide +kernel, rfl, by decide +kernel, by decide +kernel⟩
abbrev s_law_id : Stmt := topS 38
theorem sc_law_id : FnScope ["tape", "signs", "word", "k"] ["tape"] (defScope s_law_id) := ⟨rfl, rfl, rfl, by decide +kernel, rfl, by decide +kernel, by decide +kernel⟩
abbrev s_law_ids : Stmt := topS 39
theorem sc_law_ids : FnScope ["tape", "many", "found", "turn", "word"] ["tape", "many"] (defScope s_law_ids) := ⟨rfl, rfl, rfl, by decide +kernel, rfl, by decide +kernel, by decide +kernel⟩
abbrev s_law_label : Stmt := topS 40
theorem sc_law_label : FnScope ["tape", "word"] ["tape"] (defScope s_law_label) := ⟨rfl, rfl, rfl, by decide +kernel, rfl, by decide +kernel, by decide +kernel⟩
abbrev s_law_labels : Stmt := topS 41
theorem sc_law_labels : FnScope ["tape", "found", "last", "word"] ["tape"] (defScope s_law_labels) := ⟨rfl, rfl, rfl, by decide +kernel, rfl, by decide +kernel, by decide +kernel⟩
abbrev s_law_lag : Stmt := topS 42
theorem sc_law_lag : FnScope ["tape"] ["tape"] (defScope s_law_lag) := ⟨rfl, rfl, rfl, by decide +kernel, rfl, by decide +kernel, by decide +kernel⟩
abbrev s_law_zones : Stmt := topS 43
abbrev N_law_zones : List Str := ["tape", "most", "one", "two", "three", "pool", "names", "k", "name"]
theorem sc_law_zones : FnScope ["tape", "most", "one", "two", "three", "pool", "names", "k", "name"] ["tape", "most"] (defScope s_law_zones) := ⟨rfl, rfl, rfl, by decide +kernel, rfl, by decide +kernel, by decide +kernel⟩
abbrev s_law_realm : Stmt := topS 44
theorem sc_law_realm : FnScope ["tape", "most", "zones", "sets", "zone", "lag", "name", "kept", "row", "anchors"] ["tape", "most"] (defScope s_law_realm) := ⟨rfl, rfl, rfl, by decide +kernel, rfl, by decide +kernel, by decide +kernel⟩
abbrev s_law_chain : Stmt := topS 45
abbrev N_law_chain : List Str := ["realm", "name", "found", "zone", "lag", "pair"]
theorem sc_law_chain : FnScope ["realm", "name", "found", "zone", "lag", "pair"] ["realm", "name"] (defScope s_law_chain) := ⟨rfl, rfl, rfl, by decide +kernel, rfl, by decide +kernel, by decide +kernel⟩
abbrev s_law_slots : Stmt := topS 46
abbrev N_law_slots : List Str := ["realm", "found", "zone", "lag", "name", "kind"]
theorem sc_law_slots : FnScope ["realm", "found", "zone", "lag", "name", "kind"] ["realm"] (defScope s_law_slots) := ⟨rfl, rfl, rfl, by decide +kernel, rfl, by decide +kernel, by decide +kernel⟩
abbrev s_law_home : Stmt := topS 47
theorem sc_law_home : FnScope ["realm", "slot", "chain"] ["realm", "slot"] (defScope s_law_home) := ⟨rfl, rfl, rfl, by decide +kernel, rfl, by decide +kernel, by decide +kernel⟩
abbrev s_law_life : Stmt := topS 49
theorem sc_law_life : FnScope ["tape"] ["tape"] (defScope s_law_life) := ⟨rfl, rfl, rfl, by decide +kernel, rfl, by decide +kernel, by decide +kernel⟩
abbrev s_law_pools : Stmt := topS 50
abbrev N_law_pools : List Str := ["tape", "realm", "pools", "zone", "lag", "pool", "key"]
theorem sc_law_pools : FnScope ["tape", "realm", "pools", "zone", "lag", "pool", "key"] ["tape", "realm"] (defScope s_law_pools) := ⟨rfl, rfl, rfl, by decide +kernel, rfl, by decide +kernel, by decide +kernel⟩
abbrev s_law_pool : Stmt := topS 51
abbrev N_law_pool : List Str := ["pools", "zone", "name", "pool"]
theorem sc_law_pool : FnScope ["pools", "zone", "name", "pool"] ["pools", "zone"] (defScope s_law_pool) := ⟨rfl, rfl, rfl, by decide +kernel, rfl, by decide +kernel, by decide +kernel⟩
abbrev s_law_item : Stmt := topS 52
theorem sc_law_item : FnScope ["content", "life", "signers"] ["content", "life", "signers"] (defScope s_law_item) := ⟨rfl, rfl, rfl, by decide +kernel, rfl, by decide +kernel, by decide +kernel⟩
abbrev s_law_first_item : Stmt := topS 53
theorem sc_law_first_item : FnScope ["tape", "realm", "pools", "slot", "life", "own", "content"] ["tape", "realm", "pools", "slot"] (defScope s_law_first_item) := ⟨rfl, rfl, rfl, by decide +kernel, rfl, by decide +kernel, by decide +kernel⟩
abbrev s_law_start : Stmt := topS 54
abbrev N_law_start : List Str := ["tape", "realm", "pools", "items", "on", "zone", "lag", "slot"]
theorem sc_law_start : FnScope ["tape", "realm", "pools", "items", "on", "zone", "lag", "slot"] ["tape", "realm", "pools"] (defScope s_law_start) := ⟨rfl, rfl, rfl, by decide +kernel, rfl, by decide +kernel, by decide +kernel⟩
abbrev s_law_at : Stmt := topS 55
abbrev N_law_at : List Str := ["state", "slot", "name", "item"]
theorem sc_law_at : FnScope ["state", "slot", "name", "item"] ["state", "slot"] (defScope s_law_at) := ⟨rfl, rfl, rfl, by decide +kernel, rfl, by decide +kernel, by decide +kernel⟩
abbrev s_law_after : Stmt := topS 56
abbrev N_law_after : List Str := ["state", "deed", "row", "other", "slot", "item"]
theorem sc_law_after : FnScope ["state", "deed", "row", "other", "slot", "item"] ["state", "deed"] (defScope s_law_after) := ⟨rfl, rfl, rfl, by decide +kernel, rfl, by decide +kernel, by decide +kernel⟩
abbrev s_law_server_deed : Stmt := topS 57
abbrev N_law_server_deed : List Str := ["tape", "realm", "state", "zone", "zones", "server", "word", "slot", "content", "lag"]
theorem sc_law_server_deed : FnScope ["tape", "realm", "state", "zone", "zones", "server", "word", "slot", "content", "lag"] ["tape", "realm", "state"] (defScope s_law_server_deed) := ⟨rfl, rfl, rfl, by decide +kernel, rfl, by decide +kernel, by decide +kernel⟩
abbrev s_law_mixed : Stmt := topS 58
theorem sc_law_mixed : FnScope ["tape", "realm", "pools", "slot", "item", "own", "keys", "content", "signers", "draw", "life"] ["tape", "realm", "pools", "slot", "item"] (defScope s_law_mixed) := ⟨rfl, rfl, rfl, by decide +kernel, rfl, by decide +kernel, by decide +kernel⟩
abbrev s_law_deed : Stmt := topS 59
theorem sc_law_deed : FnScope ["tape", "realm", "pools", "state", "places", "slot", "item", "first"] ["tape", "realm", "pools", "state"] (defScope s_law_deed) := ⟨rfl, rfl, rfl, by decide +kernel, rfl, by decide +kernel, by decide +kernel⟩
abbrev s_law_deeds : Stmt := topS 60
theorem sc_law_deeds : FnScope ["tape", "realm", "pools", "state", "many", "deeds", "k", "deed"] ["tape", "realm", "pools", "state", "many"] (defScope s_law_deeds) := ⟨rfl, rfl, rfl, by decide +kernel, rfl, by decide +kernel, by decide +kernel⟩
abbrev s_law_bent_start : Stmt := topS 61
theorem sc_law_bent_start : FnScope ["tape", "realm", "pools", "state", "places", "slot", "item", "first", "own"] ["tape", "realm", "pools", "state"] (defScope s_law_bent_start) := ⟨rfl, rfl, rfl, by decide +kernel, rfl, by decide +kernel, by decide +kernel⟩
abbrev s_law_timed : Stmt := topS 65
theorem sc_law_timed : FnScope ["tape", "deeds", "wide", "moment", "plan", "deed"] ["tape", "deeds", "wide"] (defScope s_law_timed) := ⟨rfl, rfl, rfl, by decide +kernel, rfl, by decide +kernel, by decide +kernel⟩
abbrev s_law_bad_state : Stmt := topS 66
abbrev N_law_bad_state : List Str := ["tape", "state", "items", "on", "slot", "item", "wrong", "name", "row"]
theorem sc_law_bad_state : FnScope ["tape", "state", "items", "on", "slot", "item", "wrong", "name", "row"] ["tape", "state"] (defScope s_law_bad_state) := ⟨rfl, rfl, rfl, by decide +kernel, rfl, by decide +kernel, by decide +kernel⟩
abbrev s_law_bad_deeds : Stmt := topS 67
theorem sc_law_bad_deeds : FnScope ["tape", "realm", "state", "slot", "item", "bad", "server", "zone"] ["tape", "realm", "state"] (defScope s_law_bad_deeds) := ⟨rfl, rfl, rfl, by decide +kernel, rfl, by decide +kernel, by decide +kernel⟩
abbrev s_law_refused : Stmt := topS 68
theorem sc_law_refused : FnScope ["realm", "state", "deed", "why"] ["realm", "state", "deed"] (defScope s_law_refused) := ⟨rfl, rfl, rfl, by decide +kernel, rfl, by decide +kernel, by decide +kernel⟩
abbrev s_law : Stmt := topS 69
abbrev N_law : List Str := ["script", "tape", "realm", "pools", "state", "bad", "deed", "deeds", "plan", "here", "known", "moment", "k", "due", "slot", "item", "zone", "lag", "server", "told", "wrong", "long", "row"]
theorem sc_law : FnScope ["script", "tape", "realm", "pools", "state", "bad", "deed", "deeds", "plan", "here", "known", "moment", "k", "due", "slot", "item", "zone", "lag", "server", "told", "wrong", "long", "row"] ["script"] (defScope s_law) := ⟨rfl, rfl, rfl, by decide +kernel, rfl, by decide +kernel, by decide +kernel⟩
local macro_rules | `(tactic| walk_at "szl_2") => `(tactic| first
  | assumption
  | exact Nat.lt_of_le_of_lt (by assumption) (by decide)
  | (refine Nat.lt_of_le_of_lt ?_ (show (100000 : Nat) < sizeLine by decide); (try simp only [List.length_map, List.length_cons, List.length_nil, List.length_append]); omega))
local macro_rules | `(tactic| walk_at "sz_2") => `(tactic| first
  | assumption
  | exact Nat.le_trans (by assumption) (by decide)
  | (show _ ≤ sizeLine; decide)
  | (refine Nat.le_trans ?_ (show (100000 : Nat) ≤ sizeLine by decide); (try simp only [List.length_map, List.length_cons, List.length_nil, List.length_append]); omega))
local macro_rules | `(tactic| walk_at "hp_2") => `(tactic| first
  | assumption
  | exact upd_same
  | (refine (upd_ne ?hne).trans ?_; (case hne => first | assumption | exact Ne.symm (by assumption)); walk_at "hp_2"))
local macro_rules | `(tactic| walk_at "pl_2") => `(tactic| (refine Nat.le_trans (?plx : _ ≤ 1000) (by decide); (case plx => (try simp only [app_len, dot_len, dotS_len, w_len]); omega)))
local macro_rules | `(tactic| walk_at "rd1_2") => `(tactic| first
  | with_reducible refine rd_seq ?_
  | with_reducible refine rd_asg ?_
  | with_reducible refine rd_ret ?_
  | with_reducible refine rd_if ?_
  | with_reducible refine rd_drop ?_
  | with_reducible refine rd_next ?_
  | with_reducible refine rd_B ?_
  | with_reducible refine rd_ifE ?_
  | with_reducible refine rd_T ?_
  | with_reducible refine rd_tnot ?_
  | with_reducible refine rd_tand ?_
  | with_reducible refine rd_tor ?_
  | with_reducible refine rd_chain ?_
  | with_reducible refine rd_op ?_
  | with_reducible refine rd_un ?_
  | with_reducible refine rd_call ?_
  | with_reducible refine rd_cons ?_
  | with_reducible refine rd_nil ?_
  | with_reducible refine rd_cb ?_
  | with_reducible refine rd_c ?_
  | with_reducible refine rd_not ?_
  | with_reducible refine rd_and ?_
  | with_reducible refine rd_or ?_
  | with_reducible refine rd_sub ?_
  | with_reducible refine rd_lc ?_
  | with_reducible refine rd_iStr ?_
  | with_reducible refine rd_exStr ?_
  | with_reducible refine rd_iSeq ?_
  | with_reducible refine rd_rng ?_
  | with_reducible refine rd_exRef ?_
  | with_reducible refine rd_exInt ?_
  | with_reducible refine rd_exInts ?_
  | ((with_reducible refine' rd_seqL (xs := ?rxs) ?rxh ?_); (case rxh => exact SqL.of (by walk_at "hp_2")))
  | with_reducible refine rd_tyes ?_
  | with_reducible refine rd_eqStr ?_
  | with_reducible refine rd_neStr ?_
  | with_reducible refine rd_eqInt ?_
  | with_reducible refine rd_neInt ?_
  | with_reducible refine rd_eqBl ?_
  | with_reducible refine rd_rev ?_
  | with_reducible refine rd_exA ?_
  | with_reducible refine rd_fs ?_
  | with_reducible refine rd_jc ?_
  | with_reducible refine rd_jn ?_
  | with_reducible refine rd_fmt ?_
  | with_reducible refine rd_for ?_
  | with_reducible refine rd_bm ?_
  | ((with_reducible refine' rd_tyL (xs := ?rxs) ?rxh ?_); (case rxh => walk_at "hp_2"))
  | ((with_reducible refine' rd_app (xs := ?rxs) ?rxh ?rxc ?_); (case rxh => walk_at "hp_2"); (case rxc => walk_at "szl_2"))
  | ((with_reducible refine rd_fmtS ?rdc ?_); (case rdc => walk_at "sz_2"))
  | with_reducible refine rd_isBool ?_
  | with_reducible refine rd_sl ?_
  | with_reducible refine rd_noP ?_
  | with_reducible refine rd_part ?_
  | ((with_reducible refine rd_slS ?rdc ?_); (case rdc => walk_at "sz_2"))
  | with_reducible refine rd_sortLam ?_
  | with_reducible refine iteT ?_
  | with_reducible refine rd_ntt ?_
  | with_reducible refine rd_nff ?_
  | with_reducible refine iteF ?_
  | with_reducible refine rd_m1 ?_
  | (with_reducible refine ⟨⟨_, rfl⟩, ?_⟩)
  | ((with_reducible refine rd_len ?rdc ?_); (case rdc => walk_at "sz_2"))
  | with_reducible refine rd_gcons ?_
  | ((with_reducible refine rd_plusS ?rdc ?_); (case rdc => walk_at "pl_2"))
  | with_reducible refine rd_gnil ?_
  | ((with_reducible refine' rd_inWs (zs := ?rxs) ?rxh ?_); (case rxh => walk_at "hp_2"))
  | ((with_reducible refine' rd_ninWs (zs := ?rxs) ?rxh ?_); (case rxh => walk_at "hp_2"))
  | with_reducible refine rd_ends ?_
  | with_reducible refine rd_inS ?_
  | with_reducible refine rd_ninS ?_
  | with_reducible refine rd_isStr ?_
  | with_reducible refine rd_lst ?_
  | with_reducible refine rd_tup ?_
  | with_reducible refine rd_name ?_
  | with_reducible refine rd_bl ?_
  | with_reducible refine rd_i0 ?_
  | with_reducible refine rd_uI ?_
  | with_reducible refine rd_plusI ?_
  | with_reducible refine rd_int1 ?_
  | ((with_reducible refine rd_i ?rdc ?_); (case rdc => first | decide | (constructor <;> decide) | (left; constructor <;> decide) | (right; constructor <;> decide) | omega | (left; constructor <;> omega) | (right; constructor <;> omega) | (constructor <;> omega)))
  | ((with_reducible refine' rd_ixL (v := ?rxv) (xs := ?rxs) ?rxh ?rxa ?_); (case rxh => exact SqL.of (by walk_at "hp_2")); (case rxa => rfl))
  | ((with_reducible refine' rd_lenL (ys := ?rxs) ?rxh ?_); (case rxh => exact SqL.of (by walk_at "hp_2")))
  | ((with_reducible refine' rd_set (xs := ?rxs) (j := ?rxj) ?rxh ?rxa ?_); (case rxh => walk_at "hp_2"); (case rxa => rfl))
  | ((with_reducible refine' rd_var (v := ?rdw) ?rdv ?_); (case rdv => rfl)))
local macro_rules | `(tactic| walk_at "rdn1_2") => `(tactic| first
  | with_reducible refine rd_asg ?_
  | with_reducible refine rd_ret ?_
  | with_reducible refine rd_if ?_
  | with_reducible refine rd_drop ?_
  | with_reducible refine rd_next ?_
  | with_reducible refine rd_B ?_
  | with_reducible refine rd_ifE ?_
  | with_reducible refine rd_T ?_
  | with_reducible refine rd_tnot ?_
  | with_reducible refine rd_tand ?_
  | with_reducible refine rd_tor ?_
  | with_reducible refine rd_chain ?_
  | with_reducible refine rd_op ?_
  | with_reducible refine rd_un ?_
  | with_reducible refine rd_call ?_
  | with_reducible refine rd_cons ?_
  | with_reducible refine rd_nil ?_
  | with_reducible refine rd_cb ?_
  | with_reducible refine rd_c ?_
  | with_reducible refine rd_not ?_
  | with_reducible refine rd_and ?_
  | with_reducible refine rd_or ?_
  | with_reducible refine rd_sub ?_
  | with_reducible refine rd_lc ?_
  | with_reducible refine rd_iStr ?_
  | with_reducible refine rd_exStr ?_
  | with_reducible refine rd_iSeq ?_
  | with_reducible refine rd_rng ?_
  | with_reducible refine rd_exRef ?_
  | with_reducible refine rd_exInt ?_
  | with_reducible refine rd_exInts ?_
  | ((with_reducible refine' rd_seqL (xs := ?rxs) ?rxh ?_); (case rxh => exact SqL.of (by walk_at "hp_2")))
  | with_reducible refine rd_tyes ?_
  | with_reducible refine rd_eqStr ?_
  | with_reducible refine rd_neStr ?_
  | with_reducible refine rd_eqInt ?_
  | with_reducible refine rd_neInt ?_
  | with_reducible refine rd_eqBl ?_
  | with_reducible refine rd_rev ?_
  | with_reducible refine rd_exA ?_
  | with_reducible refine rd_fs ?_
  | with_reducible refine rd_jc ?_
  | with_reducible refine rd_jn ?_
  | with_reducible refine rd_fmt ?_
  | with_reducible refine rd_for ?_
  | with_reducible refine rd_bm ?_
  | ((with_reducible refine' rd_tyL (xs := ?rxs) ?rxh ?_); (case rxh => walk_at "hp_2"))
  | ((with_reducible refine' rd_app (xs := ?rxs) ?rxh ?rxc ?_); (case rxh => walk_at "hp_2"); (case rxc => walk_at "szl_2"))
  | ((with_reducible refine rd_fmtS ?rdc ?_); (case rdc => walk_at "sz_2"))
  | with_reducible refine rd_isBool ?_
  | with_reducible refine rd_sl ?_
  | with_reducible refine rd_noP ?_
  | with_reducible refine rd_part ?_
  | ((with_reducible refine rd_slS ?rdc ?_); (case rdc => walk_at "sz_2"))
  | with_reducible refine rd_sortLam ?_
  | with_reducible refine iteT ?_
  | with_reducible refine rd_ntt ?_
  | with_reducible refine rd_nff ?_
  | with_reducible refine iteF ?_
  | with_reducible refine rd_m1 ?_
  | (with_reducible refine ⟨⟨_, rfl⟩, ?_⟩)
  | ((with_reducible refine rd_len ?rdc ?_); (case rdc => walk_at "sz_2"))
  | with_reducible refine rd_gcons ?_
  | ((with_reducible refine rd_plusS ?rdc ?_); (case rdc => walk_at "pl_2"))
  | with_reducible refine rd_gnil ?_
  | ((with_reducible refine' rd_inWs (zs := ?rxs) ?rxh ?_); (case rxh => walk_at "hp_2"))
  | ((with_reducible refine' rd_ninWs (zs := ?rxs) ?rxh ?_); (case rxh => walk_at "hp_2"))
  | with_reducible refine rd_ends ?_
  | with_reducible refine rd_inS ?_
  | with_reducible refine rd_ninS ?_
  | with_reducible refine rd_isStr ?_
  | with_reducible refine rd_lst ?_
  | with_reducible refine rd_tup ?_
  | with_reducible refine rd_name ?_
  | with_reducible refine rd_bl ?_
  | with_reducible refine rd_i0 ?_
  | with_reducible refine rd_uI ?_
  | with_reducible refine rd_plusI ?_
  | with_reducible refine rd_int1 ?_
  | ((with_reducible refine rd_i ?rdc ?_); (case rdc => first | decide | (constructor <;> decide) | (left; constructor <;> decide) | (right; constructor <;> decide) | omega | (left; constructor <;> omega) | (right; constructor <;> omega) | (constructor <;> omega)))
  | ((with_reducible refine' rd_ixL (v := ?rxv) (xs := ?rxs) ?rxh ?rxa ?_); (case rxh => exact SqL.of (by walk_at "hp_2")); (case rxa => rfl))
  | ((with_reducible refine' rd_lenL (ys := ?rxs) ?rxh ?_); (case rxh => exact SqL.of (by walk_at "hp_2")))
  | ((with_reducible refine' rd_set (xs := ?rxs) (j := ?rxj) ?rxh ?rxa ?_); (case rxh => walk_at "hp_2"); (case rxa => rfl))
  | ((with_reducible refine' rd_var (v := ?rdw) ?rdv ?_); (case rdv => rfl)))
local macro_rules | `(tactic| walk_at "rd_2") => `(tactic| repeat walk_at "rd1_2")
local macro_rules | `(tactic| walk_at "ext_2") => `(tactic| first
  | exact Ext.refl
  | assumption
  | (refine Ext.trans ?_ (Ext.mut (by simp) (by walk_at "hp_2")); walk_at "ext_2")
  | (refine Ext.trans ?_ (Ext.new (by assumption)); walk_at "ext_2"))
local macro_rules | `(tactic| walk_at "rdn_2") => `(tactic| repeat walk_at "rdn1_2")
section
variable {T : List (Addr × Str)} {P : Program} {w : World} {K : PySem.W.Frag} {mg : Str → Option Value} {base : Heap}
def bltns : List Str := ["isinstance", "str", "len", "all", "sorted", "range", "list", "tuple", "int", "bool", "dict", "any", "min", "max", "enumerate", "zip", "set", "reversed"]
theorem ok_law_id (D : Def K mg "_law_id" s_law_id ["tape"]) (mb : ∀ x ∈ bltns, mg x = none) (G_law_take : Ok P w K mg base 2 "_law_take" ["tape", "many"] (spTake T)) : Ok P w K mg base 3 "_law_id" ["tape"] (spId T) := by
  refine D.ok sc_law_id (fun vs H Q E h => ?_) (fun cdv f A outer s H vs Q E hr h => ?_)
  · obtain ⟨l, t, rfl, _⟩ := h
    rfl
  · obtain ⟨l, t, rfl, hT, q⟩ := h
    refine ⟨_, (pss_cons (ps_set (i := 1) sc_law_id.nd rfl (.inl rfl) pe_str)
   (pss_cons (ps_set (i := 2) sc_law_id.nd rfl (.inl rfl) pe_str)
   (pss_cons (ps_for PassesOwn.never rfl (pi_range1 (by rfl) (mb _ (by decide)) (pa_cons (pe_op (op_plus K rfl) pe_int (pe_callO G_law_take (hr.mono (by decide)) (by rfl) (pa_cons (pv 0) (pa_cons pe_int pa_nil)))) pa_nil)) (pg_name (i := 3) sc_law_id.nd rfl (.inl rfl)) (pss_one (ps_set (i := 2) sc_law_id.nd rfl (.inl rfl) (pe_op (op_plus K rfl) (pv 2) (pe_ix (ix_U K rfl) (pv 1) (pe_callO G_law_take (hr.mono (by decide)) (by rfl) (pa_cons (pv 0) (pa_cons pe_int pa_nil))) (fun _ _ => rfl))))))
   (pss_one (ps_ret (pv 2)))))), ?_⟩
    walk_at "rd_2"
    refine ⟨l, t, 4, rfl, by decide, by decide, hT, fun d H1 hd0 hd1 e1 T1 => ?_⟩
    walk_at "rd_2"
    refine ⟨by omega, by omega, ?_⟩
    refine forg_range (fun i σ H' => Ext T [t] H H' ∧ Tape l H' t ∧ ∃ (z : Str) (k : Option V), σ = [some (.ref t), some (.str lettersS), some (.str z), k] ∧ z.length = i ∧ ∀ c ∈ sg z, c ∈ sg lettersS)
      ⟨e1, T1, _, none, rfl, by decide +kernel, by decide +kernel⟩ (fun i σ H' hi h => ?_) (fun σ H' h => ?_)
    · obtain ⟨e2, T2, z, k, rfl, hz, hc⟩ := h
      have hs36 : (sg lettersS).length = 36 := by decide +kernel
      walk_at "rd_2"
      refine ⟨l, t, 36, rfl, by decide, by decide, T2, fun d2 H2 h0 h1 e3 T3 => ?_⟩
      obtain ⟨c, hc1, _, hc2⟩ := at_in (l := sg lettersS) h0 (by omega)
      refine rd_ixS (by rw [← sg_len, hs36]; decide) hc1 ?_
      refine rd_plusS ?_ ⟨e2.trans e3, T3, _, _, rfl, ?_, ?_⟩
      · show z.length + 1 ≤ sizeLine
        exact Nat.le_trans (show _ ≤ 101 by omega) (by decide)
      · rw [app_len, hz]
        rfl
      · intro y hy
        rw [sg_app] at hy
        rcases List.mem_append.mp hy with h | h
        · exact hc y h
        · rw [List.mem_singleton.mp (show y ∈ [c] from h)]
          exact hc2
    · obtain ⟨e2, T2, z, k, rfl, hz, hc⟩ := h
      walk_at "rd_2"
      refine q z H' ?_ e2 T2
      unfold idB wordB
      rw [decide_eq_true (show (1 : Int) ≤ (z.length : Int) by omega), decide_eq_true (show (z.length : Int) ≤ 4 by omega)]
      rw [List.all_eq_true.mpr fun y hy => decide_eq_true (hc y hy)]
      rfl
theorem ok_law_ids (D : Def K mg "_law_ids" s_law_ids ["tape", "many"]) (mb : ∀ x ∈ bltns, mg x = none) (G_law_id : Ok P w K mg base 3 "_law_id" ["tape"] (spId T)) : Ok P w K mg base 4 "_law_ids" ["tape", "many"] (spIds T) := by
  refine D.ok sc_law_ids (fun vs H Q E h => ?_) (fun cdv f A outer s H vs Q E hr h => ?_)
  · obtain ⟨l, t, m, rfl, _⟩ := h
    rfl
  · obtain ⟨l, t, m, rfl, hm0, hm5, hT, q⟩ := h
    refine ⟨_, (pss_cons (ps_set (i := 2) sc_law_ids.nd rfl (.inl rfl) (pe_lst pa_nil))
   (pss_cons (ps_for PassesOwn.never rfl (pi_range1 (by rfl) (mb _ (by decide)) (pa_cons pe_int pa_nil)) (pg_name (i := 3) sc_law_ids.nd rfl (.inl rfl)) (pss_cons (ps_set (i := 4) sc_law_ids.nd rfl (.inl rfl) (pe_callO G_law_id (hr.mono (by decide)) (by rfl) (pa_cons (pv 0) pa_nil)))
   (pss_one (ps_if (PW.pt (pw_and (pt_cmpR op_lt (pe_callB (call_lenU K rfl) (by rfl) (mb _ (by decide)) (by decide +kernel) (pa_cons (pv 2) pa_nil)) (pv 1) (nomark _)) (pw_and1 (pt_cmpR (op_ninW K rfl (Room.units65 hr)) (pv 4) (pv 2) rfl)))) (pss_one (ps_expr (pe_bm PySem.F.plainAttrs_list PySem.F.slot_list_append PySem.F.type_list_append mt_append (pv 2) (pa_cons (pv 4) pa_nil)))) pss_nil))))
   (pss_cons (ps_for PassesOwn.never rfl (pi_seq K rfl (pe_lst (pa_cons pe_str (pa_cons pe_str (pa_cons pe_str (pa_cons pe_str (pa_cons pe_str pa_nil))))))) (pg_name (i := 4) sc_law_ids.nd rfl (.inl rfl)) (pss_one (ps_if (PW.pt (pw_and (pt_cmpR op_lt (pe_callB (call_lenU K rfl) (by rfl) (mb _ (by decide)) (by decide +kernel) (pa_cons (pv 2) pa_nil)) (pv 1) (nomark _)) (pw_and1 (pt_cmpR (op_ninW K rfl (Room.units65 hr)) (pv 4) (pv 2) rfl)))) (pss_one (ps_expr (pe_bm PySem.F.plainAttrs_list PySem.F.slot_list_append PySem.F.type_list_append mt_append (pv 2) (pa_cons (pv 4) pa_nil)))) pss_nil)))
   (pss_one (ps_ret (pv 2)))))), ?_⟩
    refine rd_seq ?_
    walk_at "rdn_2"
    refine ⟨by show 0 ≤ sizeLine; decide, fun p np => ?_⟩
    have hpn : Nw H p := .of np
    obtain ⟨hpt, hpl⟩ := hT.ne hpn
    have e0 : Ext T [t] H (upd H p (.lst [])) := .new np
    have T0 := hT.upd (o := .lst []) np
    have hp0 : (upd H p (.lst [])) p = some (.lst (([] : List Str).map V.str)) := upd_same
    generalize upd H p (.lst []) = H0 at e0 T0 hp0 ⊢
    walk_at "rdn_2"
    -- a word is put to the list
    have put : ∀ (N1 N2 : L2.St → Hp → Prop) (σ : L2.St) (H1 : Hp) (ys : List Str) (z : Str), Ext T [t] H H1 → Tape l H1 t → H1 p = some (.lst (ys.map V.str)) → ys.Nodup → (∀ y ∈ ys, idB y = true) → (ys.length : Int) ≤ m → idB z = true →
        (∀ (H2 : Hp) (ys' : List Str), Ext T [t] H H2 → Tape l H2 t → H2 p = some (.lst (ys'.map V.str)) → ys'.Nodup → (∀ y ∈ ys', idB y = true) → (ys'.length : Int) ≤ m → (∀ y ∈ ys, y ∈ ys') → ((ys'.length : Int) < m → z ∈ ys') → (∀ b xs, b ≠ p → H1 b = some (.lst xs) → H2 b = some (.lst xs)) → N1 σ H2) → σ[1]? = some (some (.int m)) → σ[2]? = some (some (.ref p)) → σ[4]? = some (some (.str z)) →
        (tIfS (tAnd (tTest (tOp (rI0 fun i j => V.bl (decide (i < j))) (tCB (rLenU K) (tCons (tVar 2) tNil)) (tVar 1))) (tTest (tOp (rNinW K) (tVar 4) (tVar 2)))) (tDrop (tBM K "list" rAppend (tVar 2) (tCons (tVar 4) tNil))) tNext) ⟨N1, Q, N2, N1⟩ σ H1 := by
      intro N1 N2 σ H1 ys z e1 T1 hp1 hnd hid hlen hz k s1 s2 s4
      walk_at "rd_2"
      refine rd_var s2 ?_
      walk_at "rd_2"
      refine rd_var s1 ?_
      walk_at "rd_2"
      refine rd_ite (fun hlt => ?_) (fun hlt => ?_)
      · walk_at "rd_2"
        refine rd_var s4 ?_
        refine rd_var s2 ?_
        walk_at "rd_2"
        refine rd_itn (fun hin => ?_) (fun hin => ?_)
        · walk_at "rd_2"
          exact k H1 ys e1 T1 hp1 hnd hid hlen (fun y hy => hy) (fun _ => hin) fun _ _ _ h => h
        · walk_at "rd_2"
          refine rd_var s2 ?_
          walk_at "rd_2"
          refine rd_var s4 ?_
          walk_at "rd_2"
          refine k _ (ys ++ [z]) (e1.own hpn hp1) (T1.own hpt hpl) ?_ (nodup_snoc hnd hin) (fun y hy => ?_) ?_ (fun y hy => List.mem_append_left _ hy) (fun _ => by simp) fun b xs hb h => (upd_ne hb).trans h
          · rw [List.map_append]
            exact upd_same
          · rcases List.mem_append.mp hy with h | h
            · exact hid y h
            · rw [List.mem_singleton.mp h]
              exact hz
          · rw [List.length_append]
            rw [List.length_map] at hlt
            show ((ys.length + 1 : Nat) : Int) ≤ m
            omega
      · walk_at "rd_2"
        rw [List.length_map] at hlt
        exact k H1 ys e1 T1 hp1 hnd hid hlen (fun y hy => hy) (fun h => absurd h hlt) fun _ _ _ h => h
    refine rd_cut (fun σ H1 => Ext T [t] H H1 ∧ Tape l H1 t ∧ ∃ (ys : List Str) (a b : Option V), σ = [some (.ref t), some (.int m), some (.ref p), a, b] ∧ H1 p = some (.lst (ys.map V.str)) ∧ ys.Nodup ∧ (∀ y ∈ ys, idB y = true) ∧ (ys.length : Int) ≤ m) (fun nx' hnx => ?_) (fun σ H1 h => ?_)
    · walk_at "rd_2"
      refine ⟨by decide, by decide, ?_⟩
      refine forg_range (fun i σ H1 => Ext T [t] H H1 ∧ Tape l H1 t ∧ ∃ (ys : List Str) (a b : Option V), σ = [some (.ref t), some (.int m), some (.ref p), a, b] ∧ H1 p = some (.lst (ys.map V.str)) ∧ ys.Nodup ∧ (∀ y ∈ ys, idB y = true) ∧ (ys.length : Int) ≤ m)
        ⟨e0, T0, [], none, none, rfl, hp0, by simp, by simp, hm0⟩ (fun i σ H1 hi h => ?_) (fun σ H1 h => hnx _ _ h)
      obtain ⟨e1, T1, ys, a, b, rfl, hp1, hnd, hid, hlen⟩ := h
      refine rd_name ?_
      refine rd_seq ?_
      walk_at "rdn_2"
      refine ⟨l, t, rfl, T1, fun z H2 hz e2 T2 => ?_⟩
      refine rd_name ?_
      refine put _ _ _ H2 ys z (e1.trans e2) T2 (e2.lst (by simpa using hpt) hp1) hnd hid hlen hz (fun H3 ys' e3 T3 h1 h2 h3 h4 _ _ _ => ?_) rfl rfl rfl
      exact ⟨e3, T3, ys', _, _, rfl, h1, h2, h3, h4⟩
    · obtain ⟨e1, T1, ys, a, b, rfl, hp1, hnd, hid, hlen⟩ := h
      clear e0 T0 hp0
      refine rd_seq ?_
      walk_at "rdn_2"
      refine ⟨by show 5 ≤ sizeLine; decide, fun qa nq => ?_⟩
      have hqp : p ≠ qa := (Nw.of nq).lst hp1
      obtain ⟨hqt, hql⟩ := T1.ne (.of nq)
      have e2 : Ext T [t] H (upd H1 qa (.lst (qsL.map V.str))) := e1.newR nq
      have T2 := T1.upd (o := .lst (qsL.map V.str)) nq
      have hp2 : (upd H1 qa (.lst (qsL.map V.str))) p = some (.lst (ys.map V.str)) := (upd_ne hqp).trans hp1
      have hq2 : (upd H1 qa (.lst (qsL.map V.str))) qa = some (.lst (qsL.map V.str)) := upd_same
      have hqn : ∀ {H' : Hp}, Ext T [t] H H' → True := fun _ => trivial
      refine ⟨qa, rfl, .inl ⟨⟨_, SqL.of hq2⟩, ?_⟩⟩
      show ForG _ _ _ _ _ (upd H1 qa (.lst (qsL.map V.str)))
      generalize upd H1 qa (.lst (qsL.map V.str)) = H2 at e2 T2 hp2 hq2 ⊢
      refine forg_list (xs := qsL.map V.str) (fun i σ H3 => Ext T [t] H H3 ∧ Tape l H3 t ∧ H3 qa = some (.lst (qsL.map V.str)) ∧ ∃ (ys : List Str) (a b : Option V), σ = [some (.ref t), some (.int m), some (.ref p), a, b] ∧ H3 p = some (.lst (ys.map V.str)) ∧ ys.Nodup ∧ (∀ y ∈ ys, idB y = true) ∧ (ys.length : Int) ≤ m ∧ ((ys.length : Int) < m → ∀ y ∈ qsL.take i, y ∈ ys))
        ⟨e2, T2, hq2, ys, a, b, rfl, hp2, hnd, hid, hlen, fun _ y hy => by simp at hy⟩ (fun i σ H3 _ h => SqL.of h.2.2.1) (fun i x σ H3 hx h => ?_) (fun σ H3 h => ?_)
      · obtain ⟨e3, T3, hq3, ys, a, b, rfl, hp3, hnd, hid, hlen, hall⟩ := h
        rw [List.getElem?_map] at hx
        obtain ⟨z, hz, rfl⟩ := Option.map_eq_some_iff.mp hx
        refine rd_name ?_
        refine put _ _ _ H3 ys z e3 T3 hp3 hnd hid hlen (qs_ok z (List.mem_of_getElem? hz)) (fun H4 ys' e4 T4 h1 h2 h3 h4 h5 h6 h7 => ?_) rfl rfl rfl
        have hq4 : H4 qa = some (.lst (qsL.map V.str)) := h7 qa _ hqp.symm hq3
        refine ⟨e4, T4, hq4, ys', _, _, rfl, h1, h2, h3, h4, fun hlt y hy => ?_⟩
        rw [List.take_add_one, hz] at hy
        rcases List.mem_append.mp hy with hy | hy
        · refine h5 y (hall ?_ y hy)
          have := nodup_len hnd h5
          omega
        · rw [List.mem_singleton.mp (show y ∈ [z] from hy)]
          exact h6 hlt
      · obtain ⟨e3, T3, hq3, ys, a, b, rfl, hp3, hnd, hid, hlen, hall⟩ := h
        walk_at "rd_2"
        have hle : (ys.length : Int) = m := by
          rcases Int.lt_or_le ys.length m with h | h
          · have h2 := nodup_len qs_nodup fun y hy => hall h y (by rw [List.length_map, List.take_length]; exact hy)
            have h3 : qsL.length = 5 := rfl
            omega
          · omega
        exact q p ys H3 hpn hle hnd hid hp3 e3 T3
end
section
variable {T : List (Addr × Str)} {P : Program} {w : World} {K : PySem.W.Frag} {mg : Str → Option Value} {base : Heap}
theorem ok_law_label (D : Def K mg "_law_label" s_law_label ["tape"]) (mb : ∀ x ∈ bltns, mg x = none) (G_law_take : Ok P w K mg base 2 "_law_take" ["tape", "many"] (spTake T)) (G_law_id : Ok P w K mg base 3 "_law_id" ["tape"] (spId T)) : Ok P w K mg base 4 "_law_label" ["tape"] (spLabel T) := by
  refine D.ok sc_law_label (fun vs H Q E h => ?_) (fun cdv f A outer s H vs Q E hr h => ?_)
  · obtain ⟨l, t, rfl, _⟩ := h
    rfl
  · obtain ⟨l, t, rfl, hT, q⟩ := h
    refine ⟨_, (pss_cons (ps_set (i := 1) sc_law_label.nd rfl (.inl rfl) (pe_callO G_law_id (hr.mono (by decide)) (by rfl) (pa_cons (pv 0) pa_nil)))
   (pss_cons (ps_if (pt_cmpR (op_eqU K rfl hr.units) (pe_callO G_law_take (hr.mono (by decide)) (by rfl) (pa_cons (pv 0) (pa_cons pe_int pa_nil))) pe_int (nomark _)) (pss_one (ps_set (i := 1) sc_law_label.nd rfl (.inl rfl) (pe_op (op_plus K rfl) (pv 1) (pe_callO G_law_id (hr.mono (by decide)) (by rfl) (pa_cons (pv 0) pa_nil))))) pss_nil)
   (pss_one (ps_ret (pv 1))))), ?_⟩
    walk_at "rd_2"
    refine ⟨l, t, rfl, hT, fun z H1 hz e1 T1 => ?_⟩
    walk_at "rd_2"
    refine ⟨l, t, 4, rfl, by decide, by decide, T1, fun d H2 h0 h1 e2 T2 => ?_⟩
    walk_at "rd_2"
    refine rd_ite (fun h => ?_) (fun h => ?_)
    · walk_at "rd_2"
      refine ⟨l, t, rfl, T2, fun z2 H3 hz2 e3 T3 => ?_⟩
      have hl1 := id_len hz
      have hl2 := id_len hz2
      refine rd_plusS (Nat.le_trans (show z.length + z2.length ≤ 100 by omega) (by decide)) ?_
      walk_at "rd_2"
      exact q _ H3 (word_app hz hz2 (by decide)) ((e1.trans e2).trans e3) T3
    · walk_at "rd_2"
      exact q z H2 (word_mono hz (by decide)) (e1.trans e2) T2
theorem ok_law_labels (D : Def K mg "_law_labels" s_law_labels ["tape"]) (mb : ∀ x ∈ bltns, mg x = none) (G_law_label : Ok P w K mg base 4 "_law_label" ["tape"] (spLabel T)) : Ok P w K mg base 5 "_law_labels" ["tape"] (spLabels T) := by
  refine D.ok sc_law_labels (fun vs H Q E h => ?_) (fun cdv f A outer s H vs Q E hr h => ?_)
  · obtain ⟨l, t, rfl, _⟩ := h
    rfl
  · obtain ⟨l, t, rfl, hT, q⟩ := h
    refine ⟨_, (pss_cons (ps_set (i := 1) sc_law_labels.nd rfl (.inl rfl) (pe_lst pa_nil))
   (pss_cons (ps_for PassesOwn.never rfl (pi_seq K rfl (pe_lst (pa_cons pe_str (pa_cons pe_str (pa_cons pe_str (pa_cons pe_str pa_nil)))))) (pg_name (i := 2) sc_law_labels.nd rfl (.inl rfl)) (pss_cons (ps_set (i := 3) sc_law_labels.nd rfl (.inl rfl) (pe_callO G_law_label (hr.mono (by decide)) (by rfl) (pa_cons (pv 0) pa_nil)))
   (pss_cons (ps_if (pt_cmpR (op_inW K rfl (Room.units65 hr)) (pv 3) (pv 1) rfl) (pss_one (ps_set (i := 3) sc_law_labels.nd rfl (.inl rfl) (pe_slice (sl_U K rfl) (pe_op (op_plus K rfl) (pe_op (op_plus K rfl) (pv 3) (pv 2)) pe_str) (po_some (pe_un un_neg pe_int)) po_none))) pss_nil)
   (pss_one (ps_if (pt_cmpR (op_ninW K rfl (Room.units65 hr)) (pv 3) (pv 1) rfl) (pss_one (ps_expr (pe_bm PySem.F.plainAttrs_list PySem.F.slot_list_append PySem.F.type_list_append mt_append (pv 1) (pa_cons (pv 3) pa_nil)))) pss_nil)))))
   (pss_one (ps_ret (pe_op (op_plus K rfl) (pv 1) (pe_lst (pa_cons pe_str (pa_cons pe_str (pa_cons pe_str (pa_cons pe_str pa_nil)))))))))), ?_⟩
    refine rd_seq ?_
    walk_at "rdn_2"
    refine ⟨by show 0 ≤ sizeLine; decide, fun p np => ?_⟩
    have hpn : Nw H p := .of np
    obtain ⟨hpt, hpl⟩ := hT.ne hpn
    have e0 : Ext T [t] H (upd H p (.lst [])) := .new np
    have T0 := hT.upd (o := .lst []) np
    have hp0 : (upd H p (.lst [])) p = some (.lst (([] : List Str).map V.str)) := upd_same
    generalize upd H p (.lst []) = H0 at e0 T0 hp0 ⊢
    walk_at "rdn_2"
    refine rd_seq ?_
    walk_at "rdn_2"
    refine ⟨by show 4 ≤ sizeLine; decide, fun qa nq => ?_⟩
    have hqp : p ≠ qa := (Nw.of nq).lst hp0
    obtain ⟨hqt, hql⟩ := T0.ne (.of nq)
    have e2 : Ext T [t] H (upd H0 qa (.lst (xyzL.map V.str))) := e0.newR nq
    have T2 := T0.upd (o := .lst (xyzL.map V.str)) nq
    have hp2 : (upd H0 qa (.lst (xyzL.map V.str))) p = some (.lst (([] : List Str).map V.str)) := (upd_ne hqp).trans hp0
    have hq2 : (upd H0 qa (.lst (xyzL.map V.str))) qa = some (.lst (xyzL.map V.str)) := upd_same
    refine ⟨qa, rfl, .inl ⟨⟨_, SqL.of hq2⟩, ?_⟩⟩
    show ForG _ _ _ _ _ (upd H0 qa (.lst (xyzL.map V.str)))
    generalize upd H0 qa (.lst (xyzL.map V.str)) = H2 at e2 T2 hp2 hq2 ⊢
    refine forg_list (xs := xyzL.map V.str) (fun i σ H3 => Ext T [t] H H3 ∧ Tape l H3 t ∧ H3 qa = some (.lst (xyzL.map V.str)) ∧ ∃ (F fs : List Str) (a b : Option V), σ = [some (.ref t), some (.ref p), a, b] ∧ H3 p = some (.lst (F.map V.str)) ∧ F.Nodup ∧ (∀ y ∈ F, labelB y = true) ∧ F.length + fs.length = i ∧ fs.Nodup ∧ ∀ y ∈ fs, y ∈ F ∧ ∃ j c, j < i ∧ (xyzC)[j]? = some c ∧ EndW c y)
      ⟨e2, T2, hq2, [], [], none, none, rfl, hp2, by simp, by simp, rfl, by simp, by simp⟩ (fun i σ H3 _ h => SqL.of h.2.2.1) (fun i x σ H3 hx h => ?_) (fun σ H3 h => ?_)
    · obtain ⟨e3, T3, hq3, F, fs, a, b, rfl, hp3, hnd, hlb, hlen, hfs, hfe⟩ := h
      rw [List.getElem?_map] at hx
      obtain ⟨la, hla, rfl⟩ := Option.map_eq_some_iff.mp hx
      have hi4 : i < 4 := by
        have := (List.getElem?_eq_some_iff.mp hla).1
        exact this
      have mono : ∀ {y : Str} {F' : List Str}, (∀ z ∈ F, z ∈ F') → (∃ c, y ∈ F ∧ ∃ j, j < i ∧ xyzC[j]? = some c ∧ EndW c y) → True := fun _ _ => trivial
      refine rd_name ?_
      refine rd_seq ?_
      walk_at "rdn_2"
      refine ⟨l, t, rfl, T3, fun z H4 hz e4 T4 => ?_⟩
      have hp4 := e4.lst (by simpa using hpt) hp3
      have hq4 := e4.lst (by simpa using hqt) hq3
      refine rd_name ?_
      refine rd_cut (fun σ H5 => H5 = H4 ∧ ∃ z' : Str, σ = [some (.ref t), some (.ref p), some (.str la), some (.str z')] ∧ labelB z' = true ∧ (z' ∈ F → ∃ c, xyzC[i]? = some c ∧ EndW c z')) (fun nx' hnx => ?_) (fun σ H5 h => ?_)
      · walk_at "rd_2"
        refine rd_ite (fun hin => ?_) (fun hin => ?_)
        · have hz8 := label_len hz
          have hla1 : la.length ≤ 1 := xyz_len la (List.mem_of_getElem? hla)
          walk_at "rd_2"
          refine rd_slS ?_ ?_
          · rw [app_len, app_len, w_len]
            exact Nat.le_trans (show _ ≤ 100 by omega) (by decide)
          have h8 := cut8 (z ++ la ++ Str.ofString "w") (by rw [app_len, w_len]; omega) (fun c hc => by
            rw [sg_app, sg_app] at hc
            rcases List.mem_append.mp hc with hc | hc
            · rcases List.mem_append.mp hc with hc | hc
              · exact label_mem hz hc
              · exact xyz_let la (List.mem_of_getElem? hla) c hc
            · exact w_let c hc)
          walk_at "rd_2"
          refine hnx _ _ ⟨rfl, _, rfl, h8.1, fun hF => ?_⟩
          have hi0 : i ≠ 0 := fun e => by
            subst e
            rw [show F = [] from List.eq_nil_of_length_eq_zero (by omega)] at hin
            cases hin
          obtain ⟨c, hc, hc2⟩ := xyz_end hi0 hla
          exact ⟨c, hc, h8.2 c ⟨sg z, by rw [sg_app, sg_app, hc2, w_sg, List.append_assoc]; rfl⟩⟩
        · walk_at "rd_2"
          exact hnx _ _ ⟨rfl, z, rfl, hz, fun h => absurd h hin⟩
      · obtain ⟨rfl, z', rfl, hz', hend⟩ := h
        walk_at "rd_2"
        refine rd_itn (fun hin => ?_) (fun hin => ?_)
        · walk_at "rd_2"
          obtain ⟨c, hc, hc2⟩ := hend hin
          refine ⟨e3.trans e4, T4, hq4, F, fs ++ [z'], _, _, rfl, hp4, hnd, hlb, ?_, nodup_snoc hfs fun hz => ?_, fun y hy => ?_⟩
          · rw [List.length_append]
            show F.length + (fs.length + 1) = i + 1
            omega
          · obtain ⟨_, j, c', hj, hc', hc2'⟩ := hfe z' hz
            have := endW_inj hc2 hc2'
            exact xyz_ne hj hc' hc this.symm
          · rcases List.mem_append.mp hy with hy | hy
            · obtain ⟨h1, j, c', hj, h2⟩ := hfe y hy
              exact ⟨h1, j, c', by omega, h2⟩
            · rw [List.mem_singleton.mp hy]
              exact ⟨hin, i, c, by omega, hc, hc2⟩
        · walk_at "rd_2"
          refine ⟨(e3.trans e4).own hpn hp4, T4.own hpt hpl, (upd_ne hqp.symm).trans hq4, F ++ [z'], fs, _, _, rfl, ?_, nodup_snoc hnd hin, fun y hy => ?_, ?_, hfs, fun y hy => ?_⟩
          · rw [List.map_append]
            exact upd_same
          · rcases List.mem_append.mp hy with h | h
            · exact hlb y h
            · rw [List.mem_singleton.mp h]
              exact hz'
          · rw [List.length_append]
            show F.length + 1 + fs.length = i + 1
            omega
          · obtain ⟨h1, j, c', hj, h2⟩ := hfe y hy
            exact ⟨List.mem_append_left _ h1, j, c', by omega, h2⟩
    · obtain ⟨e3, T3, hq3, F, fs, a, b, rfl, hp3, hnd, hlb, hlen, hfs, hfe⟩ := h
      obtain ⟨x, y, z, r, hF, h1, h2, h3, h4, h5⟩ := labels_shape hnd hlb hlen hfs fun y hy => by
        obtain ⟨h1, j, c, _, _, h2⟩ := hfe y hy
        exact ⟨h1, c, h2⟩
      walk_at "rd_2"
      refine ⟨by show 4 ≤ sizeLine; decide, fun ka nk => ?_⟩
      have hkp : p ≠ ka := (Nw.of nk).lst hp3
      have e4 := e3.newR (o := .lst (ksL.map V.str)) nk
      have T4 := T3.upd (o := .lst (ksL.map V.str)) nk
      walk_at "rd_2"
      refine rd_cat (xs := F.map V.str) (ys := ksL.map V.str) ((upd_ne hkp).trans hp3) upd_same ?_ fun pa npa => ?_
      · rw [List.length_map, List.length_map]
        refine Nat.le_trans (show _ ≤ 100 by show F.length + 4 ≤ 100; have : F.length + fs.length = 4 := hlen; omega) (by decide)
      · refine q pa r x y z _ ((e3.trans (.new nk)).back ?_ (.of npa)) h1 h2 h3 h4 h5 ?_ (e4.newR npa) (T4.upd npa)
        · have := (T4.ne (.of npa)).1
          simpa using this
        · rw [← hF, List.map_append]
          exact upd_same
end
section
variable {T : List (Addr × Str)} {P : Program} {w : World} {K : PySem.W.Frag} {mg : Str → Option Value} {base : Heap}
theorem ok_law_lag (D : Def K mg "_law_lag" s_law_lag ["tape"]) (G_law_take : Ok P w K mg base 2 "_law_take" ["tape", "many"] (spTake T)) : Ok P w K mg base 3 "_law_lag" ["tape"] (spInt T 0 100) := by
  refine D.ok sc_law_lag (fun vs H Q E h => ?_) (fun cdv f A outer s H vs Q E hr h => ?_)
  · obtain ⟨l, t, rfl, _⟩ := h
    rfl
  · obtain ⟨l, t, rfl, hT, q⟩ := h
    refine ⟨_, (pss_one (ps_ret (pe_ix (ix_U K rfl) (pe_lst (pa_cons pe_int (pa_cons pe_int (pa_cons pe_int (pa_cons pe_int (pa_cons pe_int (pa_cons pe_int (pa_cons pe_int (pa_cons (pe_callO G_law_take (hr.mono (by decide)) (by rfl) (pa_cons (pv 0) (pa_cons pe_int pa_nil))) pa_nil))))))))) (pe_callO G_law_take (hr.mono (by decide)) (by rfl) (pa_cons (pv 0) (pa_cons pe_int pa_nil))) (fun _ _ => rfl)))), ?_⟩
    walk_at "rd_2"
    refine ⟨l, t, 101, rfl, by decide, by decide, hT, fun d H1 hd0 hd1 e1 T1 => ?_⟩
    walk_at "rd_2"
    refine ⟨by show 8 ≤ sizeLine; decide, fun p np => ?_⟩
    have hpt := T1.ne (.of np)
    walk_at "rd_2"
    refine ⟨l, t, 8, rfl, by decide, by decide, T1.upd np, fun i H2 h0 h1 e2 T2 => ?_⟩
    have hp := e2.lst (p := p) (by simpa using hpt.1) upd_same
    obtain ⟨c, hc1, hc2⟩ := at_inV (xs := [V.int 0, .int 1, .int 2, .int 3, .int 5, .int 9, .int 100, .int d]) h0 (by show i < 8; omega)
    have hm := List.mem_of_getElem? hc2
    have e3 := (e1.trans (.new np)).trans e2
    have fin : ∀ n : Int, c = .int n → 0 ≤ n → n ≤ 100 → rIx K (.ref p) (.int i) H2 Q := fun n e a b => by
      subst e
      exact rd_ixL (SqL.of hp) hc1 (q n H2 a b e3 T2)
    simp only [List.mem_cons, List.not_mem_nil, or_false] at hm
    rcases hm with h | h | h | h | h | h | h | h
    · exact fin _ h (by decide) (by decide)
    · exact fin _ h (by decide) (by decide)
    · exact fin _ h (by decide) (by decide)
    · exact fin _ h (by decide) (by decide)
    · exact fin _ h (by decide) (by decide)
    · exact fin _ h (by decide) (by decide)
    · exact fin _ h (by decide) (by decide)
    · exact fin _ h (by omega) (by omega)
theorem ok_law_life (D : Def K mg "_law_life" s_law_life ["tape"]) (G_law_take : Ok P w K mg base 2 "_law_take" ["tape", "many"] (spTake T)) : Ok P w K mg base 3 "_law_life" ["tape"] (spInt T 1 1000) := by
  refine D.ok sc_law_life (fun vs H Q E h => ?_) (fun cdv f A outer s H vs Q E hr h => ?_)
  · obtain ⟨l, t, rfl, _⟩ := h
    rfl
  · obtain ⟨l, t, rfl, hT, q⟩ := h
    refine ⟨_, (pss_one (ps_ret (pe_ix (ix_U K rfl) (pe_lst (pa_cons pe_int (pa_cons pe_int (pa_cons pe_int (pa_cons pe_int (pa_cons pe_int (pa_cons pe_int (pa_cons pe_int (pa_cons (pe_op (op_plus K rfl) pe_int (pe_callO G_law_take (hr.mono (by decide)) (by rfl) (pa_cons (pv 0) (pa_cons pe_int pa_nil)))) pa_nil))))))))) (pe_callO G_law_take (hr.mono (by decide)) (by rfl) (pa_cons (pv 0) (pa_cons pe_int pa_nil))) (fun _ _ => rfl)))), ?_⟩
    walk_at "rd_2"
    refine ⟨l, t, 1000, rfl, by decide, by decide, hT, fun d H1 hd0 hd1 e1 T1 => ?_⟩
    walk_at "rd_2"
    refine ⟨by show 8 ≤ sizeLine; decide, fun p np => ?_⟩
    have hpt := T1.ne (.of np)
    walk_at "rd_2"
    refine ⟨l, t, 8, rfl, by decide, by decide, T1.upd np, fun i H2 h0 h1 e2 T2 => ?_⟩
    have hp := e2.lst (p := p) (by simpa using hpt.1) upd_same
    obtain ⟨c, hc1, hc2⟩ := at_inV (xs := [V.int 1, .int 2, .int 3, .int 5, .int 8, .int 20, .int 1000, .int (1 + d)]) h0 (by show i < 8; omega)
    have hm := List.mem_of_getElem? hc2
    have e3 := (e1.trans (.new np)).trans e2
    have fin : ∀ n : Int, c = .int n → 1 ≤ n → n ≤ 1000 → rIx K (.ref p) (.int i) H2 Q := fun n e a b => by
      subst e
      exact rd_ixL (SqL.of hp) hc1 (q n H2 a b e3 T2)
    simp only [List.mem_cons, List.not_mem_nil, or_false] at hm
    rcases hm with h | h | h | h | h | h | h | h
    · exact fin _ h (by decide) (by decide)
    · exact fin _ h (by decide) (by decide)
    · exact fin _ h (by decide) (by decide)
    · exact fin _ h (by decide) (by decide)
    · exact fin _ h (by decide) (by decide)
    · exact fin _ h (by decide) (by decide)
    · exact fin _ h (by decide) (by decide)
    · exact fin _ h (by omega) (by omega)
theorem ok_law_zones (D : Def K mg "_law_zones" s_law_zones ["tape", "most"]) (mb : ∀ x ∈ bltns, mg x = none) (G_law_take : Ok P w K mg base 2 "_law_take" ["tape", "many"] (spTake T)) (G_law_labels : Ok P w K mg base 5 "_law_labels" ["tape"] (spLabels T)) (G_law_lag : Ok P w K mg base 3 "_law_lag" ["tape"] (spInt T 0 100)) : Ok P w K mg base 6 "_law_zones" ["tape", "most"] (spZones T) := by
  refine D.ok sc_law_zones (fun vs H Q E h => ?_) (fun cdv f A outer s H vs Q E hr h => ?_)
  · obtain ⟨l, t, m, rfl, _⟩ := h
    rfl
  · obtain ⟨l, t, m, rfl, hm0, hm5, hT, q⟩ := h
    refine ⟨_, (pss_cons (ps_asg (pe_slice (sl_U K rfl) (pe_callO G_law_labels (hr.mono (by decide)) (by rfl) (pa_cons (pv 0) pa_nil)) po_none (po_some pe_int)) (pg_tupU (n := 3) K rfl rfl (pgs_cons (pg_name (i := 2) sc_law_zones.nd rfl (.inl rfl)) (pgs_cons (pg_name (i := 3) sc_law_zones.nd rfl (.inl rfl)) (pgs_cons (pg_name (i := 4) sc_law_zones.nd rfl (.inl rfl)) pgs_nil)))))
   (pss_cons (ps_set (i := 5) sc_law_zones.nd rfl (.inl rfl) (pe_lst (pa_cons (pv 2) (pa_cons (pe_op (op_plus K rfl) (pe_op (op_plus K rfl) (pv 3) pe_str) (pv 2)) (pa_cons (pe_op (op_plus K rfl) (pe_op (op_plus K rfl) (pe_op (op_plus K rfl) (pe_op (op_plus K rfl) (pv 4) pe_str) (pv 3)) pe_str) (pv 2)) (pa_cons (pv 3) (pa_cons (pv 4) (pa_cons (pe_op (op_plus K rfl) (pe_op (op_plus K rfl) (pv 4) pe_str) (pv 2)) pa_nil))))))))
   (pss_cons (ps_set (i := 6) sc_law_zones.nd rfl (.inl rfl) (pe_lst pa_nil))
   (pss_cons (ps_for PassesOwn.never rfl (pi_range1 (by rfl) (mb _ (by decide)) (pa_cons pe_int pa_nil)) (pg_name (i := 7) sc_law_zones.nd rfl (.inl rfl)) (pss_one (ps_if (PW.pt (pw_and (pt_cmpR op_lt (pe_callB (call_lenU K rfl) (by rfl) (mb _ (by decide)) (by decide +kernel) (pa_cons (pv 6) pa_nil)) (pv 1) (nomark _)) (pw_and1 (pt_cmpR (op_eqU K rfl hr.units) (pe_callO G_law_take (hr.mono (by decide)) (by rfl) (pa_cons (pv 0) (pa_cons pe_int pa_nil))) pe_int (nomark _))))) (pss_one (ps_expr (pe_bm PySem.F.plainAttrs_list PySem.F.slot_list_append PySem.F.type_list_append mt_append (pv 6) (pa_cons (pe_ix (ix_U K rfl) (pv 5) (pv 7) (fun _ _ => rfl)) pa_nil)))) pss_nil)))
   (pss_one (ps_ret (pe_op (op_plus K rfl) (pe_lst (pa_cons (pe_tup (pa_cons pe_str (pa_cons (pe_callO G_law_lag (hr.mono (by decide)) (by rfl) (pa_cons (pv 0) pa_nil)) pa_nil))) pa_nil)) (pe_lc (own := [("name", 8)]) (g := gName 8) (tt := tYes) rfl sc_law_zones.nd (pi_seq K rfl (pe_callB (call_sortedU K rfl hr.units) (by rfl) (mb _ (by decide)) (by decide +kernel) (pa_cons (pv 6) pa_nil))) (blkOk_by (N := N_law_zones) (sc := defScope s_law_zones) (by decide +kernel)) (fun _ _ _ _ _ => (pg_name (i := 8) sc_law_zones.nd rfl (Or.inl rfl))) (fun _ _ _ _ _ => pts_nil) (fun _ _ _ _ _ => (pe_tup (pa_cons (pv 8) (pa_cons (pe_callO G_law_lag (hr.mono (by decide)) (by rfl) (pa_cons (pv 0) pa_nil)) pa_nil)))))))))))), ?_⟩
    refine rd_seq ?_
    walk_at "rdn_2"
    refine ⟨l, t, rfl, hT, fun lp r a b c H1 nlp h1 h2 h3 hlb hrl hlp e1 T1 => ?_⟩
    walk_at "rdn_2"
    refine rd_slL (SqL.of hlp) fun sp nsp => ?_
    have hcut : cutV ((a :: b :: c :: r).map V.str) none (some 3) = [V.str a, .str b, .str c] := by
      unfold cutV
      rw [show HT.sIx ((a :: b :: c :: r).map V.str).length 0 none = 0 from rfl]
      have e : HT.sIx ((a :: b :: c :: r).map V.str).length ((a :: b :: c :: r).map V.str).length (some 3) = 3 := by
        unfold HT.sIx
        simp only [List.length_map, List.length_cons]
        split <;> omega
      rw [e]
      rfl
    rw [hcut]
    have e2 := e1.newR (o := .lst [V.str a, .str b, .str c]) nsp
    have T2 := T1.upd (o := .lst [V.str a, .str b, .str c]) nsp
    have hsp : (upd H1 sp (.lst [V.str a, .str b, .str c])) sp = some (.lst [V.str a, .str b, .str c]) := upd_same
    show gTupU _ _ _ _ _ (upd H1 sp (.lst [V.str a, .str b, .str c])) _
    generalize upd H1 sp (.lst [V.str a, .str b, .str c]) = H2 at e2 T2 hsp ⊢
    refine rd_glst (SqL.of hsp) rfl ?_
    walk_at "rdn_2"
    have hl3 : ∀ y ∈ [a, b, c], labelB y = true := fun y hy => hlb y (by
      simp only [List.mem_cons, List.not_mem_nil, or_false] at hy ⊢
      rcases hy with h | h | h
      · exact .inl h
      · exact .inr (.inl h)
      · exact .inr (.inr (.inl h)))
    have la := label_len (hl3 a (by simp))
    have lb := label_len (hl3 b (by simp))
    have lc := label_len (hl3 c (by simp))
    have hpz := pool_zone hl3
    have hpn := pool_nodup hl3 h1 h2 h3
    refine rd_seq ?_
    walk_at "rdn_2"
    refine ⟨by show 6 ≤ sizeLine; decide, fun pp npp => ?_⟩
    show gName 5 (.ref pp) _ (upd H2 pp (.lst ((poolL a b c).map V.str))) _
    have e3 := e2.newR (o := .lst ((poolL a b c).map V.str)) npp
    have T3 := T2.upd (o := .lst ((poolL a b c).map V.str)) npp
    obtain ⟨hpt, hpl⟩ := T2.ne (.of npp)
    have hpp : (upd H2 pp (.lst ((poolL a b c).map V.str))) pp = some (.lst ((poolL a b c).map V.str)) := upd_same
    generalize upd H2 pp (.lst ((poolL a b c).map V.str)) = H3 at e3 T3 hpp ⊢
    walk_at "rdn_2"
    refine rd_seq ?_
    walk_at "rdn_2"
    refine ⟨by show 0 ≤ sizeLine; decide, fun np nnp => ?_⟩
    obtain ⟨hnt, hnl⟩ := T3.ne (.of nnp)
    have hnpp : pp ≠ np := (Nw.of nnp).lst hpp
    have e4 := e3.newR (o := .lst []) nnp
    have hnw : Nw H np := e3.back (by simpa using hnt) (.of nnp)
    have T4 := T3.upd (o := .lst []) nnp
    have hpp4 := (upd_ne (o := .lst []) hnpp).trans hpp
    have hn4 : (upd H3 np (.lst [])) np = some (.lst (([] : List Str).map V.str)) := upd_same
    generalize upd H3 np (.lst []) = H4 at e4 T4 hpp4 hn4 ⊢
    walk_at "rdn_2"
    refine rd_cut (fun σ H5 => Ext T [t] H H5 ∧ Tape l H5 t ∧ ∃ (ns : List Str) (y : Option V), σ = [some (.ref t), some (.int m), some (.str a), some (.str b), some (.str c), some (.ref pp), some (.ref np), y, none] ∧ H5 np = some (.lst (ns.map V.str)) ∧ (ns.length : Int) ≤ m ∧ ns.Sublist (poolL a b c)) (fun nx' hnx => ?_) (fun σ H5 h => ?_)
    · walk_at "rd_2"
      refine ⟨by decide, by decide, ?_⟩
      refine forg_range (fun i σ H5 => Ext T [t] H H5 ∧ Tape l H5 t ∧ H5 pp = some (.lst ((poolL a b c).map V.str)) ∧ ∃ (ns : List Str) (y : Option V), σ = [some (.ref t), some (.int m), some (.str a), some (.str b), some (.str c), some (.ref pp), some (.ref np), y, none] ∧ H5 np = some (.lst (ns.map V.str)) ∧ (ns.length : Int) ≤ m ∧ ns.Sublist ((poolL a b c).take i))
        ⟨e4, T4, hpp4, [], none, rfl, hn4, hm0, by simp⟩ (fun i σ H5 hi h => ?_) (fun σ H5 h => ?_)
      · obtain ⟨e5, T5, hpp5, ns, y, rfl, hn5, hml, hsub⟩ := h
        have hi6 : i < 6 := hi
        obtain ⟨z, hz⟩ : ∃ z, (poolL a b c)[i]? = some z := ⟨_, List.getElem?_eq_getElem (show i < 6 from hi6)⟩
        have htk : (poolL a b c).take (i + 1) = (poolL a b c).take i ++ [z] := by rw [List.take_add_one, hz]; rfl
        have hns6 : ns.length ≤ 6 := Nat.le_trans hsub.length_le (by rw [List.length_take]; exact Nat.min_le_right _ _)
        walk_at "rd_2"
        refine rd_ite (fun hlt => ?_) (fun hlt => ?_)
        · walk_at "rd_2"
          refine ⟨l, t, 2, rfl, by decide, by decide, T5, fun d H6 h0 h1' e6 T6 => ?_⟩
          have hpp6 := e6.lst (by simpa using hpt) hpp5
          have hn6 := e6.lst (by simpa using hnt) hn5
          walk_at "rd_2"
          refine rd_ite (fun hd => ?_) (fun hd => ?_)
          · walk_at "rd_2"
            refine rd_ixL (v := .str z) (SqL.of hpp6) (by
              rw [Int.zero_add]
              exact atI_nat (by rw [List.getElem?_map, hz]; rfl)) ?_
            walk_at "rd_2"
            refine ⟨(e5.trans e6).own hnw hn6, T6.own hnt hnl, (upd_ne hnpp).trans hpp6, ns ++ [z], _, rfl, ?_, ?_, ?_⟩
            · rw [List.map_append]
              exact upd_same
            · rw [List.length_append]
              rw [List.length_map] at hlt
              show ((ns.length + 1 : Nat) : Int) ≤ m
              omega
            · rw [htk]
              exact hsub.append (List.Sublist.refl _)
          · walk_at "rd_2"
            exact ⟨e5.trans e6, T6, hpp6, ns, _, rfl, hn6, hml, by rw [htk]; exact hsub.trans (List.sublist_append_left _ _)⟩
        · walk_at "rd_2"
          exact ⟨e5, T5, hpp5, ns, _, rfl, hn5, hml, by rw [htk]; exact hsub.trans (List.sublist_append_left _ _)⟩
      · obtain ⟨e5, T5, hpp5, ns, y, rfl, hn5, hml, hsub⟩ := h
        exact hnx _ _ ⟨e5, T5, ns, y, rfl, hn5, hml, hsub.trans (List.take_sublist _ _)⟩
    · obtain ⟨e5, T5, ns, y, rfl, hn5, hml, hsub⟩ := h
      clear hT e1 T1 e2 T2 e3 T3 e4 T4 hpp4 hn4 hpp hsp hlp
      have hnz : ∀ z ∈ ns, zoneB z := fun z hz => hpz z (hsub.subset hz)
      have hnn : ns.Nodup := hpn.sublist hsub
      walk_at "rd_2"
      refine ⟨l, t, rfl, T5, fun lag H6 hl0 hl1 e6 T6 => ?_⟩
      walk_at "rd_2"
      refine ⟨by show 2 ≤ sizeLine; decide, fun ta nta => ?_⟩
      walk_at "rd_2"
      refine ⟨by show 1 ≤ sizeLine; decide, fun la nla => ?_⟩
      have e7 : Ext T [t] H (upd (upd H6 ta (.tup [V.str (Str.ofString "."), .int lag])) la (.lst [.ref ta])) := ((e5.trans e6).newR nta).newR nla
      have T7 : Tape l (upd (upd H6 ta (.tup [V.str (Str.ofString "."), .int lag])) la (.lst [.ref ta])) t := (T6.upd nta).upd nla
      have hta : ta ≠ la := fun e => by
        rw [← e, upd_same] at nla
        cases nla
      have hla7 : Ls (upd (upd H6 ta (.tup [V.str (Str.ofString "."), .int lag])) la (.lst [.ref ta])) la [siD (dotS, lag)] :=
        ⟨_, upd_same, .cons (.new2 (.str _ (name_ok dot_name)) (.int _) ((upd_ne hta).trans upd_same)) .nil⟩
      have hn7 : (upd (upd H6 ta (.tup [V.str (Str.ofString "."), .int lag])) la (.lst [.ref ta])) np = some (.lst (ns.map V.str)) := by
        have hn6 := e6.lst (by simpa using hnt) hn5
        have a1 : np ≠ ta := (Nw.of nta).lst hn6
        have a2 := (upd_ne (o := .tup [V.str (Str.ofString "."), .int lag]) a1).trans hn6
        exact (upd_ne ((Nw.of nla).lst a2)).trans a2
      have hlt7 : la ≠ t ∧ la ≠ l := (T6.upd nta).ne (.of nla)
      generalize upd (upd H6 ta (.tup [V.str (Str.ofString "."), .int lag])) la (.lst [.ref ta]) = H7 at e7 T7 hla7 hn7 ⊢
      clear nla nta
      walk_at "rd_2"
      refine rd_sortI (ds := ns.map .str) ⟨_, hn7, ImAll.strs fun z hz => name_ok (zone_name (hnz z hz))⟩ (alike_s ns) (sortable_s ns) (depth_s ns) fun sa ys nsa hys => ?_
      rw [srtS_eq] at hys
      have hys := hys.strs'
      subst hys
      obtain ⟨hst, hsl⟩ := T7.ne (.of nsa)
      have hsla : la ≠ sa := by
        obtain ⟨_, h, _⟩ := hla7
        exact (Nw.of nsa).lst h
      have e8 := e7.newR (o := .lst ((srtS ns).map V.str)) nsa
      have T8 := T7.upd (o := .lst ((srtS ns).map V.str)) nsa
      have hla8 := hla7.ext (T := T) (ms := []) (Ext.new (o := .lst ((srtS ns).map V.str)) nsa) (by simp) Lsts.nil
      have hs8 : (upd H7 sa (.lst ((srtS ns).map V.str))) sa = some (.lst ((srtS ns).map V.str)) := upd_same
      refine ⟨sa, rfl, .inl ⟨⟨_, SqL.of hs8⟩, ?_⟩⟩
      show LcG _ _ _ _ _ _ (upd H7 sa (.lst ((srtS ns).map V.str))) _
      generalize upd H7 sa (.lst ((srtS ns).map V.str)) = H8 at e8 T8 hla8 hs8 ⊢
      clear e7 T7 hla7 hn7 nsa
      have hsz : ((srtS ns).map V.str).length < sizeLine := by
        rw [List.length_map, (srtS_perm ns).length_eq]
        exact Nat.lt_of_le_of_lt (show _ ≤ 5 by omega) (by decide)
      refine lcg_im T [t] walk_list ((srtS ns).map V.str) rfl (fun i H x H' y => y) (fun H' => Tape l H' t) T8 (fun D o h => T8.upd h) (fun D H' nD T' ys u h => T'.own (T8.ne nD).1 (T8.ne nD).2) (fun H' T' => T'.lsts) (fun H' e _ => e.seqL (by simpa using hst) (SqL.of hs8)) hsz (fun _ => true) ZRel (fun i x hx H' e' T' R S h1 h2 => ?_) (fun D H9 ds nD e9 T9 hD hds => ?_)
      · rw [List.getElem?_map] at hx
        obtain ⟨z, hz, rfl⟩ := Option.map_eq_some_iff.mp hx
        refine rd_name ⟨wipe1, ?_⟩
        walk_at "rd_2"
        refine ⟨l, t, rfl, T', fun n H9 hn0 hn1 e9 T9 => ?_⟩
        walk_at "rd_2"
        refine ⟨by show 2 ≤ sizeLine; decide, fun tz ntz => ?_⟩
        have hzo := name_ok (zone_name (hnz z ((srtS_perm ns).mem_iff.mp (List.mem_of_getElem? hz))))
        exact h1 rfl _ (siD (z, n)) _ (e9.newR ntz) (T9.upd ntz) (.new2 (.str _ hzo) (.int _) upd_same) ⟨z, n, rfl, rfl, hn0, hn1⟩
      · rw [filtT] at hds
        obtain ⟨rest, rfl, hr1, hr2⟩ := zrel_all hds
        have hla9 := hla8.ext e9 (by simpa using hlt7.1) T8.lsts
        obtain ⟨x1, a1, a2⟩ := hla9
        obtain ⟨x2, b1, b2⟩ := hD
        have hx1 : x1.length = 1 := a2.len
        have hx2 : x2.length ≤ 5 := by
          rw [b2.len, List.length_map]
          have := congrArg List.length hr1
          rw [List.length_map, (srtS_perm ns).length_eq] at this
          omega
        refine rd_cat a1 b1 (Nat.le_trans (show _ ≤ 100 by omega) (by decide)) fun pa npa => ?_
        have e10 := e8.trans e9
        refine q pa lag rest ns _ (e10.back (by simpa using (T9.ne (.of npa)).1) (.of npa)) hr1 hnn hml hnz (fun r hr => ?_) ⟨x1 ++ x2, upd_same, ?_⟩ (e10.newR npa) (T9.upd npa)
        · rcases List.mem_cons.mp hr with e | hr
          · rw [e]
            exact ⟨hl0, hl1⟩
          · exact hr2 r hr
        · exact ImAll.ext (T := T) (ms := []) (.new npa) Lsts.nil _ _ (a2.app b2)
end
section
variable {T : List (Addr × Str)} {P : Program} {w : World} {K : PySem.W.Frag} {mg : Str → Option Value} {base : Heap}
theorem ok_law_realm (D : Def K mg "_law_realm" s_law_realm ["tape", "most"]) (mb : ∀ x ∈ bltns, mg x = none) (G_law_take : Ok P w K mg base 2 "_law_take" ["tape", "many"] (spTake T)) (G_law_zones : Ok P w K mg base 6 "_law_zones" ["tape", "most"] (spZones T))
    (G_law_label : Ok P w K mg base 4 "_law_label" ["tape"] (spLabel T)) (G_law_id : Ok P w K mg base 3 "_law_id" ["tape"] (spId T)) (G_law_ids : Ok P w K mg base 4 "_law_ids" ["tape", "many"] (spIds T)) : Ok P w K mg base 7 "_law_realm" ["tape", "most"] (spRealm T) := by
  refine D.ok sc_law_realm (fun vs H Q E h => ?_) (fun cdv f A outer s H vs Q E hr h => ?_)
  · obtain ⟨l, t, m, rfl, _⟩ := h
    rfl
  · obtain ⟨l, t, m, rfl, hm0, hm5, hT, q⟩ := h
    refine ⟨_, (pss_cons (ps_set (i := 2) sc_law_realm.nd rfl (.inl rfl) (pe_callO G_law_zones (hr.mono (by decide)) (by rfl) (pa_cons (pv 0) (pa_cons (pv 1) pa_nil))))
   (pss_cons (ps_set (i := 3) sc_law_realm.nd rfl (.inl rfl) (pe_lst pa_nil))
   (pss_cons (ps_for PassesOwn.never rfl (pi_seq K rfl (pv 2)) (pg_tupU (n := 2) K rfl rfl (pgs_cons (pg_name (i := 4) sc_law_realm.nd rfl (.inl rfl)) (pgs_cons (pg_name (i := 5) sc_law_realm.nd rfl (.inl rfl)) pgs_nil))) (pss_cons (ps_set (i := 6) sc_law_realm.nd rfl (.inl rfl) (pv 4))
   (pss_cons (ps_if (pt_cmpR (op_eqU K rfl hr.units) (pe_callO G_law_take (hr.mono (by decide)) (by rfl) (pa_cons (pv 0) (pa_cons pe_int pa_nil))) pe_int (nomark _)) (pss_one (ps_set (i := 6) sc_law_realm.nd rfl (.inl rfl) (pe_op (op_plus K rfl) (pe_callO G_law_label (hr.mono (by decide)) (by rfl) (pa_cons (pv 0) pa_nil)) (pe_ifExp (pt_cmpR (op_eqU K rfl hr.units) (pv 4) pe_str (nomark _)) pe_str (pe_op (op_plus K rfl) pe_str (pv 4)))))) pss_nil)
   (pss_one (ps_expr (pe_bm PySem.F.plainAttrs_list PySem.F.slot_list_append PySem.F.type_list_append mt_append (pv 3) (pa_cons (pe_tup (pa_cons (pv 6) (pa_cons (pe_callO G_law_id (hr.mono (by decide)) (by rfl) (pa_cons (pv 0) pa_nil)) pa_nil))) pa_nil)))))))
   (pss_cons (ps_if (pt_cmpR (op_eqU K rfl hr.units) (pe_callO G_law_take (hr.mono (by decide)) (by rfl) (pa_cons (pv 0) (pa_cons pe_int pa_nil))) pe_int (nomark _)) (pss_one (ps_expr (pe_bm PySem.F.plainAttrs_list PySem.F.slot_list_append PySem.F.type_list_append mt_append (pv 3) (pa_cons (pe_tup (pa_cons (pe_ix (ix_U K rfl) (pe_ix (ix_U K rfl) (pv 2) (pe_un un_neg pe_int) (fun _ _ => rfl)) pe_int (fun _ _ => rfl)) (pa_cons (pe_callO G_law_id (hr.mono (by decide)) (by rfl) (pa_cons (pv 0) pa_nil)) pa_nil))) pa_nil)))) pss_nil)
   (pss_cons (ps_set (i := 7) sc_law_realm.nd rfl (.inl rfl) (pe_lst pa_nil))
   (pss_cons (ps_for PassesOwn.never rfl (pi_seq K rfl (pe_callB (call_sortedU K rfl hr.units) (by rfl) (mb _ (by decide)) (by decide +kernel) (pa_cons (pv 3) pa_nil))) (pg_name (i := 8) sc_law_realm.nd rfl (.inl rfl)) (pss_one (ps_if (pt_cmpR (op_ninW K rfl (Room.units65 hr)) (pv 8) (pv 7) rfl) (pss_one (ps_expr (pe_bm PySem.F.plainAttrs_list PySem.F.slot_list_append PySem.F.type_list_append mt_append (pv 7) (pa_cons (pv 8) pa_nil)))) pss_nil)))
   (pss_cons (ps_set (i := 9) sc_law_realm.nd rfl (.inl rfl) (pe_callTy (call_tupU K rfl) (by rfl) (mb _ (by decide)) (by decide +kernel) (pa_cons (pe_callB (call_sortedU K rfl hr.units) (by rfl) (mb _ (by decide)) (by decide +kernel) (pa_cons (pe_callO G_law_ids (hr.mono (by decide)) (by rfl) (pa_cons (pv 0) (pa_cons (pe_op (op_plus K rfl) pe_int (pe_callO G_law_take (hr.mono (by decide)) (by rfl) (pa_cons (pv 0) (pa_cons pe_int pa_nil)))) pa_nil))) pa_nil)) pa_nil)))
   (pss_one (ps_ret (pe_tup (pa_cons (pe_callTy (call_tupF K rfl) (by rfl) (mb _ (by decide)) (by decide +kernel) (pa_cons (pv 2) pa_nil)) (pa_cons (pv 9) (pa_cons (pe_callTy (call_tupU K rfl) (by rfl) (mb _ (by decide)) (by decide +kernel) (pa_cons (pv 7) pa_nil)) pa_nil))))))))))))), ?_⟩
    refine rd_seq ?_
    walk_at "rdn_2"
    refine ⟨l, t, m, rfl, hm0, hm5, hT, fun zp lag rest ns H1 nzp hr1 hnn hnm hnz hlag hzp e1 T1 => ?_⟩
    obtain ⟨zs, hzs⟩ : ∃ zs, zs = (dotS, lag) :: rest := ⟨_, rfl⟩
    rw [← hzs] at hzp hlag
    have hzpt : zp ≠ t := (hT.ne nzp).1
    have hzlen : zs.length ≤ 6 := by
      have := congrArg List.length hr1
      rw [List.length_map, (srtS_perm ns).length_eq] at this
      rw [hzs, List.length_cons]
      omega
    have hzn : ∀ r ∈ zs, r.1 = dotS ∨ zoneB r.1 := fun r hr => by
      rw [hzs] at hr
      rcases List.mem_cons.mp hr with e | hr
      · exact .inl (by rw [e])
      · exact .inr (hnz _ ((srtS_perm ns).mem_iff.mp (by rw [← hr1]; exact List.mem_map_of_mem hr)))
    walk_at "rdn_2"
    refine rd_seq ?_
    walk_at "rdn_2"
    refine ⟨by show 0 ≤ sizeLine; decide, fun sp nsp => ?_⟩
    have hspn : Nw H sp := e1.back (by simpa using (T1.ne (.of nsp)).1) (.of nsp)
    obtain ⟨hspt, hspl⟩ := T1.ne (.of nsp)
    have hzsp := hzp.ne nsp
    have e2 := e1.newR (o := .lst []) nsp
    have T2 := T1.upd (o := .lst []) nsp
    have hz2 := hzp.new (o := .lst []) nsp
    have hs2 : Ls (upd H1 sp (.lst [])) sp (([] : List (Str × Str)).map ssD) := ⟨[], upd_same, .nil⟩
    generalize upd H1 sp (.lst []) = H2 at e2 T2 hz2 hs2 ⊢
    clear nsp hzp
    walk_at "rdn_2"
    -- the sets, zone by zone
    refine rd_cut (fun σ H3 => Ext T [t] H H3 ∧ Tape l H3 t ∧ Ls H3 zp (zs.map siD) ∧ ∃ (ss : List (Str × Str)) (a b c : Option V), σ = [some (.ref t), some (.int m), some (.ref zp), some (.ref sp), a, b, c, none, none, none] ∧ Ls H3 sp (ss.map ssD) ∧ ss.length = zs.length ∧ (∀ p ∈ ss, nameB p.1 = true ∧ idB p.2 = true) ∧ ∀ z ∈ zs, ∃ p ∈ ss, endsB p.1 z.1 = true) (fun nx' hnx => ?_) (fun σ H3 h => ?_)
    · walk_at "rd_2"
      obtain ⟨xs, hx1, hx2⟩ := hz2.list
      refine .inl ⟨⟨_, SqL.of hx1⟩, ?_⟩
      refine forg_list (xs := xs) (fun i σ H3 => Ext T [t] H H3 ∧ Tape l H3 t ∧ H3 zp = some (.lst xs) ∧ ImAll H3 xs (zs.map siD) ∧ ∃ (ss : List (Str × Str)) (a b c : Option V), σ = [some (.ref t), some (.int m), some (.ref zp), some (.ref sp), a, b, c, none, none, none] ∧ Ls H3 sp (ss.map ssD) ∧ ss.length = i ∧ (∀ p ∈ ss, nameB p.1 = true ∧ idB p.2 = true) ∧ ∀ z ∈ zs.take i, ∃ p ∈ ss, endsB p.1 z.1 = true)
        ⟨e2, T2, hx1, hx2, [], none, none, none, rfl, hs2, rfl, by simp, by simp⟩ (fun i σ H3 _ h => SqL.of h.2.2.1) (fun i x σ H3 hx h => ?_) (fun σ H3 h => ?_)
      · obtain ⟨e3, T3, hz3, hi3, ss, a, b, c, rfl, hs3, hsl, hso, hsu⟩ := h
        obtain ⟨dz, hdz, hxz⟩ := hi3.get' hx
        rw [List.getElem?_map] at hdz
        obtain ⟨z, hz, rfl⟩ := Option.map_eq_some_iff.mp hdz
        have hzm := List.mem_of_getElem? hz
        have hzz := hzn z hzm
        have hznm : nameB z.1 = true := hzz.elim (fun e => by rw [e]; exact dot_name) zone_name
        refine rd_gpair (d1 := .str z.1) (d2 := .int z.2) hxz fun v1 v2 h1 h2 => ?_
        rw [h1.str', h2.int']
        refine rd_seq ?_
        walk_at "rdn_2"
        -- the name
        refine rd_cut (fun σ H4 => Ext T [t] H3 H4 ∧ Tape l H4 t ∧ ∃ n : Str, σ = [some (.ref t), some (.int m), some (.ref zp), some (.ref sp), some (.str z.1), some (.int z.2), some (.str n), none, none, none] ∧ nameB n = true ∧ endsB n z.1 = true) (fun nx2 hnx2 => ?_) (fun σ H4 h => ?_)
        · walk_at "rd_2"
          refine ⟨l, t, 2, rfl, by decide, by decide, T3, fun d H4 h0 h1 e4 T4 => ?_⟩
          walk_at "rd_2"
          refine rd_ite (fun hd => ?_) (fun hd => ?_)
          · walk_at "rd_2"
            refine ⟨l, t, rfl, T4, fun la H5 hla e5 T5 => ?_⟩
            have hla8 := label_len hla
            have hzl := name_len hznm
            walk_at "rd_2"
            refine rd_ite (fun hdot => ?_) (fun hdot => ?_)
            · walk_at "rd_2"
              refine rd_plusS ?_ ?_
              · rw [show (Str.ofString "").length = 0 by decide +kernel]
                exact Nat.le_trans (show _ ≤ 100 by omega) (by decide)
              walk_at "rd_2"
              have e0 : la ++ Str.ofString "" = la := sg_inj (by rw [sg_app, show sg (Str.ofString "") = [] by decide +kernel, List.append_nil])
              rw [e0]
              exact hnx2 _ _ ⟨e4.trans e5, T5, la, rfl, label_name hla, by rw [show z.1 = dotS from hdot]; exact ends_dot la⟩
            · walk_at "rd_2"
              exact hnx2 _ _ ⟨e4.trans e5, T5, la ++ (dotS ++ z.1), rfl, name_cons hla (hzz.resolve_left hdot), ends_app la z.1⟩
          · walk_at "rd_2"
            exact hnx2 _ _ ⟨e4, T4, z.1, rfl, hznm, ends_self z.1⟩
        · obtain ⟨e4, T4, n, rfl, hn, hne⟩ := h
          have hs4 := hs3.ext e4 (by simpa using hspt) T3.lsts
          have hz4 := e4.lst (by simpa using hzpt) hz3
          have hi4 := ImAll.ext e4 T3.lsts _ _ hi3
          have e34 := e3.trans e4
          clear e3 T3 hs3 hz3 hi3 hxz e4
          obtain ⟨sx, hsx, _⟩ := hs4.list
          walk_at "rd_2"
          refine ⟨l, t, rfl, T4, fun k H5 hk e5 T5 => ?_⟩
          have hs5 := hs4.ext e5 (by simpa using hspt) T4.lsts
          have hz5 := e5.lst (by simpa using hzpt) hz4
          have hi5 := ImAll.ext e5 T4.lsts _ _ hi4
          walk_at "rd_2"
          refine ⟨by show 2 ≤ sizeLine; decide, fun ta nta => ?_⟩
          refine rd_nil ?_
          have e6 := (e34.trans e5).newR (o := .tup [V.str n, .str k]) nta
          have T6 := T5.upd (o := .tup [V.str n, .str k]) nta
          have hs6 := hs5.new (o := .tup [V.str n, .str k]) nta
          have hz6 := (upd_ne (o := .tup [V.str n, .str k]) ((Nw.of nta).lst hz5)).trans hz5
          have hi6 := hi5.new (o := .tup [V.str n, .str k]) nta
          have ht6 : Im (upd H5 ta (.tup [V.str n, .str k])) (.ref ta) (ssD (n, k)) := .new2 (.str _ (name_ok hn)) (.str _ (id_ok hk)) upd_same
          generalize upd H5 ta (.tup [V.str n, .str k]) = H6 at e6 T6 hs6 hz6 hi6 ht6 ⊢
          refine rd_appLs hs6 ht6 ?_ fun ys hy hs7 => ?_
          · rw [List.length_map, hsl]
            refine Nat.lt_of_le_of_lt (show i ≤ 100 from ?_) (by decide)
            have := (List.getElem?_eq_some_iff.mp hx).1
            have := hi6.len
            rw [List.length_map] at this
            omega
          · have e7 : Ext T [sp] H6 (upd H6 sp (.lst (ys ++ [.ref ta]))) := Ext.mut (by simp) hy
            refine ⟨e6.own hspn hy, T6.own hspt hspl, (upd_ne hzsp).trans hz6, ImAll.ext e7 (lsts_one hy) _ _ hi6, ss ++ [(n, k)], _, _, _, rfl, ?_, ?_, fun p hp => ?_, fun z' hz' => ?_⟩
            · rw [List.map_append]
              exact hs7
            · rw [List.length_append, hsl]
              rfl
            · rcases List.mem_append.mp hp with h | h
              · exact hso p h
              · rw [List.mem_singleton.mp h]
                exact ⟨hn, hk⟩
            · rw [List.take_add_one, hz] at hz'
              rcases List.mem_append.mp hz' with h | h
              · obtain ⟨p, hp, h2⟩ := hsu z' h
                exact ⟨p, List.mem_append_left _ hp, h2⟩
              · rw [List.mem_singleton.mp (show z' ∈ [z] from h)]
                exact ⟨(n, k), by simp, hne⟩
      · obtain ⟨e3, T3, hz3, hi3, ss, a, b, c, rfl, hs3, hsl, hso, hsu⟩ := h
        have hlx : xs.length = zs.length := by rw [hx2.len, List.length_map]
        rw [hlx] at hsl hsu
        rw [List.take_length] at hsu
        exact hnx _ _ ⟨e3, T3, ⟨xs, hz3, hi3⟩, ss, a, b, c, rfl, hs3, hsl, hso, hsu⟩
    · obtain ⟨e3, T3, hz3, ss, a, b, c, rfl, hs3, hsl, hso, hsu⟩ := h
      clear e1 T1 e2 T2 hz2 hs2
      -- one set more
      refine rd_cut (fun σ H4 => Ext T [t] H H4 ∧ Tape l H4 t ∧ Ls H4 zp (zs.map siD) ∧ ∃ (ss : List (Str × Str)), σ = [some (.ref t), some (.int m), some (.ref zp), some (.ref sp), a, b, c, none, none, none] ∧ Ls H4 sp (ss.map ssD) ∧ ss.length ≤ zs.length + 1 ∧ (∀ p ∈ ss, nameB p.1 = true ∧ idB p.2 = true) ∧ ∀ z ∈ zs, ∃ p ∈ ss, endsB p.1 z.1 = true) (fun nx' hnx => ?_) (fun σ H4 h => ?_)
      · walk_at "rd_2"
        refine ⟨l, t, 3, rfl, by decide, by decide, T3, fun d H4 h0 h1 e4 T4 => ?_⟩
        have hs4 := hs3.ext e4 (by simpa using hspt) T3.lsts
        have hz4 := hz3.ext e4 (by simpa using hzpt) T3.lsts
        walk_at "rd_2"
        refine rd_ite (fun hd => ?_) (fun hd => ?_)
        · obtain ⟨sx, hsx, _⟩ := hs4.list
          obtain ⟨zx, hzx, hzi⟩ := hz4.list
          walk_at "rd_2"
          obtain ⟨z, hz1, hz2⟩ := last_some (l := zs) (by rw [hzs]; simp)
          have hznm : nameB z.1 = true := (hzn z hz2).elim (fun e => by rw [e]; exact dot_name) zone_name
          refine rd_ixLs hz4 (last_map hz1) fun u hu => ?_
          walk_at "rd_2"
          refine rd_ixSs (z := z.1) hu rfl ?_
          walk_at "rd_2"
          refine ⟨l, t, rfl, T4, fun k H5 hk e5 T5 => ?_⟩
          have hs5 := hs4.ext e5 (by simpa using hspt) T4.lsts
          have hz5 := hz4.ext e5 (by simpa using hzpt) T4.lsts
          walk_at "rd_2"
          refine ⟨by show 2 ≤ sizeLine; decide, fun ta nta => ?_⟩
          refine rd_nil ?_
          have e6 := ((e3.trans e4).trans e5).newR (o := .tup [V.str z.1, .str k]) nta
          have T6 := T5.upd (o := .tup [V.str z.1, .str k]) nta
          have hs6 := hs5.new (o := .tup [V.str z.1, .str k]) nta
          have hz6 := hz5.new (o := .tup [V.str z.1, .str k]) nta
          have ht6 : Im (upd H5 ta (.tup [V.str z.1, .str k])) (.ref ta) (ssD (z.1, k)) := .new2 (.str _ (name_ok hznm)) (.str _ (id_ok hk)) upd_same
          generalize upd H5 ta (.tup [V.str z.1, .str k]) = H6 at e6 T6 hs6 hz6 ht6 ⊢
          refine rd_appLs hs6 ht6 ?_ fun ys hy hs7 => ?_
          · rw [List.length_map, hsl]
            exact Nat.lt_of_le_of_lt (show zs.length ≤ 100 by omega) (by decide)
          · have e7 : Ext T [sp] H6 (upd H6 sp (.lst (ys ++ [.ref ta]))) := Ext.mut (by simp) hy
            refine hnx _ _ ⟨e6.own hspn hy, T6.own hspt hspl, hz6.ext e7 (by simpa using hzsp) (lsts_one hy), ss ++ [(z.1, k)], rfl, ?_, ?_, fun p hp => ?_, fun z' hz' => ?_⟩
            · rw [List.map_append]
              exact hs7
            · rw [List.length_append, hsl]
              exact Nat.le_refl _
            · rcases List.mem_append.mp hp with h | h
              · exact hso p h
              · rw [List.mem_singleton.mp h]
                exact ⟨hznm, hk⟩
            · obtain ⟨p, hp, h2⟩ := hsu z' hz'
              exact ⟨p, List.mem_append_left _ hp, h2⟩
        · walk_at "rd_2"
          exact hnx _ _ ⟨e3.trans e4, T4, hz4, ss, rfl, hs4, by omega, hso, hsu⟩
      · obtain ⟨e4, T4, hz4, ss, rfl, hs4, hsl, hso, hsu⟩ := h
        clear e3 T3 hz3 hs3
        refine rd_seq ?_
        walk_at "rdn_2"
        refine ⟨by show 0 ≤ sizeLine; decide, fun kp nkp => ?_⟩
        obtain ⟨hkt, hkl'⟩ := T4.ne (.of nkp)
        have hkn : Nw H kp := e4.back (by simpa using hkt) (.of nkp)
        have hzk := hz4.ne nkp
        have e5 := e4.newR (o := .lst []) nkp
        have T5 := T4.upd (o := .lst []) nkp
        have hz5 := hz4.new (o := .lst []) nkp
        have hs5 := hs4.new (o := .lst []) nkp
        have hk5 : Ls (upd H4 kp (.lst [])) kp (([] : List (Str × Str)).map ssD) := ⟨[], upd_same, .nil⟩
        generalize upd H4 kp (.lst []) = H5 at e5 T5 hz5 hs5 hk5 ⊢
        walk_at "rdn_2"
        refine rd_cut (fun σ H6 => Ext T [t] H H6 ∧ Tape l H6 t ∧ Ls H6 zp (zs.map siD) ∧ ∃ (ks : List (Str × Str)) (d : Option V), σ = [some (.ref t), some (.int m), some (.ref zp), some (.ref sp), a, b, c, some (.ref kp), d, none] ∧ Ls H6 kp (ks.map ssD) ∧ ks.Nodup ∧ ks.Sublist (srtSS ss) ∧ ∀ r ∈ srtSS ss, r ∈ ks) (fun nx' hnx => ?_) (fun σ H6 h => ?_)
        · walk_at "rd_2"
          refine rd_sortI hs5 (alike_ss ss) (sortable_ss ss) (depth_ss ss) fun sa ys nsa hys => ?_
          rw [srtSS_eq] at hys
          have hsak := hk5.ne nsa
          have hst := (T5.ne (.of nsa)).1
          have e6 := e5.newR (o := .lst ys) nsa
          have T6 := T5.upd (o := .lst ys) nsa
          have hz6 := hz5.new (o := .lst ys) nsa
          have hk6 := hk5.new (o := .lst ys) nsa
          have hy6 := hys.new (o := .lst ys) nsa
          have hsa6 : (upd H5 sa (.lst ys)) sa = some (.lst ys) := upd_same
          refine ⟨sa, rfl, .inl ⟨⟨_, SqL.of hsa6⟩, ?_⟩⟩
          show ForG _ _ _ _ _ (upd H5 sa (.lst ys))
          generalize upd H5 sa (.lst ys) = H6 at e6 T6 hz6 hk6 hy6 hsa6 ⊢
          refine forg_list (xs := ys) (fun i σ H7 => Ext T [t] H H7 ∧ Tape l H7 t ∧ Ls H7 zp (zs.map siD) ∧ H7 sa = some (.lst ys) ∧ ImAll H7 ys ((srtSS ss).map ssD) ∧ ∃ (ks : List (Str × Str)) (d : Option V), σ = [some (.ref t), some (.int m), some (.ref zp), some (.ref sp), a, b, c, some (.ref kp), d, none] ∧ Ls H7 kp (ks.map ssD) ∧ ks.Nodup ∧ ks.Sublist ((srtSS ss).take i) ∧ ∀ r ∈ (srtSS ss).take i, r ∈ ks)
            ⟨e6, T6, hz6, hsa6, hy6, [], none, rfl, hk6, by simp, by simp, by simp⟩ (fun i σ H7 _ h => SqL.of h.2.2.2.1) (fun i x σ H7 hx h => ?_) (fun σ H7 h => ?_)
          · obtain ⟨e7, T7, hz7, hsa7, hy7, ks, d, rfl, hk7, hkn7, hks, hkm⟩ := h
            obtain ⟨dr, hdr, hxr⟩ := hy7.get' hx
            rw [List.getElem?_map] at hdr
            obtain ⟨r, hr, rfl⟩ := Option.map_eq_some_iff.mp hdr
            have htk : (srtSS ss).take (i + 1) = (srtSS ss).take i ++ [r] := by rw [List.take_add_one, hr]; rfl
            have hkl : ks.length ≤ 7 := by
              have h1 := hks.length_le
              rw [List.length_take, (srtSS_perm ss).length_eq] at h1
              have := Nat.min_le_right i ss.length
              omega
            have hdk : PyData.depth (.list (ks.map ssD)) ≤ 64 := by
              show PyData.depthAll (ks.map ssD) + 1 ≤ 64
              have := dep_map dep_ss ks
              omega
            refine rd_name ?_
            refine rd_if ?_
            refine rd_T ?_
            refine rd_op ?_
            refine rd_var rfl ?_
            refine rd_var rfl ?_
            refine rd_ninWL (b := decide (r ∈ ks)) hxr hk7 (Nat.le_trans (dep_ss r) (by decide)) hdk (mem_ssD.trans decide_eq_true_iff.symm) ?_
            refine ⟨_, rfl, ?_⟩
            refine rd_itn (fun hin => ?_) (fun hin => ?_)
            · walk_at "rd_2"
              refine ⟨e7, T7, hz7, hsa7, hy7, ks, _, rfl, hk7, hkn7, by rw [htk]; exact hks.trans (List.sublist_append_left _ _), fun r' hr' => ?_⟩
              rw [htk] at hr'
              rcases List.mem_append.mp hr' with h | h
              · exact hkm r' h
              · rw [List.mem_singleton.mp h]
                exact hin
            · obtain ⟨kx, hkx, _⟩ := hk7.list
              refine rd_drop ?_
              refine rd_bm ?_
              refine rd_var rfl ?_
              refine rd_tyL hkx ?_
              refine rd_cons ?_
              refine rd_var rfl ?_
              refine rd_nil ?_
              refine rd_appLs hk7 hxr ?_ fun ys2 hy2 hk8 => ?_
              · rw [List.length_map]
                exact Nat.lt_of_le_of_lt hkl (by decide)
              · have e8 : Ext T [kp] H7 (upd H7 kp (.lst (ys2 ++ [x]))) := Ext.mut (by simp) hy2
                refine ⟨e7.own hkn hy2, T7.own hkt hkl', hz7.ext e8 (by simpa using hzk) (lsts_one hy2), (upd_ne hsak.symm).trans hsa7, ImAll.ext e8 (lsts_one hy2) _ _ hy7, ks ++ [r], _, rfl, ?_, nodup_snoc hkn7 hin, ?_, fun r' hr' => ?_⟩
                · rw [List.map_append]
                  exact hk8
                · rw [htk]
                  exact hks.append (List.Sublist.refl _)
                · rw [htk] at hr'
                  rcases List.mem_append.mp hr' with h | h
                  · exact List.mem_append_left _ (hkm r' h)
                  · exact List.mem_append_right _ h
          · obtain ⟨e7, T7, hz7, hsa7, hy7, ks, d, rfl, hk7, hkn7, hks, hkm⟩ := h
            have hly : ys.length = (srtSS ss).length := by rw [hy7.len, List.length_map]
            rw [hly, List.take_length] at hks hkm
            exact hnx _ _ ⟨e7, T7, hz7, ks, d, rfl, hk7, hkn7, hks, hkm⟩
        · obtain ⟨e6, T6, hz6, ks, d, rfl, hk6, hkn6, hks, hkm⟩ := h
          clear e4 T4 hz4 hs4 e5 T5 hz5 hs5 hk5
          walk_at "rd_2"
          refine ⟨l, t, 3, rfl, by decide, by decide, T6, fun d2 H7 h0 h1 e7 T7 => ?_⟩
          have hz7 := hz6.ext e7 (by simpa using hzpt) T6.lsts
          have hk7 := hk6.ext e7 (by simpa using hkt) T6.lsts
          walk_at "rd_2"
          refine ⟨l, t, 1 + d2, rfl, by omega, by omega, T7, fun ip ids H8 nip hil hin hid hip e8 T8 => ?_⟩
          have hz8 := hz7.ext e8 (by simpa using hzpt) T7.lsts
          have hk8 := hk7.ext e8 (by simpa using hkt) T7.lsts
          walk_at "rd_2"
          refine rd_sortI (ds := ids.map .str) ⟨_, hip, ImAll.strs fun z hz => id_ok (hid z hz)⟩ (alike_s ids) (sortable_s ids) (depth_s ids) fun sa ys nsa hys => ?_
          rw [srtS_eq] at hys
          have e9 := ((e6.trans e7).trans e8).newR (o := .lst ys) nsa
          have T9 := T8.upd (o := .lst ys) nsa
          have hz9 := hz8.new (o := .lst ys) nsa
          have hk9 := hk8.new (o := .lst ys) nsa
          have hy9 := hys.new (o := .lst ys) nsa
          have hs9 : (upd H8 sa (.lst ys)) sa = some (.lst ys) := upd_same
          show tNil _ (upd H8 sa (.lst ys)) _
          generalize upd H8 sa (.lst ys) = H9 at e9 T9 hz9 hk9 hy9 hs9 ⊢
          walk_at "rd_2"
          refine rd_tupL (SqL.of hs9) fun ta nta => ?_
          have e10 := e9.newR (o := .tup ys) nta
          have T10 := T9.upd (o := .tup ys) nta
          have hz10 := hz9.new (o := .tup ys) nta
          have hk10 := hk9.new (o := .tup ys) nta
          have ha10 : Im (upd H9 ta (.tup ys)) (.ref ta) (.tuple ((srtS ids).map .str)) := .tup upd_same (hy9.new nta)
          show gName 9 _ _ (upd H9 ta (.tup ys)) _
          generalize upd H9 ta (.tup ys) = H10 at e10 T10 hz10 hk10 ha10 ⊢
          obtain ⟨zx, hzx, hzi⟩ := hz10.list
          walk_at "rd_2"
          refine rd_tupF (SqL.of hzx) fun tz oz ntz hod => ?_
          have e11 := e10.newR (o := .frz oz (.tup zx)) ntz
          have T11 := T10.upd (o := .frz oz (.tup zx)) ntz
          have hk11 := hk10.new (o := .frz oz (.tup zx)) ntz
          have ha11 := ha10.new (o := .frz oz (.tup zx)) ntz
          have hf11 : (upd H10 tz (.frz oz (.tup zx))) tz = some (.frz oz (.tup zx)) := upd_same
          have hi11 : ImAll (upd H10 tz (.frz oz (.tup zx))) zx (zs.map siD) := hzi.new ntz
          have hz11 : Im (upd H10 tz (.frz oz (.tup zx))) (.ref tz) (.tuple (zs.map siD)) := .tupF hf11 (siD_tups zs) hi11
          show tCons _ _ _ (upd H10 tz (.frz oz (.tup zx))) _
          generalize upd H10 tz (.frz oz (.tup zx)) = H11 at e11 T11 hk11 ha11 hz11 hf11 hi11 ⊢
          obtain ⟨kx, hkx, hki⟩ := hk11.list
          walk_at "rd_2"
          refine rd_tupL (SqL.of hkx) fun tk ntk => ?_
          have e12 := e11.newR (o := .tup kx) ntk
          have T12 := T11.upd (o := .tup kx) ntk
          have ha12 := ha11.new (o := .tup kx) ntk
          have hz12 := hz11.new (o := .tup kx) ntk
          have hf12 := frz.ext (T := T) hf11 (.new (o := .tup kx) ntk) Lsts.nil
          have hi12 := hi11.new (o := .tup kx) ntk
          have hk12 : Im (upd H11 tk (.tup kx)) (.ref tk) (.tuple (ks.map ssD)) := .tup upd_same (hki.new ntk)
          show tNil _ (upd H11 tk (.tup kx)) _
          generalize upd H11 tk (.tup kx) = H12 at e12 T12 ha12 hz12 hk12 hf12 hi12 ⊢
          walk_at "rd_2"
          refine ⟨by show 3 ≤ sizeLine; decide, fun r nr => ?_⟩
          have hmem : ∀ r, r ∈ ks → r ∈ ss := fun r hr => (srtSS_perm ss).mem_iff.mp (hks.subset hr)
          refine q (.ref r) ⟨zs, srtS ids, ks⟩ _ ⟨⟨lag, rest, ns, hzs, hr1, hnn, hnm, hnz⟩, hlag, ⟨ss, hks⟩, hkn6, fun p hp => hso p (hmem p hp), fun z hz => ?_, ?_, ⟨ids, rfl, hin, hid, by omega, by omega⟩⟩ ⟨r, tz, _, _, zx, oz, rfl, upd_same, frz.ext (T := T) hf12 (.new nr) Lsts.nil, hod, hi12.new nr⟩ (.new3 (hz12.new nr) (ha12.new nr) (hk12.new nr) upd_same) (e12.newR nr) (T12.upd nr)
          · obtain ⟨p, hp, h⟩ := hsu z hz
            exact ⟨p, hkm p ((srtSS_perm ss).mem_iff.mpr hp), h⟩
          · have h1 := hks.length_le
            rw [(srtSS_perm ss).length_eq] at h1
            have h2 : (zs.length : Int) ≤ m + 1 := by
              have := congrArg List.length hr1
              rw [List.length_map, (srtS_perm ns).length_eq] at this
              rw [hzs, List.length_cons]
              omega
            show (ks.length : Int) ≤ m + 2
            omega
end
section
variable {T : List (Addr × Str)} {P : Program} {w : World} {K : PySem.W.Frag} {mg : Str → Option Value} {base : Heap}
theorem ok_law_chain (D : Def K mg "_law_chain" s_law_chain ["realm", "name"]) (mb : ∀ x ∈ bltns, mg x = none) : Ok P w K mg base 1 "_law_chain" ["realm", "name"] (spChainL T) := by
  refine D.ok sc_law_chain (fun vs H Q E h => ?_) (fun cdv f A outer s H vs Q E hr h => ?_)
  · obtain ⟨v, R, n, rfl, _⟩ := h
    rfl
  · obtain ⟨v, R, n, rfl, hv, hR, hn, q⟩ := h
    refine ⟨_, (pss_cons (ps_set (i := 2) sc_law_chain.nd rfl (.inl rfl) (pe_lst (pa_cons (pe_tup (pa_cons pe_int (pa_cons pe_str pa_nil))) pa_nil)))
   (pss_cons (ps_for PassesOwn.never rfl (pi_seq K rfl (pe_ix (ix_U K rfl) (pv 0) pe_int (fun _ _ => rfl))) (pg_tupU (n := 2) K rfl rfl (pgs_cons (pg_name (i := 3) sc_law_chain.nd rfl (.inl rfl)) (pgs_cons (pg_name (i := 4) sc_law_chain.nd rfl (.inl rfl)) pgs_nil))) (pss_one (ps_if (PW.pt (pw_and (pt_cmpR (op_neU K rfl hr.units) (pv 3) pe_str (nomark _)) (pw_and1 (PW.pt (pw_or (pt_cmpR (op_eqU K rfl hr.units) (pv 1) (pv 3) (nomark _)) (pw_or1 (pt_E (pe_m1 PySem.F.slot_str_endswith PySem.F.type_str_endswith mt_endsU (pv 1) (pe_op (op_plus K rfl) pe_str (pv 3)))))))))) (pss_one (ps_expr (pe_bm PySem.F.plainAttrs_list PySem.F.slot_list_append PySem.F.type_list_append mt_append (pv 2) (pa_cons (pe_tup (pa_cons (pe_callB (call_lenU K rfl) (by rfl) (mb _ (by decide)) (by decide +kernel) (pa_cons (pv 3) pa_nil)) (pa_cons (pv 3) pa_nil))) pa_nil)))) pss_nil)))
   (pss_one (ps_ret (pe_lc (own := [("pair", 5)]) (g := gName 5) (tt := tYes) rfl sc_law_chain.nd (pi_seq K rfl (pe_callB (call_sortedU K rfl hr.units) (by rfl) (mb _ (by decide)) (by decide +kernel) (pa_cons (pv 2) pa_nil))) (blkOk_by (N := N_law_chain) (sc := defScope s_law_chain) (by decide +kernel)) (fun _ _ _ _ _ => (pg_name (i := 5) sc_law_chain.nd rfl (Or.inl rfl))) (fun _ _ _ _ _ => pts_nil) (fun _ _ _ _ _ => (pe_ix (ix_U K rfl) (pv 5) pe_int (fun _ _ => rfl)))))))), ?_⟩
    refine rd_seq ?_
    walk_at "rdn_2"
    refine ⟨by show 2 ≤ sizeLine; decide, fun ta nta => ?_⟩
    walk_at "rdn_2"
    refine ⟨by show 1 ≤ sizeLine; decide, fun fp nfp => ?_⟩
    have hta : ta ≠ fp := fun e => by
      rw [← e, upd_same] at nfp
      cases nfp
    have e1 : Ext T [] H (upd (upd H ta (.tup [V.int 0, .str (Str.ofString ".")])) fp (.lst [.ref ta])) := (Ext.new nta).newR nfp
    have hfn : Nw H fp := (Ext.new (T := T) (ms := []) nta).back (by simp) (.of nfp)
    have hv1 := (hv.new (o := .tup [V.int 0, .str (Str.ofString ".")]) nta).new (o := .lst [.ref ta]) nfp
    have hf1 : Ls (upd (upd H ta (.tup [V.int 0, .str (Str.ofString ".")])) fp (.lst [.ref ta])) fp ([((0 : Int), dotS)].map isD) :=
      ⟨_, upd_same, .cons (.new2 (.int _) (.str _ (name_ok dot_name)) ((upd_ne hta).trans upd_same)) .nil⟩
    show gName 2 _ _ (upd (upd H ta (.tup [V.int 0, .str (Str.ofString ".")])) fp (.lst [.ref ta])) _
    generalize upd (upd H ta (.tup [V.int 0, .str (Str.ofString ".")])) fp (.lst [.ref ta]) = H1 at e1 hv1 hf1 ⊢
    walk_at "rdn_2"
    refine rd_cut (fun σ H2 => Ext T [] H H2 ∧ ∃ (a b : Option V), σ = [some v, some (.str n), some (.ref fp), a, b, none] ∧ Ls H2 fp ((chF R n).map isD)) (fun nx' hnx => ?_) (fun σ H2 h => ?_)
    · walk_at "rd_2"
      refine rd_ixI (d := .tuple (R.zs.map siD)) hv1 rfl fun u hu => ?_
      obtain ⟨zp, xs, rfl, hzp, hzi⟩ := hu.tup'
      refine ⟨zp, rfl, .inr ⟨⟨_, SqP.sq hzp⟩, ?_⟩⟩
      refine forg_tup (xs := xs) (fun i σ H2 => Ext T [] H H2 ∧ SqP H2 zp xs ∧ ImAll H2 xs (R.zs.map siD) ∧ ∃ (a b : Option V), σ = [some v, some (.str n), some (.ref fp), a, b, none] ∧ Ls H2 fp (((0, dotS) :: (((R.zs.take i).filter (onZ n)).map fun z => ((z.1.length : Int), z.1))).map isD))
        ⟨e1, hzp, hzi, none, none, rfl, hf1⟩ (fun i σ H2 _ h => SqP.sq h.2.1) (fun i x σ H2 hx h => ?_) (fun σ H2 h => ?_)
      · obtain ⟨e2, hzp2, hzi2, a, b, rfl, hf2⟩ := h
        obtain ⟨dz, hdz, hxz⟩ := hzi2.get' hx
        rw [List.getElem?_map] at hdz
        obtain ⟨z, hz, rfl⟩ := Option.map_eq_some_iff.mp hdz
        have hznm := hR.nm z (List.mem_of_getElem? hz)
        have hzl := name_len hznm
        have htk : (R.zs.take (i + 1)).filter (onZ n) = (R.zs.take i).filter (onZ n) ++ [z].filter (onZ n) := by
          rw [List.take_add_one, hz, List.filter_append]
          rfl
        have hcnt : ((R.zs.take i).filter (onZ n)).length ≤ 6 := Nat.le_trans (List.length_filter_le _ _) (Nat.le_trans (by rw [List.length_take]; exact Nat.min_le_right _ _) hR.len)
        rw [htk]
        refine rd_gpair (d1 := .str z.1) (d2 := .int z.2) hxz fun v1 v2 h1 h2 => ?_
        rw [h1.str', h2.int']
        have no : onZ n z = false → Ls H2 fp (((0, dotS) :: ((((R.zs.take i).filter (onZ n) ++ [z].filter (onZ n))).map fun z => ((z.1.length : Int), z.1))).map isD) := fun h => by
          rw [show [z].filter (onZ n) = [] by rw [List.filter_cons, h]; rfl, List.append_nil]
          exact hf2
        have yes : onZ n z = true → (tDrop (tBM K "list" rAppend (tVar 2) (tCons (tTup (tCons (tCB (rLenU K) (tCons (tVar 3) tNil)) (tCons (tVar 3) tNil))) tNil))) ⟨fun σ H2 => Ext T [] H H2 ∧ SqP H2 zp xs ∧ ImAll H2 xs (R.zs.map siD) ∧ ∃ (a b : Option V), σ = [some v, some (.str n), some (.ref fp), a, b, none] ∧ Ls H2 fp (((0, dotS) :: ((((R.zs.take i).filter (onZ n) ++ [z].filter (onZ n))).map fun z => ((z.1.length : Int), z.1))).map isD), Q, nx', fun σ H2 => Ext T [] H H2 ∧ SqP H2 zp xs ∧ ImAll H2 xs (R.zs.map siD) ∧ ∃ (a b : Option V), σ = [some v, some (.str n), some (.ref fp), a, b, none] ∧ Ls H2 fp (((0, dotS) :: ((((R.zs.take i).filter (onZ n) ++ [z].filter (onZ n))).map fun z => ((z.1.length : Int), z.1))).map isD)⟩ [some v, some (.str n), some (.ref fp), some (.str z.1), some (.int z.2), none] H2 := fun h => by
          obtain ⟨fx, hfx, _⟩ := hf2.list
          walk_at "rd_2"
          refine ⟨by show 2 ≤ sizeLine; decide, fun tb ntb => ?_⟩
          refine rd_nil ?_
          have e3 := e2.newR (o := .tup [V.int z.1.length, .str z.1]) ntb
          have hf3 := hf2.new (o := .tup [V.int z.1.length, .str z.1]) ntb
          have hzi3 := hzi2.new (o := .tup [V.int z.1.length, .str z.1]) ntb
          have hzp3 := SqP.new (o := .tup [V.int z.1.length, .str z.1]) hzp2 ntb
          have ht3 : Im (upd H2 tb (.tup [V.int z.1.length, .str z.1])) (.ref tb) (isD (z.1.length, z.1)) := .new2 (.int _) (.str _ (name_ok hznm)) upd_same
          generalize upd H2 tb (.tup [V.int z.1.length, .str z.1]) = H3 at e3 hf3 hzi3 hzp3 ht3 ⊢
          refine rd_appLs hf3 ht3 ?_ fun ys hy hf4 => ?_
          · rw [List.length_map, List.length_cons, List.length_map]
            exact Nat.lt_of_le_of_lt (show _ ≤ 100 by omega) (by decide)
          · have e4 : Ext T [fp] H3 (upd H3 fp (.lst (ys ++ [.ref tb]))) := Ext.mut (by simp) hy
            refine ⟨e3.own hfn hy, ?_, ImAll.ext e4 (lsts_one hy) _ _ hzi3, _, _, rfl, ?_⟩
            · exact SqP.ext hzp3 e4 (lsts_one hy)
            · rw [show [z].filter (onZ n) = [z] by rw [List.filter_cons, h]; rfl, List.map_append]
              rw [← List.cons_append, List.map_append]
              exact hf4
        walk_at "rd_2"
        refine rd_itn (fun hdot => ?_) (fun hdot => ?_)
        · walk_at "rd_2"
          exact ⟨e2, hzp2, hzi2, _, _, rfl, no (by unfold onZ; rw [decide_eq_true (show z.1 = dotS from hdot)]; rfl)⟩
        · walk_at "rd_2"
          have hd0 : decide (z.1 = dotS) = false := decide_eq_false hdot
          refine rd_ite (fun heq => ?_) (fun heq => ?_)
          · refine iteT ?_
            exact yes (by unfold onZ; rw [hd0, show n = z.1 from heq, ends_self]; rfl)
          · walk_at "rd_2"
            cases hw : Txt.endswith n (Str.ofString "." ++ z.1) with
            | true =>
              refine iteT ?_
              refine yes ?_
              unfold onZ endsB
              rw [hd0, show Txt.endswith n (dotS ++ z.1) = true from hw]
              simp
            | false =>
              refine iteF ?_
              walk_at "rd_2"
              refine ⟨e2, hzp2, hzi2, _, _, rfl, no ?_⟩
              unfold onZ endsB
              rw [hd0, show Txt.endswith n (dotS ++ z.1) = false from hw, decide_eq_false heq]
              rfl
      · obtain ⟨e2, _, hzi2, a, b, rfl, hf2⟩ := h
        rw [show xs.length = R.zs.length by rw [hzi2.len, List.length_map], List.take_length] at hf2
        exact hnx _ _ ⟨e2, a, b, rfl, hf2⟩
    · obtain ⟨e2, a, b, rfl, hf2⟩ := h
      walk_at "rd_2"
      refine rd_sortI hf2 (alike_is _) (sortable_is _) (depth_is _) fun sa ys nsa hys => ?_
      rw [srtIS_eq] at hys
      have e3 := e2.newR (o := .lst ys) nsa
      have hy3 := hys.new (o := .lst ys) nsa
      have hs3 : (upd H2 sa (.lst ys)) sa = some (.lst ys) := upd_same
      refine ⟨sa, rfl, .inl ⟨⟨_, SqL.of hs3⟩, ?_⟩⟩
      show LcG _ _ _ _ _ _ (upd H2 sa (.lst ys)) _
      generalize upd H2 sa (.lst ys) = H3 at e3 hy3 hs3 ⊢
      have hyl : ys.length ≤ 7 := by
        rw [hy3.len, List.length_map, (srtIS_perm _).length_eq]
        unfold chF
        rw [List.length_cons, List.length_map]
        have := List.length_filter_le (onZ n) R.zs
        have := hR.len
        omega
      refine lcg_rel T [] walk_list ys rfl (fun i H x H' y => y) (by simp) (fun H' e => e.seqL (by simp) (SqL.of hs3)) (Nat.lt_of_le_of_lt hyl (by decide)) (fun _ => true) (fun v x => ∃ r : Int × Str, Im H3 x (isD r) ∧ v = .str r.2) (fun i x hx H' e' R S h1 h2 => ?_) (fun D H4 us nD e4 hD hus => ?_)
      · obtain ⟨dr, hdr, hxr⟩ := hy3.get' hx
        rw [List.getElem?_map] at hdr
        obtain ⟨r, hr, rfl⟩ := Option.map_eq_some_iff.mp hdr
        refine rd_name ⟨wipe1, ?_⟩
        walk_at "rd_2"
        refine rd_ixSs (z := r.2) (Im.ext e' Lsts.nil _ _ hxr) rfl ?_
        exact h1 rfl _ _ .refl ⟨r, hxr, rfl⟩
      · rw [filtT] at hus
        have hu : us = (chL R n).map V.str := by
          unfold chL
          have key : ∀ {us ys : List V} {rs : List (Int × Str)}, ImAll H3 ys (rs.map isD) → PySem.W.EachIs (fun v x => ∃ r : Int × Str, Im H3 x (isD r) ∧ v = .str r.2) us ys → us = (rs.map (·.2)).map V.str := by
            intro us ys rs
            induction rs generalizing us ys with
            | nil =>
              intro h1 h2
              cases h1
              cases h2
              rfl
            | cons r rs ih =>
              intro h1 h2
              cases h1 with
              | cons a b =>
                cases h2 with
                | cons c d =>
                  obtain ⟨r', c1, c2⟩ := c
                  have e := Im.inj _ _ _ a c1
                  injection e with e
                  injection e with _ e
                  injection e with e _
                  injection e with e
                  rw [ih b d, c2, List.map_cons, List.map_cons, e]
          exact key hy3 hus
        rw [hu] at hD
        exact q D H4 (e3.back (by simp) nD) (e3.trans e4) hD
end
section
variable {T : List (Addr × Str)} {P : Program} {w : World} {K : PySem.W.Frag} {mg : Str → Option Value} {base : Heap}
theorem kw_ok : PyData.strOk "keys" = true ∧ PyData.strOk "link" = true ∧ PyData.strOk "hosts" = true ∧ PyData.strOk "set" = true := by decide +kernel
theorem ok_law_slots (D : Def K mg "_law_slots" s_law_slots ["realm"]) (mb : ∀ x ∈ bltns, mg x = none) : Ok P w K mg base 1 "_law_slots" ["realm"] (spSlots T) := by
  refine D.ok sc_law_slots (fun vs H Q E h => ?_) (fun cdv f A outer s H vs Q E hr h => ?_)
  · obtain ⟨v, R, rfl, _⟩ := h
    rfl
  · obtain ⟨v, R, rfl, hv, hR, q⟩ := h
    refine ⟨_, (pss_cons (ps_set (i := 1) sc_law_slots.nd rfl (.inl rfl) (pe_lst (pa_cons (pe_tup (pa_cons pe_str (pa_cons pe_str pa_nil))) pa_nil)))
   (pss_cons (ps_for PassesOwn.never rfl (pi_seq K rfl (pe_slice (sl_U K rfl) (pe_ix (ix_U K rfl) (pv 0) pe_int (fun _ _ => rfl)) (po_some pe_int) po_none)) (pg_tupU (n := 2) K rfl rfl (pgs_cons (pg_name (i := 2) sc_law_slots.nd rfl (.inl rfl)) (pgs_cons (pg_name (i := 3) sc_law_slots.nd rfl (.inl rfl)) pgs_nil))) (pss_one (ps_set (i := 1) sc_law_slots.nd rfl (.inl rfl) (pe_op (op_plus K rfl) (pv 1) (pe_lst (pa_cons (pe_tup (pa_cons pe_str (pa_cons (pv 2) pa_nil))) (pa_cons (pe_tup (pa_cons pe_str (pa_cons (pv 2) pa_nil))) (pa_cons (pe_tup (pa_cons pe_str (pa_cons (pv 2) pa_nil))) pa_nil))))))))
   (pss_one (ps_ret (pe_op (op_plus K rfl) (pv 1) (pe_lc (own := [("name", 4), ("kind", 5)]) (tt := tYes) rfl sc_law_slots.nd (pi_seq K rfl (pe_ix (ix_U K rfl) (pv 0) pe_int (fun _ _ => rfl))) (blkOk_by (N := N_law_slots) (sc := defScope s_law_slots) (by decide +kernel)) (fun _ _ _ _ _ => (pg_tupU (n := 2) K rfl rfl (pgs_cons (pg_name (i := 4) sc_law_slots.nd rfl (Or.inl rfl)) (pgs_cons (pg_name (i := 5) sc_law_slots.nd rfl (Or.inl rfl)) pgs_nil)))) (fun _ _ _ _ _ => pts_nil) (fun _ _ _ _ _ => (pe_tup (pa_cons pe_str (pa_cons (pv 4) (pa_cons (pv 5) pa_nil))))))))))), ?_⟩
    refine rd_seq ?_
    walk_at "rdn_2"
    refine ⟨by show 2 ≤ sizeLine; decide, fun ta nta => ?_⟩
    walk_at "rdn_2"
    refine ⟨by show 1 ≤ sizeLine; decide, fun fp nfp => ?_⟩
    have hta : ta ≠ fp := fun e => by
      rw [← e, upd_same] at nfp
      cases nfp
    have e1 : Ext T [] H (upd (upd H ta (.tup [V.str (Str.ofString "keys"), .str (Str.ofString ".")])) fp (.lst [.ref ta])) := (Ext.new nta).newR nfp
    have hv1 := (hv.new (o := .tup [V.str (Str.ofString "keys"), .str (Str.ofString ".")]) nta).new (o := .lst [.ref ta]) nfp
    have hf1 : Ls (upd (upd H ta (.tup [V.str (Str.ofString "keys"), .str (Str.ofString ".")])) fp (.lst [.ref ta])) fp ([Sl.k dotS].map slD) :=
      ⟨_, upd_same, .cons (.new2 (.str _ kw_ok.1) (.str _ (name_ok dot_name)) ((upd_ne hta).trans upd_same)) .nil⟩
    show gName 1 _ _ (upd (upd H ta (.tup [V.str (Str.ofString "keys"), .str (Str.ofString ".")])) fp (.lst [.ref ta])) _
    generalize upd (upd H ta (.tup [V.str (Str.ofString "keys"), .str (Str.ofString ".")])) fp (.lst [.ref ta]) = H1 at e1 hv1 hf1 ⊢
    walk_at "rdn_2"
    obtain ⟨lag, rest, hz, _⟩ := hR.ne
    have hrl : rest.length ≤ 5 := by
      have := hR.len
      rw [hz, List.length_cons] at this
      omega
    refine rd_cut (fun σ H2 => Ext T [] H H2 ∧ Im H2 v (rmD R) ∧ ∃ (p : Addr) (a b : Option V), σ = [some v, some (.ref p), a, b, none, none] ∧ Ls H2 p ((Sl.k dotS :: R.zs.tail.flatMap fun z => [.k z.1, .l z.1, .h z.1]).map slD)) (fun nx' hnx => ?_) (fun σ H2 h => ?_)
    · walk_at "rd_2"
      refine rd_ixI (d := .tuple (R.zs.map siD)) hv1 rfl fun u hu => ?_
      obtain ⟨zp, xs, rfl, hzp, hzi⟩ := hu.tup'
      have hxl : xs.length = 1 + rest.length := by
        rw [hzi.len, List.length_map, hz, List.length_cons]
        omega
      walk_at "rd_2"
      refine rd_slT (SqP.sq hzp) (fun h => ?_) fun sp nsp => ?_
      · have h0 := h.1
        rw [show HT.sIx xs.length 0 (some 1) = min 1 xs.length from HT.sIx_nat xs.length 0 1] at h0
        omega
      rw [cutV_from (α := V) xs (by decide), show Int.toNat 1 = 1 from rfl]
      have e2 := e1.newR (o := .tup (xs.drop 1)) nsp
      have hv2 := hv1.new (o := .tup (xs.drop 1)) nsp
      have hf2 := hf1.new (o := .tup (xs.drop 1)) nsp
      have hi2 := (hzi.drop 1).new (o := .tup (xs.drop 1)) nsp
      have hs2 : SqP (upd H1 sp (.tup (xs.drop 1))) sp (xs.drop 1) := .inl upd_same
      have ed : R.zs.drop 1 = R.zs.tail := List.drop_one
      rw [← List.map_drop, ed] at hi2
      show ∃ a, _ ∧ ((_ ∧ ForG _ _ _ _ _ (upd H1 sp (.tup (xs.drop 1)))) ∨ (_ ∧ ForG _ _ _ _ _ (upd H1 sp (.tup (xs.drop 1)))))
      generalize upd H1 sp (.tup (xs.drop 1)) = H2 at e2 hv2 hf2 hi2 hs2 ⊢
      generalize xs.drop 1 = ys at hi2 hs2
      refine ⟨sp, rfl, .inr ⟨⟨_, SqP.sq hs2⟩, ?_⟩⟩
      refine forg_tup (xs := ys) (fun i σ H3 => Ext T [] H H3 ∧ Im H3 v (rmD R) ∧ SqP H3 sp ys ∧ ImAll H3 ys (R.zs.tail.map siD) ∧ ∃ (p : Addr) (a b : Option V), σ = [some v, some (.ref p), a, b, none, none] ∧ Ls H3 p ((Sl.k dotS :: (R.zs.tail.take i).flatMap fun z => [.k z.1, .l z.1, .h z.1]).map slD))
        ⟨e2, hv2, hs2, hi2, fp, none, none, rfl, hf2⟩ (fun i σ H3 _ h => SqP.sq h.2.2.1) (fun i x σ H3 hx h => ?_) (fun σ H3 h => ?_)
      · obtain ⟨e3, hv3, hs3, hi3, p, a, b, rfl, hp3⟩ := h
        obtain ⟨dz, hdz, hxz⟩ := hi3.get' hx
        rw [List.getElem?_map] at hdz
        obtain ⟨z, hzz, rfl⟩ := Option.map_eq_some_iff.mp hdz
        have hznm := hR.nm z (List.mem_of_mem_tail (List.mem_of_getElem? hzz))
        have hcl : ((Sl.k dotS :: (R.zs.tail.take i).flatMap fun z => [Sl.k z.1, .l z.1, .h z.1]).map slD).length ≤ 100 := by
          rw [List.length_map, List.length_cons, List.length_flatMap]
          have : ((R.zs.tail.take i).map fun z => ([Sl.k z.1, .l z.1, .h z.1] : List Sl).length).sum ≤ (R.zs.tail.take i).length * 3 := by
            have h := sum_le (B := 3) (l := (R.zs.tail.take i).map fun z => ([Sl.k z.1, .l z.1, .h z.1] : List Sl).length) fun x hx => by
              obtain ⟨y, _, rfl⟩ := List.mem_map.mp hx
              exact Nat.le_refl 3
            rw [List.length_map] at h
            exact h
          have h2 : (R.zs.tail.take i).length ≤ 6 := by
            rw [List.length_take, List.length_tail]
            have := hR.len
            omega
          omega
        refine rd_gpair (d1 := .str z.1) (d2 := .int z.2) hxz fun v1 v2 h1 h2 => ?_
        rw [h1.str', h2.int']
        walk_at "rd_2"
        refine ⟨by show 2 ≤ sizeLine; decide, fun t1 n1 => ?_⟩
        walk_at "rd_2"
        refine ⟨by show 2 ≤ sizeLine; decide, fun t2 n2 => ?_⟩
        walk_at "rd_2"
        refine ⟨by show 2 ≤ sizeLine; decide, fun t3 n3 => ?_⟩
        walk_at "rd_2"
        refine ⟨by show 3 ≤ sizeLine; decide, fun la nla => ?_⟩
        have i1 : Im (upd H3 t1 (.tup [V.str (Str.ofString "keys"), .str z.1])) (.ref t1) (slD (.k z.1)) := .new2 (.str _ kw_ok.1) (.str _ (name_ok hznm)) upd_same
        have x1 := e3.newR (o := .tup [V.str (Str.ofString "keys"), .str z.1]) n1
        have v1 := hv3.new (o := .tup [V.str (Str.ofString "keys"), .str z.1]) n1
        have p1 := hp3.new (o := .tup [V.str (Str.ofString "keys"), .str z.1]) n1
        have s1 := SqP.new (o := .tup [V.str (Str.ofString "keys"), .str z.1]) hs3 n1
        have a1 := hi3.new (o := .tup [V.str (Str.ofString "keys"), .str z.1]) n1
        generalize upd H3 t1 (.tup [V.str (Str.ofString "keys"), .str z.1]) = H4 at n2 n3 nla i1 x1 v1 p1 s1 a1 ⊢
        have i2 : Im (upd H4 t2 (.tup [V.str (Str.ofString "link"), .str z.1])) (.ref t2) (slD (.l z.1)) := .new2 (.str _ kw_ok.2.1) (.str _ (name_ok hznm)) upd_same
        have i1 := i1.new (o := .tup [V.str (Str.ofString "link"), .str z.1]) n2
        have x2 := x1.newR (o := .tup [V.str (Str.ofString "link"), .str z.1]) n2
        have v2 := v1.new (o := .tup [V.str (Str.ofString "link"), .str z.1]) n2
        have p2 := p1.new (o := .tup [V.str (Str.ofString "link"), .str z.1]) n2
        have s2 := SqP.new (o := .tup [V.str (Str.ofString "link"), .str z.1]) s1 n2
        have a2 := a1.new (o := .tup [V.str (Str.ofString "link"), .str z.1]) n2
        generalize upd H4 t2 (.tup [V.str (Str.ofString "link"), .str z.1]) = H5 at n3 nla i1 i2 x2 v2 p2 s2 a2 ⊢
        have i3 : Im (upd H5 t3 (.tup [V.str (Str.ofString "hosts"), .str z.1])) (.ref t3) (slD (.h z.1)) := .new2 (.str _ kw_ok.2.2.1) (.str _ (name_ok hznm)) upd_same
        have i1 := i1.new (o := .tup [V.str (Str.ofString "hosts"), .str z.1]) n3
        have i2 := i2.new (o := .tup [V.str (Str.ofString "hosts"), .str z.1]) n3
        have x3 := x2.newR (o := .tup [V.str (Str.ofString "hosts"), .str z.1]) n3
        have v3 := v2.new (o := .tup [V.str (Str.ofString "hosts"), .str z.1]) n3
        have p3 := p2.new (o := .tup [V.str (Str.ofString "hosts"), .str z.1]) n3
        have s3 := SqP.new (o := .tup [V.str (Str.ofString "hosts"), .str z.1]) s2 n3
        have a3 := a2.new (o := .tup [V.str (Str.ofString "hosts"), .str z.1]) n3
        generalize upd H5 t3 (.tup [V.str (Str.ofString "hosts"), .str z.1]) = H6 at nla i1 i2 i3 x3 v3 p3 s3 a3 ⊢
        have l4 : Ls (upd H6 la (.lst [.ref t1, .ref t2, .ref t3])) la ([Sl.k z.1, .l z.1, .h z.1].map slD) := ⟨_, upd_same, .cons (i1.new nla) (.cons (i2.new nla) (.cons (i3.new nla) .nil))⟩
        have x4 := x3.newR (o := .lst [V.ref t1, .ref t2, .ref t3]) nla
        have v4 := v3.new (o := .lst [V.ref t1, .ref t2, .ref t3]) nla
        have p4 := p3.new (o := .lst [V.ref t1, .ref t2, .ref t3]) nla
        have s4 := SqP.new (o := .lst [V.ref t1, .ref t2, .ref t3]) s3 nla
        have a4 := a3.new (o := .lst [V.ref t1, .ref t2, .ref t3]) nla
        show rPlus _ _ _ (upd H6 la (.lst [.ref t1, .ref t2, .ref t3])) _
        generalize upd H6 la (.lst [.ref t1, .ref t2, .ref t3]) = H7 at l4 x4 v4 p4 s4 a4 ⊢
        obtain ⟨px, hpx, hpi⟩ := p4.list
        obtain ⟨lx, hlx, hli⟩ := l4.list
        have hl3 : lx.length = 3 := hli.len
        refine rd_cat hpx hlx (Nat.le_trans (show _ ≤ 200 by rw [hpi.len]; omega) (by decide)) fun p' np' => ?_
        refine rd_name ⟨x4.newR np', v4.new np', SqP.new s4 np', a4.new np', p', _, _, rfl, px ++ lx, upd_same, ?_⟩
        rw [List.take_add_one, hzz, List.flatMap_append, ← List.cons_append, List.map_append]
        exact (hpi.new np').app (hli.new np')
      · obtain ⟨e3, hv3, hs3, hi3, p, a, b, rfl, hp3⟩ := h
        rw [show ys.length = R.zs.tail.length by rw [hi3.len, List.length_map], List.take_length] at hp3
        exact hnx _ _ ⟨e3, hv3, p, a, b, rfl, hp3⟩
    · obtain ⟨e2, hv2, p, a, b, rfl, hp2⟩ := h
      walk_at "rd_2"
      refine rd_ixI (d := .tuple (R.ss.map ssD)) hv2 rfl fun u hu => ?_
      obtain ⟨sp, xs, rfl, hsp, hsi⟩ := hu.tup'
      refine ⟨sp, rfl, .inr ⟨⟨_, SqP.sq hsp⟩, ?_⟩⟩
      have hxl : xs.length ≤ 7 := by
        rw [hsi.len, List.length_map]
        exact hR.slen
      refine lcg_im T [] walk_tup xs rfl (fun i H x H' y => y) (fun _ => True) trivial (fun _ _ _ => trivial) (fun _ _ _ _ _ _ _ => trivial) (fun _ _ => Lsts.nil) (fun H' e _ => e.seqT (by simp) (SqP.sq hsp)) (Nat.lt_of_le_of_lt hxl (by decide)) (fun _ => true) (fun d x => ∃ r : Str × Str, Im H2 x (ssD r) ∧ d = slD (.s r.1 r.2)) (fun i x hx H' e' _ R' S h1 h2 => ?_) (fun D H3 ds nD e3 _ hD hds => ?_)
      · obtain ⟨dr, hdr, hxr⟩ := hsi.get' hx
        rw [List.getElem?_map] at hdr
        obtain ⟨r, hr, rfl⟩ := Option.map_eq_some_iff.mp hdr
        have hro := hR.sok r (List.mem_of_getElem? hr)
        refine rd_gpair (d1 := .str r.1) (d2 := .str r.2) (Im.ext e' Lsts.nil _ _ hxr) fun v1 v2 g1 g2 => ?_
        rw [g1.str', g2.str']
        refine ⟨rfl, ?_⟩
        walk_at "rd_2"
        refine ⟨by show 3 ≤ sizeLine; decide, fun tt nt => ?_⟩
        exact h1 rfl _ _ _ (.new nt) trivial (.new3 (.str _ kw_ok.2.2.2) (.str _ (name_ok hro.1)) (.str _ (id_ok hro.2)) upd_same) ⟨r, hxr, rfl⟩
      · rw [filtT] at hds
        have hd : ds = (R.ss.map fun p => Sl.s p.1 p.2).map slD := by
          have key : ∀ {ds : List PyData} {xs : List V} {rs : List (Str × Str)}, ImAll H2 xs (rs.map ssD) → PySem.W.EachIs (fun d x => ∃ r : Str × Str, Im H2 x (ssD r) ∧ d = slD (.s r.1 r.2)) ds xs → ds = (rs.map fun p => Sl.s p.1 p.2).map slD := by
            intro ds xs rs
            induction rs generalizing ds xs with
            | nil =>
              intro h1 h2
              cases h1
              cases h2
              rfl
            | cons r rs ih =>
              intro h1 h2
              cases h1 with
              | cons a b =>
                cases h2 with
                | cons c d =>
                  obtain ⟨r', c1, c2⟩ := c
                  have e := ssD_inj (Im.inj _ _ _ a c1)
                  rw [ih b d, c2, ← e]
                  rfl
          exact key hsi hds
        rw [hd] at hD
        have hp3 := hp2.ext e3 (by simp) Lsts.nil
        obtain ⟨px, hpx, hpi⟩ := hp3.list
        obtain ⟨dx, hdx, hdi⟩ := hD.list
        refine rd_cat hpx hdx ?_ fun p' np' => ?_
        · rw [hpi.len, hdi.len, List.length_map, List.length_map, List.length_map, List.length_cons, List.length_flatMap]
          have : ((R.zs.tail).map fun z => ([Sl.k z.1, .l z.1, .h z.1] : List Sl).length).sum ≤ (R.zs.tail).length * 3 := by
            have h := sum_le (B := 3) (l := (R.zs.tail).map fun z => ([Sl.k z.1, .l z.1, .h z.1] : List Sl).length) fun x hx => by
              obtain ⟨y, _, rfl⟩ := List.mem_map.mp hx
              exact Nat.le_refl 3
            rw [List.length_map] at h
            exact h
          have h2 : (R.zs.tail).length ≤ 6 := by
            rw [List.length_tail]
            have := hR.len
            omega
          have := hR.slen
          exact Nat.le_trans (show _ ≤ 200 by omega) (by decide)
        · refine q p' _ ((e2.trans e3).back (by simp) (.of np')) ((e2.trans e3).newR np') ⟨px ++ dx, upd_same, ?_⟩
          unfold slotsR
          rw [List.map_append]
          exact (hpi.new np').app (hdi.new np')
theorem ok_law_home (D : Def K mg "_law_home" s_law_home ["realm", "slot"]) (G_law_chain : Ok P w K mg base 1 "_law_chain" ["realm", "name"] (spChainL T)) : Ok P w K mg base 2 "_law_home" ["realm", "slot"] (spHome T) := by
  refine D.ok sc_law_home (fun vs H Q E h => ?_) (fun cdv f A outer s H vs Q E hr h => ?_)
  · obtain ⟨v, u, R, s, rfl, _⟩ := h
    rfl
  · obtain ⟨v, u, R, sl, rfl, hv, hu, hR, hs, q⟩ := h
    refine ⟨_, (pss_cons (ps_if (pt_cmpR (op_eqU K rfl hr.units) (pe_ix (ix_U K rfl) (pv 1) pe_int (fun _ _ => rfl)) pe_str (nomark _)) (pss_one (ps_ret (pe_ix (ix_U K rfl) (pv 1) pe_int (fun _ _ => rfl)))) pss_nil)
   (pss_cons (ps_set (i := 2) sc_law_home.nd rfl (.inl rfl) (pe_callO G_law_chain (hr.mono (by decide)) (by rfl) (pa_cons (pv 0) (pa_cons (pe_ix (ix_U K rfl) (pv 1) pe_int (fun _ _ => rfl)) pa_nil))))
   (pss_one (ps_ret (pe_ifExp (pt_cmpR (op_eqU K rfl hr.units) (pe_ix (ix_U K rfl) (pv 1) pe_int (fun _ _ => rfl)) pe_str (nomark _)) (pe_ix (ix_U K rfl) (pv 2) (pe_un un_neg pe_int) (fun _ _ => rfl)) (pe_ix (ix_U K rfl) (pv 2) (pe_un un_neg pe_int) (fun _ _ => rfl))))))), ?_⟩
    refine rd_seq ?_
    have hz0 : ∀ z ∈ R.zs.map (·.1), nameB z = true := fun z hz => by
      obtain ⟨y, hy, rfl⟩ := List.mem_map.mp hz
      exact hR.nm y hy
    have hdotm : dotS ∈ R.zs.map (·.1) := by
      obtain ⟨lag, rest, e, _⟩ := hR.ne
      rw [e]
      simp
    have hchm : ∀ n z, z ∈ chL R n → z ∈ R.zs.map (·.1) := fun n z h => by
      rcases chL_mem.mp h with h | ⟨y, hy, _, h⟩
      · rw [h]
        exact hdotm
      · rw [← h]
        exact List.mem_map_of_mem hy
    have hlast : ∀ n, ∃ z, (chL R n).getLast? = some z ∧ z ∈ chL R n := fun n => last_some fun e => by
      have := chL_len R n
      rw [e] at this
      simp only [List.length_nil] at this
      omega
    have hlast2 : ∀ y ∈ R.zs.tail, ∃ z, (chL R y.1).dropLast.getLast? = some z ∧ z ∈ chL R y.1 := fun y hy => by
      have hy2 : y ∈ R.zs.filter (onZ y.1) := List.mem_filter.mpr ⟨List.mem_of_mem_tail hy, by
        obtain ⟨lag, rest, e, h⟩ := hR.ne
        rw [e] at hy
        unfold onZ
        rw [decide_eq_false (h y hy), ends_self]
        rfl⟩
      have := List.length_pos_of_mem hy2
      have h2 := chL_len R y.1
      obtain ⟨z, h3, h4⟩ := last_some (l := (chL R y.1).dropLast) fun e => by
        have h5 := congrArg List.length e
        rw [List.length_dropLast] at h5
        simp only [List.length_nil] at h5
        omega
      exact ⟨z, h3, List.dropLast_subset _ h4⟩
    have hnk : ∀ x ∈ R.zs.tail, nameB x.1 = true := fun x hx => hR.nm x (List.mem_of_mem_tail hx)
    have hcase : (∃ z ∈ R.zs.map (·.1), sl = .k z) ∨ (∃ y ∈ R.zs.tail, sl = .l y.1 ∨ sl = .h y.1) ∨ ∃ p ∈ R.ss, sl = .s p.1 p.2 := by
      unfold slotsR at hs
      rcases List.mem_append.mp hs with hs | hs
      · rcases List.mem_cons.mp hs with hs | hs
        · exact .inl ⟨dotS, hdotm, hs⟩
        · obtain ⟨y, hy, h⟩ := List.mem_flatMap.mp hs
          simp only [List.mem_cons, List.not_mem_nil, or_false] at h
          rcases h with h | h | h
          · exact .inl ⟨y.1, List.mem_map_of_mem (List.mem_of_mem_tail hy), h⟩
          · exact .inr (.inl ⟨y, hy, .inl h⟩)
          · exact .inr (.inl ⟨y, hy, .inr h⟩)
      · obtain ⟨p, hp, h⟩ := List.mem_map.mp hs
        exact .inr (.inr ⟨p, hp, h.symm⟩)
    rcases hcase with ⟨z, hz, rfl⟩ | ⟨y, hy, hsl⟩ | ⟨p, hp, rfl⟩
    · have hu : Im H u (.tuple [.str (Str.ofString "keys"), .str z]) := hu
      walk_at "rdn_2"
      refine rd_ixSs hu rfl ?_
      walk_at "rdn_2"
      refine rd_ite (fun _ => ?_) (fun h => absurd rfl h)
      walk_at "rdn_2"
      refine rd_ixSs hu rfl ?_
      exact q H .refl hz
    · obtain ⟨kw, hk1, hk2, hu, hq⟩ : ∃ kw : Str, ¬ kw = Str.ofString "keys" ∧ ¬ kw = Str.ofString "set" ∧ Im H u (.tuple [.str kw, .str y.1]) ∧ homeR R sl = (chL R y.1).dropLast.getLast?.getD dotS := by
        rcases hsl with rfl | rfl
        · exact ⟨"link", by decide +kernel, by decide +kernel, hu, rfl⟩
        · exact ⟨"hosts", by decide +kernel, by decide +kernel, hu, rfl⟩
      rw [hq] at q
      obtain ⟨z, hz1, hz2⟩ := hlast2 y hy
      rw [hz1] at q
      walk_at "rdn_2"
      refine rd_ixSs hu rfl ?_
      walk_at "rdn_2"
      refine rd_ite (fun h => absurd h hk1) (fun _ => ?_)
      walk_at "rd_2"
      refine rd_ixSs hu rfl ?_
      walk_at "rd_2"
      refine ⟨v, R, y.1, rfl, hv, hR, hnk y hy, fun cp H1 np e1 hcp => ?_⟩
      walk_at "rd_2"
      refine rd_ixSs (Im.ext e1 Lsts.nil _ _ hu) rfl ?_
      walk_at "rd_2"
      refine rd_ite (fun h => absurd h hk2) (fun _ => ?_)
      walk_at "rd_2"
      refine rd_ixL (v := .str z) (SqL.of hcp) (at_last2 (by rw [← List.map_dropLast, List.getLast?_map, hz1]; rfl)) ?_
      exact q H1 e1 (hchm _ _ hz2)
    · have hu : Im H u (.tuple [.str (Str.ofString "set"), .str p.1, .str p.2]) := hu
      obtain ⟨z, hz1, hz2⟩ := hlast p.1
      have hq : homeR R (.s p.1 p.2) = (chL R p.1).getLast?.getD dotS := rfl
      rw [hq, hz1] at q
      walk_at "rdn_2"
      refine rd_ixSs hu rfl ?_
      walk_at "rdn_2"
      refine rd_ite (fun h => absurd h (by decide +kernel)) (fun _ => ?_)
      walk_at "rd_2"
      refine rd_ixSs hu rfl ?_
      walk_at "rd_2"
      refine ⟨v, R, p.1, rfl, hv, hR, (hR.sok p hp).1, fun cp H1 np e1 hcp => ?_⟩
      walk_at "rd_2"
      refine rd_ixSs (Im.ext e1 Lsts.nil _ _ hu) rfl ?_
      walk_at "rd_2"
      refine rd_ite (fun _ => ?_) (fun h => absurd rfl h)
      walk_at "rd_2"
      refine rd_ixL (v := .str z) (SqL.of hcp) (at_last (by rw [List.getLast?_map, hz1]; rfl)) ?_
      exact q H1 e1 (hchm _ _ hz2)
end
section
variable {T : List (Addr × Str)} {P : Program} {w : World} {K : PySem.W.Frag} {mg : Str → Option Value} {base : Heap}
theorem ok_law_item (D : Def K mg "_law_item" s_law_item ["content", "life", "signers"]) (mb : ∀ x ∈ bltns, mg x = none) : Ok P w K mg base 1 "_law_item" ["content", "life", "signers"] (spItem T) := by
  refine D.ok sc_law_item (fun vs H Q E h => ?_) (fun cdv f A outer s H vs Q E hr h => ?_)
  · obtain ⟨ca, sa, cs, gs, li, rfl, _⟩ := h
    rfl
  · obtain ⟨ca, sa, cs, gs, li, rfl, hc, hg, hco, hgo, q⟩ := h
    refine ⟨_, (pss_one (ps_ret (pe_tup (pa_cons (pe_callTy (call_tupU K rfl) (by rfl) (mb _ (by decide)) (by decide +kernel) (pa_cons (pe_callB (call_sortedU K rfl hr.units) (by rfl) (mb _ (by decide)) (by decide +kernel) (pa_cons (pv 0) pa_nil)) pa_nil)) (pa_cons (pv 1) (pa_cons (pe_callTy (call_tupU K rfl) (by rfl) (mb _ (by decide)) (by decide +kernel) (pa_cons (pe_callB (call_sortedU K rfl hr.units) (by rfl) (mb _ (by decide)) (by decide +kernel) (pa_cons (pv 2) pa_nil)) pa_nil)) (pa_cons pe_int (pa_cons pe_int pa_nil)))))))), ?_⟩
    walk_at "rd_2"
    refine rd_sortI (ds := cs.map .str) ⟨_, hc, ImAll.strs fun z hz => id_ok (hco z hz)⟩ (alike_s cs) (sortable_s cs) (depth_s cs) fun s1 ys n1 hys => ?_
    rw [srtS_eq] at hys
    have e1 : Ext T [] H (upd H s1 (.lst ys)) := .new n1
    have hg1 := (upd_ne (o := .lst ys) ((Nw.of n1).lst hg)).trans hg
    have hy1 := hys.new (o := .lst ys) n1
    have hs1 : (upd H s1 (.lst ys)) s1 = some (.lst ys) := upd_same
    show tNil _ (upd H s1 (.lst ys)) _
    generalize upd H s1 (.lst ys) = H1 at e1 hg1 hy1 hs1 ⊢
    walk_at "rd_2"
    refine rd_tupL (SqL.of hs1) fun t1 nt1 => ?_
    have e2 := e1.newR (o := .tup ys) nt1
    have hg2 := (upd_ne (o := .tup ys) ((Nw.of nt1).lst hg1)).trans hg1
    have hc2 : Im (upd H1 t1 (.tup ys)) (.ref t1) (.tuple ((srtS cs).map .str)) := .tup upd_same (hy1.new nt1)
    show tCons _ _ _ (upd H1 t1 (.tup ys)) _
    generalize upd H1 t1 (.tup ys) = H2 at e2 hg2 hc2 ⊢
    walk_at "rd_2"
    refine rd_sortI (ds := gs.map .str) ⟨_, hg2, ImAll.strs fun z hz => id_ok (hgo z hz)⟩ (alike_s gs) (sortable_s gs) (depth_s gs) fun s3 zs n3 hzs => ?_
    rw [srtS_eq] at hzs
    have e3 := e2.newR (o := .lst zs) n3
    have hc3 := hc2.new (o := .lst zs) n3
    have hz3 := hzs.new (o := .lst zs) n3
    have hs3 : (upd H2 s3 (.lst zs)) s3 = some (.lst zs) := upd_same
    show tNil _ (upd H2 s3 (.lst zs)) _
    generalize upd H2 s3 (.lst zs) = H3 at e3 hc3 hz3 hs3 ⊢
    walk_at "rd_2"
    refine rd_tupL (SqL.of hs3) fun t4 nt4 => ?_
    have e4 := e3.newR (o := .tup zs) nt4
    have hc4 := hc3.new (o := .tup zs) nt4
    have hg4 : Im (upd H3 t4 (.tup zs)) (.ref t4) (.tuple ((srtS gs).map .str)) := .tup upd_same (hz3.new nt4)
    show tCons _ _ _ (upd H3 t4 (.tup zs)) _
    generalize upd H3 t4 (.tup zs) = H4 at e4 hc4 hg4 ⊢
    walk_at "rd_2"
    refine ⟨by show 5 ≤ sizeLine; decide, fun r nr => ?_⟩
    exact q _ _ (e4.newR nr) (.tup upd_same (.cons (hc4.new nr) (.cons (.int _) (.cons (hg4.new nr) (.cons (.int _) (.cons (.int _) .nil))))))
theorem ok_law_pool (D : Def K mg "_law_pool" s_law_pool ["pools", "zone"]) (mb : ∀ x ∈ bltns, mg x = none) : Ok P w K mg base 1 "_law_pool" ["pools", "zone"] (spPool T) := by
  refine D.ok sc_law_pool (fun vs H Q E h => ?_) (fun cdv f A outer s H vs Q E hr h => ?_)
  · obtain ⟨t, a, ps, z, ks, rfl, _⟩ := h
    rfl
  · obtain ⟨t, a, ps, z, ks, rfl, hP, hpl, hnd, hm, q⟩ := h
    obtain ⟨xs, ha, hat, hrows⟩ := hP
    refine ⟨_, (pss_one (ps_ret (pe_ix (ix_U K rfl) (pe_lc (own := [("name", 2), ("pool", 3)]) rfl sc_law_pool.nd (pi_seq K rfl (pv 0)) (blkOk_by (N := N_law_pool) (sc := defScope s_law_pool) (by decide +kernel)) (fun _ _ _ _ _ => (pg_tupU (n := 2) K rfl rfl (pgs_cons (pg_name (i := 2) sc_law_pool.nd rfl (Or.inl rfl)) (pgs_cons (pg_name (i := 3) sc_law_pool.nd rfl (Or.inl rfl)) pgs_nil)))) (fun _ _ _ _ _ => (pts_one (pt_cmpR (op_eqU K rfl hr.units) (pv 2) (pv 1) (nomark _)))) (fun _ _ _ _ _ => (pv 3))) pe_int (fun _ _ => rfl)))), ?_⟩
    walk_at "rd_2"
    have hxl : xs.length ≤ 6 := by
      rw [hrows.length]
      exact hpl
    refine lcg_rel T [] walk_list xs rfl (fun i H x H' y => y) (by simp) (fun H' e => e.seqL (by simp) (SqL.of ha)) (Nat.lt_of_le_of_lt hxl (by decide)) (fun x => match x with | .ref b => (match H b with | some (.tup [.str u, _]) => decide (u = z) | _ => false) | _ => false) (fun v x => ∃ r ta pa, x = .ref ta ∧ v = .ref pa ∧ H ta = some (.tup [.str r, .ref pa]) ∧ pa ≠ t) (fun i x hx H' e' R S h1 h2 => ?_) (fun D H1 us nD e1 hD hus => ?_)
    · obtain ⟨r, _, ta, pa, rfl, hta, hpa, hpt⟩ : ∃ r ∈ ps, PoolRow H [t] x r := hrows.left x (List.mem_of_getElem? hx)
      have hta' := e'.tup (by simp) hta
      refine rd_gtup (SqT.of hta') rfl ?_
      walk_at "rd_2"
      refine ⟨rfl, ?_⟩
      walk_at "rd_2"
      refine rd_ite (fun hz => ?_) (fun hz => ?_)
      · walk_at "rd_2"
        exact h1 (by simp only [hta]; exact decide_eq_true hz) _ _ .refl ⟨r.1, ta, pa, rfl, rfl, hta, by simpa using hpt⟩
      · exact h2 (by simp only [hta]; exact decide_eq_false hz) _ .refl
    · have key : ∀ {xs : List V} {ps : List (Str × List Str)}, PySem.W.EachIs (PoolRow H [t]) xs ps → PySem.W.EachIs (PoolRow H [t]) (xs.filter fun x => match x with | .ref b => (match H b with | some (.tup [.str u, _]) => decide (u = z) | _ => false) | _ => false) (ps.filter fun p => decide (p.1 = z)) := by
        intro xs ps h
        induction h with
        | nil => exact .nil
        | cons a b ih =>
          obtain ⟨ta, pa, rfl, hta, hpa, hpt⟩ := a
          rename_i r _ _
          by_cases hz : r.1 = z
          · rw [List.filter_cons_of_pos (by simp only [hta]; exact decide_eq_true hz), List.filter_cons_of_pos (by exact decide_eq_true hz)]
            exact .cons ⟨ta, pa, rfl, hta, hpa, hpt⟩ ih
          · rw [List.filter_cons_of_neg (by simp only [hta]; simp [hz]), List.filter_cons_of_neg (by simp [hz])]
            exact ih
      have h3 := key hrows
      rw [filter_key hnd hm] at h3
      generalize xs.filter _ = fx at h3 hus
      cases h3 with
      | cons a b =>
        cases b
        cases hus with
        | cons c d =>
          cases d
          obtain ⟨ta, pa, e1', hta, hpa, hpt⟩ := a
          obtain ⟨r, ta', pa', e2', rfl, hta2, hpt2⟩ := c
          rw [e1'] at e2'
          injection e2' with e2'
          subst e2'
          rw [hta] at hta2
          injection hta2 with hta2
          injection hta2 with hta2
          injection hta2 with _ hta2
          injection hta2 with hta2 _
          injection hta2 with hta2
          subst hta2
          walk_at "rd_2"
          exact q pa H1 hpt2 hpa e1
end
section
variable {T : List (Addr × Str)} {P : Program} {w : World} {K : PySem.W.Frag} {mg : Str → Option Value} {base : Heap}
theorem at_zero {α : Type} (x : α) (l : List α) : atI (x :: l) 0 = some x := atI_nat (j := 0) rfl
theorem ok_law_pools (D : Def K mg "_law_pools" s_law_pools ["tape", "realm"]) (mb : ∀ x ∈ bltns, mg x = none) (G_law_ids : Ok P w K mg base 4 "_law_ids" ["tape", "many"] (spIds T)) : Ok P w K mg base 5 "_law_pools" ["tape", "realm"] (spPools T) := by
  refine D.ok sc_law_pools (fun vs H Q E h => ?_) (fun cdv f A outer s H vs Q E hr h => ?_)
  · obtain ⟨l, t, v, R, rfl, _⟩ := h
    rfl
  · obtain ⟨l, t, v, R, rfl, hT, hv, hR, q⟩ := h
    refine ⟨_, (pss_cons (ps_set (i := 2) sc_law_pools.nd rfl (.inl rfl) (pe_lst pa_nil))
   (pss_cons (ps_for PassesOwn.never rfl (pi_seq K rfl (pe_ix (ix_U K rfl) (pv 1) pe_int (fun _ _ => rfl))) (pg_tupU (n := 2) K rfl rfl (pgs_cons (pg_name (i := 3) sc_law_pools.nd rfl (.inl rfl)) (pgs_cons (pg_name (i := 4) sc_law_pools.nd rfl (.inl rfl)) pgs_nil))) (pss_cons (ps_set (i := 5) sc_law_pools.nd rfl (.inl rfl) (pe_callO G_law_ids (hr.mono (by decide)) (by rfl) (pa_cons (pv 0) (pa_cons pe_int pa_nil))))
   (pss_cons (ps_if (pt_cmpR (op_eqU K rfl hr.units) (pv 3) pe_str (nomark _)) (pss_one (ps_set (i := 5) sc_law_pools.nd rfl (.inl rfl) (pe_op (op_plus K rfl) (pe_lst (pa_cons (pe_ix (ix_U K rfl) (pe_ix (ix_U K rfl) (pv 1) pe_int (fun _ _ => rfl)) pe_int (fun _ _ => rfl)) pa_nil)) (pe_slice (sl_U K rfl) (pe_lc (own := [("key", 6)]) (g := gName 6) rfl sc_law_pools.nd (pi_seq K rfl (pv 5)) (blkOk_by (N := N_law_pools) (sc := defScope s_law_pools) (by decide +kernel)) (fun _ _ _ _ _ => (pg_name (i := 6) sc_law_pools.nd rfl (Or.inl rfl))) (fun _ _ _ _ _ => (pts_one (pt_cmpR (op_neU K rfl hr.units) (pv 6) (pe_ix (ix_U K rfl) (pe_ix (ix_U K rfl) (pv 1) pe_int (fun _ _ => rfl)) pe_int (fun _ _ => rfl)) (nomark _)))) (fun _ _ _ _ _ => (pv 6))) po_none (po_some pe_int))))) pss_nil)
   (pss_one (ps_expr (pe_bm PySem.F.plainAttrs_list PySem.F.slot_list_append PySem.F.type_list_append mt_append (pv 2) (pa_cons (pe_tup (pa_cons (pv 3) (pa_cons (pv 5) pa_nil))) pa_nil)))))))
   (pss_one (ps_ret (pv 2))))), ?_⟩
    refine rd_seq ?_
    walk_at "rdn_2"
    refine ⟨by show 0 ≤ sizeLine; decide, fun pp npp => ?_⟩
    have hpn : Nw H pp := .of npp
    obtain ⟨hpt, hpl⟩ := hT.ne hpn
    have e1 : Ext T [t] H (upd H pp (.lst [])) := .new npp
    have T1 := hT.upd (o := .lst []) npp
    have hv1 := hv.new (o := .lst []) npp
    have hp1 : (upd H pp (.lst [])) pp = some (.lst []) := upd_same
    generalize upd H pp (.lst []) = H1 at e1 T1 hv1 hp1 ⊢
    walk_at "rdn_2"
    obtain ⟨anc, anr, han, haid⟩ := hR.an
    refine rd_cut (fun σ H2 => Ext T [t] H H2 ∧ Tape l H2 t ∧ ∃ (xs : List V) (ps : List (Str × List Str)) (a b c d : Option V), σ = [some (.ref t), some v, some (.ref pp), a, b, c, d] ∧ H2 pp = some (.lst xs) ∧ PySem.W.EachIs (PoolRow H2 [t, pp]) xs ps ∧ PsOk R ps) (fun nx' hnx => ?_) (fun σ H2 h => ?_)
    · walk_at "rd_2"
      refine rd_ixI (d := .tuple (R.zs.map siD)) hv1 rfl fun u hu => ?_
      obtain ⟨zp, zx, rfl, hzp, hzi⟩ := hu.tup'
      refine ⟨zp, rfl, .inr ⟨⟨_, SqP.sq hzp⟩, ?_⟩⟩
      refine forg_tup (xs := zx) (fun i σ H2 => Ext T [t] H H2 ∧ Tape l H2 t ∧ Im H2 v (rmD R) ∧ SqP H2 zp zx ∧ ImAll H2 zx (R.zs.map siD) ∧ ∃ (xs : List V) (ps : List (Str × List Str)) (a b c d : Option V), σ = [some (.ref t), some v, some (.ref pp), a, b, c, d] ∧ H2 pp = some (.lst xs) ∧ PySem.W.EachIs (PoolRow H2 [t, pp]) xs ps ∧ ps.map (·.1) = (R.zs.take i).map (·.1) ∧ (∀ p ∈ ps, p.2.Nodup) ∧ (∀ p ∈ ps, ∀ y ∈ p.2, idB y = true) ∧ ∀ p ∈ ps, p.2.length = 3)
        ⟨e1, T1, hv1, hzp, hzi, [], [], none, none, none, none, rfl, hp1, .nil, rfl, by simp, by simp, by simp⟩ (fun i σ H2 _ h => SqP.sq h.2.2.2.1) (fun i x σ H2 hx h => ?_) (fun σ H2 h => ?_)
      · obtain ⟨e2, T2, hv2, hzp2, hzi2, xs, ps, a, b, c, d, rfl, hp2, hrows, hnm, hnd, hok, hl3⟩ := h
        obtain ⟨dz, hdz, hxz⟩ := hzi2.get' hx
        rw [List.getElem?_map] at hdz
        obtain ⟨z, hz, rfl⟩ := Option.map_eq_some_iff.mp hdz
        have hznm := hR.nm z (List.mem_of_getElem? hz)
        have hpsl : ps.length ≤ 6 := by
          have := congrArg List.length hnm
          rw [List.length_map, List.length_map, List.length_take] at this
          have := hR.len
          omega
        refine rd_gpair (d1 := .str z.1) (d2 := .int z.2) hxz fun v1 v2 h1 h2 => ?_
        rw [h1.str', h2.int']
        refine rd_seq ?_
        walk_at "rdn_2"
        refine ⟨l, t, 3, rfl, by decide, by decide, T2, fun ip ids H3 nip hil hin hid hip e3 T3 => ?_⟩
        have hipt : ip ≠ t := (T2.ne nip).1
        have hipp : ip ≠ pp := fun e => nip.lst (e ▸ hp2) rfl
        have hv3 := Im.ext e3 T2.lsts _ _ hv2
        have hzp3 := hzp2.ext e3 T2.lsts
        have hzi3 := ImAll.ext e3 T2.lsts _ _ hzi2
        have hp3 := e3.lst (by simpa using hpt) hp2
        have hrows3 := rows_ext hrows e3 (by simp) T2.lsts
        have e03 := e2.trans e3
        clear e2 T2 hv2 hzp2 hzi2 hp2 hrows hxz h1 h2
        walk_at "rdn_2"
        refine rd_cut (fun σ H4 => Ext T [t] H H4 ∧ Tape l H4 t ∧ Im H4 v (rmD R) ∧ SqP H4 zp zx ∧ ImAll H4 zx (R.zs.map siD) ∧ H4 pp = some (.lst xs) ∧ PySem.W.EachIs (PoolRow H4 [t, pp]) xs ps ∧ ∃ (ka : Addr) (ks : List Str) (d : Option V), σ = [some (.ref t), some v, some (.ref pp), some (.str z.1), some (.int z.2), some (.ref ka), d] ∧ H4 ka = some (.lst (ks.map V.str)) ∧ ka ≠ t ∧ ka ≠ pp ∧ ks.Nodup ∧ (∀ y ∈ ks, idB y = true) ∧ ks.length = 3) (fun nx2 hnx2 => ?_) (fun σ H4 h => ?_)
        · walk_at "rd_2"
          refine rd_ite (fun hdot => ?_) (fun hdot => ?_)
          · walk_at "rd_2"
            refine rd_ixI (d := .tuple (R.an.map .str)) hv3 rfl fun u1 hu1 => ?_
            walk_at "rd_2"
            refine rd_ixSs (z := anc) hu1 (by rw [han]; exact at_zero _ _) ?_
            walk_at "rd_2"
            refine ⟨by show 1 ≤ sizeLine; decide, fun la nla => ?_⟩
            have hlp : pp ≠ la := (Nw.of nla).lst hp3
            have hli : ip ≠ la := (Nw.of nla).lst hip
            have hlt := (T3.ne (.of nla)).1
            have e4 := e03.newR (o := .lst [V.str anc]) nla
            have T4 := T3.upd (o := .lst [V.str anc]) nla
            have hv4 := hv3.new (o := .lst [V.str anc]) nla
            have hzp4 := SqP.new (o := .lst [V.str anc]) hzp3 nla
            have hzi4 := hzi3.new (o := .lst [V.str anc]) nla
            have hp4 := (upd_ne (o := .lst [V.str anc]) hlp).trans hp3
            have hip4 := (upd_ne (o := .lst [V.str anc]) hli).trans hip
            have hrows4 := rows_ext hrows3 (Ext.new (T := T) (ms := []) (o := .lst [V.str anc]) nla) (by simp) Lsts.nil
            have hla4 : (upd H3 la (.lst [V.str anc])) la = some (.lst [V.str anc]) := upd_same
            show tSl _ _ _ _ _ (upd H3 la (.lst [V.str anc])) _
            generalize upd H3 la (.lst [V.str anc]) = H4 at e4 T4 hv4 hzp4 hzi4 hp4 hip4 hrows4 hla4 ⊢
            walk_at "rd_2"
            have hids3 : ids.length = 3 := by omega
            refine lcg_list T [] (SqL.of hip4) (fun v => match v with | .str k => !decide (k = anc) | _ => false) id (by rw [List.length_map, hids3]; decide) (by simp) (by simp) (fun x hx H5 e5 R' S h1 h2 => ?_) (fun D H5 nD e5 hD => ?_)
            · obtain ⟨k, hk, rfl⟩ := List.mem_map.mp hx
              walk_at "rd_2"
              refine rd_ixI (d := .tuple (R.an.map .str)) (Im.ext e5 Lsts.nil _ _ hv4) rfl fun u1 hu1 => ?_
              walk_at "rd_2"
              refine rd_ixSs (z := anc) hu1 (by rw [han]; exact at_zero _ _) ?_
              walk_at "rd_2"
              refine rd_itn (fun hk => ?_) (fun hk => ?_)
              · exact h2 (by show (!decide (k = anc)) = false; rw [decide_eq_true hk]; rfl) _ .refl
              · walk_at "rd_2"
                exact h1 (by show (!decide (k = anc)) = true; rw [decide_eq_false hk]; rfl) _ .refl
            · have hfm : ((ids.map V.str).filter fun v => match v with | .str k => !decide (k = anc) | _ => false).map id = (ids.filter fun k => !decide (k = anc)).map V.str := by
                rw [List.map_id, List.filter_map]
                rfl
              rw [hfm] at hD
              have hDl : (ids.filter fun k => !decide (k = anc)).length ≤ 3 := by
                have := List.length_filter_le (fun k => !decide (k = anc)) ids
                omega
              have e05 := e4.trans e5.any
              have T5 := T4.ext e5
              have hv5 := Im.ext e5 Lsts.nil _ _ hv4
              have hzp5 : SqP H5 zp zx := SqP.ext hzp4 e5 Lsts.nil
              have hzi5 := ImAll.ext e5 Lsts.nil _ _ hzi4
              have hp5 := e5.lst (by simp) hp4
              have hla5 := e5.lst (by simp) hla4
              have hrows5 := rows_ext hrows4 e5 (by simp) Lsts.nil
              walk_at "rd_2"
              refine rd_slL (SqL.of hD) fun s6 ns6 => ?_
              rw [cutV_to _ (by decide), show Int.toNat 2 = 2 from rfl, ← List.map_take]
              have hlp6 : pp ≠ s6 := (Nw.of ns6).lst hp5
              have hla6' : la ≠ s6 := (Nw.of ns6).lst hla5
              have e6 := e05.newR (o := .lst (((ids.filter fun k => !decide (k = anc)).take 2).map V.str)) ns6
              have T6 := T5.upd (o := .lst (((ids.filter fun k => !decide (k = anc)).take 2).map V.str)) ns6
              have hv6 := hv5.new (o := .lst (((ids.filter fun k => !decide (k = anc)).take 2).map V.str)) ns6
              have hzp6 := SqP.new (o := .lst (((ids.filter fun k => !decide (k = anc)).take 2).map V.str)) hzp5 ns6
              have hzi6 := hzi5.new (o := .lst (((ids.filter fun k => !decide (k = anc)).take 2).map V.str)) ns6
              have hp6 := (upd_ne (o := .lst (((ids.filter fun k => !decide (k = anc)).take 2).map V.str)) hlp6).trans hp5
              have hla6 := (upd_ne (o := .lst (((ids.filter fun k => !decide (k = anc)).take 2).map V.str)) hla6').trans hla5
              have hrows6 := rows_ext hrows5 (Ext.new (T := T) (ms := []) (o := .lst (((ids.filter fun k => !decide (k = anc)).take 2).map V.str)) ns6) (by simp) Lsts.nil
              have hs6 : (upd H5 s6 (.lst (((ids.filter fun k => !decide (k = anc)).take 2).map V.str))) s6 = some (.lst (((ids.filter fun k => !decide (k = anc)).take 2).map V.str)) := upd_same
              show rPlus _ _ _ (upd H5 s6 (.lst (((ids.filter fun k => !decide (k = anc)).take 2).map V.str))) _
              generalize upd H5 s6 (.lst (((ids.filter fun k => !decide (k = anc)).take 2).map V.str)) = H6 at e6 T6 hv6 hzp6 hzi6 hp6 hla6 hrows6 hs6 ⊢
              refine rd_cat hla6 hs6 ?_ fun ka nka => ?_
              · rw [List.length_map, List.length_take]
                exact Nat.le_trans (show _ ≤ 100 by simp only [List.length_cons, List.length_nil]; omega) (by decide)
              refine rd_name ?_
              have hkt := (T6.ne (.of nka)).1
              refine hnx2 _ _ ⟨e6.newR nka, T6.upd nka, hv6.new nka, SqP.new hzp6 nka, hzi6.new nka, (upd_ne ((Nw.of nka).lst hp6)).trans hp6, rows_ext hrows6 (Ext.new (T := T) (ms := []) nka) (by simp) Lsts.nil, ka, anc :: (ids.filter fun k => !decide (k = anc)).take 2, _, rfl, upd_same, hkt, ((Nw.of nka).lst hp6).symm, ?_, fun y hy => ?_, ?_⟩
              · rw [List.nodup_cons]
                refine ⟨fun hm => ?_, (hin.sublist List.filter_sublist).sublist (List.take_sublist _ _)⟩
                have := (List.mem_filter.mp (List.mem_of_mem_take hm)).2
                simp at this
              · rcases List.mem_cons.mp hy with e | hy
                · rw [e]
                  exact haid
                · exact hid y (List.mem_filter.mp (List.mem_of_mem_take hy)).1
              · have := filter_others (a := anc) hin
                rw [List.length_cons, List.length_take]
                omega
          · walk_at "rd_2"
            exact hnx2 _ _ ⟨e03, T3, hv3, hzp3, hzi3, hp3, hrows3, ip, ids, _, rfl, hip, hipt, hipp, hin, hid, by omega⟩
        · obtain ⟨e4, T4, hv4, hzp4, hzi4, hp4, hrows4, ka, ks, d, rfl, hka, hkt, hkp, hkn, hki, hk3⟩ := h
          walk_at "rd_2"
          refine ⟨by show 2 ≤ sizeLine; decide, fun ta nta => ?_⟩
          have e5 := e4.newR (o := .tup [V.str z.1, .ref ka]) nta
          have T5 := T4.upd (o := .tup [V.str z.1, .ref ka]) nta
          have hv5 := hv4.new (o := .tup [V.str z.1, .ref ka]) nta
          have hzp5 := SqP.new (o := .tup [V.str z.1, .ref ka]) hzp4 nta
          have hzi5 := hzi4.new (o := .tup [V.str z.1, .ref ka]) nta
          have hp5 := (upd_ne (o := .tup [V.str z.1, .ref ka]) ((Nw.of nta).lst hp4)).trans hp4
          have hka5 := (upd_ne (o := .tup [V.str z.1, .ref ka]) ((Nw.of nta).lst hka)).trans hka
          have hrows5 := rows_ext hrows4 (Ext.new (T := T) (ms := []) (o := .tup [V.str z.1, .ref ka]) nta) (by simp) Lsts.nil
          have hta5 : (upd H4 ta (.tup [V.str z.1, .ref ka])) ta = some (.tup [V.str z.1, .ref ka]) := upd_same
          refine rd_nil ?_
          generalize upd H4 ta (.tup [V.str z.1, .ref ka]) = H5 at e5 T5 hv5 hzp5 hzi5 hp5 hka5 hrows5 hta5 ⊢
          refine rd_app hp5 ?_ ?_
          · rw [hrows5.length]
            exact Nat.lt_of_le_of_lt (show ps.length ≤ 100 by omega) (by decide)
          · have e6 : Ext T [pp] H5 (upd H5 pp (.lst (xs ++ [.ref ta]))) := Ext.mut (by simp) hp5
            have hrow : PoolRow H5 [t, pp] (.ref ta) (z.1, ks) := ⟨ta, ka, rfl, hta5, hka5, by simp [hkt, hkp]⟩
            refine ⟨e5.own hpn hp5, T5.own hpt hpl, Im.ext e6 (lsts_one hp5) _ _ hv5, SqP.ext hzp5 e6 (lsts_one hp5), ImAll.ext e6 (lsts_one hp5) _ _ hzi5, xs ++ [.ref ta], ps ++ [(z.1, ks)], _, _, _, _, rfl, upd_same, rows_ext (PySem.W.each_snoc hrow hrows5) e6 (by simp) (lsts_one hp5), ?_, fun p hp => ?_, fun p hp => ?_, fun p hp => ?_⟩
            · rw [List.map_append, hnm, List.take_add_one, hz, List.map_append]
              rfl
            · rcases List.mem_append.mp hp with h | h
              · exact hnd p h
              · rw [List.mem_singleton.mp h]
                exact hkn
            · rcases List.mem_append.mp hp with h | h
              · exact hok p h
              · rw [List.mem_singleton.mp h]
                exact hki
            · rcases List.mem_append.mp hp with h | h
              · exact hl3 p h
              · rw [List.mem_singleton.mp h]
                exact hk3
      · obtain ⟨e2, T2, hv2, hzp2, hzi2, xs, ps, a, b, c, d, rfl, hp2, hrows, hnm, hnd, hok, hl3⟩ := h
        rw [show zx.length = R.zs.length by rw [hzi2.len, List.length_map], List.take_length] at hnm
        exact hnx _ _ ⟨e2, T2, xs, ps, a, b, c, d, rfl, hp2, hrows, hnm, hnd, hok, hl3⟩
    · obtain ⟨e2, T2, xs, ps, a, b, c, d, rfl, hp2, hrows, hps⟩ := h
      walk_at "rd_2"
      exact q pp ps H2 hpn ⟨xs, hp2, hpt, rows_weak hrows (by simp)⟩ hps e2 T2
end
section
variable {T : List (Addr × Str)} {P : Program} {w : World} {K : PySem.W.Frag} {mg : Str → Option Value} {base : Heap}
def sL : List Str := ["s1", "s2"]
theorem sL_ok : sL.Nodup ∧ ∀ y ∈ sL, idB y = true := by decide +kernel
theorem srtS_nil : srtS [] = [] := List.mergeSort_nil
theorem head_in {ks : List Str} {k : Nat} (h : ks.length = 3) (hk : 1 ≤ k) : ks.take k ≠ [] ∧ ∃ x, ks.take 1 = [x] ∧ x ∈ ks.take k := by
  match ks, h with
  | a :: r, _ =>
    obtain ⟨k, rfl⟩ : ∃ j, k = j + 1 := ⟨k - 1, by omega⟩
    exact ⟨by simp, a, by simp, by simp⟩
theorem hd_take {d : Int} (h0 : 0 ≤ d) (h1 : d < 2) : (srtS (sL.take (1 + d).toNat)).headD "s1" = "s1" := by
  have h : d = 0 ∨ d = 1 := by omega
  rcases h with rfl | rfl
  · rw [show sL.take (1 + (0 : Int)).toNat = (["s1"] : List Str) from rfl, srtS_oneL]
    rfl
  · rw [show sL.take (1 + (1 : Int)).toNat = (["s1", "s2"] : List Str) from rfl, srt_two]
    rfl
theorem ok_law_first_item (D : Def K mg "_law_first_item" s_law_first_item ["tape", "realm", "pools", "slot"]) (mb : ∀ x ∈ bltns, mg x = none) (G_law_take : Ok P w K mg base 2 "_law_take" ["tape", "many"] (spTake T)) (G_law_life : Ok P w K mg base 3 "_law_life" ["tape"] (spInt T 1 1000))
    (G_law_home : Ok P w K mg base 2 "_law_home" ["realm", "slot"] (spHome T)) (G_law_pool : Ok P w K mg base 1 "_law_pool" ["pools", "zone"] (spPool T)) (G_law_item : Ok P w K mg base 1 "_law_item" ["content", "life", "signers"] (spItem T)) (G_law_ids : Ok P w K mg base 4 "_law_ids" ["tape", "many"] (spIds T)) :
    Ok P w K mg base 5 "_law_first_item" ["tape", "realm", "pools", "slot"] (spFirst T) := by
  refine D.ok sc_law_first_item (fun vs H Q E h => ?_) (fun cdv f A outer s H vs Q E hr h => ?_)
  · obtain ⟨l, t, pa, v, u, R, ps, sl, rfl, _⟩ := h
    rfl
  · obtain ⟨l, t, pa, v, u, R, ps, sl, rfl, hT, hv, hR, hP, hps, hu, hs, q⟩ := h
    refine ⟨_, (pss_cons (ps_set (i := 4) sc_law_first_item.nd rfl (.inl rfl) (pe_callO G_law_life (hr.mono (by decide)) (by rfl) (pa_cons (pv 0) pa_nil)))
   (pss_cons (ps_set (i := 5) sc_law_first_item.nd rfl (.inl rfl) (pe_callO G_law_pool (hr.mono (by decide)) (by rfl) (pa_cons (pv 2) (pa_cons (pe_callO G_law_home (hr.mono (by decide)) (by rfl) (pa_cons (pv 1) (pa_cons (pv 3) pa_nil))) pa_nil))))
   (pss_cons (ps_if (pt_cmpR (op_eqU K rfl hr.units) (pe_ix (ix_U K rfl) (pv 3) pe_int (fun _ _ => rfl)) pe_str (nomark _)) (pss_cons (ps_set (i := 6) sc_law_first_item.nd rfl (.inl rfl) (pe_slice (sl_U K rfl) (pv 5) po_none (po_some (pe_op (op_plus K rfl) pe_int (pe_callO G_law_take (hr.mono (by decide)) (by rfl) (pa_cons (pv 0) (pa_cons pe_int pa_nil)))))))
   (pss_one (ps_ret (pe_callO G_law_item (hr.mono (by decide)) (by rfl) (pa_cons (pv 6) (pa_cons (pv 4) (pa_cons (pe_slice (sl_U K rfl) (pv 5) po_none (po_some pe_int)) pa_nil))))))) pss_nil)
   (pss_cons (ps_if (pt_cmpR (op_eqU K rfl hr.units) (pe_ix (ix_U K rfl) (pv 3) pe_int (fun _ _ => rfl)) pe_str (nomark _)) (pss_one (ps_ret (pe_callO G_law_item (hr.mono (by decide)) (by rfl) (pa_cons (pe_slice (sl_U K rfl) (pe_callO G_law_pool (hr.mono (by decide)) (by rfl) (pa_cons (pv 2) (pa_cons (pe_ix (ix_U K rfl) (pv 3) pe_int (fun _ _ => rfl)) pa_nil))) po_none (po_some pe_int)) (pa_cons (pv 4) (pa_cons (pe_slice (sl_U K rfl) (pv 5) po_none (po_some pe_int)) pa_nil)))))) pss_nil)
   (pss_cons (ps_if (pt_cmpR (op_eqU K rfl hr.units) (pe_ix (ix_U K rfl) (pv 3) pe_int (fun _ _ => rfl)) pe_str (nomark _)) (pss_one (ps_ret (pe_callO G_law_item (hr.mono (by decide)) (by rfl) (pa_cons (pe_slice (sl_U K rfl) (pe_lst (pa_cons pe_str (pa_cons pe_str pa_nil))) po_none (po_some (pe_op (op_plus K rfl) pe_int (pe_callO G_law_take (hr.mono (by decide)) (by rfl) (pa_cons (pv 0) (pa_cons pe_int pa_nil)))))) (pa_cons (pv 4) (pa_cons (pe_lst pa_nil) pa_nil)))))) pss_nil)
   (pss_one (ps_ret (pe_callO G_law_item (hr.mono (by decide)) (by rfl) (pa_cons (pe_callO G_law_ids (hr.mono (by decide)) (by rfl) (pa_cons (pv 0) (pa_cons (pe_callO G_law_take (hr.mono (by decide)) (by rfl) (pa_cons (pv 0) (pa_cons pe_int pa_nil))) pa_nil))) (pa_cons (pv 4) (pa_cons (pe_slice (sl_U K rfl) (pv 5) po_none (po_some pe_int)) pa_nil))))))))))), ?_⟩
    refine rd_seq ?_
    walk_at "rdn_2"
    refine ⟨l, t, rfl, hT, fun li H1 hl0 hl1 e1 T1 => ?_⟩
    have hv1 := hv.y e1 hT
    have hu1 := hu.y e1 hT
    have hP1 := hP.ext e1 hT
    walk_at "rdn_2"
    refine rd_seq ?_
    walk_at "rdn_2"
    refine ⟨v, u, R, sl, rfl, hv1, hu1, hR, hs, fun H2 e2 hh => ?_⟩
    have hv2 := hv1.x e2
    have hu2 := hu1.x e2
    have hP2 := hP1.ext0 e2
    have T2 := T1.ext e2
    have e02 := e1.trans e2.any
    walk_at "rdn_2"
    have hpn : (ps.map (·.1)).Nodup := by rw [hps.nm]; exact hR.nd
    have hpl : ps.length ≤ 6 := by
      have := congrArg List.length hps.nm
      rw [List.length_map, List.length_map] at this
      have := hR.len
      omega
    have pick : ∀ z ∈ R.zs.map (·.1), ∃ ks, (z, ks) ∈ ps := fun z hz => by
      rw [← hps.nm] at hz
      obtain ⟨p, hp, e⟩ := List.mem_map.mp hz
      exact ⟨p.2, by rw [← e]; exact hp⟩
    obtain ⟨ks, hks⟩ := pick _ hh
    refine ⟨t, pa, ps, _, ks, rfl, hP2, hpl, hpn, hks, fun oa H3 hot hoa e3 => ?_⟩
    have hv3 := hv2.x e3
    have hu3 := hu2.x e3
    have hP3 := hP2.ext0 e3
    have T3 := T2.ext e3
    have e03 := e02.trans e3.any
    have ho3 := lst.x hoa e3
    have hk3 : ks.length = 3 := hps.len _ hks
    have hkn : ks.Nodup := hps.nd _ hks
    have hki : ∀ y ∈ ks, idB y = true := hps.ok _ hks
    clear hT hv hP hu e1 T1 hv1 hu1 hP1 e2 hv2 hu2 hP2 T2 e02 e3
    walk_at "rdn_2"
    -- the last step of each way
    have fin : ∀ (ca sa : Addr) (cs gs : List Str) (H4 : Hp), Ext T [t] H H4 → Tape l H4 t → H4 ca = some (.lst (cs.map V.str)) → H4 sa = some (.lst (gs.map V.str)) → cs.Nodup → gs.Nodup → (∀ y ∈ cs, idB y = true) → (∀ y ∈ gs, idB y = true) → cs.length ≤ 4 → gs.length ≤ 3 → (∀ z, sl = .h z → gs = []) → (∀ z, sl = .k z → cs ≠ [] ∧ ∃ x, gs = [x] ∧ x ∈ cs) → (∀ z, sl = .h z → (srtS cs).headD "s1" = "s1") →
        spItem T [.ref ca, .int li, .ref sa] H4 Q E0 := fun ca sa cs gs H4 e4 T4 hc hg n1 n2 o1 o2 l1 l2 hh hkk h1s => by
      refine ⟨ca, sa, cs, gs, li, rfl, hc, hg, o1, o2, fun x H5 e5 hx => ?_⟩
      refine q x _ H5 ⟨⟨cs, rfl, n1, o1, l1⟩, ⟨gs, rfl, n2, o2, l2⟩, ⟨hl0, hl1⟩, ⟨show (0 : Int) ≤ 0 by decide, show (0 : Int) ≤ 10000 by decide, show (10000 : Int) ≤ 10000 by decide⟩, fun z e => ⟨?_, rfl, rfl⟩, fun z e => srtS_ne (hkk z e).1⟩ (fun z e => seal_srt (hkk z e).2) h1s hx (e4.trans e5.any) (T4.ext e5)
      rw [hh z e]
      exact srtS_nil
    have k1n : (ks.take 1).Nodup := hkn.sublist (List.take_sublist _ _)
    have k1i : ∀ y ∈ ks.take 1, idB y = true := fun y hy => hki y (List.mem_of_mem_take hy)
    have k1l : (ks.take 1).length ≤ 3 := by rw [List.length_take]; omega
    cases sl with
    | k z =>
      have hu3 : Im H3 u (.tuple [.str (Str.ofString "keys"), .str z]) := hu3
      walk_at "rd_2"
      refine rd_ixSs hu3 rfl ?_
      walk_at "rd_2"
      refine rd_ite (fun _ => ?_) (fun h => absurd rfl h)
      walk_at "rd_2"
      refine ⟨l, t, 2, rfl, by decide, by decide, T3, fun d H4 h0 h1 e4 T4 => ?_⟩
      have ho4 := lst.y ho3 e4 hot
      walk_at "rd_2"
      refine rd_takeS T ho4 (by omega) fun ca H5 nca e5 hca => ?_
      have ho5 := lst.x ho4 e5
      walk_at "rd_2"
      refine rd_takeS T ho5 (by decide) fun sa H6 _ e6 hsa => ?_
      walk_at "rd_2"
      exact fin ca sa _ _ H6 (((e03.trans e4).trans e5.any).trans e6.any) ((T4.ext e5).ext e6) (lst.x hca e6) hsa (hkn.sublist (List.take_sublist _ _)) k1n (fun y hy => hki y (List.mem_of_mem_take hy)) k1i (by rw [List.length_take]; omega) k1l (fun z h => by cases h) (fun _ _ => head_in hk3 (by omega)) (fun z h => by cases h)
    | l z =>
      have hu3 : Im H3 u (.tuple [.str (Str.ofString "link"), .str z]) := hu3
      walk_at "rd_2"
      refine rd_ixSs hu3 rfl ?_
      walk_at "rd_2"
      refine rd_ite (fun h => absurd h (by decide +kernel)) (fun _ => ?_)
      walk_at "rd_2"
      refine rd_ixSs hu3 rfl ?_
      walk_at "rd_2"
      refine rd_ite (fun _ => ?_) (fun h => absurd rfl h)
      walk_at "rd_2"
      refine rd_ixSs hu3 rfl ?_
      walk_at "rd_2"
      have hzm : z ∈ R.zs.map (·.1) := by
        unfold slotsR at hs
        rcases List.mem_append.mp hs with hs | hs
        · rcases List.mem_cons.mp hs with hs | hs
          · cases hs
          · obtain ⟨y, hy, h⟩ := List.mem_flatMap.mp hs
            simp at h
            rw [h]
            exact List.mem_map_of_mem (List.mem_of_mem_tail hy)
        · obtain ⟨p, _, h⟩ := List.mem_map.mp hs
          cases h
      obtain ⟨k2, hk2⟩ := pick _ hzm
      refine ⟨t, pa, ps, z, k2, rfl, hP3, hpl, hpn, hk2, fun pa2 H4 _ hpa2 e4 => ?_⟩
      have ho4 := lst.x ho3 e4
      walk_at "rd_2"
      refine rd_takeS T (lst.x hpa2 e4) (by decide) fun ca H5 nca e5 hca => ?_
      have ho5 := lst.x ho4 e5
      walk_at "rd_2"
      refine rd_takeS T ho5 (by decide) fun sa H6 _ e6 hsa => ?_
      walk_at "rd_2"
      exact fin ca sa _ _ H6 (((e03.trans e4.any).trans e5.any).trans e6.any) (((T3.ext e4).ext e5).ext e6) (lst.x hca e6) hsa ((hps.nd _ hk2).sublist (List.take_sublist _ _)) k1n (fun y hy => hps.ok _ hk2 y (List.mem_of_mem_take hy)) k1i (by rw [List.length_take]; have := hps.len _ hk2; omega) k1l (fun z h => by cases h) (fun z h => by cases h) (fun z h => by cases h)
    | h z =>
      have hu3 : Im H3 u (.tuple [.str (Str.ofString "hosts"), .str z]) := hu3
      walk_at "rd_2"
      refine rd_ixSs hu3 rfl ?_
      walk_at "rd_2"
      refine rd_ite (fun h => absurd h (by decide +kernel)) (fun _ => ?_)
      walk_at "rd_2"
      refine rd_ixSs hu3 rfl ?_
      walk_at "rd_2"
      refine rd_ite (fun h => absurd h (by decide +kernel)) (fun _ => ?_)
      walk_at "rd_2"
      refine rd_ixSs hu3 rfl ?_
      walk_at "rd_2"
      refine rd_ite (fun _ => ?_) (fun h => absurd rfl h)
      walk_at "rd_2"
      refine ⟨by show 2 ≤ sizeLine; decide, fun la nla => ?_⟩
      obtain ⟨nla, e4, hla⟩ := alL (T := T) nla (sL.map V.str)
      show tNoPart _ (upd H3 la (.lst (sL.map V.str))) _
      generalize upd H3 la _ = H4 at e4 hla ⊢
      have T4 := T3.ext e4
      have hlt := (T3.ne nla).1
      walk_at "rd_2"
      refine ⟨l, t, 2, rfl, by decide, by decide, T4, fun d H5 h0 h1 e5 T5 => ?_⟩
      walk_at "rd_2"
      refine rd_takeS T (lst.y hla e5 hlt) (by omega) fun ca H6 nca e6 hca => ?_
      walk_at "rd_2"
      refine ⟨by show 0 ≤ sizeLine; decide, fun sa nsa => ?_⟩
      obtain ⟨_, e7, hsa⟩ := alL (T := T) nsa []
      generalize upd H6 sa _ = H7 at e7 hsa ⊢
      walk_at "rd_2"
      exact fin ca sa _ [] H7 ((((e03.trans e4.any).trans e5).trans e6.any).trans e7.any) ((T5.ext e6).ext e7) (lst.x hca e7) hsa (sL_ok.1.sublist (List.take_sublist _ _)) (by simp) (fun y hy => sL_ok.2 y (List.mem_of_mem_take hy)) (by simp) (by rw [List.length_take]; exact Nat.le_trans (Nat.min_le_right _ _) (by decide)) (by simp) (fun _ _ => rfl) (fun z h => by cases h) (fun _ _ => hd_take h0 h1)
    | s n k =>
      have hu3 : Im H3 u (.tuple [.str (Str.ofString "set"), .str n, .str k]) := hu3
      walk_at "rd_2"
      refine rd_ixSs hu3 rfl ?_
      walk_at "rd_2"
      refine rd_ite (fun h => absurd h (by decide +kernel)) (fun _ => ?_)
      walk_at "rd_2"
      refine rd_ixSs hu3 rfl ?_
      walk_at "rd_2"
      refine rd_ite (fun h => absurd h (by decide +kernel)) (fun _ => ?_)
      walk_at "rd_2"
      refine rd_ixSs hu3 rfl ?_
      walk_at "rd_2"
      refine rd_ite (fun h => absurd h (by decide +kernel)) (fun _ => ?_)
      walk_at "rd_2"
      refine ⟨l, t, 4, rfl, by decide, by decide, T3, fun d H4 h0 h1 e4 T4 => ?_⟩
      have ho4 := lst.y ho3 e4 hot
      walk_at "rd_2"
      refine ⟨l, t, d, rfl, h0, by omega, T4, fun ca ids H5 nca hil hin hid hca e5 T5 => ?_⟩
      have ho5 := lst.y ho4 e5 hot
      walk_at "rd_2"
      refine rd_takeS T ho5 (by decide) fun sa H6 _ e6 hsa => ?_
      walk_at "rd_2"
      exact fin ca sa _ _ H6 (((e03.trans e4).trans e5).trans e6.any) (T5.ext e6) (lst.x hca e6) hsa hin k1n hid k1i (by omega) k1l (fun z h => by cases h) (fun z h => by cases h) (fun z h => by cases h)
end
section
variable {T : List (Addr × Str)} {P : Program} {w : World} {K : PySem.W.Frag} {mg : Str → Option Value} {base : Heap}
theorem s9_ok : PyData.strOk "s1" = true ∧ PyData.strOk "s2" = true ∧ PyData.strOk "t9" = true := by decide +kernel
theorem slots_len {R : Rm} (h : RmIn R) : (slotsR R).length ≤ 30 := by
  unfold slotsR
  rw [List.length_append, List.length_cons, List.length_map, List.length_flatMap]
  have h1 : ((R.zs.tail).map fun z => ([Sl.k z.1, .l z.1, .h z.1] : List Sl).length).sum ≤ (R.zs.tail).length * 3 := by
    have h := sum_le (B := 3) (l := (R.zs.tail).map fun z => ([Sl.k z.1, .l z.1, .h z.1] : List Sl).length) fun x hx => by
      obtain ⟨y, _, rfl⟩ := List.mem_map.mp hx
      exact Nat.le_refl 3
    rw [List.length_map] at h
    exact h
  have h2 : (R.zs.tail).length ≤ 5 := by
    rw [List.length_tail]
    have := h.len
    omega
  have := h.slen
  omega
theorem rows_of {R : Rm} {H : Hp} : ∀ {ds : List PyData} {xs : List V} {sls : List Sl}, ImAll H xs (sls.map slD) → PySem.W.EachIs (fun d x => ∃ (s : Sl) (i : Itm), Im H x (slD s) ∧ d = rowD2 (s, i) ∧ ItmOk s i ∧ (∀ z, s = .k z → Seal i) ∧ ∀ z, s = .h z → i.hd = "s1") ds xs → ∃ its : List (Sl × Itm), ds = its.map rowD2 ∧ its.map (·.1) = sls ∧ ∀ r ∈ its, ItmOk r.1 r.2 ∧ (∀ z, r.1 = .k z → Seal r.2) ∧ ∀ z, r.1 = .h z → r.2.hd = "s1" := by
  intro ds xs sls
  induction sls generalizing ds xs with
  | nil =>
    intro h1 h2
    cases h1
    cases h2
    exact ⟨[], rfl, rfl, by simp⟩
  | cons s sls ih =>
    intro h1 h2
    cases h1 with
    | cons a b =>
      cases h2 with
      | cons c d =>
        obtain ⟨its, e1, e2, h3⟩ := ih b d
        obtain ⟨s', i, c1, c2, c3⟩ := c
        have e := slD_inj (Im.inj _ _ _ a c1)
        subst e
        refine ⟨(s, i) :: its, by rw [e1, c2]; rfl, by rw [List.map_cons, e2], fun r hr => ?_⟩
        rcases List.mem_cons.mp hr with h | h
        · rw [h]
          exact c3
        · exact h3 r h
def OnSt (zs : List Str) (on : List (Str × Str)) : Prop := (∀ z : Str, (("s3", z) : Str × Str) ∉ on) ∧ ∀ z ∈ zs, (("s1", z) : Str × Str) ∈ on
theorem onSt_two {zs : List Str} {on : List (Str × Str)} {z : Str} (h : OnSt zs on) : OnSt (zs ++ [z]) (on ++ [((("s1" : Str), z) : Str × Str), (("s2" : Str), z)]) := by
  refine ⟨fun y hy => ?_, fun y hy => ?_⟩
  · rcases List.mem_append.mp hy with h1 | h1
    · exact h.1 y h1
    · rcases List.mem_cons.mp h1 with e | h1
      · exact absurd (congrArg Prod.fst e) (show ¬ ("s3" : Str) = "s1" by decide +kernel)
      · exact absurd (congrArg Prod.fst (List.mem_singleton.mp h1)) (show ¬ ("s3" : Str) = "s2" by decide +kernel)
  · rcases List.mem_append.mp hy with h1 | h1
    · exact List.mem_append_left _ (h.2 y h1)
    · rw [List.mem_singleton.mp h1]
      exact List.mem_append_right _ List.mem_cons_self
theorem onSt_t9 {zs : List Str} {on : List (Str × Str)} {z : Str} (h : OnSt zs on) : OnSt zs (on ++ [((("t9" : Str), z) : Str × Str)]) := by
  refine ⟨fun y hy => ?_, fun y hy => List.mem_append_left _ (h.2 y hy)⟩
  rcases List.mem_append.mp hy with h1 | h1
  · exact h.1 y h1
  · exact absurd (congrArg Prod.fst (List.mem_singleton.mp h1)) (show ¬ ("s3" : Str) = "t9" by decide +kernel)
theorem onSt_srv {R : Rm} {its : List (Sl × Itm)} {on : List (Str × Str)} (h : OnSt (R.zs.tail.map (·.1)) on) (hi : ∀ r ∈ its, ∀ z, r.1 = .h z → r.2.hd = "s1") : SrvOk R ⟨its, srtSS on⟩ :=
  ⟨fun z hz => (srtSS_perm _).mem_iff.mpr (h.2 z hz), fun z hz => h.1 z ((srtSS_perm _).mem_iff.mp hz), fun z it hm => .inl (hi _ hm z rfl)⟩
/-- the servers of the start: of three names, of zones below the root, none twice -/
def OnF (zs : List Str) (on : List (Str × Str)) : Prop := on.Nodup ∧ ∀ p ∈ on, p.1 ∈ s9L ∧ p.2 ∈ zs
theorem s9_ne : Str.ofString "s1" ≠ Str.ofString "s2" ∧ Str.ofString "s1" ≠ Str.ofString "t9" ∧ Str.ofString "s2" ≠ Str.ofString "t9" ∧ Str.ofString "s1" ∈ s9L ∧ Str.ofString "s2" ∈ s9L ∧ Str.ofString "t9" ∈ s9L := by decide +kernel
theorem onF_two {zs : List Str} {on : List (Str × Str)} {z : Str} (h : OnF zs on) (hz : z ∉ zs) : OnF (zs ++ [z]) (on ++ [((Str.ofString "s1"), z), ((Str.ofString "s2"), z)]) := by
  have no : ∀ y, ((y, z) : Str × Str) ∉ on := fun y hm => hz (h.2 _ hm).2
  refine ⟨?_, fun p hp => ?_⟩
  · refine List.nodup_append.mpr ⟨h.1, ?_, fun a ha b hb e => ?_⟩
    · refine List.nodup_cons.mpr ⟨fun hm => ?_, by simp⟩
      exact s9_ne.1 (congrArg Prod.fst (List.mem_singleton.mp hm))
    · subst e
      rcases List.mem_cons.mp hb with e | hb
      · rw [e] at ha
        exact no _ ha
      · rw [List.mem_singleton.mp hb] at ha
        exact no _ ha
  · rcases List.mem_append.mp hp with hp | hp
    · exact ⟨(h.2 p hp).1, List.mem_append_left _ (h.2 p hp).2⟩
    · rcases List.mem_cons.mp hp with e | hp
      · rw [e]
        exact ⟨s9_ne.2.2.2.1, by simp⟩
      · rw [List.mem_singleton.mp hp]
        exact ⟨s9_ne.2.2.2.2.1, by simp⟩
theorem onF_t9 {zs : List Str} {on : List (Str × Str)} {z : Str} (h : OnF zs on) (hz : z ∉ zs) : OnF (zs ++ [z]) (on ++ [((Str.ofString "s1"), z), ((Str.ofString "s2"), z)] ++ [((Str.ofString "t9"), z)]) := by
  have h2 := onF_two h hz
  refine ⟨List.nodup_append.mpr ⟨h2.1, by simp, fun a ha b hb e => ?_⟩, fun p hp => ?_⟩
  · subst e
    rw [List.mem_singleton.mp hb] at ha
    rcases List.mem_append.mp ha with ha | ha
    · exact hz (h.2 _ ha).2
    · rcases List.mem_cons.mp ha with e | ha
      · exact s9_ne.2.1 (congrArg Prod.fst e).symm
      · exact s9_ne.2.2.1 (congrArg Prod.fst (List.mem_singleton.mp ha)).symm
  · rcases List.mem_append.mp hp with hp | hp
    · exact h2.2 p hp
    · rw [List.mem_singleton.mp hp]
      exact ⟨s9_ne.2.2.2.2.2, by simp⟩
theorem onF_r {R : Rm} {its : List (Sl × Itm)} {on : List (Str × Str)} (h : OnF (R.zs.tail.map (·.1)) on) : OnR R ⟨its, srtSS on⟩ := ⟨on, rfl, h.1, h.2⟩
theorem ok_law_start (D : Def K mg "_law_start" s_law_start ["tape", "realm", "pools"]) (mb : ∀ x ∈ bltns, mg x = none) (G_law_take : Ok P w K mg base 2 "_law_take" ["tape", "many"] (spTake T)) (G_law_slots : Ok P w K mg base 1 "_law_slots" ["realm"] (spSlots T))
    (G_law_first_item : Ok P w K mg base 5 "_law_first_item" ["tape", "realm", "pools", "slot"] (spFirst T)) : Ok P w K mg base 6 "_law_start" ["tape", "realm", "pools"] (spStartF T) := by
  refine D.ok sc_law_start (fun vs H Q E h => ?_) (fun cdv f A outer s H vs Q E hr h => ?_)
  · obtain ⟨l, t, pa, v, R, ps, rfl, _⟩ := h
    rfl
  · obtain ⟨l, t, pa, v, R, ps, rfl, hT, hv, hR, hP, hps, q⟩ := h
    refine ⟨_, (pss_cons (ps_setLc (i := 3) (own := [("slot", 7)]) (g := gName 7) (tt := tYes) rfl sc_law_start.nd rfl rfl (sw_true rfl rfl rfl (by decide +kernel)) (pi_seq K rfl (pe_callO G_law_slots (hr.mono (by decide)) (by rfl) (pa_cons (pv 1) pa_nil))) (blkOk_by (N := N_law_start) (sc := defScope s_law_start) (by decide +kernel)) (fun _ _ _ _ _ => (pg_name (i := 7) sc_law_start.nd rfl (Or.inl rfl))) (fun _ _ _ _ _ => pts_nil) (fun _ _ _ _ _ => (pe_tup (pa_cons (pv 7) (pa_cons (pe_callO G_law_first_item (hr.mono (by decide)) (by rfl) (pa_cons (pv 0) (pa_cons (pv 1) (pa_cons (pv 2) (pa_cons (pv 7) pa_nil))))) pa_nil)))))
   (pss_cons (ps_set (i := 4) sc_law_start.nd rfl (.inl rfl) (pe_lst pa_nil))
   (pss_cons (ps_for PassesOwn.never rfl (pi_seq K rfl (pe_slice (sl_U K rfl) (pe_ix (ix_U K rfl) (pv 1) pe_int (fun _ _ => rfl)) (po_some pe_int) po_none)) (pg_tupU (n := 2) K rfl rfl (pgs_cons (pg_name (i := 5) sc_law_start.nd rfl (.inl rfl)) (pgs_cons (pg_name (i := 6) sc_law_start.nd rfl (.inl rfl)) pgs_nil))) (pss_cons (ps_set (i := 4) sc_law_start.nd rfl (.inl rfl) (pe_op (op_plus K rfl) (pv 4) (pe_lst (pa_cons (pe_tup (pa_cons pe_str (pa_cons (pv 5) pa_nil))) (pa_cons (pe_tup (pa_cons pe_str (pa_cons (pv 5) pa_nil))) pa_nil)))))
   (pss_one (ps_if (pt_cmpR (op_eqU K rfl hr.units) (pe_callO G_law_take (hr.mono (by decide)) (by rfl) (pa_cons (pv 0) (pa_cons pe_int pa_nil))) pe_int (nomark _)) (pss_one (ps_expr (pe_bm PySem.F.plainAttrs_list PySem.F.slot_list_append PySem.F.type_list_append mt_append (pv 4) (pa_cons (pe_tup (pa_cons pe_str (pa_cons (pv 5) pa_nil))) pa_nil)))) pss_nil))))
   (pss_one (ps_ret (pe_tup (pa_cons (pe_callTy (call_tupF K rfl) (by rfl) (mb _ (by decide)) (by decide +kernel) (pa_cons (pv 3) pa_nil)) (pa_cons (pe_callTy (call_tupU K rfl) (by rfl) (mb _ (by decide)) (by decide +kernel) (pa_cons (pe_callB (call_sortedU K rfl hr.units) (by rfl) (mb _ (by decide)) (by decide +kernel) (pa_cons (pv 4) pa_nil)) pa_nil)) pa_nil)))))))), ?_⟩
    refine rd_seq ?_
    walk_at "rdn_2"
    refine ⟨v, R, rfl, hv, hR, fun sp H1 nsp e1 hsp => ?_⟩
    have hv1 := hv.x e1
    have hP1 := hP.ext0 e1
    have T1 := hT.ext e1
    have hst := (hT.ne nsp).1
    obtain ⟨xs, hxs, hxi⟩ := hsp.list
    have hxl : xs.length ≤ 30 := by
      rw [hxi.len, List.length_map]
      exact slots_len hR
    walk_at "rdn_2"
    refine lcg_im T [t] walk_list xs rfl (fun i H x H' y => y) (fun H' => Tape l H' t) T1 (fun D o h => T1.upd h) (fun D H' nD T' ys u h => T'.own (T1.ne nD).1 (T1.ne nD).2) (fun H' T' => T'.lsts) (fun H' e _ => e.seqL (by simpa using hst) (SqL.of hxs)) (Nat.lt_of_le_of_lt hxl (by decide)) (fun _ => true) (fun d x => ∃ (s : Sl) (i : Itm), Im H1 x (slD s) ∧ d = rowD2 (s, i) ∧ ItmOk s i ∧ (∀ z, s = .k z → Seal i) ∧ ∀ z, s = .h z → i.hd = "s1") (fun i x hx H' e' T' R' S h1 h2 => ?_) (fun D H2 ds nD e2 T2 hD hds => ?_)
    · obtain ⟨dr, hdr, hxr⟩ := hxi.get' hx
      rw [List.getElem?_map] at hdr
      obtain ⟨sl, hsl, rfl⟩ := Option.map_eq_some_iff.mp hdr
      refine rd_name ⟨wipe1, ?_⟩
      walk_at "rd_2"
      refine ⟨l, t, pa, v, x, R, ps, sl, rfl, T', hv1.y e' T1, hR, hP1.ext e' T1, hps, hxr.y e' T1, List.mem_of_getElem? hsl, fun y it H3 hit hik hih hy e3 T3 => ?_⟩
      walk_at "rd_2"
      refine ⟨by show 2 ≤ sizeLine; decide, fun ta nta => ?_⟩
      obtain ⟨_, e4, hta⟩ := alT (T := T) nta [x, y]
      show R' (.ref ta) (upd H3 ta (.tup [x, y]))
      generalize upd H3 ta _ = H4 at e4 hta ⊢
      have e34 := e3.trans e4.any
      exact h1 rfl _ (rowD2 (sl, it)) H4 e34 (T3.ext e4) (.new2 ((hxr.y e' T1).ext e34 T'.lsts) (hy.x e4) hta) ⟨sl, it, hxr, rfl, hit, hik, hih⟩
    · rw [filtT] at hds
      obtain ⟨its, rfl, hi1, hi2⟩ := rows_of (R := R) hxi hds
      have hv2 := hv1.y e2 T1
      have hDt := (T1.ne nD).1
      have hDn : Nw H D := e1.back (by simp) nD
      have e02 : Ext T [t] H H2 := e1.any.trans e2
      clear e1 hsp hP hP1 hv hv1 hxs hxi
      walk_at "rdn_2"
      refine rd_seq ?_
      walk_at "rdn_2"
      refine ⟨by show 0 ≤ sizeLine; decide, fun op nop => ?_⟩
      have hnop : Nw H op := e02.back (by simpa using (T2.ne (.of nop)).1) (.of nop)
      have hDop := hD.ne nop
      obtain ⟨_, e3, hop⟩ := alL (T := T) nop []
      show gName 4 _ _ (upd H2 op (.lst [])) _
      generalize upd H2 op _ = H3 at e3 hop ⊢
      have hv3 := hv2.x e3
      have T3 := T2.ext e3
      have hD3 := hD.x e3
      have e03 := e02.trans e3.any
      have hop3 : Ls H3 op (([] : List (Str × Str)).map ssD) := ⟨_, hop, .nil⟩
      walk_at "rdn_2"
      obtain ⟨lag, rest, hz, _⟩ := hR.ne
      have hrl : rest.length ≤ 5 := by
        have := hR.len
        rw [hz, List.length_cons] at this
        omega
      have htl : R.zs.tail = rest := by rw [hz]; rfl
      refine rd_cut (fun σ H4 => Ext T [t] H H4 ∧ Tape l H4 t ∧ Ls H4 D (its.map rowD2) ∧ ∃ (p : Addr) (on : List (Str × Str)) (a b : Option V), σ = [some (.ref t), some v, some (.ref pa), some (.ref D), some (.ref p), a, b, none] ∧ Ls H4 p (on.map ssD) ∧ on.length ≤ 15 ∧ OnSt (R.zs.tail.map (·.1)) on ∧ OnF (R.zs.tail.map (·.1)) on) (fun nx' hnx => ?_) (fun σ H4 h => ?_)
      · walk_at "rd_2"
        refine rd_ixI (d := .tuple (R.zs.map siD)) hv3 rfl fun u hu => ?_
        obtain ⟨zp, zx, rfl, hzp, hzi⟩ := hu.tup'
        have hzl : zx.length = 1 + rest.length := by
          rw [hzi.len, List.length_map, hz, List.length_cons]
          omega
        walk_at "rd_2"
        refine rd_slT (SqP.sq hzp) (fun h => ?_) fun sp2 nsp2 => ?_
        · have h0 := h.1
          rw [show HT.sIx zx.length 0 (some 1) = min 1 zx.length from HT.sIx_nat zx.length 0 1] at h0
          omega
        rw [cutV_from (α := V) zx (by decide), show Int.toNat 1 = 1 from rfl]
        obtain ⟨_, e4, hs4⟩ := alT (T := T) nsp2 (zx.drop 1)
        show ∃ a, _ ∧ ((_ ∧ ForG _ _ _ _ _ (upd H3 sp2 (.tup (zx.drop 1)))) ∨ (_ ∧ ForG _ _ _ _ _ (upd H3 sp2 (.tup (zx.drop 1)))))
        generalize upd H3 sp2 _ = H4 at e4 hs4 ⊢
        have hi4 := (hzi.drop 1).x e4
        have ed : R.zs.drop 1 = R.zs.tail := List.drop_one
        rw [← List.map_drop, ed] at hi4
        generalize zx.drop 1 = ys at hi4 hs4
        refine ⟨sp2, rfl, .inr ⟨⟨_, SqT.of hs4⟩, ?_⟩⟩
        have e04 := e03.trans e4.any
        have T4 := T3.ext e4
        refine forg_tup (xs := ys) (fun i σ H5 => Ext T [t] H H5 ∧ Tape l H5 t ∧ SqP H5 sp2 ys ∧ ImAll H5 ys (R.zs.tail.map siD) ∧ Ls H5 D (its.map rowD2) ∧ ∃ (p : Addr) (on : List (Str × Str)) (a b : Option V), σ = [some (.ref t), some v, some (.ref pa), some (.ref D), some (.ref p), a, b, none] ∧ Ls H5 p (on.map ssD) ∧ on.length ≤ 3 * i ∧ OnSt ((R.zs.tail.take i).map (·.1)) on ∧ OnF ((R.zs.tail.take i).map (·.1)) on)
          ⟨e04, T4, .inl hs4, hi4, hD3.x e4, op, [], none, none, rfl, hop3.x e4, by simp, ⟨by simp, by simp⟩, ⟨by simp, by simp⟩⟩ (fun i σ H5 _ h => SqP.sq h.2.2.1) (fun i x σ H5 hx h => ?_) (fun σ H5 h => ?_)
        · obtain ⟨e5, T5, hs5, hi5, hD5, p, on, a, b, rfl, hp5, hon, hos, hof⟩ := h
          obtain ⟨dz, hdz, hxz⟩ := hi5.get' hx
          rw [List.getElem?_map] at hdz
          obtain ⟨z, hzz, rfl⟩ := Option.map_eq_some_iff.mp hdz
          have hznm := hR.nm z (List.mem_of_mem_tail (List.mem_of_getElem? hzz))
          have hi5' : i < 5 := by
            have := (List.getElem?_eq_some_iff.mp hzz).1
            rw [htl] at this
            omega
          refine rd_gpair (d1 := .str z.1) (d2 := .int z.2) hxz fun v1 v2 g1 g2 => ?_
          rw [g1.str', g2.int']
          walk_at "rd_2"
          refine ⟨by show 2 ≤ sizeLine; decide, fun t1 n1 => ?_⟩
          obtain ⟨_, x1, h1⟩ := alT (T := T) n1 [.str (Str.ofString "s1"), .str z.1]
          show tCons _ _ _ (upd H5 t1 (.tup [.str (Str.ofString "s1"), .str z.1])) _
          generalize upd H5 t1 _ = H6 at x1 h1 ⊢
          walk_at "rd_2"
          refine ⟨by show 2 ≤ sizeLine; decide, fun t2 n2 => ?_⟩
          obtain ⟨_, x2, h2⟩ := alT (T := T) n2 [.str (Str.ofString "s2"), .str z.1]
          show tNil _ (upd H6 t2 (.tup [.str (Str.ofString "s2"), .str z.1])) _
          generalize upd H6 t2 _ = H7 at x2 h2 ⊢
          walk_at "rd_2"
          refine ⟨by show 2 ≤ sizeLine; decide, fun la nla => ?_⟩
          obtain ⟨_, x3, h3⟩ := alL (T := T) nla [.ref t1, .ref t2]
          show rPlus _ _ _ (upd H7 la (.lst [.ref t1, .ref t2])) _
          generalize upd H7 la _ = H8 at x3 h3 ⊢
          have i1 : Im H8 (.ref t1) (ssD (Str.ofString "s1", z.1)) := ((Im.new2 (.str _ s9_ok.1) (.str _ (name_ok hznm)) h1).x x2).x x3
          have i2 : Im H8 (.ref t2) (ssD (Str.ofString "s2", z.1)) := (Im.new2 (.str _ s9_ok.2.1) (.str _ (name_ok hznm)) h2).x x3
          have hp8 := ((hp5.x x1).x x2).x x3
          have x13 := (x1.trans x2).trans x3
          obtain ⟨px, hpx, hpi⟩ := hp8.list
          have hpl : px.length = on.length := by rw [hpi.len, List.length_map]
          refine rd_catA T hpx h3 (by rw [hpl]; simp only [List.length_cons, List.length_nil]; omega) fun p' H9 np' x4 hp' => ?_
          have hp9 : Ls H9 p' ((on ++ [(Str.ofString "s1", z.1), (Str.ofString "s2", z.1)]).map ssD) := ⟨_, hp', by rw [List.map_append]; exact (hpi.x x4).app (.cons (i1.x x4) (.cons (i2.x x4) .nil))⟩
          have x14 := x13.trans x4
          have e9 := e5.trans x14.any
          have T9 := T5.ext x14
          have hs9 := SqP.x hs5 x14
          have hi9 := hi5.x x14
          have hD9 := hD5.x x14
          have hpn9 : Nw H p' := (e5.trans x13.any).back (by simpa using ((T5.ext x13).ne np').1) np'
          have hDp9 : D ≠ p' := fun e => by
            obtain ⟨dx, hdx, _⟩ := (hD5.x x13).list
            exact np'.lst (e ▸ hdx) rfl
          have hos9 : OnSt ((R.zs.tail.take (i + 1)).map (·.1)) (on ++ [(Str.ofString "s1", z.1), (Str.ofString "s2", z.1)]) := by
            rw [List.take_add_one, hzz, List.map_append]
            exact onSt_two hos
          have hzf : z.1 ∉ (R.zs.tail.take i).map (·.1) := fun hm => by
            have hnd : (R.zs.tail.map (·.1)).Nodup := by
              rw [List.map_tail]
              exact hR.nd.tail
            have hsp : R.zs.tail.map (·.1) = (R.zs.tail.take i).map (·.1) ++ z.1 :: (R.zs.tail.drop (i + 1)).map (·.1) := by
              have h1 := (List.getElem?_eq_some_iff.mp hzz)
              obtain ⟨hlt, hge⟩ := h1
              have h2 : R.zs.tail = R.zs.tail.take i ++ z :: R.zs.tail.drop (i + 1) := by
                have h3 := List.drop_eq_getElem_cons hlt
                rw [hge] at h3
                rw [← h3, List.take_append_drop]
              have h4 := congrArg (List.map (·.1)) h2
              rw [List.map_append, List.map_cons] at h4
              exact h4
            rw [hsp] at hnd
            exact (List.nodup_append.mp hnd).2.2 _ hm _ List.mem_cons_self rfl
          have ef9 : (R.zs.tail.take (i + 1)).map (·.1) = (R.zs.tail.take i).map (·.1) ++ [z.1] := by
            rw [List.take_add_one, hzz, List.map_append]
            rfl
          refine rd_name ?_
          refine rd_if ?_
          walk_at "rd_2"
          refine ⟨l, t, 3, rfl, by decide, by decide, T9, fun d H10 h0 h1' e10 T10 => ?_⟩
          have hpt9 := ((T5.ext x13).ne np').1
          have hpl9 := ((T5.ext x13).ne np').2
          have hp10 := hp9.y e10 hpt9 T9
          have hs10 := SqP.ext hs9 e10 T9.lsts
          have hi10 := hi9.y e10 T9
          have hD10 := hD9.y e10 hDt T9
          have e010 := e9.trans e10
          walk_at "rd_2"
          refine rd_ite (fun hd => ?_) (fun hd => ?_)
          · obtain ⟨px2, hpx2, _⟩ := hp10.list
            walk_at "rd_2"
            refine ⟨by show 2 ≤ sizeLine; decide, fun t3 n3 => ?_⟩
            obtain ⟨_, x5, h5⟩ := alT (T := T) n3 [.str (Str.ofString "t9"), .str z.1]
            refine rd_nil ?_
            generalize upd H10 t3 _ = H11 at x5 h5 ⊢
            have i3 : Im H11 (.ref t3) (ssD (Str.ofString "t9", z.1)) := Im.new2 (.str _ s9_ok.2.2) (.str _ (name_ok hznm)) h5
            refine rd_appLs (hp10.x x5) i3 ?_ fun ws hw hp12 => ?_
            · rw [List.length_map, List.length_append]
              exact Nat.lt_of_le_of_lt (show _ ≤ 100 by simp only [List.length_cons, List.length_nil]; omega) (by decide)
            · have x6 : Ext T [p'] H11 (upd H11 p' (.lst (ws ++ [.ref t3]))) := Ext.mut (by simp) hw
              refine ⟨(e010.trans x5.any).own hpn9 hw, (T10.ext x5).own hpt9 hpl9, SqP.ext (SqP.x hs10 x5) x6 (lsts_one hw), ImAll.ext x6 (lsts_one hw) _ _ (hi10.x x5), (hD10.x x5).ext x6 (by simpa using hDp9) (lsts_one hw), p', on ++ [(Str.ofString "s1", z.1), (Str.ofString "s2", z.1)] ++ [(Str.ofString "t9", z.1)], _, _, rfl, ?_, ?_, onSt_t9 hos9, by rw [ef9]; exact onF_t9 hof hzf⟩
              · rw [List.map_append]
                exact hp12
              · simp only [List.length_append, List.length_cons, List.length_nil]
                omega
          · walk_at "rd_2"
            exact ⟨e010, T10, hs10, hi10, hD10, p', _, _, _, rfl, hp10, by simp only [List.length_append, List.length_cons, List.length_nil]; omega, hos9, by rw [ef9]; exact onF_two hof hzf⟩
        · obtain ⟨e5, T5, hs5, hi5, hD5, p, on, a, b, rfl, hp5, hon, hos, hof⟩ := h
          exact hnx _ _ ⟨e5, T5, hD5, p, on, a, b, rfl, hp5, by
            have : ys.length = rest.length := by rw [hi5.len, List.length_map, htl]
            omega, by
            rw [hi5.len, List.length_map, List.take_length] at hos
            exact hos, by
            rw [hi5.len, List.length_map, List.take_length] at hof
            exact hof⟩
      · obtain ⟨e4, T4, hD4, p, on, a, b, rfl, hp4, hon, hos, hof⟩ := h
        obtain ⟨dx, hdx, hdi⟩ := hD4.list
        walk_at "rd_2"
        refine rd_tupFA T hdx fun ti H5 o nti e5 hod hti => ?_
        have hdi5 := hdi.x e5
        walk_at "rd_2"
        refine rd_sortA T (hp4.x e5) (alike_ss on) (sortable_ss on) (depth_ss on) fun sa H6 ys nsa e6 hsa hys => ?_
        rw [srtSS_eq] at hys
        walk_at "rd_2"
        refine rd_tupA T hsa fun to H7 nto e7 hto => ?_
        walk_at "rd_2"
        refine ⟨by show 2 ≤ sizeLine; decide, fun r nr => ?_⟩
        obtain ⟨_, e8, hr8⟩ := alT (T := T) nr [.ref ti, .ref to]
        generalize upd H7 r _ = H8 at e8 hr8 ⊢
        have e58 := (e6.trans e7).trans e8
        refine q (.ref r) ⟨its, srtSS on⟩ H8 ⟨hi1, fun r hr => (hi2 r hr).1, ?_⟩ (fun i hi => (hi2 _ hi).2.1 _ rfl) (onSt_srv hos fun r hr => (hi2 r hr).2.2) (onF_r hof) ?_ ⟨r, ti, .ref to, dx, o, rfl, hr8, e58.keep ti _ (by simp) (fun _ z => by cases z) hti, hod, hdi5.x e58, (Im.tup hto (hys.x e7)).x e8⟩ ((e4.trans e5.any).trans e58.any) (((T4.ext e5).ext e58))
        · show (srtSS on).length ≤ 100
          rw [(srtSS_perm on).length_eq]
          omega
        · show (srtSS on).length ≤ 20
          rw [(srtSS_perm on).length_eq]
          omega
end
section
variable {T : List (Addr × Str)} {P : Program} {w : World} {K : PySem.W.Frag} {mg : Str → Option Value} {base : Heap}
theorem ok_law_at (D : Def K mg "_law_at" s_law_at ["state", "slot"]) (mb : ∀ x ∈ bltns, mg x = none) : Ok P w K mg base 1 "_law_at" ["state", "slot"] (spAt T) := by
  refine D.ok sc_law_at (fun vs H Q E h => ?_) (fun cdv f A outer s H vs Q E hr h => ?_)
  · obtain ⟨v, u, s, sl, i, rfl, _⟩ := h
    rfl
  · obtain ⟨v, u, s, sl, i, rfl, hv, hu, hm, hnd, hl, q⟩ := h
    refine ⟨_, (pss_one (ps_ret (pe_ix (ix_U K rfl) (pe_lc (own := [("name", 2), ("item", 3)]) rfl sc_law_at.nd (pi_seq K rfl (pe_ix (ix_U K rfl) (pv 0) pe_int (fun _ _ => rfl))) (blkOk_by (N := N_law_at) (sc := defScope s_law_at) (by decide +kernel)) (fun _ _ _ _ _ => (pg_tupU (n := 2) K rfl rfl (pgs_cons (pg_name (i := 2) sc_law_at.nd rfl (Or.inl rfl)) (pgs_cons (pg_name (i := 3) sc_law_at.nd rfl (Or.inl rfl)) pgs_nil)))) (fun _ _ _ _ _ => (pts_one (pt_cmpR (op_eqU K rfl hr.units) (pv 2) (pv 1) (nomark _)))) (fun _ _ _ _ _ => (pv 3))) pe_int (fun _ _ => rfl)))), ?_⟩
    obtain ⟨a, ia, oa, xs, o, rfl, ha, hia, hod, hxi, hoa⟩ := hv
    walk_at "rd_2"
    refine rd_ixT (v := .ref ia) (SqT.of ha) rfl ?_
    refine ⟨ia, rfl, .inr ⟨⟨_, SqF hia⟩, ?_⟩⟩
    have hxl : xs.length ≤ 100 := by
      rw [hxi.len, List.length_map]
      exact hl
    refine lcg_rel T [] walk_tup xs rfl (fun i H x H' y => y) (by simp) (fun H' e => SqF (frz.x hia e)) (Nat.lt_of_le_of_lt hxl (by decide)) (pIm H rowD2 fun r => decide (r.1 = sl)) (fun v x => ∃ r, Im H x (rowD2 r) ∧ Im H v (itD r.2)) (fun i x hx H' e' R S h1 h2 => ?_) (fun D H1 us nD e1 hD hus => ?_)
    · obtain ⟨dr, hdr, hxr⟩ := hxi.get' hx
      rw [List.getElem?_map] at hdr
      obtain ⟨r, hr, rfl⟩ := Option.map_eq_some_iff.mp hdr
      obtain ⟨ta, y1, y2, rfl, hta, g1, g2⟩ := hxr.pair'
      have hp := pIm_eq (c := fun r : Sl × Itm => decide (r.1 = sl)) (fun a b => rowD2_inj) hxr
      refine rd_gtup (SqP.sq (SqP.x hta e')) rfl ?_
      walk_at "rd_2"
      refine ⟨rfl, ?_⟩
      walk_at "rd_2"
      refine rd_eqI (b := decide (r.1 = sl)) (g1.x e') (hu.x e') (Nat.le_trans (dep_sl _) (by decide)) (Nat.le_trans (dep_sl _) (by decide)) (Iff.trans ⟨fun e => slD_inj e, fun e => by rw [e]⟩ decide_eq_true_iff.symm) ?_
      refine ⟨_, rfl, ?_⟩
      refine rd_ite (fun hz => ?_) (fun hz => ?_)
      · walk_at "rd_2"
        exact h1 (hp.trans (decide_eq_true hz)) _ _ .refl ⟨r, hxr, g2⟩
      · exact h2 (hp.trans (decide_eq_false hz)) _ .refl
    · have h3 := each_comp hus (each_filter (c := fun r : Sl × Itm => decide (r.1 = sl)) (fun a b => rowD2_inj) hxi)
      rw [filter_fst hnd hm] at h3
      cases h3 with
      | cons a b =>
        cases b
        obtain ⟨x, ⟨r, c1, c2⟩, c3⟩ := a
        have e := rowD2_inj (Im.inj _ _ _ c1 c3)
        subst e
        walk_at "rd_2"
        exact q _ H1 e1 (c2.x e1)
theorem ok_law_after (D : Def K mg "_law_after" s_law_after ["state", "deed"]) (mb : ∀ x ∈ bltns, mg x = none) : Ok P w K mg base 1 "_law_after" ["state", "deed"] (spAfter T) := by
  refine D.ok sc_law_after (fun vs H Q E h => ?_) (fun cdv f A outer s H vs Q E hr h => ?_)
  · obtain ⟨v, u, s, d, rfl, _⟩ := h
    rfl
  · obtain ⟨v, u, s, d, rfl, hv, hu, hl, hol, q⟩ := h
    refine ⟨_, (pss_cons (ps_if (pt_cmpR (op_eqU K rfl hr.units) (pe_ix (ix_U K rfl) (pv 1) pe_int (fun _ _ => rfl)) pe_str (nomark _)) (pss_one (ps_ret (pe_tup (pa_cons (pe_callTy (call_tupF K rfl) (by rfl) (mb _ (by decide)) (by decide +kernel) (pa_cons (pe_lc (own := [("slot", 4), ("item", 5)]) (tt := tYes) rfl sc_law_after.nd (pi_seq K rfl (pe_ix (ix_U K rfl) (pv 0) pe_int (fun _ _ => rfl))) (blkOk_by (N := N_law_after) (sc := defScope s_law_after) (by decide +kernel)) (fun _ _ _ _ _ => (pg_tupU (n := 2) K rfl rfl (pgs_cons (pg_name (i := 4) sc_law_after.nd rfl (Or.inl rfl)) (pgs_cons (pg_name (i := 5) sc_law_after.nd rfl (Or.inl rfl)) pgs_nil)))) (fun _ _ _ _ _ => pts_nil) (fun _ _ _ _ _ => (pe_tup (pa_cons (pv 4) (pa_cons (pe_ifExp (pt_cmpR (op_eqU K rfl hr.units) (pv 4) (pe_ix (ix_U K rfl) (pv 1) pe_int (fun _ _ => rfl)) (nomark _)) (pe_ix (ix_U K rfl) (pv 1) pe_int (fun _ _ => rfl)) (pv 5)) pa_nil))))) pa_nil)) (pa_cons (pe_ix (ix_U K rfl) (pv 0) pe_int (fun _ _ => rfl)) pa_nil))))) pss_nil)
   (pss_cons (ps_set (i := 2) sc_law_after.nd rfl (.inr rfl) (pe_tup (pa_cons (pe_ix (ix_U K rfl) (pv 1) pe_int (fun _ _ => rfl)) (pa_cons (pe_ix (ix_U K rfl) (pv 1) pe_int (fun _ _ => rfl)) pa_nil))))
   (pss_cons (ps_if (pt_cmpR (op_eqU K rfl hr.units) (pe_ix (ix_U K rfl) (pv 1) pe_int (fun _ _ => rfl)) pe_str (nomark _)) (pss_one (ps_ret (pe_tup (pa_cons (pe_ix (ix_U K rfl) (pv 0) pe_int (fun _ _ => rfl)) (pa_cons (pe_callTy (call_tupU K rfl) (by rfl) (mb _ (by decide)) (by decide +kernel) (pa_cons (pe_callB (call_sortedU K rfl hr.units) (by rfl) (mb _ (by decide)) (by decide +kernel) (pa_cons (pe_op (op_plus K rfl) (pe_callTy (call_listU K rfl) (by rfl) (mb _ (by decide)) (by decide +kernel) (pa_cons (pe_ix (ix_U K rfl) (pv 0) pe_int (fun _ _ => rfl)) pa_nil)) (pe_lst (pa_cons (pv 2) pa_nil))) pa_nil)) pa_nil)) pa_nil))))) pss_nil)
   (pss_one (ps_ret (pe_tup (pa_cons (pe_ix (ix_U K rfl) (pv 0) pe_int (fun _ _ => rfl)) (pa_cons (pe_callTy (call_tupU K rfl) (by rfl) (mb _ (by decide)) (by decide +kernel) (pa_cons (pe_lc (own := [("other", 3)]) (g := gName 3) rfl sc_law_after.nd (pi_seq K rfl (pe_ix (ix_U K rfl) (pv 0) pe_int (fun _ _ => rfl))) (blkOk_by (N := N_law_after) (sc := defScope s_law_after) (by decide +kernel)) (fun _ _ _ _ _ => (pg_name (i := 3) sc_law_after.nd rfl (Or.inl rfl))) (fun _ _ _ _ _ => (pts_one (pt_cmpR (op_neU K rfl hr.units) (pv 3) (pv 2) (nomark _)))) (fun _ _ _ _ _ => (pv 3))) pa_nil)) pa_nil)))))))), ?_⟩
    obtain ⟨a, ia, oa, xs, o, rfl, ha, hia, hod, hxi, hoa⟩ := hv
    have hxl : xs.length ≤ 100 := by
      rw [hxi.len, List.length_map]
      exact hl
    cases d with
    | put sl it =>
      have hu : Im H u (.tuple [.str (Str.ofString "put"), slD sl, itD it]) := hu
      walk_at "rd_2"
      refine rd_ixSs hu rfl ?_
      walk_at "rd_2"
      refine rd_ite (fun _ => ?_) (fun h => absurd rfl h)
      walk_at "rd_2"
      refine rd_ixT (v := .ref ia) (SqT.of ha) rfl ?_
      refine ⟨ia, rfl, .inr ⟨⟨_, SqF hia⟩, ?_⟩⟩
      refine lcg_im T [] walk_tup xs rfl (fun i H x H' y => y) (fun _ => True) trivial (fun _ _ _ => trivial) (fun _ _ _ _ _ _ _ => trivial) (fun _ _ => Lsts.nil) (fun H' e _ => SqF (frz.x hia e)) (Nat.lt_of_le_of_lt hxl (by decide)) (fun _ => true) (fun d x => ∃ r, Im H x (rowD2 r) ∧ d = rowD2 (r.1, if r.1 = sl then it else r.2)) (fun i x hx H' e' _ R S h1 h2 => ?_) (fun D H1 ds nD e1 _ hD hds => ?_)
      · obtain ⟨dr, hdr, hxr⟩ := hxi.get' hx
        rw [List.getElem?_map] at hdr
        obtain ⟨r, hr, rfl⟩ := Option.map_eq_some_iff.mp hdr
        obtain ⟨ta, y1, y2, rfl, hta, g1, g2⟩ := hxr.pair'
        refine rd_gtup (SqP.sq (SqP.x hta e')) rfl ?_
        walk_at "rd_2"
        refine ⟨rfl, ?_⟩
        walk_at "rd_2"
        refine rd_ixI (d := slD sl) (hu.x e') rfl fun u1 hu1 => ?_
        refine rd_eqI (b := decide (r.1 = sl)) (g1.x e') hu1 (Nat.le_trans (dep_sl _) (by decide)) (Nat.le_trans (dep_sl _) (by decide)) (Iff.trans ⟨fun e => slD_inj e, fun e => by rw [e]⟩ decide_eq_true_iff.symm) ?_
        refine ⟨_, rfl, ?_⟩
        have fin : ∀ (y : V) (j : Itm), Im H' y (itD j) → (if r.1 = sl then it else r.2) = j → (tNil ((wipe (start N_law_after [.ref a, u]) [4, 5]).set 4 (some y1) |>.set 5 (some y2)) H' fun xs H1 => (y1 :: y :: xs).length ≤ sizeLine ∧ ∀ p, H1 p = none → R (.ref p) (upd H1 p (.tup (y1 :: y :: xs)))) := fun y j hy hj => by
          refine rd_nil ?_
          refine ⟨by show 2 ≤ sizeLine; decide, fun tb ntb => ?_⟩
          obtain ⟨_, e4, htb⟩ := alT (T := T) ntb [y1, y]
          generalize upd H' tb _ = H4 at e4 htb ⊢
          exact h1 rfl _ _ H4 e4 trivial (.new2 ((g1.x e').x e4) (hy.x e4) htb) ⟨r, hxr, by rw [hj]; rfl⟩
        refine rd_ite (fun hz => ?_) (fun hz => ?_)
        · walk_at "rd_2"
          refine rd_ixI (d := itD it) (hu.x e') rfl fun u2 hu2 => ?_
          exact fin u2 it hu2 (if_pos hz)
        · walk_at "rd_2"
          exact fin y2 r.2 (g2.x e') (if_neg hz)
      · rw [filtT] at hds
        have hd : ds = ((s.its.map fun r => (r.1, if r.1 = sl then it else r.2)) : List (Sl × Itm)).map rowD2 := by
          have key : ∀ {ds : List PyData} {xs : List V} {rs : List (Sl × Itm)}, ImAll H xs (rs.map rowD2) → PySem.W.EachIs (fun d x => ∃ r, Im H x (rowD2 r) ∧ d = rowD2 (r.1, if r.1 = sl then it else r.2)) ds xs → ds = ((rs.map fun r => (r.1, if r.1 = sl then it else r.2)) : List (Sl × Itm)).map rowD2 := by
            intro ds xs rs
            induction rs generalizing ds xs with
            | nil =>
              intro h1 h2
              cases h1
              cases h2
              rfl
            | cons r rs ih =>
              intro h1 h2
              cases h1 with
              | cons a b =>
                cases h2 with
                | cons c d =>
                  obtain ⟨r', c1, c2⟩ := c
                  have e := rowD2_inj (Im.inj _ _ _ a c1)
                  rw [ih b d, c2, ← e]
                  rfl
          exact key hxi hds
        rw [hd] at hD
        obtain ⟨dx, hdx, hdi⟩ := hD.list
        walk_at "rd_2"
        refine rd_tupFA T hdx fun ti H2 o2 nti e2 hod2 hti => ?_
        walk_at "rd_2"
        have e12 := e1.trans e2
        refine rd_ixT (v := oa) (SqT.of (tup.x (xs := [.ref ia, oa]) ha e12)) rfl ?_
        walk_at "rd_2"
        refine ⟨by show 2 ≤ sizeLine; decide, fun r nr => ?_⟩
        obtain ⟨_, e3, hr3⟩ := alT (T := T) nr [.ref ti, oa]
        generalize upd H2 r _ = H3 at e3 hr3 ⊢
        exact q _ H3 (e12.trans e3) ⟨r, ti, oa, dx, o2, rfl, hr3, frz.x hti e3, hod2, (hdi.x e2).x e3, (hoa.x e12).x e3⟩
    | on x z =>
      have hu : Im H u (.tuple [.str (Str.ofString "on"), .str x, .str z]) := hu
      obtain ⟨b, ox, rfl, hob, hoi⟩ := hoa.tup'
      have hxz : PyData.strOk x = true ∧ PyData.strOk z = true := by
        have h := Im.lay _ _ hu
        have h : (PyData.strOk (Str.ofString "on") && (PyData.strOk x && (PyData.strOk z && true))) = true := h
        simp only [Bool.and_eq_true] at h
        exact ⟨h.2.1, h.2.2.1⟩
      walk_at "rd_2"
      refine rd_ixSs hu rfl ?_
      walk_at "rd_2"
      refine rd_ite (fun h => absurd h (by decide +kernel)) (fun _ => ?_)
      walk_at "rd_2"
      refine rd_ixSs hu rfl ?_
      walk_at "rd_2"
      refine rd_ixSs hu rfl ?_
      walk_at "rd_2"
      refine ⟨by show 2 ≤ sizeLine; decide, fun tr ntr => ?_⟩
      obtain ⟨_, e1, htr⟩ := alT (T := T) ntr [.str x, .str z]
      show gName 2 _ _ (upd H tr (.tup [.str x, .str z])) _
      generalize upd H tr _ = H1 at e1 htr ⊢
      walk_at "rd_2"
      refine rd_ixSs (hu.x e1) rfl ?_
      walk_at "rd_2"
      refine rd_ite (fun _ => ?_) (fun h => absurd rfl h)
      walk_at "rd_2"
      refine rd_ixT (v := .ref ia) (SqT.of (tup.x (xs := [.ref ia, .ref b]) ha e1)) rfl ?_
      walk_at "rd_2"
      refine rd_ixT (v := .ref b) (SqT.of (tup.x (xs := [.ref ia, .ref b]) ha e1)) rfl ?_
      walk_at "rd_2"
      refine rd_listA T (SqP.sq (SqP.x hob e1)) fun la H2 nla e2 hla => ?_
      walk_at "rd_2"
      refine ⟨by show 1 ≤ sizeLine; decide, fun lb nlb => ?_⟩
      obtain ⟨_, e3, hlb⟩ := alL (T := T) nlb [.ref tr]
      show rPlus _ _ _ (upd H2 lb (.lst [.ref tr])) _
      generalize upd H2 lb _ = H3 at e3 hlb ⊢
      have hol2 : ox.length ≤ 500 := by
        rw [hoi.len, List.length_map]
        exact hol
      refine rd_catA T (lst.x hla e3) hlb (by simp only [List.length_cons, List.length_nil]; omega) fun lc H4 nlc e4 hlc => ?_
      walk_at "rd_2"
      have e14 := ((e1.trans e2).trans e3).trans e4
      have hrow : Im H4 (.ref tr) (ssD (x, z)) := (((Im.new2 (.str _ hxz.1) (.str _ hxz.2) htr).x e2).x e3).x e4
      refine rd_sortA T (ds := (s.on ++ [(x, z)]).map ssD) ⟨_, hlc, by rw [List.map_append]; exact (hoi.x e14).app (.cons hrow .nil)⟩ (alike_ss _) (sortable_ss _) (depth_ss _) fun sa H5 ys nsa e5 hsa hys => ?_
      rw [srtSS_eq] at hys
      walk_at "rd_2"
      refine rd_tupA T hsa fun to H6 nto e6 hto => ?_
      walk_at "rd_2"
      refine ⟨by show 2 ≤ sizeLine; decide, fun r nr => ?_⟩
      obtain ⟨_, e7, hr7⟩ := alT (T := T) nr [.ref ia, .ref to]
      generalize upd H6 r _ = H7 at e7 hr7 ⊢
      have e17 := ((e14.trans e5).trans e6).trans e7
      exact q _ H7 e17 ⟨r, ia, .ref to, xs, o, rfl, hr7, frz.x hia e17, hod, hxi.x e17, (Im.tup hto (hys.x e6)).x e7⟩
    | off x z =>
      have hu : Im H u (.tuple [.str (Str.ofString "off"), .str x, .str z]) := hu
      obtain ⟨b, ox, rfl, hob, hoi⟩ := hoa.tup'
      have hxz : PyData.strOk x = true ∧ PyData.strOk z = true := by
        have h := Im.lay _ _ hu
        have h : (PyData.strOk (Str.ofString "off") && (PyData.strOk x && (PyData.strOk z && true))) = true := h
        simp only [Bool.and_eq_true] at h
        exact ⟨h.2.1, h.2.2.1⟩
      walk_at "rd_2"
      refine rd_ixSs hu rfl ?_
      walk_at "rd_2"
      refine rd_ite (fun h => absurd h (by decide +kernel)) (fun _ => ?_)
      walk_at "rd_2"
      refine rd_ixSs hu rfl ?_
      walk_at "rd_2"
      refine rd_ixSs hu rfl ?_
      walk_at "rd_2"
      refine ⟨by show 2 ≤ sizeLine; decide, fun tr ntr => ?_⟩
      obtain ⟨_, e1, htr⟩ := alT (T := T) ntr [.str x, .str z]
      show gName 2 _ _ (upd H tr (.tup [.str x, .str z])) _
      generalize upd H tr _ = H1 at e1 htr ⊢
      have hrow : Im H1 (.ref tr) (ssD (x, z)) := Im.new2 (.str _ hxz.1) (.str _ hxz.2) htr
      walk_at "rd_2"
      refine rd_ixSs (hu.x e1) rfl ?_
      walk_at "rd_2"
      refine rd_ite (fun h => absurd h (by decide +kernel)) (fun _ => ?_)
      walk_at "rd_2"
      refine rd_ixT (v := .ref ia) (SqT.of (tup.x (xs := [.ref ia, .ref b]) ha e1)) rfl ?_
      walk_at "rd_2"
      refine rd_ixT (v := .ref b) (SqT.of (tup.x (xs := [.ref ia, .ref b]) ha e1)) rfl ?_
      refine ⟨b, rfl, .inr ⟨⟨_, SqP.sq (SqP.x hob e1)⟩, ?_⟩⟩
      have hol2 : ox.length ≤ 500 := by
        rw [hoi.len, List.length_map]
        exact hol
      refine lcg_rel T [] walk_tup ox rfl (fun i H x H' y => y) (by simp) (fun H' e => SqP.sq (SqP.x (SqP.x hob e1) e)) (Nat.lt_of_le_of_lt hol2 (by decide)) (pIm H ssD fun p => !decide (p = (x, z))) (fun v x => v = x) (fun i y hy H' e' R S h1 h2 => ?_) (fun D H2 us nD e2 hD hus => ?_)
      · obtain ⟨dr, hdr, hyr⟩ := hoi.get' hy
        rw [List.getElem?_map] at hdr
        obtain ⟨r, hr, rfl⟩ := Option.map_eq_some_iff.mp hdr
        have hp := pIm_eq (c := fun p : Str × Str => !decide (p = (x, z))) (fun a b => ssD_inj) hyr
        refine rd_name ⟨wipe1, ?_⟩
        walk_at "rd_2"
        refine rd_neI (b := decide (r = (x, z))) ((hyr.x e1).x e') (hrow.x e') (Nat.le_trans (dep_ss _) (by decide)) (Nat.le_trans (dep_ss _) (by decide)) (Iff.trans ⟨fun e => ssD_inj e, fun e => by rw [e]⟩ decide_eq_true_iff.symm) ?_
        refine ⟨_, rfl, ?_⟩
        refine rd_itn (fun hz => ?_) (fun hz => ?_)
        · exact h2 (hp.trans (by show (!decide (r = (x, z))) = false; rw [decide_eq_true hz]; rfl)) _ .refl
        · walk_at "rd_2"
          exact h1 (hp.trans (by show (!decide (r = (x, z))) = true; rw [decide_eq_false hz]; rfl)) _ _ .refl rfl
      · have hus2 : us = ox.filter (pIm H ssD fun p => !decide (p = (x, z))) := by
          have key : ∀ {us vs : List V}, PySem.W.EachIs (fun v x => v = x) us vs → us = vs := by
            intro us vs h
            induction h with
            | nil => rfl
            | cons a b ih => rw [a, ih]
          exact key hus
        have him : ImAll H us ((s.on.filter fun p => !decide (p = (x, z))).map ssD) := by
          rw [hus2]
          have key : ∀ {xs : List V} {as : List (Str × Str)}, PySem.W.EachIs (fun x a => Im H x (ssD a)) xs as → ImAll H xs (as.map ssD) := by
            intro xs as h
            induction h with
            | nil => exact .nil
            | cons a b ih => exact .cons a ih
          exact key (each_filter (c := fun p : Str × Str => !decide (p = (x, z))) (fun a b => ssD_inj) hoi)
        walk_at "rd_2"
        refine rd_tupA T hD fun to H3 nto e3 hto => ?_
        walk_at "rd_2"
        refine ⟨by show 2 ≤ sizeLine; decide, fun r nr => ?_⟩
        obtain ⟨_, e4, hr4⟩ := alT (T := T) nr [.ref ia, .ref to]
        generalize upd H3 r _ = H4 at e4 hr4 ⊢
        have e14 := ((e1.trans e2).trans e3).trans e4
        exact q _ H4 e14 ⟨r, ia, .ref to, xs, o, rfl, hr4, frz.x hia e14, hod, hxi.x e14, (Im.tup hto (((him.x e1).x e2).x e3)).x e4⟩
end
section
variable {T : List (Addr × Str)} {P : Program} {w : World} {K : PySem.W.Frag} {mg : Str → Option Value} {base : Heap}
theorem ok_law_server_deed (D : Def K mg "_law_server_deed" s_law_server_deed ["tape", "realm", "state"]) (mb : ∀ x ∈ bltns, mg x = none) (G_law_take : Ok P w K mg base 2 "_law_take" ["tape", "many"] (spTake T)) (G_law_life : Ok P w K mg base 3 "_law_life" ["tape"] (spInt T 1 1000))
    (G_law_item : Ok P w K mg base 1 "_law_item" ["content", "life", "signers"] (spItem T)) : Ok P w K mg base 4 "_law_server_deed" ["tape", "realm", "state"] (spServer T) := by
  refine D.ok sc_law_server_deed (fun vs H Q E h => ?_) (fun cdv f A outer s H vs Q E hr h => ?_)
  · obtain ⟨l, t, v, u, R, s, rfl, _⟩ := h
    rfl
  · obtain ⟨l, t, v, u, R, s, rfl, hT, hv, hR, hR1, hu, hon, q⟩ := h
    refine ⟨_, (pss_cons (ps_setLc (i := 4) (own := [("zone", 3), ("lag", 9)]) (tt := tYes) rfl sc_law_server_deed.nd rfl rfl (sw_true rfl rfl rfl (by decide +kernel)) (pi_seq K rfl (pe_slice (sl_U K rfl) (pe_ix (ix_U K rfl) (pv 1) pe_int (fun _ _ => rfl)) (po_some pe_int) po_none)) (blkOk_by (N := N_law_server_deed) (sc := defScope s_law_server_deed) (by decide +kernel)) (fun _ _ _ _ _ => (pg_tupU (n := 2) K rfl rfl (pgs_cons (pg_name (i := 3) sc_law_server_deed.nd rfl (Or.inl rfl)) (pgs_cons (pg_name (i := 9) sc_law_server_deed.nd rfl (Or.inl rfl)) pgs_nil)))) (fun _ _ _ _ _ => pts_nil) (fun _ _ _ _ _ => (pv 3)))
   (pss_cons (ps_set (i := 3) sc_law_server_deed.nd rfl (.inl rfl) (pe_ix (ix_U K rfl) (pv 4) (pe_callO G_law_take (hr.mono (by decide)) (by rfl) (pa_cons (pv 0) (pa_cons (pe_callB (call_lenU K rfl) (by rfl) (mb _ (by decide)) (by decide +kernel) (pa_cons (pv 4) pa_nil)) pa_nil))) (fun _ _ => rfl)))
   (pss_cons (ps_set (i := 5) sc_law_server_deed.nd rfl (.inl rfl) (pe_ix (ix_U K rfl) (pe_lst (pa_cons pe_str (pa_cons pe_str (pa_cons pe_str (pa_cons pe_str pa_nil))))) (pe_callO G_law_take (hr.mono (by decide)) (by rfl) (pa_cons (pv 0) (pa_cons pe_int pa_nil))) (fun _ _ => rfl)))
   (pss_cons (ps_if (pt_cmpR (op_eqU K rfl hr.units) (pe_callO G_law_take (hr.mono (by decide)) (by rfl) (pa_cons (pv 0) (pa_cons pe_int pa_nil))) pe_int (nomark _)) (pss_cons (ps_set (i := 6) sc_law_server_deed.nd rfl (.inl rfl) (pe_ifExp (pt_cmpR (op_inW K rfl (Room.units65 hr)) (pe_tup (pa_cons (pv 5) (pa_cons (pv 3) pa_nil))) (pe_ix (ix_U K rfl) (pv 2) pe_int (fun _ _ => rfl)) rfl) pe_str pe_str))
   (pss_one (ps_ret (pe_tup (pa_cons (pv 6) (pa_cons (pv 5) (pa_cons (pv 3) pa_nil))))))) pss_nil)
   (pss_cons (ps_set (i := 7) sc_law_server_deed.nd rfl (.inl rfl) (pe_tup (pa_cons pe_str (pa_cons (pv 3) pa_nil))))
   (pss_cons (ps_set (i := 8) sc_law_server_deed.nd rfl (.inl rfl) (pe_ix (ix_U K rfl) (pe_lst (pa_cons (pe_lst (pa_cons pe_str pa_nil)) (pa_cons (pe_lst (pa_cons pe_str pa_nil)) (pa_cons (pe_lst (pa_cons pe_str (pa_cons pe_str pa_nil))) (pa_cons (pe_lst (pa_cons pe_str pa_nil)) (pa_cons (pe_lst (pa_cons pe_str (pa_cons pe_str pa_nil))) pa_nil)))))) (pe_callO G_law_take (hr.mono (by decide)) (by rfl) (pa_cons (pv 0) (pa_cons pe_int pa_nil))) (fun _ _ => rfl)))
   (pss_one (ps_ret (pe_tup (pa_cons pe_str (pa_cons (pv 7) (pa_cons (pe_callO G_law_item (hr.mono (by decide)) (by rfl) (pa_cons (pv 8) (pa_cons (pe_callO G_law_life (hr.mono (by decide)) (by rfl) (pa_cons (pv 0) pa_nil)) (pa_cons (pe_lst pa_nil) pa_nil)))) pa_nil)))))))))))), ?_⟩
    refine rd_seq ?_
    walk_at "rdn_2"
    refine rd_ixI (d := .tuple (R.zs.map siD)) hv rfl fun u1 hu1 => ?_
    obtain ⟨zp, zx, rfl, hzp, hzi⟩ := hu1.tup'
    have hzl : zx.length = R.zs.length := by rw [hzi.len, List.length_map]
    walk_at "rdn_2"
    refine rd_slT (SqP.sq hzp) (fun h => ?_) fun sp nsp => ?_
    · have h0 := h.1
      rw [show HT.sIx zx.length 0 (some 1) = min 1 zx.length from HT.sIx_nat zx.length 0 1] at h0
      omega
    rw [cutV_from (α := V) zx (by decide), show Int.toNat 1 = 1 from rfl]
    obtain ⟨_, e1, hs1⟩ := alT (T := T) nsp (zx.drop 1)
    show ∃ a, _ ∧ ((_ ∧ LcG _ _ _ _ _ _ (upd H sp (.tup (zx.drop 1))) _) ∨ (_ ∧ LcG _ _ _ _ _ _ (upd H sp (.tup (zx.drop 1))) _))
    generalize upd H sp _ = H1 at e1 hs1 ⊢
    have hi1 := (hzi.drop 1).x e1
    have ed : R.zs.drop 1 = R.zs.tail := List.drop_one
    rw [← List.map_drop, ed] at hi1
    generalize zx.drop 1 = ys at hi1 hs1
    refine ⟨sp, rfl, .inr ⟨⟨_, SqT.of hs1⟩, ?_⟩⟩
    have hyl : ys.length = R.zs.tail.length := by rw [hi1.len, List.length_map]
    have htl : R.zs.tail.length ≤ 5 ∧ 0 < R.zs.tail.length := by
      rw [List.length_tail]
      have := hR.len
      omega
    refine lcg_rel T [] walk_tup ys rfl (fun i H x H' y => y) (by simp) (fun H' e => SqT.of (tup.x hs1 e)) (Nat.lt_of_le_of_lt (show ys.length ≤ 100 by omega) (by decide)) (fun _ => true) (fun v x => ∃ r, Im H1 x (siD r) ∧ v = .str r.1) (fun i x hx H' e' R' S h1 h2 => ?_) (fun D H2 us nD e2 hD hus => ?_)
    · obtain ⟨dr, hdr, hxr⟩ := hi1.get' hx
      rw [List.getElem?_map] at hdr
      obtain ⟨r, hr, rfl⟩ := Option.map_eq_some_iff.mp hdr
      refine rd_gpair (d1 := .str r.1) (d2 := .int r.2) (hxr.x e') fun v1 v2 g1 g2 => ?_
      rw [g1.str', g2.int']
      refine ⟨rfl, ?_⟩
      walk_at "rd_2"
      exact h1 rfl _ _ .refl ⟨r, hxr, rfl⟩
    · rw [filtT] at hus
      have hu2 : us = (R.zs.tail.map (·.1)).map V.str := by
        have key : ∀ {us ys : List V} {rs : List (Str × Int)}, ImAll H1 ys (rs.map siD) → PySem.W.EachIs (fun v x => ∃ r, Im H1 x (siD r) ∧ v = .str r.1) us ys → us = (rs.map (·.1)).map V.str := by
          intro us ys rs
          induction rs generalizing us ys with
          | nil =>
            intro h1 h2
            cases h1
            cases h2
            rfl
          | cons r rs ih =>
            intro h1 h2
            cases h1 with
            | cons a b =>
              cases h2 with
              | cons c d =>
                obtain ⟨r', c1, c2⟩ := c
                have e := Im.inj _ _ _ a c1
                injection e with e
                injection e with e _
                injection e with e
                rw [ih b d, c2, List.map_cons, List.map_cons, e]
        exact key hi1 hus
      subst hu2
      have hDn : Nw H D := e1.back (by simp) nD
      have T2 := (hT.ext e1).ext e2
      have e02 := e1.trans e2
      have hDt := (hT.ne hDn).1
      have hu2 := hu.x e02
      clear hv hu hT e1 hi1 hs1 hzp hzi e2
      walk_at "rd_2"
      refine ⟨l, t, _, rfl, ?_, ?_, T2, fun d0 H3 h00 h01 e3 T3 => ?_⟩
      · rw [List.length_map, List.length_map]
        omega
      · rw [List.length_map, List.length_map]
        omega
      have hD3 := lst.y hD e3 hDt
      have hu3 := hu2.y e3 T2
      obtain ⟨c, hc1, hc2, hc3⟩ := at_in (l := (R.zs.tail.map (·.1)).map V.str) h00 h01
      obtain ⟨z, hz, rfl⟩ := List.mem_map.mp hc3
      have hzz := zin hR hz
      refine rd_ixL (SqL.of hD3) hc1 ?_
      walk_at "rd_2"
      refine ⟨by show 4 ≤ sizeLine; decide, fun la nla => ?_⟩
      obtain ⟨nla, e4, hla⟩ := alL (T := T) nla (s4L.map V.str)
      have hlat := (T3.ne nla).1
      show tCall _ _ _ _ _ (upd H3 la (.lst (s4L.map V.str))) _
      generalize upd H3 la _ = H4 at e4 hla ⊢
      have T4 := T3.ext e4
      walk_at "rd_2"
      refine ⟨l, t, 4, rfl, by decide, by decide, T4, fun d1 H5 h10 h11 e5 T5 => ?_⟩
      obtain ⟨c, hc1, hc2, hc3⟩ := at_in (l := s4L.map V.str) h10 (by show d1 < 4; omega)
      obtain ⟨x, hx, rfl⟩ := List.mem_map.mp hc3
      have hxo := s4_ok x hx
      refine rd_ixL (SqL.of (lst.y hla e5 hlat)) hc1 ?_
      have hu5 := (hu3.x e4).y e5 T4
      have e05 := ((e02.any.trans e3).trans e4.any).trans e5
      clear e02 hu2 T2 hD e3 T3 hD3 hu3 e4 T4 hla e5
      walk_at "rd_2"
      refine ⟨l, t, 2, rfl, by decide, by decide, T5, fun d2 H6 h20 h21 e6 T6 => ?_⟩
      have hu6 := hu5.y e6 T5
      have e06 := e05.trans e6
      walk_at "rd_2"
      refine rd_ite (fun hd => ?_) (fun hd => ?_)
      · walk_at "rd_2"
        refine ⟨by show 2 ≤ sizeLine; decide, fun tr ntr => ?_⟩
        obtain ⟨_, e7, htr⟩ := alT (T := T) ntr [.str x, .str z]
        show tOp _ _ _ _ (upd H6 tr (.tup [.str x, .str z])) _
        generalize upd H6 tr _ = H7 at e7 htr ⊢
        have hu7 := hu6.x e7
        obtain ⟨a, ia, oa, xs, o, rfl, ha, hia, hod, hxi, hoa⟩ := hu7
        walk_at "rd_2"
        refine rd_ixT (v := oa) (SqT.of ha) rfl ?_
        have hrow : Im H7 (.ref tr) (ssD (x, z)) := Im.new2 (.str _ (id_ok hxo)) (.str _ (name_ok hzz.1)) htr
        have hdep : PyData.depth (.tuple (s.on.map ssD)) ≤ 64 := by
          show PyData.depthAll (s.on.map ssD) + 1 ≤ 64
          have := dep_map dep_ss s.on
          omega
        refine rd_inWI (b := decide ((x, z) ∈ s.on)) hrow hoa (Nat.le_trans (dep_ss _) (by decide)) hdep (mem_ssD.trans decide_eq_true_iff.symm) ?_
        refine ⟨_, rfl, ?_⟩
        have e07 := e06.trans e7.any
        have T7 := T6.ext e7
        refine rd_ite (fun hin => ?_) (fun hin => ?_)
        · walk_at "rd_2"
          refine ⟨by show 3 ≤ sizeLine; decide, fun r nr => ?_⟩
          obtain ⟨_, e8, hr8⟩ := alT (T := T) nr [.str (Str.ofString "off"), .str x, .str z]
          generalize upd H7 r _ = H8 at e8 hr8 ⊢
          exact q _ (.off x z) H8 ⟨hxo, hz⟩ hin (.new3 (.str _ (by decide +kernel)) (.str _ (id_ok hxo)) (.str _ (name_ok hzz.1)) hr8) (e07.trans e8.any) (T7.ext e8)
        · walk_at "rd_2"
          refine ⟨by show 3 ≤ sizeLine; decide, fun r nr => ?_⟩
          obtain ⟨_, e8, hr8⟩ := alT (T := T) nr [.str (Str.ofString "on"), .str x, .str z]
          generalize upd H7 r _ = H8 at e8 hr8 ⊢
          exact q _ (.on x z) H8 ⟨hxo, hz⟩ hin (.new3 (.str _ (by decide +kernel)) (.str _ (id_ok hxo)) (.str _ (name_ok hzz.1)) hr8) (e07.trans e8.any) (T7.ext e8)
      · walk_at "rd_2"
        refine ⟨by show 2 ≤ sizeLine; decide, fun tr ntr => ?_⟩
        obtain ⟨_, e7, htr⟩ := alT (T := T) ntr [.str (Str.ofString "hosts"), .str z]
        show gName 7 _ _ (upd H6 tr (.tup [.str (Str.ofString "hosts"), .str z])) _
        generalize upd H6 tr _ = H7 at e7 htr ⊢
        have T7 := T6.ext e7
        have e07 := e06.trans e7.any
        have hslo : Im H7 (.ref tr) (slD (.h z)) := Im.new2 (.str _ kw_ok.2.2.1) (.str _ (name_ok hzz.1)) htr
        walk_at "rd_2"
        refine ⟨by show 1 ≤ sizeLine; decide, fun a1 n1 => ?_⟩
        obtain ⟨m1, x1, h1⟩ := alL (T := T) n1 [.str (Str.ofString "s1")]
        show tCons _ _ _ (upd H7 a1 (.lst [.str (Str.ofString "s1")])) _
        generalize upd H7 a1 _ = G1 at x1 h1 ⊢
        walk_at "rd_2"
        refine ⟨by show 1 ≤ sizeLine; decide, fun a2 n2 => ?_⟩
        obtain ⟨m2, x2, h2⟩ := alL (T := T) n2 [.str (Str.ofString "s2")]
        show tCons _ _ _ (upd G1 a2 (.lst [.str (Str.ofString "s2")])) _
        generalize upd G1 a2 _ = G2 at x2 h2 ⊢
        walk_at "rd_2"
        refine ⟨by show 2 ≤ sizeLine; decide, fun a3 n3 => ?_⟩
        obtain ⟨m3, x3, h3⟩ := alL (T := T) n3 [.str (Str.ofString "s1"), .str (Str.ofString "s3")]
        show tCons _ _ _ (upd G2 a3 (.lst [.str (Str.ofString "s1"), .str (Str.ofString "s3")])) _
        generalize upd G2 a3 _ = G3 at x3 h3 ⊢
        walk_at "rd_2"
        refine ⟨by show 1 ≤ sizeLine; decide, fun a4 n4 => ?_⟩
        obtain ⟨m4, x4, h4⟩ := alL (T := T) n4 [.str (Str.ofString "s3")]
        show tCons _ _ _ (upd G3 a4 (.lst [.str (Str.ofString "s3")])) _
        generalize upd G3 a4 _ = G4 at x4 h4 ⊢
        walk_at "rd_2"
        refine ⟨by show 2 ≤ sizeLine; decide, fun a5 n5 => ?_⟩
        obtain ⟨m5, x5, h5⟩ := alL (T := T) n5 [.str (Str.ofString "s2"), .str (Str.ofString "t9")]
        show tNil _ (upd G4 a5 (.lst [.str (Str.ofString "s2"), .str (Str.ofString "t9")])) _
        generalize upd G4 a5 _ = G5 at x5 h5 ⊢
        walk_at "rd_2"
        refine ⟨by show 5 ≤ sizeLine; decide, fun a6 n6 => ?_⟩
        obtain ⟨m6, x6, h6⟩ := alL (T := T) n6 [.ref a1, .ref a2, .ref a3, .ref a4, .ref a5]
        show tCall _ _ _ _ _ (upd G5 a6 (.lst [.ref a1, .ref a2, .ref a3, .ref a4, .ref a5])) _
        generalize upd G5 a6 _ = G6 at x6 h6 ⊢
        have T1' := T7.ext x1
        have T2' := T1'.ext x2
        have T3' := T2'.ext x3
        have T4' := T3'.ext x4
        have T5' := T4'.ext x5
        have T6' := T5'.ext x6
        have xx := ((((x1.trans x2).trans x3).trans x4).trans x5).trans x6
        walk_at "rd_2"
        refine ⟨l, t, 5, rfl, by decide, by decide, T6', fun d3 G7 h30 h31 x7 T7' => ?_⟩
        have h67 := lst.y h6 x7 (T5'.ne m6).1
        have slo7 := (hslo.x xx).y x7 T6'
        have e0g := (e07.trans xx.any).trans x7
        have pick : ∃ (ca : Addr) (cs : List Str), cs ∈ hostL ∧ G7 ca = some (.lst (cs.map V.str)) ∧ atI [V.ref a1, .ref a2, .ref a3, .ref a4, .ref a5] d3 = some (.ref ca) := by
          obtain ⟨c, hc1, hc2⟩ := at_inV (xs := [V.ref a1, .ref a2, .ref a3, .ref a4, .ref a5]) h30 (by show d3 < 5; omega)
          have hm := List.mem_of_getElem? hc2
          simp only [List.mem_cons, List.not_mem_nil, or_false] at hm
          rcases hm with rfl | rfl | rfl | rfl | rfl
          · exact ⟨a1, ["s1"], by simp [hostL], lst.y (lst.x (lst.x (lst.x (lst.x (lst.x h1 x2) x3) x4) x5) x6) x7 (T7.ne m1).1, hc1⟩
          · exact ⟨a2, ["s2"], by simp [hostL], lst.y (lst.x (lst.x (lst.x (lst.x h2 x3) x4) x5) x6) x7 (T1'.ne m2).1, hc1⟩
          · exact ⟨a3, ["s1", "s3"], by simp [hostL], lst.y (lst.x (lst.x (lst.x h3 x4) x5) x6) x7 (T2'.ne m3).1, hc1⟩
          · exact ⟨a4, ["s3"], by simp [hostL], lst.y (lst.x (lst.x h4 x5) x6) x7 (T3'.ne m4).1, hc1⟩
          · exact ⟨a5, ["s2", "t9"], by simp [hostL], lst.y (lst.x h5 x6) x7 (T4'.ne m5).1, hc1⟩
        obtain ⟨ca, cs, hcs, hca, hat⟩ := pick
        obtain ⟨hc1, hc2, hc3⟩ := host_ok cs hcs
        have hct : ca ≠ t := fun e => by
          obtain ⟨ns', pos, rs', st', bud, q1, _⟩ := T7'
          rw [e, q1] at hca
          injection hca with hca
          injection hca with hca
          match cs, hca with
          | [], hca => cases hca
          | y :: cs, hca =>
            rw [List.map_cons] at hca
            injection hca with hca _
            cases hca
        refine rd_ixL (SqL.of h67) hat ?_
        walk_at "rd_2"
        refine ⟨l, t, rfl, T7', fun li G8 hl0 hl1 x8 T8' => ?_⟩
        have hca8 := lst.y hca x8 hct
        have slo8 := slo7.y x8 T7'
        walk_at "rd_2"
        refine ⟨by show 0 ≤ sizeLine; decide, fun ea nea => ?_⟩
        obtain ⟨_, x9, h9⟩ := alL (T := T) nea []
        refine rd_nil ?_
        generalize upd G8 ea _ = G9 at x9 h9 ⊢
        refine ⟨ca, ea, cs, [], li, rfl, lst.x hca8 x9, h9, hc2, by simp, fun y G10 x10 hy => ?_⟩
        walk_at "rd_2"
        refine ⟨by show 3 ≤ sizeLine; decide, fun r nr => ?_⟩
        obtain ⟨_, x11, h11⟩ := alT (T := T) nr [.str (Str.ofString "put"), .ref tr, y]
        generalize upd G10 r _ = G11 at x11 h11 ⊢
        refine q _ (.put (.h z) ⟨srtS cs, li, srtS [], 0, 10000⟩) G11 ⟨hzz.2, ⟨cs, rfl, hc1, hc2, hc3⟩, ⟨[], rfl, by simp, by simp, by simp⟩, ⟨hl0, hl1⟩, ⟨show (0 : Int) ≤ 0 by decide, show (0 : Int) ≤ 10000 by decide, show (10000 : Int) ≤ 10000 by decide⟩, fun _ _ => ⟨srtS_nil, rfl, rfl⟩, fun z e => by cases e⟩ trivial ?_ ((((e0g.trans x8).trans x9.any).trans x10.any).trans x11.any) (((T8'.ext x9).ext x10).ext x11)
        exact .new3 (.str _ (by decide +kernel)) (((slo8.x x9).x x10).x x11) (hy.x x11) h11
end
section
variable {T : List (Addr × Str)} {P : Program} {w : World} {K : PySem.W.Frag} {mg : Str → Option Value} {base : Heap}
theorem cut_ne {ks : List Str} (h : ks.length = 3) : ks.take 2 ≠ [] ∧ (ks.take 2).drop 1 ≠ [] ∧ ks.take 3 ≠ [] := by
  match ks, h with
  | [a, b, c], _ => exact ⟨by simp, by simp, by simp⟩
theorem at_one {α : Type} (x y : α) (l : List α) : atI (x :: y :: l) 1 = some y := atI_nat (j := 1) rfl
theorem ok_law_mixed (D : Def K mg "_law_mixed" s_law_mixed ["tape", "realm", "pools", "slot", "item"]) (mb : ∀ x ∈ bltns, mg x = none) (G_law_take : Ok P w K mg base 2 "_law_take" ["tape", "many"] (spTake T)) (G_law_life : Ok P w K mg base 3 "_law_life" ["tape"] (spInt T 1 1000))
    (G_law_home : Ok P w K mg base 2 "_law_home" ["realm", "slot"] (spHome T)) (G_law_pool : Ok P w K mg base 1 "_law_pool" ["pools", "zone"] (spPool T)) (G_law_ids : Ok P w K mg base 4 "_law_ids" ["tape", "many"] (spIds T)) :
    Ok P w K mg base 5 "_law_mixed" ["tape", "realm", "pools", "slot", "item"] (spMixed T) := by
  refine D.ok sc_law_mixed (fun vs H Q E h => ?_) (fun cdv f A outer s H vs Q E hr h => ?_)
  · obtain ⟨l, t, pa, v, u, x, R, ps, sl, i, rfl, _⟩ := h
    rfl
  · obtain ⟨l, t, pa, v, u, x, R, ps, sl, i, rfl, hT, hv, hR, hP, hps, hu, hs, hnh, hx, hi, q⟩ := h
    refine ⟨_, (pss_cons (ps_set (i := 5) sc_law_mixed.nd rfl (.inl rfl) (pe_callO G_law_pool (hr.mono (by decide)) (by rfl) (pa_cons (pv 2) (pa_cons (pe_callO G_law_home (hr.mono (by decide)) (by rfl) (pa_cons (pv 1) (pa_cons (pv 3) pa_nil))) pa_nil))))
   (pss_cons (ps_set (i := 6) sc_law_mixed.nd rfl (.inl rfl) (pe_ifExp (pt_cmpR (op_eqU K rfl hr.units) (pe_ix (ix_U K rfl) (pv 3) pe_int (fun _ _ => rfl)) pe_str (nomark _)) (pe_callO G_law_pool (hr.mono (by decide)) (by rfl) (pa_cons (pv 2) (pa_cons (pe_ix (ix_U K rfl) (pv 3) pe_int (fun _ _ => rfl)) pa_nil))) (pv 5)))
   (pss_cons (ps_set (i := 7) sc_law_mixed.nd rfl (.inl rfl) (pe_callTy (call_listU K rfl) (by rfl) (mb _ (by decide)) (by decide +kernel) (pa_cons (pe_ix (ix_U K rfl) (pv 4) pe_int (fun _ _ => rfl)) pa_nil)))
   (pss_cons (ps_set (i := 8) sc_law_mixed.nd rfl (.inl rfl) (pe_callTy (call_listU K rfl) (by rfl) (mb _ (by decide)) (by decide +kernel) (pa_cons (pe_ix (ix_U K rfl) (pv 4) pe_int (fun _ _ => rfl)) pa_nil)))
   (pss_cons (ps_set (i := 9) sc_law_mixed.nd rfl (.inl rfl) (pe_callO G_law_take (hr.mono (by decide)) (by rfl) (pa_cons (pv 0) (pa_cons pe_int pa_nil))))
   (pss_cons (ps_if (pt_cmpR (op_eqU K rfl hr.units) (pe_ix (ix_U K rfl) (pv 3) pe_int (fun _ _ => rfl)) pe_str (nomark _)) (pss_cons (ps_set (i := 7) sc_law_mixed.nd rfl (.inl rfl) (pe_ifExp (pt_cmpR (op_eqU K rfl hr.units) (pv 9) pe_int (nomark _)) (pe_callO G_law_ids (hr.mono (by decide)) (by rfl) (pa_cons (pv 0) (pa_cons (pe_callO G_law_take (hr.mono (by decide)) (by rfl) (pa_cons (pv 0) (pa_cons pe_int pa_nil))) pa_nil))) (pv 7)))
   (pss_one (ps_set (i := 8) sc_law_mixed.nd rfl (.inl rfl) (pe_ix (ix_U K rfl) (pe_lst (pa_cons (pe_slice (sl_U K rfl) (pv 5) po_none (po_some pe_int)) (pa_cons (pe_slice (sl_U K rfl) (pv 5) (po_some pe_int) (po_some pe_int)) (pa_cons (pe_slice (sl_U K rfl) (pv 5) po_none (po_some pe_int)) (pa_cons (pe_slice (sl_U K rfl) (pv 5) (po_some pe_int) (po_some pe_int)) (pa_cons (pv 8) (pa_cons (pe_slice (sl_U K rfl) (pv 5) po_none (po_some pe_int)) pa_nil))))))) (pe_callO G_law_take (hr.mono (by decide)) (by rfl) (pa_cons (pv 0) (pa_cons pe_int pa_nil))) (fun _ _ => rfl))))) (pss_one (ps_if (pt_cmpR op_lt (pv 9) pe_int (nomark _)) (pss_one (ps_set (i := 7) sc_law_mixed.nd rfl (.inl rfl) (pe_ix (ix_U K rfl) (pe_lst (pa_cons (pe_slice (sl_U K rfl) (pv 6) po_none (po_some pe_int)) (pa_cons (pe_slice (sl_U K rfl) (pv 6) (po_some pe_int) (po_some pe_int)) (pa_cons (pe_slice (sl_U K rfl) (pv 6) po_none (po_some pe_int)) pa_nil)))) (pv 9) (fun _ _ => rfl)))) (pss_one (ps_if (pt_cmpR (op_eqU K rfl hr.units) (pv 9) pe_int (nomark _)) (pss_one (ps_set (i := 7) sc_law_mixed.nd rfl (.inl rfl) (pe_op (op_plus K rfl) (pe_slice (sl_U K rfl) (pv 6) (po_some pe_int) (po_some pe_int)) (pe_slice (sl_U K rfl) (pv 6) (po_some pe_int) (po_some pe_int))))) pss_nil)))))
   (pss_cons (ps_if (PW.pt (pw_and (pt_cmpR (op_neU K rfl hr.units) (pe_ix (ix_U K rfl) (pv 3) pe_int (fun _ _ => rfl)) pe_str (nomark _)) (pw_and1 (pt_cmpR (op_eqU K rfl hr.units) (pe_callO G_law_take (hr.mono (by decide)) (by rfl) (pa_cons (pv 0) (pa_cons pe_int pa_nil))) pe_int (nomark _))))) (pss_one (ps_set (i := 8) sc_law_mixed.nd rfl (.inl rfl) (pe_ix (ix_U K rfl) (pe_lst (pa_cons (pe_slice (sl_U K rfl) (pv 5) po_none (po_some pe_int)) (pa_cons (pe_slice (sl_U K rfl) (pv 5) (po_some pe_int) (po_some pe_int)) (pa_cons (pe_slice (sl_U K rfl) (pv 5) po_none (po_some pe_int)) pa_nil)))) (pe_callO G_law_take (hr.mono (by decide)) (by rfl) (pa_cons (pv 0) (pa_cons pe_int pa_nil))) (fun _ _ => rfl)))) pss_nil)
   (pss_cons (ps_set (i := 10) sc_law_mixed.nd rfl (.inl rfl) (pe_ifExp (pt_cmpR (op_eqU K rfl hr.units) (pe_callO G_law_take (hr.mono (by decide)) (by rfl) (pa_cons (pv 0) (pa_cons pe_int pa_nil))) pe_int (nomark _)) (pe_ix (ix_U K rfl) (pv 4) pe_int (fun _ _ => rfl)) (pe_callO G_law_life (hr.mono (by decide)) (by rfl) (pa_cons (pv 0) pa_nil))))
   (pss_one (ps_ret (pe_tup (pa_cons (pe_callTy (call_tupU K rfl) (by rfl) (mb _ (by decide)) (by decide +kernel) (pa_cons (pe_callB (call_sortedU K rfl hr.units) (by rfl) (mb _ (by decide)) (by decide +kernel) (pa_cons (pv 7) pa_nil)) pa_nil)) (pa_cons (pv 10) (pa_cons (pe_callTy (call_tupU K rfl) (by rfl) (mb _ (by decide)) (by decide +kernel) (pa_cons (pe_callB (call_sortedU K rfl hr.units) (by rfl) (mb _ (by decide)) (by decide +kernel) (pa_cons (pv 8) pa_nil)) pa_nil)) (pa_cons (pe_ix (ix_U K rfl) (pv 4) pe_int (fun _ _ => rfl)) (pa_cons (pe_ix (ix_U K rfl) (pv 4) pe_int (fun _ _ => rfl)) pa_nil)))))))))))))))), ?_⟩
    refine rd_seq ?_
    walk_at "rdn_2"
    refine ⟨v, u, R, sl, rfl, hv, hu, hR, hs, fun H1 e1 hh => ?_⟩
    have hpn : (ps.map (·.1)).Nodup := by rw [hps.nm]; exact hR.nd
    have hpl : ps.length ≤ 6 := by
      have := congrArg List.length hps.nm
      rw [List.length_map, List.length_map] at this
      have := hR.len
      omega
    have pick : ∀ z ∈ R.zs.map (·.1), ∃ ks, (z, ks) ∈ ps := fun z hz => by
      rw [← hps.nm] at hz
      obtain ⟨p, hp, e⟩ := List.mem_map.mp hz
      exact ⟨p.2, by rw [← e]; exact hp⟩
    obtain ⟨ks, hks⟩ := pick _ hh
    have hP1 := hP.ext0 e1
    walk_at "rdn_2"
    refine ⟨t, pa, ps, _, ks, rfl, hP1, hpl, hpn, hks, fun oa H2 hot hoa e2 => ?_⟩
    have cl : ∀ (z : Str) (k2 : List Str) (H' : Hp) (b : Addr), (z, k2) ∈ ps → H' b = some (.lst (k2.map V.str)) → b ≠ t → CL H' t b 3 k2 := fun z k2 H' b hm hb hn => ⟨hb, hn, hps.nd _ hm, hps.ok _ hm, Nat.le_of_eq (hps.len _ hm)⟩
    have ho2 := cl _ ks H2 oa hks (lst.x hoa e2) hot
    have e02 := e1.trans e2
    have T2 := hT.ext e02
    have hu2 := hu.x e02
    have hx2 := hx.x e02
    have hP2 := hP1.ext0 e2
    clear hoa hP1 hP hT e1 e2
    obtain ⟨kw, zz, rr, hsl, hkl, hks', hzz⟩ := sl_word sl
    rw [hsl] at hu hu2
    walk_at "rdn_2"
    -- the keys
    refine rd_cut (fun σ H3 => Ext T [] H2 H3 ∧ ∃ (ka : Addr) (k2 : List Str), σ = [some (.ref t), some v, some (.ref pa), some u, some x, some (.ref oa), some (.ref ka), none, none, none, none] ∧ CL H3 t ka 3 k2 ∧ k2.length = 3) (fun nx' hnx => ?_) (fun σ H3 h => ?_)
    · walk_at "rd_2"
      refine rd_ixSs hu2 (at_zero _ _) ?_
      walk_at "rd_2"
      refine rd_ite (fun hk => ?_) (fun hk => ?_)
      · walk_at "rd_2"
        refine rd_ixSs (z := zz) hu2 (at_one _ _ _) ?_
        walk_at "rd_2"
        obtain ⟨z, rfl⟩ := hkl.mp hk
        have hz := hzz z rfl
        subst hz
        have hzm : zz ∈ R.zs.map (·.1) := by
          unfold slotsR at hs
          rcases List.mem_append.mp hs with hs | hs
          · rcases List.mem_cons.mp hs with hs | hs
            · cases hs
            · obtain ⟨y, hy, h⟩ := List.mem_flatMap.mp hs
              simp at h
              rw [h]
              exact List.mem_map_of_mem (List.mem_of_mem_tail hy)
          · obtain ⟨p, _, h⟩ := List.mem_map.mp hs
            cases h
        obtain ⟨k2, hk2⟩ := pick _ hzm
        refine ⟨t, pa, ps, zz, k2, rfl, hP2, hpl, hpn, hk2, fun pa2 H3 hpt2 hpa2 e3 => ?_⟩
        walk_at "rd_2"
        exact hnx _ _ ⟨e3, pa2, k2, rfl, cl _ _ _ _ hk2 (lst.x hpa2 e3) hpt2, hps.len _ hk2⟩
      · walk_at "rd_2"
        exact hnx _ _ ⟨.refl, oa, ks, rfl, ho2, hps.len _ hks⟩
    · obtain ⟨e3, ka, k2, rfl, hk3, hk3l⟩ := h
      have T3 := T2.ext e3
      have hu3 := hu2.x e3
      have hx3 := hx2.x e3
      have ho3 := ho2.x e3
      have e03 := e02.trans e3
      clear e02 T2 hu2 hx2 ho2 e3 hP2
      have hx3 : Im H3 x (.tuple [.tuple (i.c.map .str), .int i.li, .tuple (i.g.map .str), .int i.a, .int i.b]) := hx3
      obtain ⟨ic1, ic2, ic3⟩ := itm_c hi
      obtain ⟨ig1, ig2, ig3⟩ := itm_g hi
      refine rd_seq ?_
      walk_at "rdn_2"
      refine rd_ixI (d := .tuple (i.c.map .str)) hx3 rfl fun u1 hu1 => ?_
      obtain ⟨ct, cx, rfl, hct, hcx⟩ := hu1.tup'
      have hcx2 := hcx.strs'
      subst hcx2
      walk_at "rdn_2"
      refine rd_listA T (SqP.sq hct) fun ca H4 nca e4 hca => ?_
      have hc4 : CL H4 t ca 4 i.c := ⟨hca, (T3.ne nca).1, ic1, ic2, ic3⟩
      have T4 := T3.ext e4
      have hk4 := hk3.x e4
      have hu4 := hu3.x e4
      have hx4 := hx3.x e4
      have ho4 := ho3.x e4
      have e04 := e03.trans e4
      clear hct hcx hca hu1 e03 T3 hk3 hu3 hx3 ho3 e4
      walk_at "rdn_2"
      refine rd_seq ?_
      walk_at "rdn_2"
      refine rd_ixI (d := .tuple (i.g.map .str)) hx4 rfl fun u1 hu1 => ?_
      obtain ⟨ct, cx, rfl, hct, hcx⟩ := hu1.tup'
      have hcx2 := hcx.strs'
      subst hcx2
      walk_at "rdn_2"
      refine rd_listA T (SqP.sq hct) fun sa H5 nsa e5 hsa => ?_
      have hs5 : CL H5 t sa 3 i.g := ⟨hsa, (T4.ne nsa).1, ig1, ig2, ig3⟩
      have T5 := T4.ext e5
      have hc5 := hc4.x e5
      have hk5 := hk4.x e5
      have hu5 := hu4.x e5
      have hx5 := hx4.x e5
      have ho5 := ho4.x e5
      have e05 := e04.trans e5
      clear hct hcx hsa hu1 e04 T4 hc4 hk4 hu4 hx4 ho4 e5
      walk_at "rdn_2"
      refine rd_seq ?_
      walk_at "rdn_2"
      refine ⟨l, t, 6, rfl, by decide, by decide, T5, fun d H6 h0 h1 e6 T6 => ?_⟩
      have hs6 := hs5.y e6
      have hc6 := hc5.y e6
      have hk6 := hk5.y e6
      have hu6 := hu5.y e6 T5
      have hx6 := hx5.y e6 T5
      have ho6 := ho5.y e6
      have e06 := e05.any.trans e6
      clear e05 T5 hs5 hc5 hk5 hu5 hx5 ho5 e6
      walk_at "rdn_2"
      refine rd_cut (fun σ H7 => Ext T [t] H H7 ∧ Tape l H7 t ∧ ∃ (ca sa : Addr) (cs gs : List Str), σ = [some (.ref t), some v, some (.ref pa), some u, some x, some (.ref oa), some (.ref ka), some (.ref ca), some (.ref sa), some (.int d), none] ∧ (∀ z, sl = .k z → cs ≠ []) ∧ CL H7 t ca 4 cs ∧ CL H7 t sa 3 gs ∧ Im H7 u (.tuple (.str kw :: .str zz :: rr)) ∧ Im H7 x (.tuple [.tuple (i.c.map .str), .int i.li, .tuple (i.g.map .str), .int i.a, .int i.b]) ∧ CL H7 t oa 3 ks) (fun nx' hnx => ?_) (fun σ H7 h => ?_)
      · walk_at "rd_2"
        refine rd_ixSs hu6 (at_zero _ _) ?_
        walk_at "rd_2"
        refine rd_ite (fun hk => ?_) (fun hk => ?_)
        · -- a set
          refine rd_cut (fun σ H7 => Ext T [t] H H7 ∧ Tape l H7 t ∧ ∃ (ca : Addr) (cs : List Str), σ = [some (.ref t), some v, some (.ref pa), some u, some x, some (.ref oa), some (.ref ka), some (.ref ca), some (.ref sa), some (.int d), none] ∧ CL H7 t ca 4 cs ∧ CL H7 t sa 3 i.g ∧ Im H7 u (.tuple (.str kw :: .str zz :: rr)) ∧ Im H7 x (.tuple [.tuple (i.c.map .str), .int i.li, .tuple (i.g.map .str), .int i.a, .int i.b]) ∧ CL H7 t oa 3 ks) (fun nx2 hnx2 => ?_) (fun σ H7 h => ?_)
          · walk_at "rd_2"
            refine rd_ite (fun hd => ?_) (fun hd => ?_)
            · walk_at "rd_2"
              refine ⟨l, t, 5, rfl, by decide, by decide, T6, fun d2 H7 h20 h21 e7 T7 => ?_⟩
              walk_at "rd_2"
              refine ⟨l, t, d2, rfl, h20, by omega, T7, fun ca2 ids H8 nca2 hil hin hid hca2 e8 T8 => ?_⟩
              walk_at "rd_2"
              have e78 := e7.trans e8
              exact hnx2 _ _ ⟨e06.trans e78, T8, ca2, ids, rfl, ⟨hca2, (T7.ne nca2).1, hin, hid, by omega⟩, hs6.y e78, hu6.y e78 T6, hx6.y e78 T6, ho6.y e78⟩
            · walk_at "rd_2"
              exact hnx2 _ _ ⟨e06, T6, ca, i.c, rfl, hc6, hs6, hu6, hx6, ho6⟩
          · obtain ⟨e7, T7, ca, cs, rfl, hc7, hs7, hu7, hx7, ho7⟩ := h
            walk_at "rd_2"
            refine ho7.take (T := T) T7 (by decide) fun p1 G1 _ x1 g1 => ?_
            walk_at "rd_2"
            refine (ho7.x x1).mid (T := T) (T7.ext x1) (by decide) (by decide) fun p2 G2 _ x2 g2 => ?_
            walk_at "rd_2"
            have x12 := x1.trans x2
            refine (ho7.x x12).take (T := T) (T7.ext x12) (by decide) fun p3 G3 _ x3 g3 => ?_
            walk_at "rd_2"
            have x13 := x12.trans x3
            refine (ho7.x x13).mid (T := T) (T7.ext x13) (by decide) (by decide) fun p4 G4 _ x4 g4 => ?_
            walk_at "rd_2"
            have x14 := x13.trans x4
            refine (ho7.x x14).take (T := T) (T7.ext x14) (by decide) fun p5 G5 _ x5 g5 => ?_
            walk_at "rd_2"
            have x15 := x14.trans x5
            refine ⟨by show 6 ≤ sizeLine; decide, fun la nla => ?_⟩
            obtain ⟨nla, x6, g6⟩ := alL (T := T) nla ([p1, p2, p3, p4, sa, p5].map V.ref)
            show tCall _ _ _ _ _ (upd G5 la (.lst ([p1, p2, p3, p4, sa, p5].map V.ref))) _
            generalize upd G5 la _ = G6 at x6 g6 ⊢
            have x16 := x15.trans x6
            have T16 := T7.ext x16
            have hlt := ((T7.ext x15).ne nla).1
            walk_at "rd_2"
            refine ⟨l, t, 6, rfl, by decide, by decide, T16, fun d2 G7 h20 h21 x7 T17 => ?_⟩
            obtain ⟨a, gs, ha1, ha2⟩ := pick_cl (H := G7) (t := t) (n := 3) (as := [p1, p2, p3, p4, sa, p5]) (fun a ha => by
              simp only [List.mem_cons, List.not_mem_nil, or_false] at ha
              rcases ha with rfl | rfl | rfl | rfl | rfl | rfl
              · exact ⟨_, (((((g1.x x2).x x3).x x4).x x5).x x6).y x7⟩
              · exact ⟨_, ((((g2.x x3).x x4).x x5).x x6).y x7⟩
              · exact ⟨_, (((g3.x x4).x x5).x x6).y x7⟩
              · exact ⟨_, ((g4.x x5).x x6).y x7⟩
              · exact ⟨_, (hs7.x x16).y x7⟩
              · exact ⟨_, (g5.x x6).y x7⟩) h20 (by show d2 < 6; omega)
            refine rd_ixL (SqL.of (lst.y g6 x7 hlt)) ha1 ?_
            walk_at "rd_2"
            exact hnx _ _ ⟨(e7.trans x16.any).trans x7, T17, ca, a, cs, gs, rfl, (fun z e => by obtain ⟨n, k, e2⟩ := hks'.mp hk; rw [e] at e2; cases e2), (hc7.x x16).y x7, ha2, (hu7.x x16).y x7 T16, (hx7.x x16).y x7 T16, (ho7.x x16).y x7⟩
        · walk_at "rd_2"
          refine rd_ite (fun hd => ?_) (fun hd => ?_)
          · walk_at "rd_2"
            refine hk6.take (T := T) T6 (by decide) fun p1 G1 _ x1 g1 => ?_
            walk_at "rd_2"
            refine (hk6.x x1).mid (T := T) (T6.ext x1) (by decide) (by decide) fun p2 G2 _ x2 g2 => ?_
            walk_at "rd_2"
            have x12 := x1.trans x2
            refine (hk6.x x12).take (T := T) (T6.ext x12) (by decide) fun p3 G3 _ x3 g3 => ?_
            walk_at "rd_2"
            have x13 := x12.trans x3
            refine ⟨by show 3 ≤ sizeLine; decide, fun la nla => ?_⟩
            obtain ⟨nla, x6, g6⟩ := alL (T := T) nla ([p1, p2, p3].map V.ref)
            show tVar _ _ (upd G3 la (.lst ([p1, p2, p3].map V.ref))) _
            generalize upd G3 la _ = G6 at x6 g6 ⊢
            have x16 := x13.trans x6
            walk_at "rd_2"
            obtain ⟨a, gs, ha1, ha2, hga⟩ := pick_clP (p := fun gs => gs ≠ []) (H := G6) (t := t) (n := 3) (as := [p1, p2, p3]) (fun a ha => by
              simp only [List.mem_cons, List.not_mem_nil, or_false] at ha
              rcases ha with rfl | rfl | rfl
              · exact ⟨_, ((g1.x x2).x x3).x x6, (cut_ne hk3l).1⟩
              · exact ⟨_, (g2.x x3).x x6, (cut_ne hk3l).2.1⟩
              · exact ⟨_, g3.x x6, (cut_ne hk3l).2.2⟩) h0 (by show d < 3; omega)
            refine rd_ixL (SqL.of g6) ha1 ?_
            walk_at "rd_2"
            exact hnx _ _ ⟨e06.trans x16.any, T6.ext x16, a, sa, gs, i.g, rfl, fun _ _ => hga, ha2.wide (by decide), hs6.x x16, hu6.x x16, hx6.x x16, ho6.x x16⟩
          · walk_at "rd_2"
            refine rd_ite (fun hd3 => ?_) (fun hd3 => ?_)
            · walk_at "rd_2"
              refine hk6.mid (T := T) T6 (by decide) (by decide) fun p1 G1 np1 x1 g1 => ?_
              walk_at "rd_2"
              refine (hk6.x x1).mid (T := T) (T6.ext x1) (by decide) (by decide) fun p2 G2 np2 x2 g2 => ?_
              have g1' := g1.x x2
              refine rd_catA T g1'.at_ g2.at_ ?_ fun p3 G3 np3 x3 hp3 => ?_
              · rw [List.length_map, List.length_map]
                have := g1'.len
                have := g2.len
                omega
              walk_at "rd_2"
              have x13 := (x1.trans x2).trans x3
              rw [← List.map_append] at hp3
              refine hnx _ _ ⟨e06.trans x13.any, T6.ext x13, p3, sa, _, i.g, rfl, fun _ _ e => (cut_ne hk3l).2.1 (List.append_eq_nil_iff.mp e).2, ⟨hp3, (((T6.ext x1).ext x2).ne np3).1, ?_, fun y hy => ?_, ?_⟩, hs6.x x13, hu6.x x13, hx6.x x13, ho6.x x13⟩
              · have hn := hk6.nd
                match k2, hn with
                | [], _ => simp
                | [a], _ => simp
                | [a, b], _ => simp
                | a :: b :: c :: r, hn =>
                  simp only [List.nodup_cons, List.mem_cons, not_or] at hn
                  show ([c] ++ [b]).Nodup
                  simp
                  exact fun e => hn.2.1.1 e.symm
              · rcases List.mem_append.mp hy with h | h
                · exact g1.ok y h
                · exact g2.ok y h
              · rw [List.length_append]
                have := hk6.len
                rw [List.length_drop, List.length_take, List.length_drop, List.length_take]
                show min 3 k2.length - 2 + (min 2 k2.length - 1) ≤ 4
                omega
            · walk_at "rd_2"
              exact hnx _ _ ⟨e06, T6, ca, sa, i.c, i.g, rfl, hi.kc, hc6, hs6, hu6, hx6, ho6⟩
      · obtain ⟨e7, T7, ca, sa, cs, gs, rfl, hcn7, hc7, hs7, hu7, hx7, ho7⟩ := h
        clear e06 T6 hs6 hc6 hk6 hu6 hx6 ho6
        refine rd_cut (fun σ H8 => Ext T [t] H H8 ∧ Tape l H8 t ∧ ∃ (sa : Addr) (gs : List Str), σ = [some (.ref t), some v, some (.ref pa), some u, some x, some (.ref oa), some (.ref ka), some (.ref ca), some (.ref sa), some (.int d), none] ∧ CL H8 t ca 4 cs ∧ CL H8 t sa 3 gs ∧ Im H8 x (.tuple [.tuple (i.c.map .str), .int i.li, .tuple (i.g.map .str), .int i.a, .int i.b])) (fun nx' hnx => ?_) (fun σ H8 h => ?_)
        · walk_at "rd_2"
          refine rd_ixSs hu7 (at_zero _ _) ?_
          walk_at "rd_2"
          refine rd_itn (fun hk => ?_) (fun hk => ?_)
          · walk_at "rd_2"
            exact hnx _ _ ⟨e7, T7, sa, gs, rfl, hc7, hs7, hx7⟩
          · walk_at "rd_2"
            refine ⟨l, t, 2, rfl, by decide, by decide, T7, fun d2 H8 h20 h21 e8 T8 => ?_⟩
            have hc8 := hc7.y e8
            have hs8 := hs7.y e8
            have hx8 := hx7.y e8 T7
            have ho8 := ho7.y e8
            have e08 := e7.trans e8
            walk_at "rd_2"
            refine rd_ite (fun hd => ?_) (fun hd => ?_)
            · walk_at "rd_2"
              refine ho8.take (T := T) T8 (by decide) fun p1 G1 _ x1 g1 => ?_
              walk_at "rd_2"
              refine (ho8.x x1).mid (T := T) (T8.ext x1) (by decide) (by decide) fun p2 G2 _ x2 g2 => ?_
              walk_at "rd_2"
              have x12 := x1.trans x2
              refine (ho8.x x12).take (T := T) (T8.ext x12) (by decide) fun p3 G3 _ x3 g3 => ?_
              walk_at "rd_2"
              have x13 := x12.trans x3
              refine ⟨by show 3 ≤ sizeLine; decide, fun la nla => ?_⟩
              obtain ⟨nla, x6, g6⟩ := alL (T := T) nla ([p1, p2, p3].map V.ref)
              show tCall _ _ _ _ _ (upd G3 la (.lst ([p1, p2, p3].map V.ref))) _
              generalize upd G3 la _ = G6 at x6 g6 ⊢
              have x16 := x13.trans x6
              have T16 := T8.ext x16
              have hlt := ((T8.ext x13).ne nla).1
              walk_at "rd_2"
              refine ⟨l, t, 3, rfl, by decide, by decide, T16, fun d3 G7 h30 h31 x7 T17 => ?_⟩
              obtain ⟨a, gs, ha1, ha2⟩ := pick_cl (H := G7) (t := t) (n := 3) (as := [p1, p2, p3]) (fun a ha => by
                simp only [List.mem_cons, List.not_mem_nil, or_false] at ha
                rcases ha with rfl | rfl | rfl
                · exact ⟨_, (((g1.x x2).x x3).x x6).y x7⟩
                · exact ⟨_, ((g2.x x3).x x6).y x7⟩
                · exact ⟨_, (g3.x x6).y x7⟩) h30 (by show d3 < 3; omega)
              refine rd_ixL (SqL.of (lst.y g6 x7 hlt)) ha1 ?_
              walk_at "rd_2"
              exact hnx _ _ ⟨(e08.trans x16.any).trans x7, T17, a, gs, rfl, (hc8.x x16).y x7, ha2, (hx8.x x16).y x7 T16⟩
            · walk_at "rd_2"
              exact hnx _ _ ⟨e08, T8, sa, gs, rfl, hc8, hs8, hx8⟩
        · obtain ⟨e8, T8, sa, gs, rfl, hc8, hs8, hx8⟩ := h
          clear e7 T7 hc7 hs7 hu7 hx7 ho7
          refine rd_cut (fun σ H9 => Ext T [t] H H9 ∧ Tape l H9 t ∧ ∃ (li : Int), σ = [some (.ref t), some v, some (.ref pa), some u, some x, some (.ref oa), some (.ref ka), some (.ref ca), some (.ref sa), some (.int d), some (.int li)] ∧ 1 ≤ li ∧ li ≤ 1000 ∧ CL H9 t ca 4 cs ∧ CL H9 t sa 3 gs ∧ Im H9 x (.tuple [.tuple (i.c.map .str), .int i.li, .tuple (i.g.map .str), .int i.a, .int i.b])) (fun nx' hnx => ?_) (fun σ H9 h => ?_)
          · walk_at "rd_2"
            refine ⟨l, t, 2, rfl, by decide, by decide, T8, fun d2 H9 h20 h21 e9 T9 => ?_⟩
            have hx9 := hx8.y e9 T8
            walk_at "rd_2"
            refine rd_ite (fun hd => ?_) (fun hd => ?_)
            · walk_at "rd_2"
              refine rd_ixI (d := .int i.li) hx9 rfl fun u1 hu1 => ?_
              rw [hu1.int']
              walk_at "rd_2"
              exact hnx _ _ ⟨e8.trans e9, T9, i.li, rfl, hi.li.1, hi.li.2, hc8.y e9, hs8.y e9, hx9⟩
            · walk_at "rd_2"
              refine ⟨l, t, rfl, T9, fun li H10 hl0 hl1 e10 T10 => ?_⟩
              walk_at "rd_2"
              exact hnx _ _ ⟨(e8.trans e9).trans e10, T10, li, rfl, hl0, hl1, (hc8.y e9).y e10, (hs8.y e9).y e10, hx9.y e10 T9⟩
          · obtain ⟨e9, T9, li, rfl, hl0, hl1, hc9, hs9, hx9⟩ := h
            walk_at "rd_2"
            refine rd_sortA T (ds := cs.map .str) ⟨_, hc9.at_, ImAll.strs fun z hz => id_ok (hc9.ok z hz)⟩ (alike_s cs) (sortable_s cs) (depth_s cs) fun s1 G1 ys n1 x1 hs1 hys => ?_
            rw [srtS_eq] at hys
            walk_at "rd_2"
            refine rd_tupA T hs1 fun t1 G2 nt1 x2 ht1 => ?_
            have hct := Im.tup ht1 (hys.x x2)
            have x12 := x1.trans x2
            walk_at "rd_2"
            refine rd_sortA T (ds := gs.map .str) ⟨_, (hs9.x x12).at_, ImAll.strs fun z hz => id_ok (hs9.ok z hz)⟩ (alike_s gs) (sortable_s gs) (depth_s gs) fun s3 G3 zs n3 x3 hs3 hzs => ?_
            rw [srtS_eq] at hzs
            walk_at "rd_2"
            refine rd_tupA T hs3 fun t3 G4 nt3 x4 ht3 => ?_
            have hgt := Im.tup ht3 (hzs.x x4)
            have x14 := (x12.trans x3).trans x4
            have hx10 := hx9.x x14
            walk_at "rd_2"
            refine rd_ixI (d := .int i.a) hx10 rfl fun u1 hu1 => ?_
            rw [hu1.int']
            walk_at "rd_2"
            refine rd_ixI (d := .int i.b) hx10 rfl fun u1 hu1 => ?_
            rw [hu1.int']
            walk_at "rd_2"
            refine ⟨by show 5 ≤ sizeLine; decide, fun r nr => ?_⟩
            obtain ⟨_, x5, h5⟩ := alT (T := T) nr [.ref t1, .int li, .ref t3, .int i.a, .int i.b]
            generalize upd G4 r _ = G5 at x5 h5 ⊢
            have x15 := x14.trans x5
            refine q _ ⟨srtS cs, li, srtS gs, i.a, i.b⟩ G5 ⟨⟨cs, rfl, hc9.nd, hc9.ok, hc9.len⟩, ⟨gs, rfl, hs9.nd, hs9.ok, hs9.len⟩, ⟨hl0, hl1⟩, hi.ab, fun z e => absurd e (hnh z), fun z e => srtS_ne (hcn7 z e)⟩ (.tup h5 (.cons (((hct.x x3).x x4).x x5) (.cons (.int _) (.cons (hgt.x x5) (.cons (.int _) (.cons (.int _) .nil)))))) (e9.trans x15.any) (T9.ext x15)
end
section
variable {T : List (Addr × Str)} {P : Program} {w : World} {K : PySem.W.Frag} {mg : Str → Option Value} {base : Heap}
theorem ok_law_deed (D : Def K mg "_law_deed" s_law_deed ["tape", "realm", "pools", "state"]) (mb : ∀ x ∈ bltns, mg x = none) (G_law_take : Ok P w K mg base 2 "_law_take" ["tape", "many"] (spTake T)) (G_law_slots : Ok P w K mg base 1 "_law_slots" ["realm"] (spSlots T))
    (G_law_server_deed : Ok P w K mg base 4 "_law_server_deed" ["tape", "realm", "state"] (spServer T)) (G_law_life : Ok P w K mg base 3 "_law_life" ["tape"] (spInt T 1 1000)) (G_law_item : Ok P w K mg base 1 "_law_item" ["content", "life", "signers"] (spItem T))
    (G_law_at : Ok P w K mg base 1 "_law_at" ["state", "slot"] (spAt T)) (G_law_mixed : Ok P w K mg base 5 "_law_mixed" ["tape", "realm", "pools", "slot", "item"] (spMixed T)) : Ok P w K mg base 6 "_law_deed" ["tape", "realm", "pools", "state"] (spDeed T) := by
  refine D.ok sc_law_deed (fun vs H Q E h => ?_) (fun cdv f A outer s H vs Q E hr h => ?_)
  · obtain ⟨l, t, pa, v, u, R, ps, s, rfl, _⟩ := h
    rfl
  · obtain ⟨l, t, pa, v, u, R, ps, s, rfl, hT, hv, hR, hP, hps, hu, hs, q⟩ := h
    refine ⟨_, (pss_cons (ps_set (i := 4) sc_law_deed.nd rfl (.inl rfl) (pe_callO G_law_slots (hr.mono (by decide)) (by rfl) (pa_cons (pv 1) pa_nil)))
   (pss_cons (ps_if (PW.pt (pw_and (pt_cmpR op_gt (pe_callB (call_lenU K rfl) (by rfl) (mb _ (by decide)) (by decide +kernel) (pa_cons (pe_ix (ix_U K rfl) (pv 1) pe_int (fun _ _ => rfl)) pa_nil)) pe_int (nomark _)) (pw_and1 (pt_cmpR (op_eqU K rfl hr.units) (pe_callO G_law_take (hr.mono (by decide)) (by rfl) (pa_cons (pv 0) (pa_cons pe_int pa_nil))) pe_int (nomark _))))) (pss_one (ps_ret (pe_callO G_law_server_deed (hr.mono (by decide)) (by rfl) (pa_cons (pv 0) (pa_cons (pv 1) (pa_cons (pv 3) pa_nil)))))) pss_nil)
   (pss_cons (ps_set (i := 5) sc_law_deed.nd rfl (.inl rfl) (pe_ix (ix_U K rfl) (pv 4) (pe_callO G_law_take (hr.mono (by decide)) (by rfl) (pa_cons (pv 0) (pa_cons (pe_callB (call_lenU K rfl) (by rfl) (mb _ (by decide)) (by decide +kernel) (pa_cons (pv 4) pa_nil)) pa_nil))) (fun _ _ => rfl)))
   (pss_cons (ps_if (pt_cmpR (op_eqU K rfl hr.units) (pe_ix (ix_U K rfl) (pv 5) pe_int (fun _ _ => rfl)) pe_str (nomark _)) (pss_one (ps_ret (pe_tup (pa_cons pe_str (pa_cons (pv 5) (pa_cons (pe_callO G_law_item (hr.mono (by decide)) (by rfl) (pa_cons (pe_lst (pa_cons pe_str (pa_cons pe_str pa_nil))) (pa_cons (pe_callO G_law_life (hr.mono (by decide)) (by rfl) (pa_cons (pv 0) pa_nil)) (pa_cons (pe_lst pa_nil) pa_nil)))) pa_nil)))))) pss_nil)
   (pss_cons (ps_set (i := 6) sc_law_deed.nd rfl (.inl rfl) (pe_callO G_law_mixed (hr.mono (by decide)) (by rfl) (pa_cons (pv 0) (pa_cons (pv 1) (pa_cons (pv 2) (pa_cons (pv 5) (pa_cons (pe_callO G_law_at (hr.mono (by decide)) (by rfl) (pa_cons (pv 3) (pa_cons (pv 5) pa_nil))) pa_nil)))))))
   (pss_cons (ps_if (pt_cmpR (op_eqU K rfl hr.units) (pe_callO G_law_take (hr.mono (by decide)) (by rfl) (pa_cons (pv 0) (pa_cons pe_int pa_nil))) pe_int (nomark _)) (pss_cons (ps_set (i := 7) sc_law_deed.nd rfl (.inl rfl) (pe_callO G_law_take (hr.mono (by decide)) (by rfl) (pa_cons (pv 0) (pa_cons pe_int pa_nil))))
   (pss_one (ps_set (i := 6) sc_law_deed.nd rfl (.inl rfl) (pe_op (op_plus K rfl) (pe_slice (sl_U K rfl) (pv 6) po_none (po_some pe_int)) (pe_tup (pa_cons (pv 7) (pa_cons (pe_op (op_plus K rfl) (pv 7) (pe_callO G_law_take (hr.mono (by decide)) (by rfl) (pa_cons (pv 0) (pa_cons pe_int pa_nil)))) pa_nil))))))) pss_nil)
   (pss_one (ps_ret (pe_tup (pa_cons pe_str (pa_cons (pv 5) (pa_cons (pv 6) pa_nil)))))))))))), ?_⟩
    refine rd_seq ?_
    walk_at "rdn_2"
    refine ⟨v, R, rfl, hv, hR, fun sp H1 nsp e1 hsp => ?_⟩
    have hspt := (hT.ne nsp).1
    have hv1 := hv.x e1
    have hP1 := hP.ext0 e1
    have hu1 := hu.x e1
    have T1 := hT.ext e1
    clear hv hP hu hT
    walk_at "rdn_2"
    have hsl := slots_len hR
    -- the rest of it, behind the first draw
    refine rd_cut (fun σ H2 => Ext T [t] H H2 ∧ Tape l H2 t ∧ σ = [some (.ref t), some v, some (.ref pa), some u, some (.ref sp), none, none, none] ∧ Im H2 v (rmD R) ∧ Pools H2 t pa ps ∧ StAt H2 u s ∧ Ls H2 sp ((slotsR R).map slD)) (fun nx' hnx => ?_) (fun σ H2 h => ?_)
    · walk_at "rd_2"
      refine rd_ixI (d := .tuple (R.zs.map siD)) hv1 rfl fun u1 hu2 => ?_
      obtain ⟨zp, zx, rfl, hzp, hzi⟩ := hu2.tup'
      walk_at "rd_2"
      refine rd_lenT (SqP.sq hzp) ?_
      walk_at "rd_2"
      refine rd_ite (fun hz => ?_) (fun hz => ?_)
      · walk_at "rd_2"
        refine ⟨l, t, 4, rfl, by decide, by decide, T1, fun d H2 h0 h1 e2 T2 => ?_⟩
        walk_at "rd_2"
        refine rd_ite (fun hd => ?_) (fun hd => ?_)
        · walk_at "rd_2"
          refine ⟨l, t, v, u, R, s, rfl, T2, hv1.y e2 T1, hR, ?_, hu1.y e2 T1, hs.on, fun x d H3 hd hod hx e3 T3 => ?_⟩
          · rw [hzi.len, List.length_map] at hz
            have hz : (1 : Int) < (R.zs.length : Int) := hz
            omega
          · exact q x d H3 hd hod hx ((e1.any.trans e2).trans e3) T3
        · walk_at "rd_2"
          exact hnx _ _ ⟨e1.any.trans e2, T2, rfl, hv1.y e2 T1, hP1.ext e2 T1, hu1.y e2 T1, hsp.y e2 hspt T1⟩
      · walk_at "rd_2"
        exact hnx _ _ ⟨e1.any, T1, rfl, hv1, hP1, hu1, hsp⟩
    · obtain ⟨e2, T2, rfl, hv2, hP2, hu2, hsp2⟩ := h
      clear e1 T1 hv1 hP1 hu1 hsp
      obtain ⟨sx, hsx, hsi⟩ := hsp2.list
      have hsxl : sx.length = (slotsR R).length := by rw [hsi.len, List.length_map]
      have hpos : 0 < (slotsR R).length := by
        unfold slotsR
        simp
      refine rd_seq ?_
      walk_at "rdn_2"
      refine ⟨l, t, _, rfl, by omega, by omega, T2, fun d H3 h0 h1 e3 T3 => ?_⟩
      have hsp3 := hsp2.y e3 hspt T2
      have hv3 := hv2.y e3 T2
      have hP3 := hP2.ext e3 T2
      have hu3 := hu2.y e3 T2
      have e03 := e2.trans e3
      obtain ⟨c, hc1, hc2, hc3⟩ := at_in (l := (slotsR R).map slD) h0 (by rw [List.length_map]; omega)
      obtain ⟨sl, hslm, rfl⟩ := List.mem_map.mp hc3
      clear e2 T2 hv2 hP2 hu2 hsp2 hsx hsi e3
      refine rd_ixLs hsp3 hc1 fun y hy => ?_
      walk_at "rdn_2"
      by_cases hh : ∃ z, sl = .h z
      · obtain ⟨z, hz⟩ := hh
        subst hz
        have hy' : Im H3 y (.tuple [.str (Str.ofString "hosts"), .str z]) := hy
        refine rd_seq ?_
        walk_at "rdn_2"
        refine rd_ixSs hy' rfl ?_
        walk_at "rd_2"
        refine rd_ite (fun _ => ?_) (fun h => absurd rfl h)
        walk_at "rd_2"
        refine ⟨by show 2 ≤ sizeLine; decide, fun la nla => ?_⟩
        obtain ⟨nla, x1, hla⟩ := alL (T := T) nla (sL.map V.str)
        show tCons _ _ _ (upd H3 la (.lst (sL.map V.str))) _
        generalize upd H3 la _ = G1 at x1 hla ⊢
        have hlt := (T3.ne nla).1
        walk_at "rd_2"
        refine ⟨l, t, rfl, T3.ext x1, fun li G2 hl0 hl1 x2 T4 => ?_⟩
        walk_at "rd_2"
        refine ⟨by show 0 ≤ sizeLine; decide, fun ea nea => ?_⟩
        obtain ⟨_, x3, hea⟩ := alL (T := T) nea []
        refine rd_nil ?_
        generalize upd G2 ea _ = G3 at x3 hea ⊢
        refine ⟨la, ea, sL, [], li, rfl, lst.x (lst.y hla x2 hlt) x3, hea, sL_ok.2, by simp, fun it G4 x4 hit => ?_⟩
        walk_at "rd_2"
        refine ⟨by show 3 ≤ sizeLine; decide, fun r nr => ?_⟩
        obtain ⟨_, x5, hr5⟩ := alT (T := T) nr [.str (Str.ofString "put"), y, it]
        generalize upd G4 r _ = G5 at x5 hr5 ⊢
        refine q _ (.put (.h z) ⟨srtS sL, li, srtS [], 0, 10000⟩) G5 ⟨hslm, ⟨sL, rfl, sL_ok.1, sL_ok.2, by decide⟩, ⟨[], rfl, by simp, by simp, by simp⟩, ⟨hl0, hl1⟩, ⟨show (0 : Int) ≤ 0 by decide, show (0 : Int) ≤ 10000 by decide, show (10000 : Int) ≤ 10000 by decide⟩, fun _ _ => ⟨srtS_nil, rfl, rfl⟩, fun z e => by cases e⟩ trivial ?_ (((((e03.trans x1.any).trans x2).trans x3.any).trans x4.any).trans x5.any) (((T4.ext x3).ext x4).ext x5)
        exact .new3 (.str _ (by decide +kernel)) (((((hy.x x1).y x2 (T3.ext x1)).x x3).x x4).x x5) (hit.x x5) hr5
      · have hnh : ∀ z, sl ≠ .h z := fun z e => hh ⟨z, e⟩
        obtain ⟨kw, rr, hsl2, hkw⟩ : ∃ (kw : Str) (rr : List PyData), slD sl = .tuple (.str kw :: rr) ∧ ¬ kw = Str.ofString "hosts" := by
          cases sl with
          | k z => exact ⟨_, _, rfl, by decide +kernel⟩
          | l z => exact ⟨_, _, rfl, by decide +kernel⟩
          | h z => exact absurd rfl (hnh z)
          | s n k => exact ⟨_, _, rfl, by decide +kernel⟩
        have hy' : Im H3 y (.tuple (.str kw :: rr)) := by rw [← hsl2]; exact hy
        refine rd_seq ?_
        walk_at "rdn_2"
        refine rd_ixSs hy' (at_zero _ _) ?_
        walk_at "rdn_2"
        refine rd_ite (fun h => absurd h hkw) (fun _ => ?_)
        walk_at "rdn_2"
        refine rd_seq ?_
        walk_at "rdn_2"
        obtain ⟨it0, hit0⟩ := sta_find hs hslm
        refine ⟨u, y, s, sl, it0, rfl, hu3, hy, hit0, sta_nodup hR hs, sta_len hR hs hsl, fun x0 G1 x1 hx0 => ?_⟩
        walk_at "rdn_2"
        have T31 := T3.ext x1
        refine ⟨l, t, pa, v, y, x0, R, ps, sl, it0, rfl, T31, hv3.x x1, hR, hP3.ext0 x1, hps, hy.x x1, hslm, hnh, hx0, hs.ok _ hit0, fun x2 it G2 hit hx2 x3 T4 => ?_⟩
        have hy2 := (hy.x x1).y x3 T31
        have e02 := (e03.trans x1.any).trans x3
        walk_at "rdn_2"
        refine rd_cut (fun σ G3 => Ext T [t] H G3 ∧ Tape l G3 t ∧ ∃ (x : V) (it : Itm) (a : Option V), σ = [some (.ref t), some v, some (.ref pa), some u, some (.ref sp), some y, some x, a] ∧ ItmOk sl it ∧ Im G3 x (itD it) ∧ Im G3 y (slD sl)) (fun nx' hnx => ?_) (fun σ G3 h => ?_)
        · walk_at "rd_2"
          refine ⟨l, t, 8, rfl, by decide, by decide, T4, fun d2 G3 h20 h21 x4 T5 => ?_⟩
          have hx3 := hx2.y x4 T4
          have hy3 := hy2.y x4 T4
          walk_at "rd_2"
          refine rd_ite (fun hd => ?_) (fun hd => ?_)
          · walk_at "rd_2"
            refine ⟨l, t, 60, rfl, by decide, by decide, T5, fun d3 G4 h30 h31 x5 T6 => ?_⟩
            have hx4 := hx3.y x5 T5
            have hy4 := hy3.y x5 T5
            obtain ⟨xa, xx, rfl, hxa, hxx⟩ := hx4.tup'
            have hx5 : xx.length = 5 := hxx.len
            walk_at "rd_2"
            refine rd_slT (SqP.sq hxa) (fun h => ?_) fun sa nsa => ?_
            · have h0 := h.2
              rw [show HT.sIx xx.length xx.length (some 3) = min 3 xx.length from HT.sIx_nat xx.length xx.length 3] at h0
              omega
            rw [cutV_to _ (by decide), show Int.toNat 3 = 3 from rfl]
            obtain ⟨_, x6, hsa⟩ := alT (T := T) nsa (xx.take 3)
            show tTup _ _ (upd G4 sa (.tup (xx.take 3))) _
            generalize upd G4 sa _ = G5 at x6 hsa ⊢
            walk_at "rd_2"
            refine ⟨l, t, 200, rfl, by decide, by decide, T6.ext x6, fun d4 G6 h40 h41 x7 T7 => ?_⟩
            walk_at "rd_2"
            refine ⟨by show 2 ≤ sizeLine; decide, fun tb ntb => ?_⟩
            obtain ⟨_, x8, htb⟩ := alT (T := T) ntb [.int d3, .int (d3 + d4)]
            show rPlus _ _ _ (upd G6 tb (.tup [.int d3, .int (d3 + d4)])) _
            generalize upd G6 tb _ = G7 at x8 htb ⊢
            have hsa7 : SqP G7 sa (xx.take 3) := SqP.x (.inl (tup.ext hsa x7 (T6.ext x6).lsts)) x8
            refine rd_catT (SqP.sq hsa7) (SqT.of htb) (fun e => ?_) (by simp) ?_ fun tc ntc => ?_
            · have := congrArg List.length e
              rw [List.length_take] at this
              simp only [List.length_nil] at this
              omega
            · rw [List.length_take]
              exact Nat.le_trans (show _ ≤ 100 by simp only [List.length_cons, List.length_nil]; omega) (by decide)
            obtain ⟨_, x9, htc⟩ := alT (T := T) ntc (xx.take 3 ++ [.int d3, .int (d3 + d4)])
            show gName 6 _ _ (upd G7 tc (.tup (xx.take 3 ++ [.int d3, .int (d3 + d4)]))) _
            generalize upd G7 tc _ = G8 at x9 htc ⊢
            refine rd_name ?_
            have hx8 : ImAll G8 (xx.take 3 ++ [.int d3, .int (d3 + d4)]) [.tuple (it.c.map .str), .int it.li, .tuple (it.g.map .str), .int d3, .int (d3 + d4)] :=
              (((((hxx.take 3).x x6).y x7 (T6.ext x6)).x x8).x x9).app (.cons (.int _) (.cons (.int _) .nil))
            refine hnx _ _ ⟨(((((e02.trans x4).trans x5).trans x6.any).trans x7).trans x8.any).trans x9.any, (T7.ext x8).ext x9, .ref tc, ⟨it.c, it.li, it.g, d3, d3 + d4⟩, _, rfl, ⟨hit.c, hit.g, hit.li, ⟨h30, show d3 ≤ d3 + d4 by omega, show d3 + d4 ≤ 10000 by omega⟩, fun z e => absurd e (hnh z), hit.kc⟩, .tup htc hx8, (((hy4.x x6).y x7 (T6.ext x6)).x x8).x x9⟩
          · walk_at "rd_2"
            exact hnx _ _ ⟨e02.trans x4, T5, x2, it, _, rfl, hit, hx3, hy3⟩
        · obtain ⟨e4, T5, x, it', a, rfl, hit', hx, hy5⟩ := h
          walk_at "rd_2"
          refine ⟨by show 3 ≤ sizeLine; decide, fun r nr => ?_⟩
          obtain ⟨_, x5, hr5⟩ := alT (T := T) nr [.str (Str.ofString "put"), y, x]
          generalize upd G3 r _ = G5 at x5 hr5 ⊢
          exact q _ (.put sl it') G5 ⟨hslm, hit'⟩ trivial (.new3 (.str _ (by decide +kernel)) (hy5.x x5) (hx.x x5) hr5) (e4.trans x5.any) (T5.ext x5)
end
section
variable {T : List (Addr × Str)} {P : Program} {w : World} {K : PySem.W.Frag} {mg : Str → Option Value} {base : Heap}
local macro_rules | `(tactic| walk_at "tr_2") => `(tactic| first
  | assumption
  | exact Ext.refl
  | ((with_reducible refine' Im.x (T := T) (H := ?trH) ?tra ?tre); (case tre => assumption); (case tra => walk_at "tr_2"))
  | ((with_reducible refine' Im.y (T := T) (H := ?trH) ?tra ?tre ?trt); (case tre => assumption); (case trt => walk_at "tr_2"); (case tra => walk_at "tr_2"))
  | ((with_reducible refine' ImAll.x (T := T) (H := ?trH) ?tra ?tre); (case tre => assumption); (case tra => walk_at "tr_2"))
  | ((with_reducible refine' ImAll.y (T := T) (H := ?trH) ?tra ?tre ?trt); (case tre => assumption); (case trt => walk_at "tr_2"); (case tra => walk_at "tr_2"))
  | ((with_reducible refine' Ls.x (T := T) (H := ?trH) ?tra ?tre); (case tre => assumption); (case tra => walk_at "tr_2"))
  | ((with_reducible refine' Ls.y (T := T) (H := ?trH) ?tra ?tre ?trn ?trt); (case tre => assumption); (case trt => walk_at "tr_2"); (case trn => walk_at "tr_2"); (case tra => walk_at "tr_2"))
  | ((with_reducible refine' SqP.x (T := T) (H := ?trH) ?tra ?tre); (case tre => assumption); (case tra => walk_at "tr_2"))
  | ((with_reducible refine' SqP.y (T := T) (H := ?trH) ?tra ?tre ?trt); (case tre => assumption); (case trt => walk_at "tr_2"); (case tra => walk_at "tr_2"))
  | ((with_reducible refine' StAt.x (T := T) (H := ?trH) ?tra ?tre); (case tre => assumption); (case tra => walk_at "tr_2"))
  | ((with_reducible refine' StAt.y (T := T) (H := ?trH) ?tra ?tre ?trt); (case tre => assumption); (case trt => walk_at "tr_2"); (case tra => walk_at "tr_2"))
  | ((with_reducible refine' Pools.ext0 (T := T) (H := ?trH) ?tra ?tre); (case tre => assumption); (case tra => walk_at "tr_2"))
  | ((with_reducible refine' Pools.ext (T := T) (H := ?trH) ?tra ?tre ?trt); (case tre => assumption); (case trt => walk_at "tr_2"); (case tra => walk_at "tr_2"))
  | ((with_reducible refine' CL.x (T := T) (H := ?trH) ?tra ?tre); (case tre => assumption); (case tra => walk_at "tr_2"))
  | ((with_reducible refine' CL.y (T := T) (H := ?trH) ?tra ?tre); (case tre => assumption); (case tra => walk_at "tr_2"))
  | ((with_reducible refine' Tape.ext (T := T) (H := ?trH) ?tra ?tre); (case tre => assumption); (case tra => walk_at "tr_2"))
  | ((with_reducible refine' lst.x (T := T) (H := ?trH) ?tra ?tre); (case tre => assumption); (case tra => walk_at "tr_2"))
  | ((with_reducible refine' lst.y (T := T) (H := ?trH) ?tra ?tre ?trn); (case tre => assumption); (case trn => walk_at "tr_2"); (case tra => walk_at "tr_2"))
  | ((with_reducible refine' tup.x (T := T) (H := ?trH) ?tra ?tre); (case tre => assumption); (case tra => walk_at "tr_2"))
  | ((with_reducible refine' tup.y (T := T) (H := ?trH) ?tra ?tre ?trt); (case tre => assumption); (case trt => walk_at "tr_2"); (case tra => walk_at "tr_2"))
  | ((with_reducible refine' frz.x (T := T) (H := ?trH) ?tra ?tre); (case tre => assumption); (case tra => walk_at "tr_2"))
  | ((with_reducible refine' frz.y (T := T) (H := ?trH) ?tra ?tre ?trt); (case tre => assumption); (case trt => walk_at "tr_2"); (case tra => walk_at "tr_2"))
  | ((with_reducible refine' Tape.ne1 (H := ?trH) ?trt ?trn); (case trn => assumption); (case trt => walk_at "tr_2"))
  | ((with_reducible refine' Ext.trans (H1 := ?trH) ?tra (Ext.any ?tre)); (case tre => assumption); (case tra => walk_at "tr_2"))
  | ((with_reducible refine' Ext.trans (H1 := ?trH) ?tra ?tre); (case tre => assumption); (case tra => walk_at "tr_2"))
  | ((with_reducible refine' Ext.back1 (T := T) (H1 := ?trH) ?tre ?trn ?tra); (case tra => assumption); (case trn => walk_at "tr_2"); (case tre => walk_at "tr_2"))
  | ((with_reducible refine' Ext.back0 (T := T) (H1 := ?trH) ?tre ?tra); (case tra => assumption); (case tre => walk_at "tr_2"))
  | ((with_reducible refine' SqT.of ?tra); (case tra => walk_at "tr_2"))
  | ((with_reducible refine' SqL.of ?tra); (case tra => walk_at "tr_2")))
local macro_rules | `(tactic| walk_at "al_2") => `(tactic| (refine ⟨by first | (show _ ≤ sizeLine; decide) | walk_at "sz_2", ?_⟩; intro alp aln; generalize alG : upd _ alp _ = alH; obtain ⟨aln2, alx, alh⟩ := al_of (T := T) aln alG; clear alG aln))
local macro_rules | `(tactic| walk_at "al0_2") => `(tactic| (intro alp aln; generalize alG : upd _ alp _ = alH; obtain ⟨aln2, alx, alh⟩ := al_of (T := T) aln alG; clear alG aln))
theorem ok_law_deeds (D : Def K mg "_law_deeds" s_law_deeds ["tape", "realm", "pools", "state", "many"]) (mb : ∀ x ∈ bltns, mg x = none) (G_law_deed : Ok P w K mg base 6 "_law_deed" ["tape", "realm", "pools", "state"] (spDeed T)) (G_law_after : Ok P w K mg base 1 "_law_after" ["state", "deed"] (spAfter T)) :
    Ok P w K mg base 7 "_law_deeds" ["tape", "realm", "pools", "state", "many"] (spDeeds T) := by
  refine D.ok sc_law_deeds (fun vs H Q E h => ?_) (fun cdv f A outer s H vs Q E hr h => ?_)
  · obtain ⟨l, t, pa, v, u, R, ps, s, m, rfl, _⟩ := h
    rfl
  · obtain ⟨l, t, pa, v, u, R, ps, s, m, rfl, hT, hv, hR, hP, hps, hu, hs, hon, hm0, hm, q⟩ := h
    refine ⟨_, (pss_cons (ps_set (i := 5) sc_law_deeds.nd rfl (.inl rfl) (pe_lst pa_nil))
   (pss_cons (ps_for PassesOwn.never rfl (pi_range1 (by rfl) (mb _ (by decide)) (pa_cons (pv 4) pa_nil)) (pg_name (i := 6) sc_law_deeds.nd rfl (.inl rfl)) (pss_cons (ps_set (i := 7) sc_law_deeds.nd rfl (.inl rfl) (pe_callO G_law_deed (hr.mono (by decide)) (by rfl) (pa_cons (pv 0) (pa_cons (pv 1) (pa_cons (pv 2) (pa_cons (pv 3) pa_nil))))))
   (pss_cons (ps_expr (pe_bm PySem.F.plainAttrs_list PySem.F.slot_list_append PySem.F.type_list_append mt_append (pv 5) (pa_cons (pv 7) pa_nil)))
   (pss_one (ps_set (i := 3) sc_law_deeds.nd rfl (.inl rfl) (pe_callO G_law_after (hr.mono (by decide)) (by rfl) (pa_cons (pv 3) (pa_cons (pv 7) pa_nil))))))))
   (pss_one (ps_ret (pe_callTy (call_tupU K rfl) (by rfl) (mb _ (by decide)) (by decide +kernel) (pa_cons (pv 5) pa_nil)))))), ?_⟩
    refine rd_seq ?_
    walk_at "rdn_2"
    walk_at "al_2"
    rename_i dp H1 ndp e1 hdp
    have hdt : dp ≠ t := by walk_at "tr_2"
    walk_at "rdn_2"
    refine rd_cut (fun σ H2 => Ext T [t] H H2 ∧ Tape l H2 t ∧ ∃ (ds : List Dd) (u : V) (a b : Option V), σ = [some (.ref t), some v, some (.ref pa), some u, some (.int m), some (.ref dp), a, b] ∧ Ls H2 dp (ds.map ddD) ∧ (∀ d ∈ ds, DdOk R d) ∧ OnOk s ds ∧ (ds.length : Int) = m) (fun nx' hnx => ?_) (fun σ H2 h => ?_)
    · walk_at "rd_2"
      refine ⟨Int.le_trans (by decide) hm0, Int.lt_of_le_of_lt hm (by decide), ?_⟩
      refine forg_range (n := m.toNat) (fun i σ H2 => Ext T [t] H H2 ∧ Tape l H2 t ∧ ∃ (ds : List Dd) (u : V) (s1 : Sta) (a b : Option V), σ = [some (.ref t), some v, some (.ref pa), some u, some (.int m), some (.ref dp), a, b] ∧ Ls H2 dp (ds.map ddD) ∧ (∀ d ∈ ds, DdOk R d) ∧ ds.length = i ∧ StAt H2 u s1 ∧ StaOk R s1 ∧ s1.on.length ≤ 50 + i ∧ OnOk s ds ∧ s1 = ds.foldl aft s)
        ⟨by walk_at "tr_2", by walk_at "tr_2", [], u, s, none, none, rfl, ⟨_, hdp, .nil⟩, by simp, rfl, by walk_at "tr_2", hs, by omega, trivial, rfl⟩ (fun i σ H2 hi h => ?_) (fun σ H2 h => ?_)
      · obtain ⟨e2, T2, ds, u', s', a, b, rfl, hds, hok, hl, hu2, hs2, hon2, hoo, hse⟩ := h
        walk_at "rd_2"
        refine ⟨l, t, pa, v, u', R, ps, s', rfl, T2, by walk_at "tr_2", hR, by walk_at "tr_2", hps, hu2, hs2, fun x d H3 hd hod hx e3 T3 => ?_⟩
        have hds3 : Ls H3 dp (ds.map ddD) := by walk_at "tr_2"
        obtain ⟨dx, hdx, hdi⟩ := hds3.list
        refine rd_name ?_
        refine rd_seq ?_
        refine rd_drop ?_
        refine rd_bm ?_
        refine rd_var rfl ?_
        refine rd_tyL hdx ?_
        refine rd_cons ?_
        refine rd_var rfl ?_
        refine rd_nil ?_
        refine rd_appLs hds3 hx ?_ fun ys hy hds4 => ?_
        · rw [List.length_map, hl]
          exact Nat.lt_of_le_of_lt (show i ≤ 100 by omega) (by decide)
        · have hlsts := lsts_one hy
          have e4 : Ext T [dp] H3 (upd H3 dp (.lst (ys ++ [x]))) := Ext.mut (by simp) hy
          have e04 : Ext T [t] H (upd H3 dp (.lst (ys ++ [x]))) := (e2.trans e3).own ndp hy
          have T4 : Tape l (upd H3 dp (.lst (ys ++ [x]))) t := T3.own hdt (hT.ne ndp).2
          have hx4 := Im.ext e4 hlsts _ _ hx
          have hu4 := StAt.ext (show StAt H3 u' s' by walk_at "tr_2") e4 hlsts
          clear e4 hlsts hy
          generalize upd H3 dp (.lst (ys ++ [x])) = H4 at e04 T4 hx4 hu4 hds4 ⊢
          walk_at "rd_2"
          refine ⟨u', x, s', d, rfl, hu4, hx4, sta_len hR hs2 (slots_len hR), by omega, fun y H5 e5 hy5 => ?_⟩
          walk_at "rd_2"
          refine ⟨by walk_at "tr_2", by walk_at "tr_2", ds ++ [d], y, aft s' d, _, _, rfl, ?_, fun d' hd' => ?_, by rw [List.length_append, hl]; rfl, hy5, aft_ok hs2 hd (by omega), ?_, onOk_snoc hoo (by rw [← hse]; exact hod), by rw [List.foldl_append, ← hse]; rfl⟩
          · rw [List.map_append]
            walk_at "tr_2"
          · rcases List.mem_append.mp hd' with h | h
            · exact hok d' h
            · rw [List.mem_singleton.mp h]
              exact hd
          · have := aft_on s' d
            omega
      · obtain ⟨e2, T2, ds, u', s', a, b, rfl, hds, hok, hl, hu2, hs2, hon2, hoo, hse⟩ := h
        exact hnx _ _ ⟨e2, T2, ds, u', a, b, rfl, hds, hok, hoo, by omega⟩
    · obtain ⟨e2, T2, ds, u', a, b, rfl, hds, hok, hoo, hl⟩ := h
      obtain ⟨dx, hdx, hdi⟩ := hds.list
      walk_at "rd_2"
      refine rd_tupA T hdx fun r H3 nr e3 hr3 => ?_
      exact q _ ds H3 hok hoo hl (.tup hr3 (hdi.x e3)) (by walk_at "tr_2") (by walk_at "tr_2")
end
section
variable {T : List (Addr × Str)} {P : Program} {w : World} {K : PySem.W.Frag} {mg : Str → Option Value} {base : Heap}
local macro_rules | `(tactic| walk_at "tr_2") => `(tactic| first
  | assumption
  | exact Ext.refl
  | ((with_reducible refine' Im.x (T := T) (H := ?trH) ?tra ?tre); (case tre => assumption); (case tra => walk_at "tr_2"))
  | ((with_reducible refine' Im.y (T := T) (H := ?trH) ?tra ?tre ?trt); (case tre => assumption); (case trt => walk_at "tr_2"); (case tra => walk_at "tr_2"))
  | ((with_reducible refine' ImAll.x (T := T) (H := ?trH) ?tra ?tre); (case tre => assumption); (case tra => walk_at "tr_2"))
  | ((with_reducible refine' ImAll.y (T := T) (H := ?trH) ?tra ?tre ?trt); (case tre => assumption); (case trt => walk_at "tr_2"); (case tra => walk_at "tr_2"))
  | ((with_reducible refine' Ls.x (T := T) (H := ?trH) ?tra ?tre); (case tre => assumption); (case tra => walk_at "tr_2"))
  | ((with_reducible refine' Ls.y (T := T) (H := ?trH) ?tra ?tre ?trn ?trt); (case tre => assumption); (case trt => walk_at "tr_2"); (case trn => walk_at "tr_2"); (case tra => walk_at "tr_2"))
  | ((with_reducible refine' SqP.x (T := T) (H := ?trH) ?tra ?tre); (case tre => assumption); (case tra => walk_at "tr_2"))
  | ((with_reducible refine' SqP.y (T := T) (H := ?trH) ?tra ?tre ?trt); (case tre => assumption); (case trt => walk_at "tr_2"); (case tra => walk_at "tr_2"))
  | ((with_reducible refine' StAt.x (T := T) (H := ?trH) ?tra ?tre); (case tre => assumption); (case tra => walk_at "tr_2"))
  | ((with_reducible refine' StAt.y (T := T) (H := ?trH) ?tra ?tre ?trt); (case tre => assumption); (case trt => walk_at "tr_2"); (case tra => walk_at "tr_2"))
  | ((with_reducible refine' Pools.ext0 (T := T) (H := ?trH) ?tra ?tre); (case tre => assumption); (case tra => walk_at "tr_2"))
  | ((with_reducible refine' Pools.ext (T := T) (H := ?trH) ?tra ?tre ?trt); (case tre => assumption); (case trt => walk_at "tr_2"); (case tra => walk_at "tr_2"))
  | ((with_reducible refine' CL.x (T := T) (H := ?trH) ?tra ?tre); (case tre => assumption); (case tra => walk_at "tr_2"))
  | ((with_reducible refine' CL.y (T := T) (H := ?trH) ?tra ?tre); (case tre => assumption); (case tra => walk_at "tr_2"))
  | ((with_reducible refine' Tape.ext (T := T) (H := ?trH) ?tra ?tre); (case tre => assumption); (case tra => walk_at "tr_2"))
  | ((with_reducible refine' lst.x (T := T) (H := ?trH) ?tra ?tre); (case tre => assumption); (case tra => walk_at "tr_2"))
  | ((with_reducible refine' lst.y (T := T) (H := ?trH) ?tra ?tre ?trn); (case tre => assumption); (case trn => walk_at "tr_2"); (case tra => walk_at "tr_2"))
  | ((with_reducible refine' tup.x (T := T) (H := ?trH) ?tra ?tre); (case tre => assumption); (case tra => walk_at "tr_2"))
  | ((with_reducible refine' tup.y (T := T) (H := ?trH) ?tra ?tre ?trt); (case tre => assumption); (case trt => walk_at "tr_2"); (case tra => walk_at "tr_2"))
  | ((with_reducible refine' frz.x (T := T) (H := ?trH) ?tra ?tre); (case tre => assumption); (case tra => walk_at "tr_2"))
  | ((with_reducible refine' frz.y (T := T) (H := ?trH) ?tra ?tre ?trt); (case tre => assumption); (case trt => walk_at "tr_2"); (case tra => walk_at "tr_2"))
  | ((with_reducible refine' Tape.ne1 (H := ?trH) ?trt ?trn); (case trn => assumption); (case trt => walk_at "tr_2"))
  | ((with_reducible refine' Ext.trans (H1 := ?trH) ?tra (Ext.any ?tre)); (case tre => assumption); (case tra => walk_at "tr_2"))
  | ((with_reducible refine' Ext.trans (H1 := ?trH) ?tra ?tre); (case tre => assumption); (case tra => walk_at "tr_2"))
  | ((with_reducible refine' Ext.back1 (T := T) (H1 := ?trH) ?tre ?trn ?tra); (case tra => assumption); (case trn => walk_at "tr_2"); (case tre => walk_at "tr_2"))
  | ((with_reducible refine' Ext.back0 (T := T) (H1 := ?trH) ?tre ?tra); (case tra => assumption); (case tre => walk_at "tr_2"))
  | ((with_reducible refine' SqT.of ?tra); (case tra => walk_at "tr_2"))
  | ((with_reducible refine' SqL.of ?tra); (case tra => walk_at "tr_2")))
local macro_rules | `(tactic| walk_at "al_2") => `(tactic| (refine ⟨by first | (show _ ≤ sizeLine; decide) | walk_at "sz_2", ?_⟩; intro alp aln; generalize alG : upd _ alp _ = alH; obtain ⟨aln2, alx, alh⟩ := al_of (T := T) aln alG; clear alG aln))
local macro_rules | `(tactic| walk_at "al0_2") => `(tactic| (intro alp aln; generalize alG : upd _ alp _ = alH; obtain ⟨aln2, alx, alh⟩ := al_of (T := T) aln alG; clear alG aln))
theorem two_in {ks : List Str} (h : ks.length = 3) : ks.take 2 ≠ [] ∧ ∃ x, (ks.take 2).drop 1 = [x] ∧ x ∈ ks.take 2 := by
  match ks, h with
  | [a, b, c], _ => exact ⟨by simp, b, by simp, by simp⟩
theorem seal_put {s : Sta} {sl : Sl} {it0 it : Itm} (hn : (s.its.map (·.1)).Nodup) (h0 : (sl, it0) ∈ s.its) (h : sl = .k dotS → Seal it0 → Seal it) : SealR s → SealR (aft s (.put sl it)) := fun hs i hi => by
  obtain ⟨y, hy, e⟩ := List.mem_map.mp (show (Sl.k dotS, i) ∈ s.its.map (fun r => (r.1, if r.1 = sl then it else r.2)) from hi)
  injection e with e1 e2
  rw [← e2]
  by_cases h2 : y.1 = sl
  · rw [if_pos h2]
    have e3 : sl = .k dotS := h2.symm.trans e1
    exact h e3 (hs _ (by rw [← e3]; exact h0))
  · rw [if_neg h2]
    exact hs _ (by rw [← e1]; exact hy)
theorem srv_put {R : Rm} {s : Sta} {sl : Sl} {it : Itm} (h : ∀ z, sl = .h z → it.hd = "s1" ∨ it.hd = "s3") : SrvOk R s → SrvOk R (aft s (.put sl it)) := fun hs => by
  refine ⟨hs.s1, hs.s3, fun z j hm => ?_⟩
  obtain ⟨y, hy, e⟩ := List.mem_map.mp (show (Sl.h z, j) ∈ s.its.map (fun r => (r.1, if r.1 = sl then it else r.2)) from hm)
  injection e with e1 e2
  by_cases h2 : y.1 = sl
  · rw [if_pos h2] at e2
    rw [← e2]
    exact h z (by rw [← h2, e1])
  · rw [if_neg h2] at e2
    exact hs.h z j (by rw [← e1, ← e2]; exact hy)
theorem ok_law_bent_start (D : Def K mg "_law_bent_start" s_law_bent_start ["tape", "realm", "pools", "state"]) (mb : ∀ x ∈ bltns, mg x = none) (G_law_take : Ok P w K mg base 2 "_law_take" ["tape", "many"] (spTake T)) (G_law_slots : Ok P w K mg base 1 "_law_slots" ["realm"] (spSlots T))
    (G_law_at : Ok P w K mg base 1 "_law_at" ["state", "slot"] (spAt T)) (G_law_item : Ok P w K mg base 1 "_law_item" ["content", "life", "signers"] (spItem T)) (G_law_pool : Ok P w K mg base 1 "_law_pool" ["pools", "zone"] (spPool T))
    (G_law_mixed : Ok P w K mg base 5 "_law_mixed" ["tape", "realm", "pools", "slot", "item"] (spMixed T)) (G_law_after : Ok P w K mg base 1 "_law_after" ["state", "deed"] (spAfter T)) : Ok P w K mg base 6 "_law_bent_start" ["tape", "realm", "pools", "state"] (spBent T) := by
  refine D.ok sc_law_bent_start (fun vs H Q E h => ?_) (fun cdv f A outer s H vs Q E hr h => ?_)
  · obtain ⟨l, t, pa, v, u, R, ps, s, rfl, _⟩ := h
    rfl
  · obtain ⟨l, t, pa, v, u, R, ps, s, rfl, hT, hv, hR, hP, hps, hu, hs, hon, q⟩ := h
    refine ⟨_, (pss_cons (ps_if (pt_cmpR op_gt (pe_callO G_law_take (hr.mono (by decide)) (by rfl) (pa_cons (pv 0) (pa_cons pe_int pa_nil))) pe_int (nomark _)) (pss_one (ps_ret (pv 3))) pss_nil)
   (pss_cons (ps_set (i := 4) sc_law_bent_start.nd rfl (.inl rfl) (pe_callO G_law_slots (hr.mono (by decide)) (by rfl) (pa_cons (pv 1) pa_nil)))
   (pss_cons (ps_set (i := 5) sc_law_bent_start.nd rfl (.inl rfl) (pe_ix (ix_U K rfl) (pv 4) (pe_callO G_law_take (hr.mono (by decide)) (by rfl) (pa_cons (pv 0) (pa_cons (pe_callB (call_lenU K rfl) (by rfl) (mb _ (by decide)) (by decide +kernel) (pa_cons (pv 4) pa_nil)) pa_nil))) (fun _ _ => rfl)))
   (pss_cons (ps_set (i := 6) sc_law_bent_start.nd rfl (.inl rfl) (pe_callO G_law_at (hr.mono (by decide)) (by rfl) (pa_cons (pv 3) (pa_cons (pv 5) pa_nil))))
   (pss_cons (ps_if (pt_cmpR (op_eqU K rfl hr.units) (pe_ix (ix_U K rfl) (pv 5) pe_int (fun _ _ => rfl)) pe_str (nomark _)) (pss_one (ps_set (i := 6) sc_law_bent_start.nd rfl (.inl rfl) (pe_callO G_law_item (hr.mono (by decide)) (by rfl) (pa_cons (pe_ix (ix_U K rfl) (pe_lst (pa_cons (pe_lst pa_nil) (pa_cons (pe_lst (pa_cons pe_str pa_nil)) (pa_cons (pe_lst (pa_cons pe_str (pa_cons pe_str pa_nil))) pa_nil)))) (pe_callO G_law_take (hr.mono (by decide)) (by rfl) (pa_cons (pv 0) (pa_cons pe_int pa_nil))) (fun _ _ => rfl)) (pa_cons (pe_ix (ix_U K rfl) (pv 6) pe_int (fun _ _ => rfl)) (pa_cons (pe_lst pa_nil) pa_nil)))))) (pss_one (ps_if (pt_cmpR (op_eqU K rfl hr.units) (pe_callO G_law_take (hr.mono (by decide)) (by rfl) (pa_cons (pv 0) (pa_cons pe_int pa_nil))) pe_int (nomark _)) (pss_cons (ps_set (i := 7) sc_law_bent_start.nd rfl (.inl rfl) (pe_op op_mul (pe_callO G_law_take (hr.mono (by decide)) (by rfl) (pa_cons (pv 0) (pa_cons pe_int pa_nil))) (pe_callO G_law_take (hr.mono (by decide)) (by rfl) (pa_cons (pv 0) (pa_cons pe_int pa_nil)))))
   (pss_one (ps_set (i := 6) sc_law_bent_start.nd rfl (.inl rfl) (pe_op (op_plus K rfl) (pe_slice (sl_U K rfl) (pv 6) po_none (po_some pe_int)) (pe_tup (pa_cons (pv 7) (pa_cons (pe_op (op_plus K rfl) (pv 7) (pe_callO G_law_take (hr.mono (by decide)) (by rfl) (pa_cons (pv 0) (pa_cons pe_int pa_nil)))) pa_nil))))))) (pss_one (ps_if (pt_cmpR (op_eqU K rfl hr.units) (pv 5) (pe_tup (pa_cons pe_str (pa_cons pe_str pa_nil))) (nomark _)) (pss_cons (ps_set (i := 8) sc_law_bent_start.nd rfl (.inl rfl) (pe_callO G_law_pool (hr.mono (by decide)) (by rfl) (pa_cons (pv 2) (pa_cons pe_str pa_nil))))
   (pss_one (ps_set (i := 6) sc_law_bent_start.nd rfl (.inl rfl) (pe_callO G_law_item (hr.mono (by decide)) (by rfl) (pa_cons (pe_slice (sl_U K rfl) (pv 8) po_none (po_some pe_int)) (pa_cons (pe_ix (ix_U K rfl) (pv 6) pe_int (fun _ _ => rfl)) (pa_cons (pe_slice (sl_U K rfl) (pv 8) (po_some pe_int) (po_some pe_int)) pa_nil))))))) (pss_one (ps_set (i := 6) sc_law_bent_start.nd rfl (.inl rfl) (pe_callO G_law_mixed (hr.mono (by decide)) (by rfl) (pa_cons (pv 0) (pa_cons (pv 1) (pa_cons (pv 2) (pa_cons (pv 5) (pa_cons (pv 6) pa_nil)))))))))))))
   (pss_one (ps_ret (pe_callO G_law_after (hr.mono (by decide)) (by rfl) (pa_cons (pv 3) (pa_cons (pe_tup (pa_cons pe_str (pa_cons (pv 5) (pa_cons (pv 6) pa_nil)))) pa_nil)))))))))), ?_⟩
    have hsl := slots_len hR
    refine rd_seq ?_
    walk_at "rdn_2"
    refine ⟨l, t, 6, rfl, by decide, by decide, hT, fun d0 H1 _ _ e1 T1 => ?_⟩
    walk_at "rdn_2"
    refine rd_ite (fun hd => ?_) (fun hd => ?_)
    · walk_at "rd_2"
      exact q u s H1 hs id id rfl (by walk_at "tr_2") e1 T1
    · walk_at "rdn_2"
      refine rd_seq ?_
      walk_at "rdn_2"
      refine ⟨v, R, rfl, by walk_at "tr_2", hR, fun sp H2 nsp e2 hsp => ?_⟩
      have hspt : sp ≠ t := by walk_at "tr_2"
      obtain ⟨sx, hsx, hsi⟩ := hsp.list
      have hsxl : sx.length = (slotsR R).length := by rw [hsi.len, List.length_map]
      have hpos : 0 < (slotsR R).length := by
        unfold slotsR
        simp
      have T2 : Tape l H2 t := by walk_at "tr_2"
      walk_at "rdn_2"
      refine rd_seq ?_
      walk_at "rdn_2"
      refine ⟨l, t, _, rfl, by omega, by omega, T2, fun d1 H3 h10 h11 e3 T3 => ?_⟩
      obtain ⟨c, hc1, hc2, hc3⟩ := at_in (l := (slotsR R).map slD) h10 (by rw [List.length_map]; omega)
      obtain ⟨sl, hslm, rfl⟩ := List.mem_map.mp hc3
      refine rd_ixLs (show Ls H3 sp _ by walk_at "tr_2") hc1 fun y hy => ?_
      walk_at "rdn_2"
      refine rd_seq ?_
      walk_at "rdn_2"
      obtain ⟨it0, hit0⟩ := sta_find hs hslm
      have hok0 := hs.ok _ hit0
      refine ⟨u, y, s, sl, it0, rfl, by walk_at "tr_2", hy, hit0, sta_nodup hR hs, sta_len hR hs hsl, fun x0 H4 e4 hx0 => ?_⟩
      walk_at "rdn_2"
      have T4 : Tape l H4 t := by walk_at "tr_2"
      have hy4 : Im H4 y (slD sl) := by walk_at "tr_2"
      have hP4 : Pools H4 t pa ps := by walk_at "tr_2"
      have hv4 : Im H4 v (rmD R) := by walk_at "tr_2"
      have e04 : Ext T [t] H H4 := by walk_at "tr_2"
      have hu4 : StAt H4 u s := by walk_at "tr_2"
      clear hc1 hc2 hc3 hsx hsi hsp e1 T1 e2 e3 T2 T3 e4
      have hpn : (ps.map (·.1)).Nodup := by rw [hps.nm]; exact hR.nd
      have hpl : ps.length ≤ 6 := by
        have := congrArg List.length hps.nm
        rw [List.length_map, List.length_map] at this
        have := hR.len
        omega
      refine rd_cut (fun σ H5 => Ext T [t] H4 H5 ∧ Tape l H5 t ∧ ∃ (x : V) (it : Itm) (a b : Option V), σ = [some (.ref t), some v, some (.ref pa), some u, some (.ref sp), some y, some x, a, b] ∧ ItmOk sl it ∧ (sl = .k dotS → Seal it0 → Seal it) ∧ (∀ z, sl = .h z → it.hd = "s1" ∨ it.hd = "s3") ∧ Im H5 x (itD it)) (fun nx' hnx => ?_) (fun σ H5 h => ?_)
      · by_cases hh : ∃ z, sl = .h z
        · obtain ⟨z, hz⟩ := hh
          subst hz
          have hy' : Im H4 y (.tuple [.str (Str.ofString "hosts"), .str z]) := hy4
          walk_at "rd_2"
          refine rd_ixSs hy' rfl ?_
          walk_at "rd_2"
          refine rd_ite (fun _ => ?_) (fun h => absurd rfl h)
          walk_at "rd_2"
          walk_at "al_2"
          rename_i p1 G1 n1 x1 g1
          walk_at "rd_2"
          walk_at "al_2"
          rename_i p2 G2 n2 x2 g2
          walk_at "rd_2"
          walk_at "al_2"
          rename_i p3 G3 n3 x3 g3
          walk_at "rd_2"
          walk_at "al_2"
          rename_i pl G4 n4 x4 g4
          have hplt : pl ≠ t := by walk_at "tr_2"
          walk_at "rd_2"
          refine ⟨l, t, 3, rfl, by decide, by decide, by walk_at "tr_2", fun d G5 h0 h1 x5 T5 => ?_⟩
          have k1 : CL G1 t p1 4 [] := ⟨g1, by walk_at "tr_2", by simp, by simp, by simp⟩
          have k2 : CL G2 t p2 4 ["s3"] := ⟨g2, by walk_at "tr_2", (bent_ok _ (by simp [bentL])).1, (bent_ok _ (by simp [bentL])).2.1, by decide⟩
          have k3 : CL G3 t p3 4 ["s1", "t9"] := ⟨g3, by walk_at "tr_2", (bent_ok _ (by simp [bentL])).1, (bent_ok _ (by simp [bentL])).2.1, by decide⟩
          obtain ⟨a, gs, ha1, ha2, ha3⟩ := pick_clP (p := fun gs => (srtS gs).headD "s1" = "s1" ∨ (srtS gs).headD "s1" = "s3") (H := G5) (t := t) (n := 4) (as := [p1, p2, p3]) (fun a ha => by
            simp only [List.mem_cons, List.not_mem_nil, or_false] at ha
            rcases ha with rfl | rfl | rfl
            · exact ⟨_, show CL G5 t a 4 [] by walk_at "tr_2", .inl (by rw [show srtS [] = [] from List.mergeSort_nil]; rfl)⟩
            · exact ⟨_, show CL G5 t a 4 ["s3"] by walk_at "tr_2", .inr (by rw [srtS_oneL]; rfl)⟩
            · exact ⟨_, show CL G5 t a 4 ["s1", "t9"] by walk_at "tr_2", .inl (by rw [srt_two']; rfl)⟩) h0 (by show d < 3; omega)
          refine rd_ixL (SqL.of (show G5 pl = some (.lst ([p1, p2, p3].map V.ref)) by walk_at "tr_2")) ha1 ?_
          walk_at "rd_2"
          refine rd_ixI (d := .int it0.li) (show Im G5 x0 (itD it0) by walk_at "tr_2") rfl fun u1 hu1 => ?_
          rw [hu1.int']
          walk_at "rd_2"
          walk_at "al_2"
          rename_i p5 G6 n6 x6 g6
          walk_at "rd_2"
          refine ⟨a, p5, gs, [], it0.li, rfl, (show CL G6 t a 4 gs by walk_at "tr_2").at_, g6, ha2.ok, by simp, fun it G7 x7 hit => ?_⟩
          walk_at "rd_2"
          exact hnx _ _ ⟨by walk_at "tr_2", by walk_at "tr_2", it, ⟨srtS gs, it0.li, srtS [], 0, 10000⟩, _, _, rfl, ⟨⟨gs, rfl, ha2.nd, ha2.ok, ha2.len⟩, ⟨[], rfl, by simp, by simp, by simp⟩, hok0.li, ⟨show (0 : Int) ≤ 0 by decide, show (0 : Int) ≤ 10000 by decide, show (10000 : Int) ≤ 10000 by decide⟩, fun _ _ => ⟨srtS_nil, rfl, rfl⟩, fun z e => by cases e⟩, (fun e => by cases e), (fun _ _ => ha3), hit⟩
        · have hnh : ∀ z, sl ≠ .h z := fun z e => hh ⟨z, e⟩
          obtain ⟨kw, rr, hsl2, hkw⟩ : ∃ (kw : Str) (rr : List PyData), slD sl = .tuple (.str kw :: rr) ∧ ¬ kw = Str.ofString "hosts" := by
            cases sl with
            | k z => exact ⟨_, _, rfl, by decide +kernel⟩
            | l z => exact ⟨_, _, rfl, by decide +kernel⟩
            | h z => exact absurd rfl (hnh z)
            | s n k => exact ⟨_, _, rfl, by decide +kernel⟩
          have hy' : Im H4 y (.tuple (.str kw :: rr)) := by rw [← hsl2]; exact hy4
          walk_at "rd_2"
          refine rd_ixSs hy' (at_zero _ _) ?_
          walk_at "rd_2"
          refine rd_ite (fun h => absurd h hkw) (fun _ => ?_)
          walk_at "rd_2"
          refine ⟨l, t, 3, rfl, by decide, by decide, T4, fun d1 G1 _ _ x1 T1 => ?_⟩
          walk_at "rd_2"
          refine rd_ite (fun hd1 => ?_) (fun hd1 => ?_)
          · walk_at "rd_2"
            refine ⟨l, t, 3, rfl, by decide, by decide, T1, fun d3 G2 h30 h31 x2 T2 => ?_⟩
            walk_at "rd_2"
            refine ⟨l, t, 9, rfl, by decide, by decide, T2, fun d4 G3 h40 h41 x3 T3 => ?_⟩
            have hf : 0 ≤ d3 * d4 ∧ d3 * d4 ≤ 16 := ⟨Int.mul_nonneg h30 h40, Int.le_trans (Int.mul_le_mul (show d3 ≤ 2 by omega) (show d4 ≤ 8 by omega) h40 (by decide)) (by decide)⟩
            obtain ⟨xa, xx, rfl, hxa, hxx⟩ := hx0.tup'
            have hx5 : xx.length = 5 := hxx.len
            walk_at "rd_2"
            refine rd_slT (SqP.sq (show SqP G3 xa xx by walk_at "tr_2")) (fun h => ?_) ?_
            · have h0 := h.2
              rw [show HT.sIx xx.length xx.length (some 3) = min 3 xx.length from HT.sIx_nat xx.length xx.length 3] at h0
              omega
            walk_at "al0_2"
            rename_i sa G4 _ x4 hsa
            rw [cutV_to _ (by decide), show Int.toNat 3 = 3 from rfl] at hsa
            walk_at "rd_2"
            refine ⟨l, t, 200, rfl, by decide, by decide, by walk_at "tr_2", fun d5 G5 h50 h51 x5 T5 => ?_⟩
            walk_at "rd_2"
            walk_at "al_2"
            rename_i tb G6 _ x6 htb
            refine rd_catT (SqT.of (show G6 sa = some (.tup (xx.take 3)) by walk_at "tr_2")) (SqT.of htb) (fun e => ?_) (by simp) ?_ ?_
            · have := congrArg List.length e
              rw [List.length_take] at this
              simp only [List.length_nil] at this
              omega
            · rw [List.length_take]
              exact Nat.le_trans (show _ ≤ 100 by simp only [List.length_cons, List.length_nil]; omega) (by decide)
            walk_at "al0_2"
            rename_i tc G7 _ x7 htc
            walk_at "rd_2"
            have hx3 : ImAll G7 (xx.take 3) [.tuple (it0.c.map .str), .int it0.li, .tuple (it0.g.map .str)] := by
              have h := hxx.take 3
              have h : ImAll H4 (xx.take 3) [.tuple (it0.c.map .str), .int it0.li, .tuple (it0.g.map .str)] := h
              walk_at "tr_2"
            have hx8 : ImAll G7 (xx.take 3 ++ [.int (d3 * d4), .int (d3 * d4 + d5)]) [.tuple (it0.c.map .str), .int it0.li, .tuple (it0.g.map .str), .int (d3 * d4), .int (d3 * d4 + d5)] := hx3.app (.cons (.int _) (.cons (.int _) .nil))
            exact hnx _ _ ⟨by walk_at "tr_2", by walk_at "tr_2", .ref tc, ⟨it0.c, it0.li, it0.g, d3 * d4, d3 * d4 + d5⟩, _, _, rfl, ⟨hok0.c, hok0.g, hok0.li, ⟨hf.1, show d3 * d4 ≤ d3 * d4 + d5 by omega, show d3 * d4 + d5 ≤ 10000 by omega⟩, fun z e => absurd e (hnh z), hok0.kc⟩, (fun _ h => h), (fun z e => absurd e (hnh z)), .tup htc hx8⟩
          · walk_at "rd_2"
            walk_at "al_2"
            rename_i ty G2 _ x2 hty
            have hdot : Im G2 (.ref ty) (slD (.k dotS)) := .new2 (.str _ (by decide +kernel)) (.str _ (by decide +kernel)) hty
            walk_at "rd_2"
            refine rd_eqI (b := decide (sl = .k dotS)) (show Im G2 y (slD sl) by walk_at "tr_2") hdot (Nat.le_trans (dep_sl _) (by decide)) (Nat.le_trans (dep_sl _) (by decide)) (Iff.trans ⟨fun e => slD_inj e, fun e => by rw [e]⟩ decide_eq_true_iff.symm) ?_
            refine ⟨_, rfl, ?_⟩
            refine rd_ite (fun hz => ?_) (fun hz => ?_)
            · subst hz
              obtain ⟨ks, hks⟩ : ∃ ks, (dotS, ks) ∈ ps := by
                obtain ⟨lag, rest, e, _⟩ := hR.ne
                have hm : dotS ∈ ps.map (·.1) := by
                  rw [hps.nm, e]
                  exact List.mem_cons_self
                obtain ⟨p, hp, e⟩ := List.mem_map.mp hm
                exact ⟨p.2, by rw [← e]; exact hp⟩
              walk_at "rd_2"
              refine ⟨t, pa, ps, dotS, ks, rfl, by walk_at "tr_2", hpl, hpn, hks, fun oa G3 hot hoa x3 => ?_⟩
              have hc3 : CL G3 t oa 3 ks := ⟨by walk_at "tr_2", hot, hps.nd _ hks, hps.ok _ hks, Nat.le_of_eq (hps.len _ hks)⟩
              walk_at "rd_2"
              refine hc3.take (T := T) (show Tape l G3 t by walk_at "tr_2") (by decide) fun q1 G4 _ x4 g1 => ?_
              walk_at "rd_2"
              refine rd_ixI (d := .int it0.li) (show Im G4 x0 (itD it0) by walk_at "tr_2") rfl fun u1 hu1 => ?_
              rw [hu1.int']
              walk_at "rd_2"
              refine CL.mid (T := T) (show CL G4 t oa 3 ks by walk_at "tr_2") (show Tape l G4 t by walk_at "tr_2") (by decide) (by decide) fun q2 G5 _ x5 g2 => ?_
              walk_at "rd_2"
              have g1' : CL G5 t q1 3 (ks.take 2) := g1.x x5
              refine ⟨q1, q2, _, _, it0.li, rfl, g1'.at_, g2.at_, g1.ok, g2.ok, fun it G6 x6 hit => ?_⟩
              walk_at "rd_2"
              exact hnx _ _ ⟨by walk_at "tr_2", by walk_at "tr_2", it, ⟨srtS _, it0.li, srtS _, 0, 10000⟩, _, _, rfl, ⟨⟨_, rfl, g1.nd, g1.ok, Nat.le_trans g1.len (by decide)⟩, ⟨_, rfl, g2.nd, g2.ok, g2.len⟩, hok0.li, ⟨show (0 : Int) ≤ 0 by decide, show (0 : Int) ≤ 10000 by decide, show (10000 : Int) ≤ 10000 by decide⟩, fun z e => absurd e (by simp), fun _ _ => srtS_ne (two_in (hps.len _ hks)).1⟩, (fun _ _ => seal_srt (two_in (hps.len _ hks)).2), (fun z e => absurd e (hnh z)), hit⟩
            · walk_at "rd_2"
              refine ⟨l, t, pa, v, y, x0, R, ps, sl, it0, rfl, by walk_at "tr_2", by walk_at "tr_2", hR, by walk_at "tr_2", hps, by walk_at "tr_2", hslm, hnh, by walk_at "tr_2", hok0, fun x3 it G3 hit hx3 x4 T5 => ?_⟩
              walk_at "rd_2"
              exact hnx _ _ ⟨by walk_at "tr_2", T5, x3, it, _, _, rfl, hit, (fun e => absurd e hz), (fun z e => absurd e (hnh z)), hx3⟩
      · obtain ⟨e5, T5, x, it', a, b, rfl, hit', hsl', hhd', hx⟩ := h
        walk_at "rd_2"
        walk_at "al_2"
        rename_i r H6 _ e6 hr6
        refine ⟨u, .ref r, s, .put sl it', rfl, by walk_at "tr_2", .new3 (.str _ (by decide +kernel)) (by walk_at "tr_2") (by walk_at "tr_2") hr6, sta_len hR hs hsl, by omega, fun z H7 e7 hz7 => ?_⟩
        exact q z (aft s (.put sl it')) H7 (aft_ok hs ⟨hslm, hit'⟩ (by omega)) (seal_put (sta_nodup hR hs) hit0 hsl') (srv_put hhd') rfl hz7 (by walk_at "tr_2") (by walk_at "tr_2")
end
section
variable {T : List (Addr × Str)} {P : Program} {w : World} {K : PySem.W.Frag} {mg : Str → Option Value} {base : Heap}
local macro_rules | `(tactic| walk_at "tr_2") => `(tactic| first
  | assumption
  | exact Ext.refl
  | ((with_reducible refine' Im.x (T := T) (H := ?trH) ?tra ?tre); (case tre => assumption); (case tra => walk_at "tr_2"))
  | ((with_reducible refine' Im.y (T := T) (H := ?trH) ?tra ?tre ?trt); (case tre => assumption); (case trt => walk_at "tr_2"); (case tra => walk_at "tr_2"))
  | ((with_reducible refine' ImAll.x (T := T) (H := ?trH) ?tra ?tre); (case tre => assumption); (case tra => walk_at "tr_2"))
  | ((with_reducible refine' ImAll.y (T := T) (H := ?trH) ?tra ?tre ?trt); (case tre => assumption); (case trt => walk_at "tr_2"); (case tra => walk_at "tr_2"))
  | ((with_reducible refine' Ls.x (T := T) (H := ?trH) ?tra ?tre); (case tre => assumption); (case tra => walk_at "tr_2"))
  | ((with_reducible refine' Ls.y (T := T) (H := ?trH) ?tra ?tre ?trn ?trt); (case tre => assumption); (case trt => walk_at "tr_2"); (case trn => walk_at "tr_2"); (case tra => walk_at "tr_2"))
  | ((with_reducible refine' SqP.x (T := T) (H := ?trH) ?tra ?tre); (case tre => assumption); (case tra => walk_at "tr_2"))
  | ((with_reducible refine' SqP.y (T := T) (H := ?trH) ?tra ?tre ?trt); (case tre => assumption); (case trt => walk_at "tr_2"); (case tra => walk_at "tr_2"))
  | ((with_reducible refine' StAt.x (T := T) (H := ?trH) ?tra ?tre); (case tre => assumption); (case tra => walk_at "tr_2"))
  | ((with_reducible refine' StAt.y (T := T) (H := ?trH) ?tra ?tre ?trt); (case tre => assumption); (case trt => walk_at "tr_2"); (case tra => walk_at "tr_2"))
  | ((with_reducible refine' Pools.ext0 (T := T) (H := ?trH) ?tra ?tre); (case tre => assumption); (case tra => walk_at "tr_2"))
  | ((with_reducible refine' Pools.ext (T := T) (H := ?trH) ?tra ?tre ?trt); (case tre => assumption); (case trt => walk_at "tr_2"); (case tra => walk_at "tr_2"))
  | ((with_reducible refine' CL.x (T := T) (H := ?trH) ?tra ?tre); (case tre => assumption); (case tra => walk_at "tr_2"))
  | ((with_reducible refine' CL.y (T := T) (H := ?trH) ?tra ?tre); (case tre => assumption); (case tra => walk_at "tr_2"))
  | ((with_reducible refine' Tape.ext (T := T) (H := ?trH) ?tra ?tre); (case tre => assumption); (case tra => walk_at "tr_2"))
  | ((with_reducible refine' lst.x (T := T) (H := ?trH) ?tra ?tre); (case tre => assumption); (case tra => walk_at "tr_2"))
  | ((with_reducible refine' lst.y (T := T) (H := ?trH) ?tra ?tre ?trn); (case tre => assumption); (case trn => walk_at "tr_2"); (case tra => walk_at "tr_2"))
  | ((with_reducible refine' tup.x (T := T) (H := ?trH) ?tra ?tre); (case tre => assumption); (case tra => walk_at "tr_2"))
  | ((with_reducible refine' tup.y (T := T) (H := ?trH) ?tra ?tre ?trt); (case tre => assumption); (case trt => walk_at "tr_2"); (case tra => walk_at "tr_2"))
  | ((with_reducible refine' frz.x (T := T) (H := ?trH) ?tra ?tre); (case tre => assumption); (case tra => walk_at "tr_2"))
  | ((with_reducible refine' frz.y (T := T) (H := ?trH) ?tra ?tre ?trt); (case tre => assumption); (case trt => walk_at "tr_2"); (case tra => walk_at "tr_2"))
  | ((with_reducible refine' Im.z (T := T) (H := ?trH) ?tra ?tre ?trt); (case tre => assumption); (case trt => assumption); (case tra => walk_at "tr_2"))
  | ((with_reducible refine' ImAll.z (T := T) (H := ?trH) ?tra ?tre ?trt); (case tre => assumption); (case trt => assumption); (case tra => walk_at "tr_2"))
  | ((with_reducible refine' StAt.z (T := T) (H := ?trH) ?tra ?tre ?trt); (case tre => assumption); (case trt => assumption); (case tra => walk_at "tr_2"))
  | ((with_reducible refine' SqP.z (T := T) (H := ?trH) ?tra ?tre ?trt); (case tre => assumption); (case trt => assumption); (case tra => walk_at "tr_2"))
  | ((with_reducible refine' tup.z (T := T) (H := ?trH) ?tra ?tre ?trt); (case tre => assumption); (case trt => assumption); (case tra => walk_at "tr_2"))
  | ((with_reducible refine' Ls.z (T := T) (H := ?trH) ?tra ?tre ?trt ?trn); (case tre => assumption); (case trt => assumption); (case trn => assumption); (case tra => walk_at "tr_2"))
  | ((with_reducible refine' lst.z (T := T) (H := ?trH) ?tra ?tre ?trn); (case tre => assumption); (case trn => assumption); (case tra => walk_at "tr_2"))
  | ((with_reducible refine' CL.z (T := T) (H := ?trH) ?tra ?tre ?trn); (case tre => assumption); (case trn => assumption); (case tra => walk_at "tr_2"))
  | ((with_reducible refine' Tape.ne1 (H := ?trH) ?trt ?trn); (case trn => assumption); (case trt => walk_at "tr_2"))
  | ((with_reducible refine' Ext.trans (H1 := ?trH) ?tra (Ext.any ?tre)); (case tre => assumption); (case tra => walk_at "tr_2"))
  | ((with_reducible refine' Ext.trans (H1 := ?trH) ?tra ?tre); (case tre => assumption); (case tra => walk_at "tr_2"))
  | ((with_reducible refine' Ext.back1 (T := T) (H1 := ?trH) ?tre ?trn ?tra); (case tra => assumption); (case trn => walk_at "tr_2"); (case tre => walk_at "tr_2"))
  | ((with_reducible refine' Ext.back0 (T := T) (H1 := ?trH) ?tre ?tra); (case tra => assumption); (case tre => walk_at "tr_2"))
  | ((with_reducible refine' SqT.of ?tra); (case tra => walk_at "tr_2"))
  | ((with_reducible refine' SqL.of ?tra); (case tra => walk_at "tr_2")))
local macro_rules | `(tactic| walk_at "al_2") => `(tactic| (refine ⟨by first | (show _ ≤ sizeLine; decide) | walk_at "sz_2", ?_⟩; intro alp aln; generalize alG : upd _ alp _ = alH; obtain ⟨aln2, alx, alh⟩ := al_of (T := T) aln alG; clear alG aln))
local macro_rules | `(tactic| walk_at "al0_2") => `(tactic| (intro alp aln; generalize alG : upd _ alp _ = alH; obtain ⟨aln2, alx, alh⟩ := al_of (T := T) aln alG; clear alG aln))
/-- moments that ascend, from 1 on -/
def Asc (pl : List (Int × Dd)) : Prop := pl.Pairwise (fun a b => a.1 < b.1) ∧ (∀ p ∈ pl, 1 ≤ p.1) ∧ ∀ p ∈ pl, p.1 ≤ 801 * (pl.length : Int)
def spTimed (T : List (Addr × Str)) : Sp := fun vs H Q _ => ∃ (l t : Addr) (x : V) (ds : List Dd) (m : Int), vs = [.ref t, x, .int m] ∧ Tape l H t ∧ Im H x (.tuple (ds.map ddD)) ∧ ds.length ≤ 12 ∧ 0 ≤ m ∧ m < 4 ∧
  ∀ (y : V) (pl : List (Int × Dd)) (H' : Hp), Asc pl → pl.map (·.2) = ds → Im H' y (.tuple (pl.map plD)) → Ext T [t] H H' → Tape l H' t → Q y H'
theorem ok_law_timed (D : Def K mg "_law_timed" s_law_timed ["tape", "deeds", "wide"]) (mb : ∀ x ∈ bltns, mg x = none) (G_law_take : Ok P w K mg base 2 "_law_take" ["tape", "many"] (spTake T)) : Ok P w K mg base 3 "_law_timed" ["tape", "deeds", "wide"] (spTimed T) := by
  refine D.ok sc_law_timed (fun vs H Q E h => ?_) (fun cdv f A outer s H vs Q E hr h => ?_)
  · obtain ⟨l, t, x, ds, m, rfl, _⟩ := h
    rfl
  · obtain ⟨l, t, x, ds, m, rfl, hT, hx, hl, hm0, hm1, q⟩ := h
    refine ⟨_, (pss_cons (ps_set (i := 3) sc_law_timed.nd rfl (.inl rfl) pe_int)
   (pss_cons (ps_set (i := 4) sc_law_timed.nd rfl (.inl rfl) (pe_lst pa_nil))
   (pss_cons (ps_for PassesOwn.never rfl (pi_seq K rfl (pv 1)) (pg_name (i := 5) sc_law_timed.nd rfl (.inl rfl)) (pss_cons (ps_set (i := 3) sc_law_timed.nd rfl (.inl rfl) (pe_op (op_plus K rfl) (pe_op (op_plus K rfl) (pv 3) pe_int) (pe_callO G_law_take (hr.mono (by decide)) (by rfl) (pa_cons (pv 0) (pa_cons (pe_ix (ix_U K rfl) (pe_lst (pa_cons pe_int (pa_cons pe_int (pa_cons pe_int (pa_cons pe_int pa_nil))))) (pv 2) (fun _ _ => rfl)) pa_nil)))))
   (pss_one (ps_expr (pe_bm PySem.F.plainAttrs_list PySem.F.slot_list_append PySem.F.type_list_append mt_append (pv 4) (pa_cons (pe_tup (pa_cons (pv 3) (pa_cons (pv 5) pa_nil))) pa_nil))))))
   (pss_one (ps_ret (pe_callTy (call_tupU K rfl) (by rfl) (mb _ (by decide)) (by decide +kernel) (pa_cons (pv 4) pa_nil))))))), ?_⟩
    obtain ⟨dp, dx, rfl, hdp, hdi⟩ := hx.tup'
    have hdl : dx.length = ds.length := by rw [hdi.len, List.length_map]
    walk_at "rdn_2"
    refine rd_seq ?_
    walk_at "rdn_2"
    refine rd_seq ?_
    walk_at "rdn_2"
    walk_at "al_2"
    rename_i pp H1 npp e1 hpp
    have hppt : pp ≠ t := (hT.ne npp).1
    have T1 : Tape l H1 t := by walk_at "tr_2"
    have hdi1 : ImAll H1 dx (ds.map ddD) := by walk_at "tr_2"
    walk_at "rdn_2"
    refine rd_seq ?_
    walk_at "rdn_2"
    refine .inr ⟨⟨_, SqP.sq (SqP.x (xs := dx) hdp e1)⟩, ?_⟩
    refine forg_tup (xs := dx) (fun i σ H' => Ext T [t] H H' ∧ Tape l H' t ∧ SqP H' dp dx ∧ ImAll H' dx (ds.map ddD) ∧ ∃ (mo : Int) (pl : List (Int × Dd)) (b : Option V), σ = [some (.ref t), some (.ref dp), some (.int m), some (.int mo), some (.ref pp), b] ∧
      Ls H' pp (pl.map plD) ∧ pl.map (·.2) = ds.take i ∧ pl.length = i ∧ 0 ≤ mo ∧ mo ≤ 801 * (i : Int) ∧ pl.Pairwise (fun a b => a.1 < b.1) ∧ (∀ p ∈ pl, 1 ≤ p.1) ∧ ∀ p ∈ pl, p.1 ≤ mo)
      ⟨by walk_at "tr_2", T1, by walk_at "tr_2", hdi1, 0, [], none, rfl, ⟨[], hpp, .nil⟩, by simp, rfl, by omega, by omega, by simp, by simp, by simp⟩ (fun i σ H' _ h => SqP.sq h.2.2.1) (fun i y σ H2 hy h => ?_) (fun σ H2 h => ?_)
    · obtain ⟨e2, T2, hdp2, hdi2, mo, pl, b, rfl, hpl, hpm, hpn, hmo0, hmo1, hpw, hp1, hpmo⟩ := h
      obtain ⟨dr, hdr, hyr⟩ := hdi2.get' hy
      rw [List.getElem?_map] at hdr
      obtain ⟨d, hd, rfl⟩ := Option.map_eq_some_iff.mp hdr
      have hil : i < ds.length := (List.getElem?_eq_some_iff.mp hd).1
      walk_at "rd_2"
      walk_at "al_2"
      rename_i la H3 _ e3 hla
      have hlat : la ≠ t := by walk_at "tr_2"
      obtain ⟨c, hc1, _, hc2⟩ := at_in (l := [V.int 3, .int 12, .int 40, .int 800]) (i := m) hm0 (by show m < 4; omega)
      walk_at "rd_2"
      refine rd_ixL (SqL.of hla) hc1 ?_
      have hc3 : ∃ k : Int, c = .int k ∧ 0 < k ∧ k ≤ 800 := by
        rcases List.mem_cons.mp hc2 with e | hc
        · exact ⟨3, e, by decide, by decide⟩
        rcases List.mem_cons.mp hc with e | hc
        · exact ⟨12, e, by decide, by decide⟩
        rcases List.mem_cons.mp hc with e | hc
        · exact ⟨40, e, by decide, by decide⟩
        rcases List.mem_cons.mp hc with e | hc
        · exact ⟨800, e, by decide, by decide⟩
        cases hc
      obtain ⟨k, rfl, hk0, hk1⟩ := hc3
      walk_at "rd_2"
      refine ⟨l, t, k, rfl, hk0, by omega, by walk_at "tr_2", fun z H4 hz0 hz1 e4 T4 => ?_⟩
      have hpl4 : Ls H4 pp (pl.map plD) := by walk_at "tr_2"
      obtain ⟨xs, hxs, hxi⟩ := hpl4.list
      walk_at "rd_2"
      walk_at "al_2"
      rename_i tp H5 _ e5 htp
      have hpd : Im H5 (.ref tp) (plD (mo + 1 + z, d)) := .new2 (.int _) (by walk_at "tr_2") htp
      have hpl5 : Ls H5 pp (pl.map plD) := by walk_at "tr_2"
      have T5 : Tape l H5 t := by walk_at "tr_2"
      have hdp5 : SqP H5 dp dx := by walk_at "tr_2"
      have hdi5 : ImAll H5 dx (ds.map ddD) := by walk_at "tr_2"
      refine rd_nil ?_
      refine push_step (Hb := H) (t := t) (l := l) (by walk_at "tr_2") npp hT T5 hpl5 hpd (by rw [List.length_map]; omega) fun H6 e6 T6 f6 l6 hpl6 => ?_
      walk_at "rd_2"
      refine ⟨e6, T6, by walk_at "tr_2", by walk_at "tr_2", mo + 1 + z, pl ++ [(mo + 1 + z, d)], _, rfl, by rw [List.map_append]; exact hpl6, ?_, by rw [List.length_append, hpn]; rfl, by omega, by omega, ?_, ?_, ?_⟩
      · rw [List.map_append, hpm, List.take_add_one, hd]
        rfl
      · rw [List.pairwise_append]
        refine ⟨hpw, by simp, fun a ha b hb => ?_⟩
        rw [List.mem_singleton.mp hb]
        have := hpmo a ha
        show a.1 < mo + 1 + z
        omega
      · intro p hp
        rcases List.mem_append.mp hp with hp | hp
        · exact hp1 p hp
        · rw [List.mem_singleton.mp hp]
          show 1 ≤ mo + 1 + z
          omega
      · intro p hp
        rcases List.mem_append.mp hp with hp | hp
        · have := hpmo p hp
          omega
        · rw [List.mem_singleton.mp hp]
          exact Int.le_refl _
    · obtain ⟨e2, T2, hdp2, hdi2, mo, pl, b, rfl, hpl, hpm, hpn, hmo0, hmo1, hpw, hp1, hpmo⟩ := h
      obtain ⟨xs, hxs, hxi⟩ := hpl.list
      rw [hdl, List.take_length] at hpm
      walk_at "rd_2"
      refine rd_tupA T hxs fun r2 H12 nr2 x2 hr2 => ?_
      exact q _ pl H12 ⟨hpw, hp1, fun p hp => by have := hpmo p hp; rw [hpn]; omega⟩ hpm (.tup hr2 (hxi.x x2)) (by walk_at "tr_2") (by walk_at "tr_2")
end
local macro_rules | `(tactic| walk_at "szl") => `(tactic| first
  | assumption
  | exact Nat.lt_of_le_of_lt (by assumption) (by decide)
  | (refine Nat.lt_of_le_of_lt ?_ (show (100000 : Nat) < sizeLine by decide); (try simp only [List.length_map, List.length_cons, List.length_nil, List.length_append]); omega))
local macro_rules | `(tactic| walk_at "sz") => `(tactic| first
  | assumption
  | exact Nat.le_trans (by assumption) (by decide)
  | (show _ ≤ sizeLine; decide)
  | (refine Nat.le_trans ?_ (show (100000 : Nat) ≤ sizeLine by decide); (try simp only [List.length_map, List.length_cons, List.length_nil, List.length_append]); omega))
local macro_rules | `(tactic| walk_at "hp") => `(tactic| first
  | assumption
  | exact upd_same
  | (refine (upd_ne ?hne).trans ?_; (case hne => first | assumption | exact Ne.symm (by assumption)); walk_at "hp"))
local macro_rules | `(tactic| walk_at "pl") => `(tactic| (refine Nat.le_trans (?plx : _ ≤ 1000) (by decide); (case plx => (try simp only [app_len, dot_len, dotS_len, w_len]); omega)))
local macro_rules | `(tactic| walk_at "rd1") => `(tactic| first
  | with_reducible refine rd_seq ?_
  | with_reducible refine rd_asg ?_
  | with_reducible refine rd_ret ?_
  | with_reducible refine rd_if ?_
  | with_reducible refine rd_drop ?_
  | with_reducible refine rd_next ?_
  | with_reducible refine rd_B ?_
  | with_reducible refine rd_ifE ?_
  | with_reducible refine rd_T ?_
  | with_reducible refine rd_tnot ?_
  | with_reducible refine rd_tand ?_
  | with_reducible refine rd_tor ?_
  | with_reducible refine rd_chain ?_
  | with_reducible refine rd_rng2 ?_
  | with_reducible refine rd_zipA ?_
  | with_reducible refine rd_star ?_
  | with_reducible refine rd_op ?_
  | with_reducible refine rd_un ?_
  | with_reducible refine rd_call ?_
  | with_reducible refine rd_cons ?_
  | with_reducible refine rd_nil ?_
  | with_reducible refine rd_cb ?_
  | with_reducible refine rd_c ?_
  | with_reducible refine rd_not ?_
  | with_reducible refine rd_and ?_
  | with_reducible refine rd_or ?_
  | with_reducible refine rd_sub ?_
  | with_reducible refine rd_lc ?_
  | with_reducible refine rd_iStr ?_
  | with_reducible refine rd_exStr ?_
  | with_reducible refine rd_iSeq ?_
  | with_reducible refine rd_rng ?_
  | with_reducible refine rd_exRef ?_
  | with_reducible refine rd_exInt ?_
  | with_reducible refine rd_exInts ?_
  | ((with_reducible refine' rd_seqL (xs := ?rxs) ?rxh ?_); (case rxh => exact SqL.of (by walk_at "hp")))
  | with_reducible refine rd_tyes ?_
  | with_reducible refine rd_eqStr ?_
  | with_reducible refine rd_neStr ?_
  | with_reducible refine rd_eqInt ?_
  | with_reducible refine rd_neInt ?_
  | with_reducible refine rd_eqBl ?_
  | with_reducible refine rd_rev ?_
  | with_reducible refine rd_exA ?_
  | with_reducible refine rd_fs ?_
  | with_reducible refine rd_jc ?_
  | with_reducible refine rd_jn ?_
  | with_reducible refine rd_fmt ?_
  | with_reducible refine rd_for ?_
  | with_reducible refine rd_bm ?_
  | ((with_reducible refine' rd_tyL (xs := ?rxs) ?rxh ?_); (case rxh => walk_at "hp"))
  | ((with_reducible refine' rd_app (xs := ?rxs) ?rxh ?rxc ?_); (case rxh => walk_at "hp"); (case rxc => walk_at "szl"))
  | ((with_reducible refine rd_fmtS ?rdc ?_); (case rdc => walk_at "sz"))
  | with_reducible refine rd_isBool ?_
  | with_reducible refine rd_sl ?_
  | with_reducible refine rd_noP ?_
  | with_reducible refine rd_part ?_
  | ((with_reducible refine rd_slS ?rdc ?_); (case rdc => walk_at "sz"))
  | with_reducible refine rd_sortLam ?_
  | with_reducible refine iteT ?_
  | with_reducible refine rd_ntt ?_
  | with_reducible refine rd_nff ?_
  | with_reducible refine iteF ?_
  | with_reducible refine rd_m1 ?_
  | (with_reducible refine ⟨⟨_, rfl⟩, ?_⟩)
  | ((with_reducible refine rd_len ?rdc ?_); (case rdc => walk_at "sz"))
  | with_reducible refine rd_gcons ?_
  | ((with_reducible refine rd_plusS ?rdc ?_); (case rdc => walk_at "pl"))
  | with_reducible refine rd_gnil ?_
  | ((with_reducible refine' rd_inWs (zs := ?rxs) ?rxh ?_); (case rxh => walk_at "hp"))
  | ((with_reducible refine' rd_ninWs (zs := ?rxs) ?rxh ?_); (case rxh => walk_at "hp"))
  | with_reducible refine rd_ends ?_
  | with_reducible refine rd_inS ?_
  | with_reducible refine rd_ninS ?_
  | with_reducible refine rd_isStr ?_
  | with_reducible refine rd_lst ?_
  | with_reducible refine rd_tup ?_
  | with_reducible refine rd_name ?_
  | with_reducible refine rd_bl ?_
  | with_reducible refine rd_i0 ?_
  | with_reducible refine rd_uI ?_
  | with_reducible refine rd_plusI ?_
  | with_reducible refine rd_int1 ?_
  | ((with_reducible refine rd_i ?rdc ?_); (case rdc => first | decide | (constructor <;> decide) | (left; constructor <;> decide) | (right; constructor <;> decide) | omega | (left; constructor <;> omega) | (right; constructor <;> omega) | (constructor <;> omega)))
  | ((with_reducible refine' rd_ixL (v := ?rxv) (xs := ?rxs) ?rxh ?rxa ?_); (case rxh => exact SqL.of (by walk_at "hp")); (case rxa => rfl))
  | ((with_reducible refine' rd_lenL (ys := ?rxs) ?rxh ?_); (case rxh => exact SqL.of (by walk_at "hp")))
  | ((with_reducible refine' rd_set (xs := ?rxs) (j := ?rxj) ?rxh ?rxa ?_); (case rxh => walk_at "hp"); (case rxa => rfl))
  | ((with_reducible refine' rd_var (v := ?rdw) ?rdv ?_); (case rdv => rfl)))
local macro_rules | `(tactic| walk_at "rdn1") => `(tactic| first
  | with_reducible refine rd_asg ?_
  | with_reducible refine rd_ret ?_
  | with_reducible refine rd_if ?_
  | with_reducible refine rd_drop ?_
  | with_reducible refine rd_next ?_
  | with_reducible refine rd_B ?_
  | with_reducible refine rd_ifE ?_
  | with_reducible refine rd_T ?_
  | with_reducible refine rd_tnot ?_
  | with_reducible refine rd_tand ?_
  | with_reducible refine rd_tor ?_
  | with_reducible refine rd_chain ?_
  | with_reducible refine rd_rng2 ?_
  | with_reducible refine rd_zipA ?_
  | with_reducible refine rd_star ?_
  | with_reducible refine rd_op ?_
  | with_reducible refine rd_un ?_
  | with_reducible refine rd_call ?_
  | with_reducible refine rd_cons ?_
  | with_reducible refine rd_nil ?_
  | with_reducible refine rd_cb ?_
  | with_reducible refine rd_c ?_
  | with_reducible refine rd_not ?_
  | with_reducible refine rd_and ?_
  | with_reducible refine rd_or ?_
  | with_reducible refine rd_sub ?_
  | with_reducible refine rd_lc ?_
  | with_reducible refine rd_iStr ?_
  | with_reducible refine rd_exStr ?_
  | with_reducible refine rd_iSeq ?_
  | with_reducible refine rd_rng ?_
  | with_reducible refine rd_exRef ?_
  | with_reducible refine rd_exInt ?_
  | with_reducible refine rd_exInts ?_
  | ((with_reducible refine' rd_seqL (xs := ?rxs) ?rxh ?_); (case rxh => exact SqL.of (by walk_at "hp")))
  | with_reducible refine rd_tyes ?_
  | with_reducible refine rd_eqStr ?_
  | with_reducible refine rd_neStr ?_
  | with_reducible refine rd_eqInt ?_
  | with_reducible refine rd_neInt ?_
  | with_reducible refine rd_eqBl ?_
  | with_reducible refine rd_rev ?_
  | with_reducible refine rd_exA ?_
  | with_reducible refine rd_fs ?_
  | with_reducible refine rd_jc ?_
  | with_reducible refine rd_jn ?_
  | with_reducible refine rd_fmt ?_
  | with_reducible refine rd_for ?_
  | with_reducible refine rd_bm ?_
  | ((with_reducible refine' rd_tyL (xs := ?rxs) ?rxh ?_); (case rxh => walk_at "hp"))
  | ((with_reducible refine' rd_app (xs := ?rxs) ?rxh ?rxc ?_); (case rxh => walk_at "hp"); (case rxc => walk_at "szl"))
  | ((with_reducible refine rd_fmtS ?rdc ?_); (case rdc => walk_at "sz"))
  | with_reducible refine rd_isBool ?_
  | with_reducible refine rd_sl ?_
  | with_reducible refine rd_noP ?_
  | with_reducible refine rd_part ?_
  | ((with_reducible refine rd_slS ?rdc ?_); (case rdc => walk_at "sz"))
  | with_reducible refine rd_sortLam ?_
  | with_reducible refine iteT ?_
  | with_reducible refine rd_ntt ?_
  | with_reducible refine rd_nff ?_
  | with_reducible refine iteF ?_
  | with_reducible refine rd_m1 ?_
  | (with_reducible refine ⟨⟨_, rfl⟩, ?_⟩)
  | ((with_reducible refine rd_len ?rdc ?_); (case rdc => walk_at "sz"))
  | with_reducible refine rd_gcons ?_
  | ((with_reducible refine rd_plusS ?rdc ?_); (case rdc => walk_at "pl"))
  | with_reducible refine rd_gnil ?_
  | ((with_reducible refine' rd_inWs (zs := ?rxs) ?rxh ?_); (case rxh => walk_at "hp"))
  | ((with_reducible refine' rd_ninWs (zs := ?rxs) ?rxh ?_); (case rxh => walk_at "hp"))
  | with_reducible refine rd_ends ?_
  | with_reducible refine rd_inS ?_
  | with_reducible refine rd_ninS ?_
  | with_reducible refine rd_isStr ?_
  | with_reducible refine rd_lst ?_
  | with_reducible refine rd_tup ?_
  | with_reducible refine rd_name ?_
  | with_reducible refine rd_bl ?_
  | with_reducible refine rd_i0 ?_
  | with_reducible refine rd_uI ?_
  | with_reducible refine rd_plusI ?_
  | with_reducible refine rd_int1 ?_
  | ((with_reducible refine rd_i ?rdc ?_); (case rdc => first | decide | (constructor <;> decide) | (left; constructor <;> decide) | (right; constructor <;> decide) | omega | (left; constructor <;> omega) | (right; constructor <;> omega) | (constructor <;> omega)))
  | ((with_reducible refine' rd_ixL (v := ?rxv) (xs := ?rxs) ?rxh ?rxa ?_); (case rxh => exact SqL.of (by walk_at "hp")); (case rxa => rfl))
  | ((with_reducible refine' rd_lenL (ys := ?rxs) ?rxh ?_); (case rxh => exact SqL.of (by walk_at "hp")))
  | ((with_reducible refine' rd_set (xs := ?rxs) (j := ?rxj) ?rxh ?rxa ?_); (case rxh => walk_at "hp"); (case rxa => rfl))
  | ((with_reducible refine' rd_var (v := ?rdw) ?rdv ?_); (case rdv => rfl)))
local macro_rules | `(tactic| walk_at "rd") => `(tactic| repeat walk_at "rd1")
local macro_rules | `(tactic| walk_at "ext") => `(tactic| first
  | exact Ext.refl
  | assumption
  | (refine Ext.trans ?_ (Ext.mut (by simp) (by walk_at "hp")); walk_at "ext")
  | (refine Ext.trans ?_ (Ext.new (by assumption)); walk_at "ext"))
local macro_rules | `(tactic| walk_at "rdn") => `(tactic| repeat walk_at "rdn1")
section
variable {T : List (Addr × Str)} {P : Program} {w : World} {K : PySem.W.Frag} {mg : Str → Option Value} {base : Heap}
local macro_rules | `(tactic| walk_at "tr") => `(tactic| first
  | assumption
  | exact Ext.refl
  | ((with_reducible refine' Im.x (T := T) (H := ?trH) ?tra ?tre); (case tre => assumption); (case tra => walk_at "tr"))
  | ((with_reducible refine' Im.y (T := T) (H := ?trH) ?tra ?tre ?trt); (case tre => assumption); (case trt => walk_at "tr"); (case tra => walk_at "tr"))
  | ((with_reducible refine' ImAll.x (T := T) (H := ?trH) ?tra ?tre); (case tre => assumption); (case tra => walk_at "tr"))
  | ((with_reducible refine' ImAll.y (T := T) (H := ?trH) ?tra ?tre ?trt); (case tre => assumption); (case trt => walk_at "tr"); (case tra => walk_at "tr"))
  | ((with_reducible refine' Ls.x (T := T) (H := ?trH) ?tra ?tre); (case tre => assumption); (case tra => walk_at "tr"))
  | ((with_reducible refine' Ls.y (T := T) (H := ?trH) ?tra ?tre ?trn ?trt); (case tre => assumption); (case trt => walk_at "tr"); (case trn => walk_at "tr"); (case tra => walk_at "tr"))
  | ((with_reducible refine' SqP.x (T := T) (H := ?trH) ?tra ?tre); (case tre => assumption); (case tra => walk_at "tr"))
  | ((with_reducible refine' SqP.y (T := T) (H := ?trH) ?tra ?tre ?trt); (case tre => assumption); (case trt => walk_at "tr"); (case tra => walk_at "tr"))
  | ((with_reducible refine' StAt.x (T := T) (H := ?trH) ?tra ?tre); (case tre => assumption); (case tra => walk_at "tr"))
  | ((with_reducible refine' StAt.y (T := T) (H := ?trH) ?tra ?tre ?trt); (case tre => assumption); (case trt => walk_at "tr"); (case tra => walk_at "tr"))
  | ((with_reducible refine' Pools.ext0 (T := T) (H := ?trH) ?tra ?tre); (case tre => assumption); (case tra => walk_at "tr"))
  | ((with_reducible refine' Pools.ext (T := T) (H := ?trH) ?tra ?tre ?trt); (case tre => assumption); (case trt => walk_at "tr"); (case tra => walk_at "tr"))
  | ((with_reducible refine' CL.x (T := T) (H := ?trH) ?tra ?tre); (case tre => assumption); (case tra => walk_at "tr"))
  | ((with_reducible refine' CL.y (T := T) (H := ?trH) ?tra ?tre); (case tre => assumption); (case tra => walk_at "tr"))
  | ((with_reducible refine' Tape.ext (T := T) (H := ?trH) ?tra ?tre); (case tre => assumption); (case tra => walk_at "tr"))
  | ((with_reducible refine' lst.x (T := T) (H := ?trH) ?tra ?tre); (case tre => assumption); (case tra => walk_at "tr"))
  | ((with_reducible refine' lst.y (T := T) (H := ?trH) ?tra ?tre ?trn); (case tre => assumption); (case trn => walk_at "tr"); (case tra => walk_at "tr"))
  | ((with_reducible refine' tup.x (T := T) (H := ?trH) ?tra ?tre); (case tre => assumption); (case tra => walk_at "tr"))
  | ((with_reducible refine' tup.y (T := T) (H := ?trH) ?tra ?tre ?trt); (case tre => assumption); (case trt => walk_at "tr"); (case tra => walk_at "tr"))
  | ((with_reducible refine' frz.x (T := T) (H := ?trH) ?tra ?tre); (case tre => assumption); (case tra => walk_at "tr"))
  | ((with_reducible refine' frz.y (T := T) (H := ?trH) ?tra ?tre ?trt); (case tre => assumption); (case trt => walk_at "tr"); (case tra => walk_at "tr"))
  | ((with_reducible refine' Im.z (T := T) (H := ?trH) ?tra ?tre ?trt); (case tre => assumption); (case trt => assumption); (case tra => walk_at "tr"))
  | ((with_reducible refine' ImAll.z (T := T) (H := ?trH) ?tra ?tre ?trt); (case tre => assumption); (case trt => assumption); (case tra => walk_at "tr"))
  | ((with_reducible refine' StAt.z (T := T) (H := ?trH) ?tra ?tre ?trt); (case tre => assumption); (case trt => assumption); (case tra => walk_at "tr"))
  | ((with_reducible refine' SqP.z (T := T) (H := ?trH) ?tra ?tre ?trt); (case tre => assumption); (case trt => assumption); (case tra => walk_at "tr"))
  | ((with_reducible refine' tup.z (T := T) (H := ?trH) ?tra ?tre ?trt); (case tre => assumption); (case trt => assumption); (case tra => walk_at "tr"))
  | ((with_reducible refine' Ls.z (T := T) (H := ?trH) ?tra ?tre ?trt ?trn); (case tre => assumption); (case trt => assumption); (case trn => assumption); (case tra => walk_at "tr"))
  | ((with_reducible refine' lst.z (T := T) (H := ?trH) ?tra ?tre ?trn); (case tre => assumption); (case trn => assumption); (case tra => walk_at "tr"))
  | ((with_reducible refine' CL.z (T := T) (H := ?trH) ?tra ?tre ?trn); (case tre => assumption); (case trn => assumption); (case tra => walk_at "tr"))
  | ((with_reducible refine' Tape.ne1 (H := ?trH) ?trt ?trn); (case trn => assumption); (case trt => walk_at "tr"))
  | ((with_reducible refine' Ext.trans (H1 := ?trH) ?tra (Ext.any ?tre)); (case tre => assumption); (case tra => walk_at "tr"))
  | ((with_reducible refine' Ext.trans (H1 := ?trH) ?tra ?tre); (case tre => assumption); (case tra => walk_at "tr"))
  | ((with_reducible refine' Ext.back1 (T := T) (H1 := ?trH) ?tre ?trn ?tra); (case tra => assumption); (case trn => walk_at "tr"); (case tre => walk_at "tr"))
  | ((with_reducible refine' Ext.back0 (T := T) (H1 := ?trH) ?tre ?tra); (case tra => assumption); (case tre => walk_at "tr"))
  | ((with_reducible refine' SqT.of ?tra); (case tra => walk_at "tr"))
  | ((with_reducible refine' SqL.of ?tra); (case tra => walk_at "tr")))
local macro_rules | `(tactic| walk_at "al") => `(tactic| (refine ⟨by first | (show _ ≤ sizeLine; decide) | walk_at "sz", ?_⟩; intro alp aln; generalize alG : upd _ alp _ = alH; obtain ⟨aln2, alx, alh⟩ := al_of (T := T) aln alG; clear alG aln))
local macro_rules | `(tactic| walk_at "al0") => `(tactic| (intro alp aln; generalize alG : upd _ alp _ = alH; obtain ⟨aln2, alx, alh⟩ := al_of (T := T) aln alG; clear alG aln))
def spZn (T : List (Addr × Str)) : Sp := fun vs H Q _ => ∃ (v : V) (R : Rm), vs = [v] ∧ Im H v (rmD R) ∧ RmIn R ∧ ∀ p H', Nw H p → Ext T [] H H' → H' p = some (.tup ((R.zs.map (·.1)).map V.str)) → Q (.ref p) H'
theorem ok_zone_names (D : Def K mg "zone_names" s_zone_names ["realm"]) (mb : ∀ x ∈ bltns, mg x = none) : Ok P w K mg base 1 "zone_names" ["realm"] (spZn T) := by
  refine D.ok sc_zone_names (fun vs H Q E h => ?_) (fun cdv f A outer s H vs Q E hr h => ?_)
  · obtain ⟨v, R, rfl, _⟩ := h
    rfl
  · obtain ⟨v, R, rfl, hv, hR, q⟩ := h
    refine ⟨_, (pss_one (ps_ret (pe_callTy (call_tupU K rfl) (by rfl) (mb _ (by decide)) (by decide +kernel) (pa_cons (pe_lc (own := [("zone", 1), ("_", 2)]) (tt := tYes) rfl sc_zone_names.nd (pi_seq K rfl (pe_ix (ix_U K rfl) (pv 0) pe_int (fun _ _ => rfl))) (blkOk_by (N := N_zone_names) (sc := defScope s_zone_names) (by decide +kernel)) (fun _ _ _ _ _ => (pg_tupU (n := 2) K rfl rfl (pgs_cons (pg_name (i := 1) sc_zone_names.nd rfl (Or.inl rfl)) (pgs_cons (pg_name (i := 2) sc_zone_names.nd rfl (Or.inl rfl)) pgs_nil)))) (fun _ _ _ _ _ => pts_nil) (fun _ _ _ _ _ => (pv 1))) pa_nil)))), ?_⟩
    walk_at "rd"
    refine rd_ixI (d := .tuple (R.zs.map siD)) hv rfl fun u1 hu1 => ?_
    obtain ⟨zp, zx, rfl, hzp, hzi⟩ := hu1.tup'
    have hzl : zx.length = R.zs.length := by rw [hzi.len, List.length_map]
    have hzl6 := hR.len
    refine ⟨zp, rfl, .inr ⟨⟨_, SqP.sq hzp⟩, ?_⟩⟩
    refine lcg_rel T [] walk_tup zx rfl (fun i H x H' y => y) (by simp) (fun H' e => SqP.sq (SqP.x hzp e)) (Nat.lt_of_le_of_lt (show zx.length ≤ 100 by omega) (by decide)) (fun _ => true) (fun v x => ∃ r, Im H x (siD r) ∧ v = .str r.1) (fun i x hx H' e' R' S h1 h2 => ?_) (fun D H2 us nD e2 hD hus => ?_)
    · obtain ⟨dr, hdr, hxr⟩ := hzi.get' hx
      rw [List.getElem?_map] at hdr
      obtain ⟨r, hr, rfl⟩ := Option.map_eq_some_iff.mp hdr
      refine rd_gpair (d1 := .str r.1) (d2 := .int r.2) (hxr.x e') fun v1 v2 g1 g2 => ?_
      rw [g1.str', g2.int']
      refine ⟨rfl, ?_⟩
      walk_at "rd"
      exact h1 rfl _ _ .refl ⟨r, hxr, rfl⟩
    · rw [filtT] at hus
      have hu2 := zn_key hzi hus
      subst hu2
      walk_at "rd"
      refine rd_tupA T hD fun p H3 np x3 hp => ?_
      exact q p H3 (e2.back (by simp) np) (e2.trans x3) hp
theorem rd_dget {td ty : TE} {σ : L2.St} {H : Hp} {Q : VK} (q : td σ H fun x H1 => ty σ H1 fun y H2 => ∃ a v, x = V.ref a ∧ DGet H2 a y (some v) ∧ Q v H2) : tDGet td ty σ H Q := q
end
section
variable {T : List (Addr × Str)} {P : Program} {w : World} {K : PySem.W.Frag} {mg : Str → Option Value} {base : Heap}
local macro_rules | `(tactic| walk_at "tr") => `(tactic| first
  | assumption
  | exact Ext.refl
  | ((with_reducible refine' Im.x (T := T) (H := ?trH) ?tra ?tre); (case tre => assumption); (case tra => walk_at "tr"))
  | ((with_reducible refine' Im.y (T := T) (H := ?trH) ?tra ?tre ?trt); (case tre => assumption); (case trt => walk_at "tr"); (case tra => walk_at "tr"))
  | ((with_reducible refine' ImAll.x (T := T) (H := ?trH) ?tra ?tre); (case tre => assumption); (case tra => walk_at "tr"))
  | ((with_reducible refine' ImAll.y (T := T) (H := ?trH) ?tra ?tre ?trt); (case tre => assumption); (case trt => walk_at "tr"); (case tra => walk_at "tr"))
  | ((with_reducible refine' Ls.x (T := T) (H := ?trH) ?tra ?tre); (case tre => assumption); (case tra => walk_at "tr"))
  | ((with_reducible refine' Ls.y (T := T) (H := ?trH) ?tra ?tre ?trn ?trt); (case tre => assumption); (case trt => walk_at "tr"); (case trn => walk_at "tr"); (case tra => walk_at "tr"))
  | ((with_reducible refine' SqP.x (T := T) (H := ?trH) ?tra ?tre); (case tre => assumption); (case tra => walk_at "tr"))
  | ((with_reducible refine' SqP.y (T := T) (H := ?trH) ?tra ?tre ?trt); (case tre => assumption); (case trt => walk_at "tr"); (case tra => walk_at "tr"))
  | ((with_reducible refine' StAt.x (T := T) (H := ?trH) ?tra ?tre); (case tre => assumption); (case tra => walk_at "tr"))
  | ((with_reducible refine' StAt.y (T := T) (H := ?trH) ?tra ?tre ?trt); (case tre => assumption); (case trt => walk_at "tr"); (case tra => walk_at "tr"))
  | ((with_reducible refine' Pools.ext0 (T := T) (H := ?trH) ?tra ?tre); (case tre => assumption); (case tra => walk_at "tr"))
  | ((with_reducible refine' Pools.ext (T := T) (H := ?trH) ?tra ?tre ?trt); (case tre => assumption); (case trt => walk_at "tr"); (case tra => walk_at "tr"))
  | ((with_reducible refine' CL.x (T := T) (H := ?trH) ?tra ?tre); (case tre => assumption); (case tra => walk_at "tr"))
  | ((with_reducible refine' CL.y (T := T) (H := ?trH) ?tra ?tre); (case tre => assumption); (case tra => walk_at "tr"))
  | ((with_reducible refine' Tape.ext (T := T) (H := ?trH) ?tra ?tre); (case tre => assumption); (case tra => walk_at "tr"))
  | ((with_reducible refine' lst.x (T := T) (H := ?trH) ?tra ?tre); (case tre => assumption); (case tra => walk_at "tr"))
  | ((with_reducible refine' lst.y (T := T) (H := ?trH) ?tra ?tre ?trn); (case tre => assumption); (case trn => walk_at "tr"); (case tra => walk_at "tr"))
  | ((with_reducible refine' tup.x (T := T) (H := ?trH) ?tra ?tre); (case tre => assumption); (case tra => walk_at "tr"))
  | ((with_reducible refine' tup.y (T := T) (H := ?trH) ?tra ?tre ?trt); (case tre => assumption); (case trt => walk_at "tr"); (case tra => walk_at "tr"))
  | ((with_reducible refine' frz.x (T := T) (H := ?trH) ?tra ?tre); (case tre => assumption); (case tra => walk_at "tr"))
  | ((with_reducible refine' frz.y (T := T) (H := ?trH) ?tra ?tre ?trt); (case tre => assumption); (case trt => walk_at "tr"); (case tra => walk_at "tr"))
  | ((with_reducible refine' Im.z (T := T) (H := ?trH) ?tra ?tre ?trt); (case tre => assumption); (case trt => assumption); (case tra => walk_at "tr"))
  | ((with_reducible refine' ImAll.z (T := T) (H := ?trH) ?tra ?tre ?trt); (case tre => assumption); (case trt => assumption); (case tra => walk_at "tr"))
  | ((with_reducible refine' StAt.z (T := T) (H := ?trH) ?tra ?tre ?trt); (case tre => assumption); (case trt => assumption); (case tra => walk_at "tr"))
  | ((with_reducible refine' SqP.z (T := T) (H := ?trH) ?tra ?tre ?trt); (case tre => assumption); (case trt => assumption); (case tra => walk_at "tr"))
  | ((with_reducible refine' tup.z (T := T) (H := ?trH) ?tra ?tre ?trt); (case tre => assumption); (case trt => assumption); (case tra => walk_at "tr"))
  | ((with_reducible refine' Ls.z (T := T) (H := ?trH) ?tra ?tre ?trt ?trn); (case tre => assumption); (case trt => assumption); (case trn => assumption); (case tra => walk_at "tr"))
  | ((with_reducible refine' lst.z (T := T) (H := ?trH) ?tra ?tre ?trn); (case tre => assumption); (case trn => assumption); (case tra => walk_at "tr"))
  | ((with_reducible refine' CL.z (T := T) (H := ?trH) ?tra ?tre ?trn); (case tre => assumption); (case trn => assumption); (case tra => walk_at "tr"))
  | ((with_reducible refine' Tape.ne1 (H := ?trH) ?trt ?trn); (case trn => assumption); (case trt => walk_at "tr"))
  | ((with_reducible refine' Ext.trans (H1 := ?trH) ?tra (Ext.any ?tre)); (case tre => assumption); (case tra => walk_at "tr"))
  | ((with_reducible refine' Ext.trans (H1 := ?trH) ?tra ?tre); (case tre => assumption); (case tra => walk_at "tr"))
  | ((with_reducible refine' Ext.back1 (T := T) (H1 := ?trH) ?tre ?trn ?tra); (case tra => assumption); (case trn => walk_at "tr"); (case tre => walk_at "tr"))
  | ((with_reducible refine' Ext.back0 (T := T) (H1 := ?trH) ?tre ?tra); (case tra => assumption); (case tre => walk_at "tr"))
  | ((with_reducible refine' SqT.of ?tra); (case tra => walk_at "tr"))
  | ((with_reducible refine' SqL.of ?tra); (case tra => walk_at "tr")))
local macro_rules | `(tactic| walk_at "al") => `(tactic| (refine ⟨by first | (show _ ≤ sizeLine; decide) | walk_at "sz", ?_⟩; intro alp aln; generalize alG : upd _ alp _ = alH; obtain ⟨aln2, alx, alh⟩ := al_of (T := T) aln alG; clear alG aln))
local macro_rules | `(tactic| walk_at "al0") => `(tactic| (intro alp aln; generalize alG : upd _ alp _ = alH; obtain ⟨aln2, alx, alh⟩ := al_of (T := T) aln alG; clear alG aln))
/-! ### the item of a slot -/
def slK : Sl → List L2.Key
  | .k z => [.inr "keys", .inr z]
  | .l z => [.inr "link", .inr z]
  | .h z => [.inr "hosts", .inr z]
  | .s n k => [.inr "set", .inr n, .inr k]
theorem slD_K (s : Sl) : ∃ (x : Str) (l : List Str), slD s = .tuple ((x :: l).map .str) ∧ slK s = (x :: l).map .inr := by
  cases s with
  | k z => exact ⟨"keys", [z], rfl, rfl⟩
  | l z => exact ⟨"link", [z], rfl, rfl⟩
  | h z => exact ⟨"hosts", [z], rfl, rfl⟩
  | s n k => exact ⟨"set", [n, k], rfl, rfl⟩
theorem slK_inj {a b : Sl} (h : slK a = slK b) : a = b := by
  obtain ⟨x, l, h1, h2⟩ := slD_K a
  obtain ⟨y, m, h3, h4⟩ := slD_K b
  rw [h2, h4] at h
  have e : x :: l = y :: m := map_inj (fun _ _ e => Sum.inr.inj e) h
  exact slD_inj (by rw [h1, h3, e])
theorem Im.slot {H : Hp} {v : V} {s : Sl} (h : Im H v (slD s)) : ∃ b, v = .ref b ∧ H b = some (.tup ((slK s).map kV)) := by
  obtain ⟨x, l, h1, h2⟩ := slD_K s
  rw [h1] at h
  obtain ⟨a, xs, rfl, h3, h4⟩ := Im.tupS (d := .str x) (ds := l.map .str) h (fun _ e => by cases e)
  have h5 := ImAll.strs' (zs := x :: l) h4
  subst h5
  refine ⟨a, rfl, ?_⟩
  rw [h2, List.map_map]
  exact h3
theorem st_pairs {H : Hp} : ∀ {xs : List V} {its : List (Sl × Itm)}, ImAll H xs (its.map rowD2) → ∃ (ps : List Addr) (kvs : List (List L2.Key × V)), xs = ps.map V.ref ∧ PairsT K H ps kvs ∧ kvs.map (·.1) = its.map (fun r => slK r.1) ∧
    ∀ (sl : Sl) (i : Itm), (its.map (·.1)).Nodup → (sl, i) ∈ its → ∃ v, valV kvs (slK sl) = some v ∧ Im H v (itD i)
  | _, [], h => by
    cases h
    exact ⟨[], [], rfl, .nil, rfl, fun _ _ _ hm => by cases hm⟩
  | _, r :: its, h => by
    cases h with
    | cons a b =>
      obtain ⟨ps, kvs, e1, e2, e3, e4⟩ := st_pairs b
      obtain ⟨ta, y1, y2, rfl, hta, g1, g2⟩ := a.pair'
      obtain ⟨b1, rfl, hb1⟩ := g1.slot
      refine ⟨ta :: ps, (slK r.1, y2) :: kvs, by rw [e1]; rfl, .cons ⟨b1, hta.sq, hb1⟩ e2, by rw [List.map_cons, List.map_cons, e3], fun sl i hn hm => ?_⟩
      rw [List.map_cons, List.nodup_cons] at hn
      unfold valV
      rw [List.find?_cons]
      by_cases hk : slK r.1 = slK sl
      · have es := slK_inj hk
        rw [decide_eq_true hk]
        refine ⟨y2, rfl, ?_⟩
        rcases List.mem_cons.mp hm with hm | hm
        · rw [← hm] at g2
          exact g2
        · exact absurd (List.mem_map.mpr ⟨_, hm, es.symm⟩) hn.1
      · rw [decide_eq_false hk]
        rcases List.mem_cons.mp hm with hm | hm
        · rw [← hm] at hk
          exact absurd rfl hk
        · exact e4 sl i hn.2 hm
def spItemOf (T : List (Addr × Str)) : Sp := fun vs H Q _ => ∃ (u v : V) (s : Sta) (sl : Sl) (i : Itm), vs = [u, v] ∧ StAt H u s ∧ Im H v (slD sl) ∧ (sl, i) ∈ s.its ∧ (s.its.map (·.1)).Nodup ∧ s.its.length ≤ 100 ∧ ∀ (x : V) (H' : Hp), Ext T [] H H' → Im H' x (itD i) → Q x H'
theorem ok_item_of (D : Def K mg "item_of" s_item_of ["state", "slot"]) (mb : ∀ x ∈ bltns, mg x = none) : Ok P w K mg base 1 "item_of" ["state", "slot"] (spItemOf T) := by
  refine D.ok sc_item_of (fun vs H Q E h => ?_) (fun cdv f A outer s H vs Q E hr h => ?_)
  · obtain ⟨u, v, s, sl, i, rfl, _⟩ := h
    rfl
  · obtain ⟨u, v, s, sl, i, rfl, hu, hv, hm, hn, hl, q⟩ := h
    refine ⟨_, (pss_one (ps_ret (pe_dget (hu_of hr) (pe_callTy (call_dictT K rfl rfl hr.units) (by rfl) (mb _ (by decide)) (by decide +kernel) (pa_cons (pe_ix (ix_U K rfl) (pv 0) pe_int (fun _ _ => rfl)) pa_nil)) (pv 1) (fun _ _ => rfl)))), ?_⟩
    obtain ⟨a, ia, oa, xs, o, rfl, ha, hia, hod, hxi, hoa⟩ := hu
    obtain ⟨ps, kvs, rfl, hp, hk, hv2⟩ := st_pairs (K := K) hxi
    obtain ⟨x, hx1, hx2⟩ := hv2 sl i hn hm
    obtain ⟨b, rfl, hb⟩ := hv.slot
    walk_at "rd"
    refine rd_dget ?_
    walk_at "rd"
    refine rd_ixT (v := .ref ia) (SqT.of ha) rfl ?_
    walk_at "rd"
    refine ⟨ia, ps, kvs, rfl, ⟨o, hod, hia⟩, hp, ?_, fun d hd => ?_⟩
    · rw [hk, show s.its.map (fun r => slK r.1) = (s.its.map (·.1)).map slK by rw [List.map_map]; rfl]
      exact nodup_mapI (fun a b => slK_inj) hn
    · obtain ⟨nd, e1, hd1⟩ := al_of (T := T) hd (rfl : upd H d (.dT kvs) = _)
      generalize upd H d (.dT kvs) = H1 at e1 hd1 ⊢
      walk_at "rd"
      refine ⟨d, x, rfl, .inr ⟨kvs, slK sl, b, .inl hd1, rfl, tup.x hb e1, hx1.symm⟩, ?_⟩
      exact q x H1 e1 (hx2.x e1)
end
structure Cst (mg : Str → Option Value) : Prop where
  c_LETTERS : ∃ t, mg "LETTERS" = some (.str lettersS t)
  c_MAX_ID : ∃ t, mg "MAX_ID" = some (.int 4 t)
  c_MAX_TIME : ∃ t, mg "MAX_TIME" = some (.int 10000 t)
  c_MAX_LIFE : ∃ t, mg "MAX_LIFE" = some (.int 1000 t)
  c_MAX_IDS : ∃ t, mg "MAX_IDS" = some (.int 4 t)
  c_MAX_SIGNERS : ∃ t, mg "MAX_SIGNERS" = some (.int 3 t)
  c_MAX_PLAN : ∃ t, mg "MAX_PLAN" = some (.int 12 t)
section
variable {T : List (Addr × Str)} {P : Program} {w : World} {K : PySem.W.Frag} {mg : Str → Option Value} {base : Heap}
local macro_rules | `(tactic| walk_at "tr") => `(tactic| first
  | assumption
  | exact Ext.refl
  | ((with_reducible refine' Im.x (T := T) (H := ?trH) ?tra ?tre); (case tre => assumption); (case tra => walk_at "tr"))
  | ((with_reducible refine' Im.y (T := T) (H := ?trH) ?tra ?tre ?trt); (case tre => assumption); (case trt => walk_at "tr"); (case tra => walk_at "tr"))
  | ((with_reducible refine' ImAll.x (T := T) (H := ?trH) ?tra ?tre); (case tre => assumption); (case tra => walk_at "tr"))
  | ((with_reducible refine' ImAll.y (T := T) (H := ?trH) ?tra ?tre ?trt); (case tre => assumption); (case trt => walk_at "tr"); (case tra => walk_at "tr"))
  | ((with_reducible refine' Ls.x (T := T) (H := ?trH) ?tra ?tre); (case tre => assumption); (case tra => walk_at "tr"))
  | ((with_reducible refine' Ls.y (T := T) (H := ?trH) ?tra ?tre ?trn ?trt); (case tre => assumption); (case trt => walk_at "tr"); (case trn => walk_at "tr"); (case tra => walk_at "tr"))
  | ((with_reducible refine' SqP.x (T := T) (H := ?trH) ?tra ?tre); (case tre => assumption); (case tra => walk_at "tr"))
  | ((with_reducible refine' SqP.y (T := T) (H := ?trH) ?tra ?tre ?trt); (case tre => assumption); (case trt => walk_at "tr"); (case tra => walk_at "tr"))
  | ((with_reducible refine' StAt.x (T := T) (H := ?trH) ?tra ?tre); (case tre => assumption); (case tra => walk_at "tr"))
  | ((with_reducible refine' StAt.y (T := T) (H := ?trH) ?tra ?tre ?trt); (case tre => assumption); (case trt => walk_at "tr"); (case tra => walk_at "tr"))
  | ((with_reducible refine' Pools.ext0 (T := T) (H := ?trH) ?tra ?tre); (case tre => assumption); (case tra => walk_at "tr"))
  | ((with_reducible refine' Pools.ext (T := T) (H := ?trH) ?tra ?tre ?trt); (case tre => assumption); (case trt => walk_at "tr"); (case tra => walk_at "tr"))
  | ((with_reducible refine' CL.x (T := T) (H := ?trH) ?tra ?tre); (case tre => assumption); (case tra => walk_at "tr"))
  | ((with_reducible refine' CL.y (T := T) (H := ?trH) ?tra ?tre); (case tre => assumption); (case tra => walk_at "tr"))
  | ((with_reducible refine' Tape.ext (T := T) (H := ?trH) ?tra ?tre); (case tre => assumption); (case tra => walk_at "tr"))
  | ((with_reducible refine' lst.x (T := T) (H := ?trH) ?tra ?tre); (case tre => assumption); (case tra => walk_at "tr"))
  | ((with_reducible refine' lst.y (T := T) (H := ?trH) ?tra ?tre ?trn); (case tre => assumption); (case trn => walk_at "tr"); (case tra => walk_at "tr"))
  | ((with_reducible refine' tup.x (T := T) (H := ?trH) ?tra ?tre); (case tre => assumption); (case tra => walk_at "tr"))
  | ((with_reducible refine' tup.y (T := T) (H := ?trH) ?tra ?tre ?trt); (case tre => assumption); (case trt => walk_at "tr"); (case tra => walk_at "tr"))
  | ((with_reducible refine' frz.x (T := T) (H := ?trH) ?tra ?tre); (case tre => assumption); (case tra => walk_at "tr"))
  | ((with_reducible refine' frz.y (T := T) (H := ?trH) ?tra ?tre ?trt); (case tre => assumption); (case trt => walk_at "tr"); (case tra => walk_at "tr"))
  | ((with_reducible refine' Im.z (T := T) (H := ?trH) ?tra ?tre ?trt); (case tre => assumption); (case trt => assumption); (case tra => walk_at "tr"))
  | ((with_reducible refine' ImAll.z (T := T) (H := ?trH) ?tra ?tre ?trt); (case tre => assumption); (case trt => assumption); (case tra => walk_at "tr"))
  | ((with_reducible refine' StAt.z (T := T) (H := ?trH) ?tra ?tre ?trt); (case tre => assumption); (case trt => assumption); (case tra => walk_at "tr"))
  | ((with_reducible refine' SqP.z (T := T) (H := ?trH) ?tra ?tre ?trt); (case tre => assumption); (case trt => assumption); (case tra => walk_at "tr"))
  | ((with_reducible refine' tup.z (T := T) (H := ?trH) ?tra ?tre ?trt); (case tre => assumption); (case trt => assumption); (case tra => walk_at "tr"))
  | ((with_reducible refine' Ls.z (T := T) (H := ?trH) ?tra ?tre ?trt ?trn); (case tre => assumption); (case trt => assumption); (case trn => assumption); (case tra => walk_at "tr"))
  | ((with_reducible refine' lst.z (T := T) (H := ?trH) ?tra ?tre ?trn); (case tre => assumption); (case trn => assumption); (case tra => walk_at "tr"))
  | ((with_reducible refine' CL.z (T := T) (H := ?trH) ?tra ?tre ?trn); (case tre => assumption); (case trn => assumption); (case tra => walk_at "tr"))
  | ((with_reducible refine' Tape.ne1 (H := ?trH) ?trt ?trn); (case trn => assumption); (case trt => walk_at "tr"))
  | ((with_reducible refine' Ext.trans (H1 := ?trH) ?tra (Ext.any ?tre)); (case tre => assumption); (case tra => walk_at "tr"))
  | ((with_reducible refine' Ext.trans (H1 := ?trH) ?tra ?tre); (case tre => assumption); (case tra => walk_at "tr"))
  | ((with_reducible refine' Ext.back1 (T := T) (H1 := ?trH) ?tre ?trn ?tra); (case tra => assumption); (case trn => walk_at "tr"); (case tre => walk_at "tr"))
  | ((with_reducible refine' Ext.back0 (T := T) (H1 := ?trH) ?tre ?tra); (case tra => assumption); (case tre => walk_at "tr"))
  | ((with_reducible refine' SqT.of ?tra); (case tra => walk_at "tr"))
  | ((with_reducible refine' SqL.of ?tra); (case tra => walk_at "tr")))
local macro_rules | `(tactic| walk_at "al") => `(tactic| (refine ⟨by first | (show _ ≤ sizeLine; decide) | walk_at "sz", ?_⟩; intro alp aln; generalize alG : upd _ alp _ = alH; obtain ⟨aln2, alx, alh⟩ := al_of (T := T) aln alG; clear alG aln))
local macro_rules | `(tactic| walk_at "al0") => `(tactic| (intro alp aln; generalize alG : upd _ alp _ = alH; obtain ⟨aln2, alx, alh⟩ := al_of (T := T) aln alG; clear alG aln))
/-- data in, a truth value out -/
def spDB (T : List (Addr × Str)) (f : PyData → Bool) : Sp := fun vs H Q _ => ∃ (v : V) (d : PyData), vs = [v] ∧ Im H v d ∧ Sm d ∧ ∀ H', Ext T [] H H' → Q (.bl (f d)) H'
def spWordD (T : List (Addr × Str)) : Sp := fun vs H Q _ => ∃ (v : V) (d : PyData) (ls : Str) (m : Int), vs = [v, .str ls, .int m] ∧ Im H v d ∧ Sm d ∧ ∀ H', Ext T [] H H' → Q (.bl (wordD ls m d)) H'
def spIntD : Sp := fun vs H Q _ => ∃ (v : V) (d : PyData) (lo hi : Int), vs = [v, .int lo, .int hi] ∧ Im H v d ∧ Q (.bl (intB lo hi d)) H
def spTupD : Sp := fun vs H Q _ => ∃ (v : V) (d : PyData) (lo hi : Int), vs = [v, .int lo, .int hi] ∧ Im H v d ∧ Q (.bl (tupB lo hi d)) H
theorem ok_is_integer_in (D : Def K mg "is_integer_in" s_is_integer_in ["value", "least", "most"]) (mb : ∀ x ∈ bltns, mg x = none) : Ok P w K mg base 1 "is_integer_in" ["value", "least", "most"] spIntD := by
  refine D.ok sc_is_integer_in (fun vs H Q E h => ?_) (fun cdv f A outer s H vs Q E hr h => ?_)
  · obtain ⟨v, d, lo, hi, rfl, _⟩ := h
    rfl
  · obtain ⟨v, d, lo, hi, rfl, hv, q⟩ := h
    refine ⟨_, (pss_one (ps_ret (pe_and (pe_callB (call_isiU K rfl) (by rfl) (mb _ (by decide)) (by decide +kernel) (pa_cons (pv 0) (pa_cons (pe_bltn (v := .ty "int") (u := .type "int") (by rfl) (mb _ (by decide)) (by decide +kernel) rfl) pa_nil))) (pe_and (pe_not (pe_callB (call_isiU K rfl) (by rfl) (mb _ (by decide)) (by decide +kernel) (pa_cons (pv 0) (pa_cons (pe_bltn (v := .ty "bool") (u := .type "bool") (by rfl) (mb _ (by decide)) (by decide +kernel) rfl) pa_nil)))) (pe_one (pe_chain op_le op_le (pv 1) (pv 0) (pv 2))))))), ?_⟩
    walk_at "rd"
    refine rd_isIntD hv ?_
    rcases hv.cases4 with rfl | ⟨i, rfl⟩ | ⟨z, rfl⟩ | ⟨ds, rfl⟩
    · walk_at "rd"
      exact q
    · obtain rfl := hv.int'
      rw [show isInt (PyData.int i) = true from rfl]
      walk_at "rd"
      refine rd_isBlI ?_
      walk_at "rd"
      refine rd_ite (fun c => ?_) (fun c => ?_)
      · walk_at "rd"
        have q : Q (.bl (decide (lo ≤ i) && decide (i ≤ hi))) H := q
        rw [decide_eq_true c, Bool.true_and] at q
        exact q
      · have q : Q (.bl (decide (lo ≤ i) && decide (i ≤ hi))) H := q
        rw [decide_eq_false c, Bool.false_and] at q
        exact q
    · walk_at "rd"
      exact q
    · walk_at "rd"
      exact q
theorem ok_is_tuple_of (D : Def K mg "is_tuple_of" s_is_tuple_of ["value", "least", "most"]) (mb : ∀ x ∈ bltns, mg x = none) : Ok P w K mg base 1 "is_tuple_of" ["value", "least", "most"] spTupD := by
  refine D.ok sc_is_tuple_of (fun vs H Q E h => ?_) (fun cdv f A outer s H vs Q E hr h => ?_)
  · obtain ⟨v, d, lo, hi, rfl, _⟩ := h
    rfl
  · obtain ⟨v, d, lo, hi, rfl, hv, q⟩ := h
    refine ⟨_, (pss_one (ps_ret (pe_and (pe_callB (call_isiU K rfl) (by rfl) (mb _ (by decide)) (by decide +kernel) (pa_cons (pv 0) (pa_cons (pe_bltn (v := .ty "tuple") (u := .type "tuple") (by rfl) (mb _ (by decide)) (by decide +kernel) rfl) pa_nil))) (pe_one (pe_chain op_le op_le (pv 1) (pe_callB (call_lenU K rfl) (by rfl) (mb _ (by decide)) (by decide +kernel) (pa_cons (pv 0) pa_nil)) (pv 2)))))), ?_⟩
    walk_at "rd"
    refine rd_isTupD hv ?_
    rcases hv.cases4 with rfl | ⟨i, rfl⟩ | ⟨z, rfl⟩ | ⟨ds, rfl⟩
    · walk_at "rd"
      exact q
    · walk_at "rd"
      exact q
    · walk_at "rd"
      exact q
    · obtain ⟨a, xs, rfl, ha, hi'⟩ := hv.tup'
      rw [show isTup (PyData.tuple ds) = true from rfl]
      walk_at "rd"
      refine rd_lenT (SqP.sq ha) ?_
      walk_at "rd"
      have q : Q (.bl (decide (lo ≤ (ds.length : Int)) && decide ((ds.length : Int) ≤ hi))) H := q
      rw [← hi'.len] at q
      refine rd_ite (fun c => ?_) (fun c => ?_)
      · walk_at "rd"
        rw [decide_eq_true c, Bool.true_and] at q
        exact q
      · rw [decide_eq_false c, Bool.false_and] at q
        exact q
theorem ok_is_word (D : Def K mg "is_word" s_is_word ["text", "letters", "most"]) (mb : ∀ x ∈ bltns, mg x = none) : Ok P w K mg base 1 "is_word" ["text", "letters", "most"] (spWordD T) := by
  refine D.ok sc_is_word (fun vs H Q E h => ?_) (fun cdv f A outer s H vs Q E hr h => ?_)
  · obtain ⟨v, d, ls, m, rfl, _⟩ := h
    rfl
  · obtain ⟨v, d, ls, m, rfl, hv, hz, q⟩ := h
    refine ⟨_, (pss_one (ps_ret (pe_and (pe_callB (call_isiU K rfl) (by rfl) (mb _ (by decide)) (by decide +kernel) (pa_cons (pv 0) (pa_cons (pe_bltn (v := .ty "str") (u := .type "str") (by rfl) (mb _ (by decide)) (by decide +kernel) rfl) pa_nil))) (pe_and (pe_chain op_le op_le pe_int (pe_callB (call_lenU K rfl) (by rfl) (mb _ (by decide)) (by decide +kernel) (pa_cons (pv 0) pa_nil)) (pv 2)) (pe_one (pe_callB (call_allU K rfl rfl) (by rfl) (mb _ (by decide)) (by decide +kernel) (pa_cons (pe_lc (own := [("letter", 3)]) (g := gName 3) (tt := tYes) rfl sc_is_word.nd (pi_str (pv 0)) (blkOk_by (N := N_is_word) (sc := defScope s_is_word) (by decide +kernel)) (fun _ _ _ _ _ => (pg_name (i := 3) sc_is_word.nd rfl (Or.inl rfl))) (fun _ _ _ _ _ => pts_nil) (fun _ _ _ _ _ => (pe_cmpR (op_inW K rfl (Room.units65 hr)) (pv 3) (pv 1) rfl))) pa_nil))))))), ?_⟩
    walk_at "rd"
    refine rd_isStrD hv ?_
    rcases hv.cases4 with rfl | ⟨i, rfl⟩ | ⟨z, rfl⟩ | ⟨ds, rfl⟩
    · walk_at "rd"
      exact q H .refl
    · walk_at "rd"
      exact q H .refl
    · obtain rfl := hv.str'
      have hz : z.length ≤ 1000 := hz
      have hz2 : z.length ≤ sizeLine := Nat.le_trans hz (by decide)
      have q' : ∀ (H' : Hp) {b : Bool}, Ext T [] H H' → wordB z ls m = b → Q (.bl b) H' := fun H' b e h => by
        rw [← h]
        exact q H' e
      unfold wordB at q'
      rw [show isStr (PyData.str z) = true from rfl]
      walk_at "rd"
      refine rd_ite (fun h1 => ?_) (fun h1 => ?_)
      · walk_at "rd"
        refine rd_ite (fun h2 => ?_) (fun h2 => ?_)
        · walk_at "rd"
          refine lcg_str T [] (fun _ => true) (fun v => .bl (match v with | .str x => decide ((sg x).headD 0 ∈ sg ls) | _ => false)) (Nat.lt_of_le_of_lt hz (by decide)) (by simp) (fun x hx H' e R S h1 h2 => ?_) (fun D H2 nw e hD => ?_)
          · obtain ⟨c, hc, rfl⟩ := List.mem_map.mp hx
            walk_at "rd"
            exact .inl (rd_inS (h1 rfl H' .refl))
          · walk_at "rd"
            refine rd_all (bs := (sg z).map fun c => decide (c ∈ sg ls)) (SqL.of (by rw [hD, filtT, chrs, List.map_map, List.map_map]; rfl)) (q' _ e ?_)
            rw [decide_eq_true h1, decide_eq_true h2, List.all_map]
            rfl
        · exact q' H .refl (by rw [decide_eq_false h2, Bool.false_and, Bool.and_false])
      · walk_at "rd"
        exact q' H .refl (by rw [decide_eq_false h1, Bool.false_and])
    · walk_at "rd"
      exact q H .refl
theorem ok_is_id (D : Def K mg "is_id" s_is_id ["text"]) (M : Cst mg) (G_is_word : Ok P w K mg base 1 "is_word" ["text", "letters", "most"] (spWordD T)) : Ok P w K mg base 2 "is_id" ["text"] (spDB T idD) := by
  refine D.ok sc_is_id (fun vs H Q E h => ?_) (fun cdv f A outer s H vs Q E hr h => ?_)
  · obtain ⟨v, d, rfl, _⟩ := h
    rfl
  · obtain ⟨v, d, rfl, hv, hz, q⟩ := h
    refine ⟨_, (pss_one (ps_ret (pe_callO G_is_word (hr.mono (by decide)) (by rfl) (pa_cons (pv 0) (pa_cons (pe_glS (by rfl) M.c_LETTERS) (pa_cons (pe_glI (by rfl) M.c_MAX_ID) pa_nil)))))), ?_⟩
    walk_at "rd"
    refine ⟨v, d, lettersS, 4, rfl, hv, hz, fun H1 e1 => ?_⟩
    have := q H1 e1
    cases d <;> exact this
/-- a tuple or a list of data of one kind -/
def spAsc (T : List (Addr × Str)) (K : PySem.W.Frag) : Sp := fun vs H Q _ => ∃ (a : Addr) (xs : List V) (ds : List PyData), vs = [.ref a] ∧ (SqP H a xs ∨ H a = some (.lst xs)) ∧ ImAll H xs ds ∧ Alike1 ds ∧ ds.length ≤ 1000 ∧ ∀ H', Ext T [] H H' → Q (.bl (ascD ds)) H'
theorem ok_is_ascending (D : Def K mg "is_ascending" s_is_ascending ["values"]) (mb : ∀ x ∈ bltns, mg x = none) : Ok P w K mg base 1 "is_ascending" ["values"] (spAsc T K) := by
  refine D.ok sc_is_ascending (fun vs H Q E h => ?_) (fun cdv f A outer s H vs Q E hr h => ?_)
  · obtain ⟨a, xs, ds, rfl, _⟩ := h
    rfl
  · obtain ⟨a, xs, ds, rfl, ha, hi, hal, hl, q⟩ := h
    refine ⟨_, (pss_one (ps_ret (pe_callB (call_allU K rfl rfl) (by rfl) (mb _ (by decide)) (by decide +kernel) (pa_cons (pe_lc (own := [("low", 1), ("high", 2)]) (tt := tYes) rfl sc_is_ascending.nd (pi_zipAU K rfl (by rfl) (mb _ (by decide)) (pa_cons (pv 0) (pa_cons (pe_slice (sl_U2 K rfl) (pv 0) (po_some pe_int) po_none) pa_nil))) (blkOk_by (N := N_is_ascending) (sc := defScope s_is_ascending) (by decide +kernel)) (fun _ _ _ _ _ => (pg_tupU (n := 2) K rfl rfl (pgs_cons (pg_name (i := 1) sc_is_ascending.nd rfl (Or.inl rfl)) (pgs_cons (pg_name (i := 2) sc_is_ascending.nd rfl (Or.inl rfl)) pgs_nil)))) (fun _ _ _ _ _ => pts_nil) (fun _ _ _ _ _ => (pe_cmpR (op_ltD K rfl (Room.units65 hr)) (pv 1) (pv 2) (nomark _)))) pa_nil)))), ?_⟩
    have hxl : xs.length = ds.length := hi.len
    have hlt : ∀ (n : Nat) (i : Nat) (x y : V) (H' : Hp), xs[i]? = some x → (xs.drop 1)[i]? = some y → ImAll H' xs ds → ∀ Q' : VK, Q' (.bl (ltAt ds i)) H' → rLtD K x y H' Q' := fun n i x y H' hx hy hi' Q' hq => by
      obtain ⟨d, hd, hxd⟩ := hi'.get' hx
      rw [List.getElem?_drop] at hy
      obtain ⟨e, he, hye⟩ := hi'.get' hy
      rw [Nat.add_comm] at he
      have h1 := hal d (List.mem_of_getElem? hd) e (List.mem_of_getElem? he)
      refine rd_ltD hxd hye h1.1 h1.2.1 (Nat.le_trans h1.2.2 (by decide)) ?_
      unfold ltAt at hq
      rw [hd, he] at hq
      exact hq
    have fin : ∀ (H' : Hp) (D : Addr), Ext T [] H H' → H' D = some (.lst ((List.range (ds.length - 1)).map fun i => V.bl (ltAt ds i))) → tCB (rAll K) (tCons (tC (.ref D)) tNil) [] H' Q := fun H' D e hD => by
      walk_at "rd"
      refine rd_all (bs := (List.range (ds.length - 1)).map (ltAt ds)) (SqL.of (by rw [hD, List.map_map]; rfl)) ?_
      rw [List.all_map, show (id ∘ ltAt ds) = ltAt ds from rfl, ← ascD_at]
      exact q H' e
    have go : ∀ (J : It) (G : Hp → Prop) (n : Nat) (H1 : Hp), n = ds.length - 1 → Ext T [] H H1 → Walk J n G (YPair (fun i => xs[i]?) (fun i => (xs.drop 1)[i]?)) → (∀ H', Ext T [] H1 H' → G H') → LcG J (gTupU K 2 (gCons (gName 1) (gCons (gName 2) gNil))) tYes (tOp (rLtD K) (tVar 1) (tVar 2)) [1, 2] (start ["values", "low", "high"] [.ref a]) H1 fun x H2 => tCB (rAll K) (tCons (tC x) tNil) [] H2 Q := fun J G n H1 hn e1 w hG => by
      subst hn
      refine lcg_zipG T w hG (Nat.lt_of_le_of_lt (show ds.length - 1 ≤ 1000 by omega) (by decide)) (fun i => .bl (ltAt ds i)) (fun i x y t hx hy H' e' ht R hR => ?_) (fun D H2 nD e2 hD => fin H2 D (e1.trans e2) hD)
      refine rd_gtup (SqT.of ht) rfl ?_
      walk_at "rd"
      refine ⟨by rw [wipe_set (by decide), wipe_set (by decide), wipe_wipe], ?_⟩
      walk_at "rd"
      exact hlt 0 i x y H' hx hy ((hi.x e1).x e') _ (hR H' .refl)
    walk_at "rd"
    rcases ha with ha | ha
    · by_cases h0 : xs.length = 0
      · have hx0 : xs = [] := List.eq_nil_of_length_eq_zero h0
        have hd0 : ds = [] := List.eq_nil_of_length_eq_zero (by omega)
        subst hx0
        refine .inr ⟨a, [], rfl, SqP.sq ha, rfl, rfl, ?_⟩
        walk_at "rd"
        refine ⟨a, a, [], [], rfl, .inr ⟨SqP.sq ha, SqP.sq ha, ?_⟩⟩
        exact go _ _ 0 H (by rw [hd0]; rfl) .refl (walk_zipT (xs := []) (ys := []) rfl) (fun H' e => ⟨SqP.sq (SqP.x ha e), SqP.sq (SqP.x ha e)⟩)
      · refine .inl (rd_slT (SqP.sq ha) (fun h => ?_) fun sp nsp => ?_)
        · have h1 := h.1
          rw [show HT.sIx xs.length 0 (some 1) = min 1 xs.length from HT.sIx_nat xs.length 0 1] at h1
          omega
        rw [cutV_from (α := V) xs (by decide), show Int.toNat 1 = 1 from rfl]
        obtain ⟨_, e1, hs1⟩ := alT (T := T) nsp (xs.drop 1)
        generalize upd H sp _ = H1 at e1 hs1 ⊢
        walk_at "rd"
        refine ⟨a, sp, xs, xs.drop 1, rfl, .inr ⟨SqP.sq (SqP.x ha e1), SqT.of hs1, ?_⟩⟩
        exact go _ _ (ds.length - 1) H1 rfl e1 (walk_zipT (xs := xs) (ys := xs.drop 1) (by rw [List.length_drop]; omega)) (fun H' e => ⟨SqP.sq (SqP.x (SqP.x ha e1) e), SqT.of (tup.x hs1 e)⟩)
    · refine .inl (rd_slL (SqL.of ha) fun sp nsp => ?_)
      rw [cutV_from (α := V) xs (by decide), show Int.toNat 1 = 1 from rfl]
      obtain ⟨_, e1, hs1⟩ := alL (T := T) nsp (xs.drop 1)
      generalize upd H sp _ = H1 at e1 hs1 ⊢
      walk_at "rd"
      refine ⟨a, sp, xs, xs.drop 1, rfl, .inl ⟨SqL.of (lst.x ha e1), SqL.of hs1, ?_⟩⟩
      exact go _ _ (ds.length - 1) H1 rfl e1 (walk_zip (xs := xs) (ys := xs.drop 1) (by rw [List.length_drop]; omega)) (fun H' e => ⟨SqL.of (lst.x (lst.x ha e1) e), SqL.of (lst.x hs1 e)⟩)
end
section
variable {T : List (Addr × Str)} {P : Program} {w : World} {K : PySem.W.Frag} {mg : Str → Option Value} {base : Heap}
local macro_rules | `(tactic| walk_at "tr") => `(tactic| first
  | assumption
  | exact Ext.refl
  | ((with_reducible refine' Im.x (T := T) (H := ?trH) ?tra ?tre); (case tre => assumption); (case tra => walk_at "tr"))
  | ((with_reducible refine' Im.y (T := T) (H := ?trH) ?tra ?tre ?trt); (case tre => assumption); (case trt => walk_at "tr"); (case tra => walk_at "tr"))
  | ((with_reducible refine' ImAll.x (T := T) (H := ?trH) ?tra ?tre); (case tre => assumption); (case tra => walk_at "tr"))
  | ((with_reducible refine' ImAll.y (T := T) (H := ?trH) ?tra ?tre ?trt); (case tre => assumption); (case trt => walk_at "tr"); (case tra => walk_at "tr"))
  | ((with_reducible refine' Ls.x (T := T) (H := ?trH) ?tra ?tre); (case tre => assumption); (case tra => walk_at "tr"))
  | ((with_reducible refine' Ls.y (T := T) (H := ?trH) ?tra ?tre ?trn ?trt); (case tre => assumption); (case trt => walk_at "tr"); (case trn => walk_at "tr"); (case tra => walk_at "tr"))
  | ((with_reducible refine' SqP.x (T := T) (H := ?trH) ?tra ?tre); (case tre => assumption); (case tra => walk_at "tr"))
  | ((with_reducible refine' SqP.y (T := T) (H := ?trH) ?tra ?tre ?trt); (case tre => assumption); (case trt => walk_at "tr"); (case tra => walk_at "tr"))
  | ((with_reducible refine' StAt.x (T := T) (H := ?trH) ?tra ?tre); (case tre => assumption); (case tra => walk_at "tr"))
  | ((with_reducible refine' StAt.y (T := T) (H := ?trH) ?tra ?tre ?trt); (case tre => assumption); (case trt => walk_at "tr"); (case tra => walk_at "tr"))
  | ((with_reducible refine' Pools.ext0 (T := T) (H := ?trH) ?tra ?tre); (case tre => assumption); (case tra => walk_at "tr"))
  | ((with_reducible refine' Pools.ext (T := T) (H := ?trH) ?tra ?tre ?trt); (case tre => assumption); (case trt => walk_at "tr"); (case tra => walk_at "tr"))
  | ((with_reducible refine' CL.x (T := T) (H := ?trH) ?tra ?tre); (case tre => assumption); (case tra => walk_at "tr"))
  | ((with_reducible refine' CL.y (T := T) (H := ?trH) ?tra ?tre); (case tre => assumption); (case tra => walk_at "tr"))
  | ((with_reducible refine' Tape.ext (T := T) (H := ?trH) ?tra ?tre); (case tre => assumption); (case tra => walk_at "tr"))
  | ((with_reducible refine' lst.x (T := T) (H := ?trH) ?tra ?tre); (case tre => assumption); (case tra => walk_at "tr"))
  | ((with_reducible refine' lst.y (T := T) (H := ?trH) ?tra ?tre ?trn); (case tre => assumption); (case trn => walk_at "tr"); (case tra => walk_at "tr"))
  | ((with_reducible refine' tup.x (T := T) (H := ?trH) ?tra ?tre); (case tre => assumption); (case tra => walk_at "tr"))
  | ((with_reducible refine' tup.y (T := T) (H := ?trH) ?tra ?tre ?trt); (case tre => assumption); (case trt => walk_at "tr"); (case tra => walk_at "tr"))
  | ((with_reducible refine' frz.x (T := T) (H := ?trH) ?tra ?tre); (case tre => assumption); (case tra => walk_at "tr"))
  | ((with_reducible refine' frz.y (T := T) (H := ?trH) ?tra ?tre ?trt); (case tre => assumption); (case trt => walk_at "tr"); (case tra => walk_at "tr"))
  | ((with_reducible refine' Im.z (T := T) (H := ?trH) ?tra ?tre ?trt); (case tre => assumption); (case trt => assumption); (case tra => walk_at "tr"))
  | ((with_reducible refine' ImAll.z (T := T) (H := ?trH) ?tra ?tre ?trt); (case tre => assumption); (case trt => assumption); (case tra => walk_at "tr"))
  | ((with_reducible refine' StAt.z (T := T) (H := ?trH) ?tra ?tre ?trt); (case tre => assumption); (case trt => assumption); (case tra => walk_at "tr"))
  | ((with_reducible refine' SqP.z (T := T) (H := ?trH) ?tra ?tre ?trt); (case tre => assumption); (case trt => assumption); (case tra => walk_at "tr"))
  | ((with_reducible refine' tup.z (T := T) (H := ?trH) ?tra ?tre ?trt); (case tre => assumption); (case trt => assumption); (case tra => walk_at "tr"))
  | ((with_reducible refine' Ls.z (T := T) (H := ?trH) ?tra ?tre ?trt ?trn); (case tre => assumption); (case trt => assumption); (case trn => assumption); (case tra => walk_at "tr"))
  | ((with_reducible refine' lst.z (T := T) (H := ?trH) ?tra ?tre ?trn); (case tre => assumption); (case trn => assumption); (case tra => walk_at "tr"))
  | ((with_reducible refine' CL.z (T := T) (H := ?trH) ?tra ?tre ?trn); (case tre => assumption); (case trn => assumption); (case tra => walk_at "tr"))
  | ((with_reducible refine' Tape.ne1 (H := ?trH) ?trt ?trn); (case trn => assumption); (case trt => walk_at "tr"))
  | ((with_reducible refine' Ext.trans (H1 := ?trH) ?tra (Ext.any ?tre)); (case tre => assumption); (case tra => walk_at "tr"))
  | ((with_reducible refine' Ext.trans (H1 := ?trH) ?tra ?tre); (case tre => assumption); (case tra => walk_at "tr"))
  | ((with_reducible refine' Ext.back1 (T := T) (H1 := ?trH) ?tre ?trn ?tra); (case tra => assumption); (case trn => walk_at "tr"); (case tre => walk_at "tr"))
  | ((with_reducible refine' Ext.back0 (T := T) (H1 := ?trH) ?tre ?tra); (case tra => assumption); (case tre => walk_at "tr"))
  | ((with_reducible refine' SqT.of ?tra); (case tra => walk_at "tr"))
  | ((with_reducible refine' SqL.of ?tra); (case tra => walk_at "tr")))
local macro_rules | `(tactic| walk_at "al") => `(tactic| (refine ⟨by first | (show _ ≤ sizeLine; decide) | walk_at "sz", ?_⟩; intro alp aln; generalize alG : upd _ alp _ = alH; obtain ⟨aln2, alx, alh⟩ := al_of (T := T) aln alG; clear alG aln))
local macro_rules | `(tactic| walk_at "al0") => `(tactic| (intro alp aln; generalize alG : upd _ alp _ = alH; obtain ⟨aln2, alx, alh⟩ := al_of (T := T) aln alG; clear alG aln))
def spIdsD (T : List (Addr × Str)) : Sp := fun vs H Q _ => ∃ (v : V) (d : PyData) (lo hi : Int), vs = [v, .int lo, .int hi] ∧ Im H v d ∧ Sm d ∧ ∀ H', Ext T [] H H' → Q (.bl (idsD lo hi d)) H'
theorem ok_are_ids (D : Def K mg "are_ids" s_are_ids ["value", "least", "most"]) (mb : ∀ x ∈ bltns, mg x = none) (G_is_tuple_of : Ok P w K mg base 1 "is_tuple_of" ["value", "least", "most"] spTupD) (G_is_id : Ok P w K mg base 2 "is_id" ["text"] (spDB T idD)) (G_is_ascending : Ok P w K mg base 1 "is_ascending" ["values"] (spAsc T K)) : Ok P w K mg base 3 "are_ids" ["value", "least", "most"] (spIdsD T) := by
  refine D.ok sc_are_ids (fun vs H Q E h => ?_) (fun cdv f A outer s H vs Q E hr h => ?_)
  · obtain ⟨v, d, lo, hi, rfl, _⟩ := h
    rfl
  · obtain ⟨v, d, lo, hi, rfl, hv, hs, q⟩ := h
    refine ⟨_, (pss_one (ps_ret (pe_and (pe_callO G_is_tuple_of (hr.mono (by decide)) (by rfl) (pa_cons (pv 0) (pa_cons (pv 1) (pa_cons (pv 2) pa_nil)))) (pe_and (pe_callB (call_allU K rfl rfl) (by rfl) (mb _ (by decide)) (by decide +kernel) (pa_cons (pe_lc (own := [("part", 3)]) (g := gName 3) (tt := tYes) rfl sc_are_ids.nd (pi_seq K rfl (pv 0)) (blkOk_by (N := N_are_ids) (sc := defScope s_are_ids) (by decide +kernel)) (fun _ _ _ _ _ => (pg_name (i := 3) sc_are_ids.nd rfl (Or.inl rfl))) (fun _ _ _ _ _ => pts_nil) (fun _ _ _ _ _ => (pe_callO G_is_id (hr.mono (by decide)) (by rfl) (pa_cons (pv 3) pa_nil)))) pa_nil)) (pe_one (pe_callO G_is_ascending (hr.mono (by decide)) (by rfl) (pa_cons (pv 0) pa_nil))))))), ?_⟩
    unfold idsD at q
    walk_at "rd"
    refine ⟨v, d, lo, hi, rfl, hv, ?_⟩
    cases ht : tupB lo hi d with
    | false =>
      rw [ht] at q
      walk_at "rd"
      exact q H .refl
    | true =>
      rw [ht] at q
      obtain ⟨ds, rfl, h1, h2⟩ := tupB_some ht
      have q : ∀ H', Ext T [] H H' → Q (.bl (ds.all idD && ascD ds)) H' := q
      obtain ⟨ua, ux, rfl, hua, hui⟩ := hv.tup'
      have hsa := sm_tup.mp hs
      have hui2 : ImAll H ux (ds.map id) := by rw [List.map_id]; exact hui
      walk_at "rd"
      refine .inr ⟨⟨_, SqP.sq hua⟩, ?_⟩
      refine lcg_fv T id (fun d => .bl (idD d)) (fun _ => true) walk_tup hui2 rfl (fun i H x H' y => y) (fun H' e => SqP.sq (SqP.x hua e)) (by omega) (fun k y x hy H' e' hxy R' S' h1 _ => ?_) (fun D1 H1 nD1 e1 hD1 => ?_)
      · have hym := List.mem_of_getElem? hy
        refine rd_name ⟨wipe1, ?_⟩
        walk_at "rd"
        exact ⟨x, y, rfl, hxy, hsa.2 y hym, fun H2 e2 => h1 rfl H2 e2⟩
      · rw [filtT] at hD1
        have hD2 : H1 D1 = some (.lst ((ds.map idD).map V.bl)) := by
          rw [hD1, List.map_map]
          rfl
        walk_at "rd"
        refine rd_all (SqL.of hD2) ?_
        rw [List.all_map, show (id ∘ idD) = idD from rfl]
        cases ha : ds.all idD with
        | false =>
          rw [ha] at q
          walk_at "rd"
          exact q H1 e1
        | true =>
          rw [ha] at q
          walk_at "rd"
          have hal : Alike1 ds := by
            obtain ⟨zs, e, _⟩ := ids_strs ha
            rw [e]
            exact alike_s1 zs
          exact ⟨ua, ux, ds, rfl, .inl (SqP.x hua e1), hui.x e1, hal, hsa.1, fun H2 e2 => q H2 (e1.trans e2)⟩
end
section
variable {T : List (Addr × Str)} {P : Program} {w : World} {K : PySem.W.Frag} {mg : Str → Option Value} {base : Heap}
local macro_rules | `(tactic| walk_at "tr") => `(tactic| first
  | assumption
  | exact Ext.refl
  | ((with_reducible refine' Im.x (T := T) (H := ?trH) ?tra ?tre); (case tre => assumption); (case tra => walk_at "tr"))
  | ((with_reducible refine' Im.y (T := T) (H := ?trH) ?tra ?tre ?trt); (case tre => assumption); (case trt => walk_at "tr"); (case tra => walk_at "tr"))
  | ((with_reducible refine' ImAll.x (T := T) (H := ?trH) ?tra ?tre); (case tre => assumption); (case tra => walk_at "tr"))
  | ((with_reducible refine' ImAll.y (T := T) (H := ?trH) ?tra ?tre ?trt); (case tre => assumption); (case trt => walk_at "tr"); (case tra => walk_at "tr"))
  | ((with_reducible refine' Ls.x (T := T) (H := ?trH) ?tra ?tre); (case tre => assumption); (case tra => walk_at "tr"))
  | ((with_reducible refine' Ls.y (T := T) (H := ?trH) ?tra ?tre ?trn ?trt); (case tre => assumption); (case trt => walk_at "tr"); (case trn => walk_at "tr"); (case tra => walk_at "tr"))
  | ((with_reducible refine' SqP.x (T := T) (H := ?trH) ?tra ?tre); (case tre => assumption); (case tra => walk_at "tr"))
  | ((with_reducible refine' SqP.y (T := T) (H := ?trH) ?tra ?tre ?trt); (case tre => assumption); (case trt => walk_at "tr"); (case tra => walk_at "tr"))
  | ((with_reducible refine' StAt.x (T := T) (H := ?trH) ?tra ?tre); (case tre => assumption); (case tra => walk_at "tr"))
  | ((with_reducible refine' StAt.y (T := T) (H := ?trH) ?tra ?tre ?trt); (case tre => assumption); (case trt => walk_at "tr"); (case tra => walk_at "tr"))
  | ((with_reducible refine' Pools.ext0 (T := T) (H := ?trH) ?tra ?tre); (case tre => assumption); (case tra => walk_at "tr"))
  | ((with_reducible refine' Pools.ext (T := T) (H := ?trH) ?tra ?tre ?trt); (case tre => assumption); (case trt => walk_at "tr"); (case tra => walk_at "tr"))
  | ((with_reducible refine' CL.x (T := T) (H := ?trH) ?tra ?tre); (case tre => assumption); (case tra => walk_at "tr"))
  | ((with_reducible refine' CL.y (T := T) (H := ?trH) ?tra ?tre); (case tre => assumption); (case tra => walk_at "tr"))
  | ((with_reducible refine' Tape.ext (T := T) (H := ?trH) ?tra ?tre); (case tre => assumption); (case tra => walk_at "tr"))
  | ((with_reducible refine' lst.x (T := T) (H := ?trH) ?tra ?tre); (case tre => assumption); (case tra => walk_at "tr"))
  | ((with_reducible refine' lst.y (T := T) (H := ?trH) ?tra ?tre ?trn); (case tre => assumption); (case trn => walk_at "tr"); (case tra => walk_at "tr"))
  | ((with_reducible refine' tup.x (T := T) (H := ?trH) ?tra ?tre); (case tre => assumption); (case tra => walk_at "tr"))
  | ((with_reducible refine' tup.y (T := T) (H := ?trH) ?tra ?tre ?trt); (case tre => assumption); (case trt => walk_at "tr"); (case tra => walk_at "tr"))
  | ((with_reducible refine' frz.x (T := T) (H := ?trH) ?tra ?tre); (case tre => assumption); (case tra => walk_at "tr"))
  | ((with_reducible refine' frz.y (T := T) (H := ?trH) ?tra ?tre ?trt); (case tre => assumption); (case trt => walk_at "tr"); (case tra => walk_at "tr"))
  | ((with_reducible refine' Im.z (T := T) (H := ?trH) ?tra ?tre ?trt); (case tre => assumption); (case trt => assumption); (case tra => walk_at "tr"))
  | ((with_reducible refine' ImAll.z (T := T) (H := ?trH) ?tra ?tre ?trt); (case tre => assumption); (case trt => assumption); (case tra => walk_at "tr"))
  | ((with_reducible refine' StAt.z (T := T) (H := ?trH) ?tra ?tre ?trt); (case tre => assumption); (case trt => assumption); (case tra => walk_at "tr"))
  | ((with_reducible refine' SqP.z (T := T) (H := ?trH) ?tra ?tre ?trt); (case tre => assumption); (case trt => assumption); (case tra => walk_at "tr"))
  | ((with_reducible refine' tup.z (T := T) (H := ?trH) ?tra ?tre ?trt); (case tre => assumption); (case trt => assumption); (case tra => walk_at "tr"))
  | ((with_reducible refine' Ls.z (T := T) (H := ?trH) ?tra ?tre ?trt ?trn); (case tre => assumption); (case trt => assumption); (case trn => assumption); (case tra => walk_at "tr"))
  | ((with_reducible refine' lst.z (T := T) (H := ?trH) ?tra ?tre ?trn); (case tre => assumption); (case trn => assumption); (case tra => walk_at "tr"))
  | ((with_reducible refine' CL.z (T := T) (H := ?trH) ?tra ?tre ?trn); (case tre => assumption); (case trn => assumption); (case tra => walk_at "tr"))
  | ((with_reducible refine' Tape.ne1 (H := ?trH) ?trt ?trn); (case trn => assumption); (case trt => walk_at "tr"))
  | ((with_reducible refine' Ext.trans (H1 := ?trH) ?tra (Ext.any ?tre)); (case tre => assumption); (case tra => walk_at "tr"))
  | ((with_reducible refine' Ext.trans (H1 := ?trH) ?tra ?tre); (case tre => assumption); (case tra => walk_at "tr"))
  | ((with_reducible refine' Ext.back1 (T := T) (H1 := ?trH) ?tre ?trn ?tra); (case tra => assumption); (case trn => walk_at "tr"); (case tre => walk_at "tr"))
  | ((with_reducible refine' Ext.back0 (T := T) (H1 := ?trH) ?tre ?tra); (case tra => assumption); (case tre => walk_at "tr"))
  | ((with_reducible refine' SqT.of ?tra); (case tra => walk_at "tr"))
  | ((with_reducible refine' SqL.of ?tra); (case tra => walk_at "tr")))
local macro_rules | `(tactic| walk_at "al") => `(tactic| (refine ⟨by first | (show _ ≤ sizeLine; decide) | walk_at "sz", ?_⟩; intro alp aln; generalize alG : upd _ alp _ = alH; obtain ⟨aln2, alx, alh⟩ := al_of (T := T) aln alG; clear alG aln))
local macro_rules | `(tactic| walk_at "al0") => `(tactic| (intro alp aln; generalize alG : upd _ alp _ = alH; obtain ⟨aln2, alx, alh⟩ := al_of (T := T) aln alG; clear alG aln))
theorem pushE {Hb H : Hp} {Q : VK} {dp : Addr} {ds : List PyData} {v : V} {d : PyData} (hb : Ext T [] Hb H) (hn : Nw Hb dp) (hds : Ls H dp ds) (hv : Im H v d) (hl : ds.length < 1000)
    (q : ∀ H', Ext T [] Hb H' → Ext T [dp] H H' → Lsts H [dp] → Ls H' dp (ds ++ [d]) → Q .non H') : rAppend (.ref dp) [v] H Q :=
  rd_appLs hds hv (Nat.lt_of_lt_of_le hl (by decide)) fun ys hy h => q _ (hb.own hn hy) (Ext.mut (by simp) hy) (lsts_one hy) h
theorem extE {Hb H : Hp} {Q : VK} {dp b : Addr} {ds es : List PyData} (hb : Ext T [] Hb H) (hn : Nw Hb dp) (hds : Ls H dp ds) (hes : Ls H b es) (hl : ds.length + es.length ≤ 1000)
    (q : ∀ H', Ext T [] Hb H' → Ext T [dp] H H' → Lsts H [dp] → Ls H' dp (ds ++ es) → Q .non H') : rExtend (.ref dp) [.ref b] H Q := by
  obtain ⟨xs, h1, h2⟩ := hds
  obtain ⟨zs, h3, h4⟩ := hes
  have e : Ext T [dp] H (upd H dp (.lst (xs ++ zs))) := Ext.mut (by simp) h1
  refine ⟨dp, b, xs, zs, rfl, rfl, h1, h3, Nat.le_trans (show _ ≤ 1000 by rw [h2.len, h4.len]; exact hl) (by decide), q _ (hb.own hn h1) e (lsts_one h1) ⟨_, upd_same, ?_⟩⟩
  exact (ImAll.ext e (lsts_one h1) _ _ h2).app (ImAll.ext e (lsts_one h1) _ _ h4)
def zsl (z : Str × Int) : List Sl := .k z.1 :: (if z.1 = dotS then [] else [.l z.1, .h z.1])
theorem zsl_len (zs : List (Str × Int)) : (zs.flatMap zsl).length ≤ 3 * zs.length := by
  induction zs with
  | nil => exact Nat.le_refl _
  | cons z zs ih =>
    rw [List.flatMap_cons, List.length_append, List.length_cons]
    have : (zsl z).length ≤ 3 := by
      unfold zsl
      split <;> simp
    omega
theorem slots_zsl {R : Rm} (hR : RmIn R) : slotsR R = R.zs.flatMap zsl ++ R.ss.map fun p => .s p.1 p.2 := by
  obtain ⟨lag, rest, ez, hn⟩ := hR.ne
  unfold slotsR
  rw [ez, List.flatMap_cons]
  congr 1
  show Sl.k dotS :: (rest.flatMap fun z => [Sl.k z.1, .l z.1, .h z.1]) = (Sl.k dotS :: if dotS = dotS then [] else [.l dotS, .h dotS]) ++ rest.flatMap zsl
  rw [if_pos rfl]
  show _ = Sl.k dotS :: rest.flatMap zsl
  congr 1
  have key : ∀ l : List (Str × Int), (∀ r ∈ l, r.1 ≠ dotS) → (l.flatMap fun z => [Sl.k z.1, .l z.1, .h z.1]) = l.flatMap zsl := by
    intro l
    induction l with
    | nil => intro _; rfl
    | cons z l ih =>
      intro h
      rw [List.flatMap_cons, List.flatMap_cons, ih fun r hr => h r (List.mem_cons_of_mem _ hr)]
      unfold zsl
      rw [if_neg (h z List.mem_cons_self)]
  exact key rest hn
def spSlotsT (T : List (Addr × Str)) : Sp := fun vs H Q _ => ∃ (v : V) (R : Rm), vs = [v] ∧ Im H v (rmD R) ∧ RmIn R ∧ ∀ (p : Addr) (H' : Hp), Ext T [] H H' → Im H' (.ref p) (.tuple ((slotsR R).map slD)) → Q (.ref p) H'
theorem ok_slots (D : Def K mg "slots" s_slots ["realm"]) (mb : ∀ x ∈ bltns, mg x = none) (G_zone_names : Ok P w K mg base 1 "zone_names" ["realm"] (spZn T)) : Ok P w K mg base 2 "slots" ["realm"] (spSlotsT T) := by
  refine D.ok sc_slots (fun vs H Q E h => ?_) (fun cdv f A outer s H vs Q E hr h => ?_)
  · obtain ⟨v, R, rfl, _⟩ := h
    rfl
  · obtain ⟨v, R, rfl, hv, hR, q⟩ := h
    refine ⟨_, (pss_cons (ps_set (i := 1) sc_slots.nd rfl (.inl rfl) (pe_lst pa_nil))
   (pss_cons (ps_for PassesOwn.never rfl (pi_seq K rfl (pe_callO G_zone_names (hr.mono (by decide)) (by rfl) (pa_cons (pv 0) pa_nil))) (pg_name (i := 2) sc_slots.nd rfl (.inl rfl)) (pss_cons (ps_expr (pe_bm PySem.F.plainAttrs_list PySem.F.slot_list_append PySem.F.type_list_append mt_append (pv 1) (pa_cons (pe_tup (pa_cons pe_str (pa_cons (pv 2) pa_nil))) pa_nil)))
   (pss_one (ps_if (pt_cmpR (op_neU K rfl hr.units) (pv 2) pe_str (nomark _)) (pss_one (ps_expr (pe_bm PySem.F.plainAttrs_list PySem.F.slot_list_extend PySem.F.type_list_extend mt_extend (pv 1) (pa_cons (pe_lst (pa_cons (pe_tup (pa_cons pe_str (pa_cons (pv 2) pa_nil))) (pa_cons (pe_tup (pa_cons pe_str (pa_cons (pv 2) pa_nil))) pa_nil))) pa_nil)))) pss_nil))))
   (pss_cons (ps_expr (pe_bm PySem.F.plainAttrs_list PySem.F.slot_list_extend PySem.F.type_list_extend mt_extend (pv 1) (pa_cons (pe_lc (own := [("name", 3), ("kind", 4)]) (tt := tYes) rfl sc_slots.nd (pi_seq K rfl (pe_ix (ix_U K rfl) (pv 0) pe_int (fun _ _ => rfl))) (blkOk_by (N := N_slots) (sc := defScope s_slots) (by decide +kernel)) (fun _ _ _ _ _ => (pg_tupU (n := 2) K rfl rfl (pgs_cons (pg_name (i := 3) sc_slots.nd rfl (Or.inl rfl)) (pgs_cons (pg_name (i := 4) sc_slots.nd rfl (Or.inl rfl)) pgs_nil)))) (fun _ _ _ _ _ => pts_nil) (fun _ _ _ _ _ => (pe_tup (pa_cons pe_str (pa_cons (pv 3) (pa_cons (pv 4) pa_nil)))))) pa_nil)))
   (pss_one (ps_ret (pe_callTy (call_tupU K rfl) (by rfl) (mb _ (by decide)) (by decide +kernel) (pa_cons (pv 1) pa_nil))))))), ?_⟩
    walk_at "rdn"
    refine rd_seq ?_
    walk_at "rd"
    walk_at "al"
    rename_i fp H1 nfp e1 hfp
    have hl0 : Ls H1 fp (((R.zs.take 0).flatMap zsl).map slD) := ⟨[], hfp, .nil⟩
    have hv1 := hv.x e1
    have hzl := hR.len
    walk_at "rdn"
    refine rd_seq ?_
    walk_at "rd"
    refine ⟨v, R, rfl, hv1, hR, fun zp H2 nz e2 hz2 => ?_⟩
    walk_at "rd"
    have e12 := e1.trans e2
    refine .inr ⟨⟨_, SqT.of hz2⟩, ?_⟩
    refine forg_tup (xs := (R.zs.map (·.1)).map V.str) (fun i σ H' => Ext T [] H H' ∧ Lsts H' [fp] ∧ Im H' v (rmD R) ∧ H' zp = some (.tup ((R.zs.map (·.1)).map V.str)) ∧ ∃ (a : Option V), σ = [some v, some (.ref fp), a, none, none] ∧ Ls H' fp (((R.zs.take i).flatMap zsl).map slD))
      ⟨e12, lsts_one (lst.x hfp e2), hv1.x e2, hz2, _, rfl, hl0.x e2⟩ (fun i σ H' _ h => SqT.of h.2.2.2.1) (fun i x σ H3 hx h => ?_) (fun σ H3 h => ?_)
    · obtain ⟨e3, hm3, hv3, hz3, a, rfl, hl3⟩ := h
      rw [List.getElem?_map] at hx
      obtain ⟨zn, hzn, rfl⟩ := Option.map_eq_some_iff.mp hx
      rw [List.getElem?_map] at hzn
      obtain ⟨z, hzz, rfl⟩ := Option.map_eq_some_iff.mp hzn
      have hznm := hR.nm z (List.mem_of_getElem? hzz)
      have hcl : (((R.zs.take i).flatMap zsl).map slD).length ≤ 100 := by
        rw [List.length_map]
        have := zsl_len (R.zs.take i)
        rw [List.length_take] at this
        omega
      walk_at "rdn"
      refine rd_seq ?_
      obtain ⟨fx, hfx, hfi⟩ := hl3
      have hl3 : Ls H3 fp (((R.zs.take i).flatMap zsl).map slD) := ⟨fx, hfx, hfi⟩
      walk_at "rdn"
      walk_at "al"
      rename_i t1 H4 _ e4 ht1
      have h1 : Im H4 (.ref t1) (slD (.k z.1)) := .new2 (.str _ kw_ok.1) (.str _ (name_ok hznm)) ht1
      refine rd_nil ?_
      refine pushE (T := T) (Hb := H) (e3.trans e4) nfp (hl3.x e4) h1 (by omega) fun H5 e5 e45 m5 hl5 => ?_
      have hv5 := (hv3.x e4).z e45 m5
      have hz5 := tup.z (tup.x hz3 e4) e45 m5
      have etk : (R.zs.take (i + 1)).flatMap zsl = (R.zs.take i).flatMap zsl ++ zsl z := by
        rw [List.take_add_one, hzz, List.flatMap_append]
        show _ ++ (zsl z ++ []) = _
        rw [List.append_nil]
      obtain ⟨gx, hgx, hgi⟩ := hl5
      have hl5 : Ls H5 fp (((R.zs.take i).flatMap zsl).map slD ++ [slD (.k z.1)]) := ⟨gx, hgx, hgi⟩
      clear hfx hfi
      walk_at "rd"
      refine rd_itn (fun cc => ?_) (fun cc => ?_)
      · walk_at "rd"
        refine ⟨e5, lsts_one hgx, hv5, hz5, _, rfl, ?_⟩
        rw [etk, List.map_append, show zsl z = [.k z.1] by unfold zsl; rw [if_pos (show z.1 = dotS from cc)]]
        exact hl5
      · walk_at "rdn"
        walk_at "al"
        rename_i t2 H6 _ e6 ht2
        walk_at "rdn"
        walk_at "al"
        rename_i t3 H7 _ e7 ht3
        walk_at "rdn"
        walk_at "al"
        rename_i l1 H8 _ e8 hl1
        have h2 : Im H8 (.ref t2) (slD (.l z.1)) := (Im.new2 (.str _ kw_ok.2.1) (.str _ (name_ok hznm)) ht2).x (e7.trans e8)
        have h3 : Im H8 (.ref t3) (slD (.h z.1)) := (Im.new2 (.str _ kw_ok.2.2.1) (.str _ (name_ok hznm)) ht3).x e8
        have hes : Ls H8 l1 [slD (.l z.1), slD (.h z.1)] := ⟨_, hl1, .cons h2 (.cons h3 .nil)⟩
        have e58 := (e6.trans e7).trans e8
        refine rd_nil ?_
        refine extE (T := T) (Hb := H) (e5.trans e58) nfp (hl5.x e58) hes (by simp only [List.length_append, List.length_cons, List.length_nil]; omega) fun H9 e9 e89 m9 hl9 => ?_
        have hv9 := (hv5.x e58).z e89 m9
        have hz9 := tup.z (tup.x hz5 e58) e89 m9
        walk_at "rd"
        refine ⟨e9, ?_, hv9, hz9, _, rfl, ?_⟩
        · obtain ⟨kx, hkx, _⟩ := hl9
          exact lsts_one hkx
        · rw [etk, List.map_append, show zsl z = [.k z.1, .l z.1, .h z.1] by unfold zsl; rw [if_neg (show ¬ z.1 = dotS from cc)]]
          rw [List.append_assoc] at hl9
          exact hl9
    · obtain ⟨e3, hm3, hv3, hz3, a, rfl, hl3⟩ := h
      rw [List.length_map, List.length_map, List.take_length] at hl3
      obtain ⟨fx, hfx, hfi⟩ := hl3
      have hl3 : Ls H3 fp ((R.zs.flatMap zsl).map slD) := ⟨fx, hfx, hfi⟩
      walk_at "rdn"
      refine rd_seq ?_
      walk_at "rdn"
      refine rd_ixI (d := .tuple (R.ss.map ssD)) hv3 rfl fun u hu => ?_
      obtain ⟨sp, xs, rfl, hsp, hsi⟩ := hu.tup'
      have hsl := hR.slen
      walk_at "rdn"
      refine .inr ⟨⟨_, SqP.sq hsp⟩, ?_⟩
      refine lcg_fm T ssD (fun p => slD (.s p.1 p.2)) (fun _ => true) walk_tup hsi rfl (fun i H x H' y => y) (fun H' e => SqP.sq (SqP.x hsp e)) (by omega) (fun k y x hy H' e' hxy R' S' h1 _ => ?_) (fun D1 H4 nD1 e4 hD1 => ?_)
      · have hro := hR.sok y (List.mem_of_getElem? hy)
        refine rd_gpair (d1 := .str y.1) (d2 := .str y.2) hxy fun v1 v2 g1 g2 => ?_
        rw [g1.str', g2.str']
        refine ⟨rfl, ?_⟩
        walk_at "rd"
        walk_at "al"
        rename_i tt H6 _ e6 htt
        exact h1 rfl _ H6 e6 (.new3 (.str _ kw_ok.2.2.2) (.str _ (name_ok hro.1)) (.str _ (id_ok hro.2)) htt)
      · rw [filtT] at hD1
        have hzl3 := zsl_len R.zs
        refine rd_nil ?_
        refine extE (T := T) (Hb := H) (e3.trans e4) nfp (hl3.x e4) hD1 (by rw [List.length_map, List.length_map]; omega) fun H5 e5 e45 m5 hl5 => ?_
        obtain ⟨kx, hkx, hki⟩ := hl5
        walk_at "rd"
        refine rd_tupA T hkx fun p H6 np e6 hp => ?_
        refine q p H6 (e5.trans e6) ?_
        rw [slots_zsl hR, List.map_append, List.map_map]
        exact .tup hp (ImAll.x hki e6)
def spIsSlot (T : List (Addr × Str)) : Sp := fun vs H Q _ => ∃ (v u : V) (R : Rm) (d : PyData) (b : Bool), vs = [v, u] ∧ Im H v (rmD R) ∧ RmIn R ∧ Im H u d ∧ d.depth ≤ 60 ∧ (d ∈ (slotsR R).map slD ↔ b = true) ∧ ∀ H', Ext T [] H H' → Q (.bl b) H'
theorem ok_is_slot (D : Def K mg "is_slot" s_is_slot ["realm", "value"]) (G_slots : Ok P w K mg base 2 "slots" ["realm"] (spSlotsT T)) : Ok P w K mg base 3 "is_slot" ["realm", "value"] (spIsSlot T) := by
  refine D.ok sc_is_slot (fun vs H Q E h => ?_) (fun cdv f A outer s H vs Q E hr h => ?_)
  · obtain ⟨v, u, R, d, b, rfl, _⟩ := h
    rfl
  · obtain ⟨v, u, R, d, b, rfl, hv, hR, hu, hd, hb, q⟩ := h
    refine ⟨_, (pss_one (ps_ret (pe_cmpR (op_inW K rfl (Room.units65 hr)) (pv 1) (pe_callO G_slots (hr.mono (by decide)) (by rfl) (pa_cons (pv 0) pa_nil)) rfl))), ?_⟩
    walk_at "rd"
    refine ⟨v, R, rfl, hv, hR, fun p H1 e1 hp => ?_⟩
    refine rd_inWI (b := b) (hu.x e1) hp (Nat.le_trans hd (by decide)) ?_ hb (q H1 e1)
    show PyData.depthAll ((slotsR R).map slD) + 1 ≤ 64
    have := dep_map dep_sl (slotsR R)
    omega
def hostsB : Sl → Bool
  | .h _ => true
  | _ => false
theorem iff_of {p : Prop} {a b : Bool} [Decidable p] (h : decide p = a) (e : b = a) : p ↔ b = true := by rw [e, ← h, decide_eq_true_eq]
theorem sl_hosts (s : Sl) : ∃ (kw : Str) (r : List PyData), slD s = .tuple (.str kw :: r) ∧ (kw = Str.ofString "hosts" ↔ hostsB s = true) := by
  cases s with
  | k z => exact ⟨_, _, rfl, iff_of (a := false) (by decide +kernel) rfl⟩
  | l z => exact ⟨_, _, rfl, iff_of (a := false) (by decide +kernel) rfl⟩
  | h z => exact ⟨_, _, rfl, iff_of (a := true) (by decide +kernel) rfl⟩
  | s n k => exact ⟨_, _, rfl, iff_of (a := false) (by decide +kernel) rfl⟩
theorem five_of {ds : List PyData} (h1 : (5 : Int) ≤ ds.length) (h2 : (ds.length : Int) ≤ 5) : ∃ a b c d e, ds = [a, b, c, d, e] := by
  match ds, h1, h2 with
  | [a, b, c, d, e], _, _ => exact ⟨a, b, c, d, e, rfl⟩
  | [], h1, _ => exact absurd h1 (by decide)
  | [_], h1, _ => exact absurd h1 (by simp)
  | [_, _], h1, _ => exact absurd h1 (by simp)
  | [_, _, _], h1, _ => exact absurd h1 (by simp)
  | [_, _, _, _], h1, _ => exact absurd h1 (by simp)
  | _ :: _ :: _ :: _ :: _ :: _ :: _, _, h2 => simp only [List.length_cons] at h2; omega
theorem item_no {h : Bool} {d : PyData} (ht : tupB 5 5 d = false) : itemD h d = false := by
  cases d with
  | tuple ds =>
    match ds, ht with
    | [a, b, c, d, e], ht => cases ht
    | [], _ => rfl
    | [_], _ => rfl
    | [_, _], _ => rfl
    | [_, _, _], _ => rfl
    | [_, _, _, _], _ => rfl
    | _ :: _ :: _ :: _ :: _ :: _ :: _, _ => rfl
  | none => rfl
  | bool _ => rfl
  | int _ => rfl
  | str _ => rfl
  | list _ => rfl
  | dict _ => rfl
theorem Im.quint' {H : Hp} {v : V} {a b c d e : PyData} (h : Im H v (.tuple [a, b, c, d, e])) : ∃ ta x1 x2 x3 x4 x5, v = .ref ta ∧ SqP H ta [x1, x2, x3, x4, x5] ∧ Im H x1 a ∧ Im H x2 b ∧ Im H x3 c ∧ Im H x4 d ∧ Im H x5 e := by
  obtain ⟨ta, xs, rfl, ha, hi⟩ := h.tup'
  cases hi with
  | cons g1 hi =>
    cases hi with
    | cons g2 hi =>
      cases hi with
      | cons g3 hi =>
        cases hi with
        | cons g4 hi =>
          cases hi with
          | cons g5 hi =>
            cases hi
            exact ⟨ta, _, _, _, _, _, rfl, ha, g1, g2, g3, g4, g5⟩
theorem bare_iff {g : PyData} {x y : Int} : PyData.tuple [g, .int x, .int y] = .tuple [.tuple [], .int 0, .int 10000] ↔ bareB g (.int x) (.int y) = true := by
  constructor
  · intro h
    injection h with h
    injection h with h1 h
    injection h with h2 h
    injection h with h3 h
    injection h2 with h2
    injection h3 with h3
    rw [h1, h2, h3]
    rfl
  · intro h
    cases g with
    | tuple ds =>
      cases ds with
      | nil =>
        have h : (decide (x = 0) && decide (y = 10000)) = true := h
        rw [Bool.and_eq_true, decide_eq_true_eq, decide_eq_true_eq] at h
        rw [h.1, h.2]
      | cons a r => cases h
    | none => cases h
    | bool _ => cases h
    | int _ => cases h
    | str _ => cases h
    | list _ => cases h
    | dict _ => cases h
def spItemD (T : List (Addr × Str)) : Sp := fun vs H Q _ => ∃ (v u : V) (sl : Sl) (d : PyData), vs = [v, u] ∧ Im H v (slD sl) ∧ Im H u d ∧ Sm d ∧ d.depth ≤ 60 ∧ ∀ H', Ext T [] H H' → Q (.bl (itemD (hostsB sl) d)) H'
theorem ok_is_item (D : Def K mg "is_item" s_is_item ["slot", "value"]) (M : Cst mg) (G_is_tuple_of : Ok P w K mg base 1 "is_tuple_of" ["value", "least", "most"] spTupD) (G_are_ids : Ok P w K mg base 3 "are_ids" ["value", "least", "most"] (spIdsD T)) (G_is_integer_in : Ok P w K mg base 1 "is_integer_in" ["value", "least", "most"] spIntD) : Ok P w K mg base 4 "is_item" ["slot", "value"] (spItemD T) := by
  refine D.ok sc_is_item (fun vs H Q E h => ?_) (fun cdv f A outer s H vs Q E hr h => ?_)
  · obtain ⟨v, u, sl, d, rfl, _⟩ := h
    rfl
  · obtain ⟨v, u, sl, d, rfl, hv, hu, hs, hd, q⟩ := h
    refine ⟨_, (pss_cons (ps_if (pt_not (pt_E (pe_callO G_is_tuple_of (hr.mono (by decide)) (by rfl) (pa_cons (pv 1) (pa_cons pe_int (pa_cons pe_int pa_nil)))))) (pss_one (ps_ret pe_bl)) pss_nil)
   (pss_cons (ps_asg (pv 1) (pg_tupU (n := 5) K rfl rfl (pgs_cons (pg_name (i := 2) sc_is_item.nd rfl (.inl rfl)) (pgs_cons (pg_name (i := 3) sc_is_item.nd rfl (.inl rfl)) (pgs_cons (pg_name (i := 4) sc_is_item.nd rfl (.inl rfl)) (pgs_cons (pg_name (i := 5) sc_is_item.nd rfl (.inl rfl)) (pgs_cons (pg_name (i := 6) sc_is_item.nd rfl (.inl rfl)) pgs_nil)))))))
   (pss_cons (ps_if (PW.pt (pw_or (pt_not (pt_E (pe_callO G_are_ids (hr.mono (by decide)) (by rfl) (pa_cons (pv 2) (pa_cons pe_int (pa_cons (pe_glI (by rfl) M.c_MAX_IDS) pa_nil)))))) (pw_or1 (pt_not (pt_E (pe_callO G_is_integer_in (hr.mono (by decide)) (by rfl) (pa_cons (pv 3) (pa_cons pe_int (pa_cons (pe_glI (by rfl) M.c_MAX_LIFE) pa_nil))))))))) (pss_one (ps_ret pe_bl)) pss_nil)
   (pss_cons (ps_if (pt_not (pt_E (pe_callO G_are_ids (hr.mono (by decide)) (by rfl) (pa_cons (pv 4) (pa_cons pe_int (pa_cons (pe_glI (by rfl) M.c_MAX_SIGNERS) pa_nil)))))) (pss_one (ps_ret pe_bl)) pss_nil)
   (pss_cons (ps_if (PW.pt (pw_or (pt_not (pt_E (pe_callO G_is_integer_in (hr.mono (by decide)) (by rfl) (pa_cons (pv 5) (pa_cons pe_int (pa_cons (pe_glI (by rfl) M.c_MAX_TIME) pa_nil)))))) (pw_or1 (pt_not (pt_E (pe_callO G_is_integer_in (hr.mono (by decide)) (by rfl) (pa_cons (pv 6) (pa_cons (pv 5) (pa_cons (pe_glI (by rfl) M.c_MAX_TIME) pa_nil))))))))) (pss_one (ps_ret pe_bl)) pss_nil)
   (pss_one (ps_ret (pe_or (pe_cmpR (op_neU K rfl hr.units) (pe_ix (ix_U K rfl) (pv 0) pe_int (fun _ _ => rfl)) pe_str (nomark _)) (pe_one (pe_cmpR (op_eqU K rfl hr.units) (pe_tup (pa_cons (pv 4) (pa_cons (pv 5) (pa_cons (pv 6) pa_nil)))) (pe_tup (pa_cons (pe_tup pa_nil) (pa_cons pe_int (pa_cons (pe_glI (by rfl) M.c_MAX_TIME) pa_nil)))) (nomark _))))))))))), ?_⟩
    walk_at "rdn"
    refine rd_seq ?_
    walk_at "rd"
    refine ⟨u, d, 5, 5, rfl, hu, ?_⟩
    refine ⟨_, rfl, ?_⟩
    cases ht : tupB 5 5 d with
    | false =>
      rw [item_no ht] at q
      walk_at "rd"
      exact q H .refl
    | true =>
      obtain ⟨ds, rfl, h1, h2⟩ := tupB_some ht
      obtain ⟨c, l, g, a, b, rfl⟩ := five_of h1 h2
      have hsa := sm_tup.mp hs
      have q : ∀ H', Ext T [] H H' → Q (.bl (idsD 0 4 c && (intB 1 1000 l && (idsD 0 3 g && (intB 0 10000 a && (fromB a b && (!hostsB sl || bareB g a b))))))) H' := q
      obtain ⟨ta, x1, x2, x3, x4, x5, rfl, hta, g1, g2, g3, g4, g5⟩ := hu.quint'
      walk_at "rdn"
      refine rd_seq ?_
      walk_at "rd"
      refine rd_gtup (SqP.sq hta) rfl ?_
      walk_at "rdn"
      refine rd_seq ?_
      walk_at "rd"
      refine ⟨x1, c, 0, 4, rfl, g1, hsa.2 c (by simp), fun H1 e1 => ?_⟩
      refine ⟨_, rfl, ?_⟩
      cases hc : idsD 0 4 c with
      | false =>
        rw [hc] at q
        walk_at "rd"
        exact q H1 e1
      | true =>
        rw [hc] at q
        walk_at "rd"
        refine ⟨x2, l, 1, 1000, rfl, g2.x e1, ?_⟩
        refine ⟨_, rfl, ?_⟩
        cases hl : intB 1 1000 l with
        | false =>
          rw [hl] at q
          walk_at "rd"
          exact q H1 e1
        | true =>
          rw [hl] at q
          walk_at "rd"
          refine ⟨x3, g, 0, 3, rfl, g3.x e1, hsa.2 g (by simp), fun H2 e2 => ?_⟩
          refine ⟨_, rfl, ?_⟩
          have e12 := e1.trans e2
          cases hg : idsD 0 3 g with
          | false =>
            rw [hg] at q
            walk_at "rd"
            exact q H2 e12
          | true =>
            rw [hg] at q
            walk_at "rd"
            refine ⟨x4, a, 0, 10000, rfl, g4.x e12, ?_⟩
            refine ⟨_, rfl, ?_⟩
            cases ha : intB 0 10000 a with
            | false =>
              rw [ha] at q
              walk_at "rd"
              exact q H2 e12
            | true =>
              rw [ha] at q
              obtain ⟨ai, rfl, _, _⟩ := int_some ha
              obtain rfl := g4.int'
              walk_at "rd"
              refine ⟨x5, b, ai, 10000, rfl, g5.x e12, ?_⟩
              refine ⟨_, rfl, ?_⟩
              have q : ∀ H', Ext T [] H H' → Q (.bl (intB ai 10000 b && (!hostsB sl || bareB g (.int ai) b))) H' := q
              cases hb : intB ai 10000 b with
              | false =>
                rw [hb] at q
                walk_at "rd"
                exact q H2 e12
              | true =>
                rw [hb] at q
                obtain ⟨bi, rfl, _, _⟩ := int_some hb
                obtain rfl := g5.int'
                obtain ⟨kw, rs, ekw, hkw⟩ := sl_hosts sl
                have hsk := hv.x e12
                rw [ekw] at hsk
                walk_at "rd"
                refine rd_ixSs (z := kw) hsk (atI_nat (xs := .str kw :: rs) (j := 0) rfl) ?_
                walk_at "rd"
                refine rd_itn (fun cc => ?_) (fun cc => ?_)
                · rw [hkw.mp cc] at q
                  walk_at "rd"
                  walk_at "al"
                  rename_i r1 H3 _ e3 hr1
                  walk_at "rd"
                  walk_at "al"
                  rename_i r0 H4 _ e4 hr0
                  walk_at "rd"
                  walk_at "al"
                  rename_i r2 H5 _ e5 hr2
                  have e25 := (e3.trans e4).trans e5
                  have i1 : Im H5 (.ref r1) (.tuple [g, .int ai, .int bi]) := (Im.new3 ((g3.x e12).x e3) (.int _) (.int _) hr1).x (e4.trans e5)
                  have i2 : Im H5 (.ref r2) (.tuple [.tuple [], .int 0, .int 10000]) := .new3 ((Im.tup hr0 .nil).x e5) (.int _) (.int _) hr2
                  refine rd_eqI (b := bareB g (.int ai) (.int bi)) i1 i2 ?_ (by decide) bare_iff ?_
                  · have hd : max c.depth (max l.depth (max g.depth _)) + 1 ≤ 60 := hd
                    show max g.depth (max 0 (max 0 0)) + 1 ≤ 64
                    omega
                  · exact q H5 (e12.trans e25)
                · have hh : hostsB sl = false := by
                    cases hh : hostsB sl with
                    | false => rfl
                    | true => exact absurd (hkw.mpr hh) cc
                  rw [hh] at q
                  exact q H2 e12
end
def cutD (ds : List PyData) (lo hi : Option Int) : List PyData := (ds.drop (HT.sIx ds.length 0 lo)).take (HT.sIx ds.length ds.length hi - HT.sIx ds.length 0 lo)
theorem cutD_tail (ds : List PyData) : cutD ds (some 1) none = ds.tail := by
  unfold cutD
  rw [HT.sIx_none]
  have e : HT.sIx ds.length 0 (some 1) = min 1 ds.length := HT.sIx_nat ds.length 0 1
  rw [e, List.take_of_length_le (by rw [List.length_drop]; omega)]
  cases ds with
  | nil => rfl
  | cons d ds => simp
theorem kw3 : PyData.strOk (Str.ofString "put") = true ∧ PyData.strOk (Str.ofString "on") = true ∧ PyData.strOk (Str.ofString "off") = true := by decide +kernel
theorem hostsB_sl (s : Sl) : hostsB s = hostSl s := by cases s <;> rfl
theorem dep_pair {a b : PyData} (h1 : a.depth ≤ 60) (h2 : b.depth ≤ 60) : PyData.depth (.tuple [a, b]) ≤ 64 := by
  show max a.depth (max b.depth 0) + 1 ≤ 64
  omega
theorem dep_mem {ds : List PyData} : ∀ {d : PyData}, d ∈ ds → d.depth < PyData.depth (.tuple ds) := by
  induction ds with
  | nil => intro d h; cases h
  | cons a r ih =>
    intro d h
    show d.depth < max a.depth (PyData.depthAll r) + 1
    rcases List.mem_cons.mp h with rfl | h
    · omega
    · have h2 : d.depth < PyData.depthAll r + 1 := ih h
      omega
section
variable {T : List (Addr × Str)} {P : Program} {w : World} {K : PySem.W.Frag} {mg : Str → Option Value} {base : Heap}
local macro_rules | `(tactic| walk_at "tr") => `(tactic| first
  | assumption
  | exact Ext.refl
  | ((with_reducible refine' Im.x (T := T) (H := ?trH) ?tra ?tre); (case tre => assumption); (case tra => walk_at "tr"))
  | ((with_reducible refine' Im.y (T := T) (H := ?trH) ?tra ?tre ?trt); (case tre => assumption); (case trt => walk_at "tr"); (case tra => walk_at "tr"))
  | ((with_reducible refine' ImAll.x (T := T) (H := ?trH) ?tra ?tre); (case tre => assumption); (case tra => walk_at "tr"))
  | ((with_reducible refine' ImAll.y (T := T) (H := ?trH) ?tra ?tre ?trt); (case tre => assumption); (case trt => walk_at "tr"); (case tra => walk_at "tr"))
  | ((with_reducible refine' Ls.x (T := T) (H := ?trH) ?tra ?tre); (case tre => assumption); (case tra => walk_at "tr"))
  | ((with_reducible refine' Ls.y (T := T) (H := ?trH) ?tra ?tre ?trn ?trt); (case tre => assumption); (case trt => walk_at "tr"); (case trn => walk_at "tr"); (case tra => walk_at "tr"))
  | ((with_reducible refine' SqP.x (T := T) (H := ?trH) ?tra ?tre); (case tre => assumption); (case tra => walk_at "tr"))
  | ((with_reducible refine' SqP.y (T := T) (H := ?trH) ?tra ?tre ?trt); (case tre => assumption); (case trt => walk_at "tr"); (case tra => walk_at "tr"))
  | ((with_reducible refine' StAt.x (T := T) (H := ?trH) ?tra ?tre); (case tre => assumption); (case tra => walk_at "tr"))
  | ((with_reducible refine' StAt.y (T := T) (H := ?trH) ?tra ?tre ?trt); (case tre => assumption); (case trt => walk_at "tr"); (case tra => walk_at "tr"))
  | ((with_reducible refine' Pools.ext0 (T := T) (H := ?trH) ?tra ?tre); (case tre => assumption); (case tra => walk_at "tr"))
  | ((with_reducible refine' Pools.ext (T := T) (H := ?trH) ?tra ?tre ?trt); (case tre => assumption); (case trt => walk_at "tr"); (case tra => walk_at "tr"))
  | ((with_reducible refine' CL.x (T := T) (H := ?trH) ?tra ?tre); (case tre => assumption); (case tra => walk_at "tr"))
  | ((with_reducible refine' CL.y (T := T) (H := ?trH) ?tra ?tre); (case tre => assumption); (case tra => walk_at "tr"))
  | ((with_reducible refine' Tape.ext (T := T) (H := ?trH) ?tra ?tre); (case tre => assumption); (case tra => walk_at "tr"))
  | ((with_reducible refine' lst.x (T := T) (H := ?trH) ?tra ?tre); (case tre => assumption); (case tra => walk_at "tr"))
  | ((with_reducible refine' lst.y (T := T) (H := ?trH) ?tra ?tre ?trn); (case tre => assumption); (case trn => walk_at "tr"); (case tra => walk_at "tr"))
  | ((with_reducible refine' tup.x (T := T) (H := ?trH) ?tra ?tre); (case tre => assumption); (case tra => walk_at "tr"))
  | ((with_reducible refine' tup.y (T := T) (H := ?trH) ?tra ?tre ?trt); (case tre => assumption); (case trt => walk_at "tr"); (case tra => walk_at "tr"))
  | ((with_reducible refine' frz.x (T := T) (H := ?trH) ?tra ?tre); (case tre => assumption); (case tra => walk_at "tr"))
  | ((with_reducible refine' frz.y (T := T) (H := ?trH) ?tra ?tre ?trt); (case tre => assumption); (case trt => walk_at "tr"); (case tra => walk_at "tr"))
  | ((with_reducible refine' Im.z (T := T) (H := ?trH) ?tra ?tre ?trt); (case tre => assumption); (case trt => assumption); (case tra => walk_at "tr"))
  | ((with_reducible refine' ImAll.z (T := T) (H := ?trH) ?tra ?tre ?trt); (case tre => assumption); (case trt => assumption); (case tra => walk_at "tr"))
  | ((with_reducible refine' StAt.z (T := T) (H := ?trH) ?tra ?tre ?trt); (case tre => assumption); (case trt => assumption); (case tra => walk_at "tr"))
  | ((with_reducible refine' SqP.z (T := T) (H := ?trH) ?tra ?tre ?trt); (case tre => assumption); (case trt => assumption); (case tra => walk_at "tr"))
  | ((with_reducible refine' tup.z (T := T) (H := ?trH) ?tra ?tre ?trt); (case tre => assumption); (case trt => assumption); (case tra => walk_at "tr"))
  | ((with_reducible refine' Ls.z (T := T) (H := ?trH) ?tra ?tre ?trt ?trn); (case tre => assumption); (case trt => assumption); (case trn => assumption); (case tra => walk_at "tr"))
  | ((with_reducible refine' lst.z (T := T) (H := ?trH) ?tra ?tre ?trn); (case tre => assumption); (case trn => assumption); (case tra => walk_at "tr"))
  | ((with_reducible refine' CL.z (T := T) (H := ?trH) ?tra ?tre ?trn); (case tre => assumption); (case trn => assumption); (case tra => walk_at "tr"))
  | ((with_reducible refine' Tape.ne1 (H := ?trH) ?trt ?trn); (case trn => assumption); (case trt => walk_at "tr"))
  | ((with_reducible refine' Ext.trans (H1 := ?trH) ?tra (Ext.any ?tre)); (case tre => assumption); (case tra => walk_at "tr"))
  | ((with_reducible refine' Ext.trans (H1 := ?trH) ?tra ?tre); (case tre => assumption); (case tra => walk_at "tr"))
  | ((with_reducible refine' Ext.back1 (T := T) (H1 := ?trH) ?tre ?trn ?tra); (case tra => assumption); (case trn => walk_at "tr"); (case tre => walk_at "tr"))
  | ((with_reducible refine' Ext.back0 (T := T) (H1 := ?trH) ?tre ?tra); (case tra => assumption); (case tre => walk_at "tr"))
  | ((with_reducible refine' SqT.of ?tra); (case tra => walk_at "tr"))
  | ((with_reducible refine' SqL.of ?tra); (case tra => walk_at "tr")))
local macro_rules | `(tactic| walk_at "al") => `(tactic| (refine ⟨by first | (show _ ≤ sizeLine; decide) | walk_at "sz", ?_⟩; intro alp aln; generalize alG : upd _ alp _ = alH; obtain ⟨aln2, alx, alh⟩ := al_of (T := T) aln alG; clear alG aln))
local macro_rules | `(tactic| walk_at "al0") => `(tactic| (intro alp aln; generalize alG : upd _ alp _ = alH; obtain ⟨aln2, alx, alh⟩ := al_of (T := T) aln alG; clear alG aln))
theorem rd_slIm {H : Hp} {Q : VK} {u : V} {ds : List PyData} {lo hi : Option Int} (h : Im H u (.tuple ds)) (q : ∀ y H', Ext T [] H H' → Im H' y (.tuple (cutD ds lo hi)) → Q y H') : rSlU2 K u lo hi H Q := by
  obtain ⟨a, xs, rfl, ha, hi'⟩ := h.tup'
  have hl := hi'.len
  by_cases c : HT.sIx xs.length 0 lo = 0 ∧ HT.sIx xs.length xs.length hi = xs.length
  · refine rd_slW (SqP.sq ha) c.1 c.2 (q _ H .refl ?_)
    have : cutD ds lo hi = ds := by
      unfold cutD
      rw [← hl, c.1, c.2, List.drop_zero, Nat.sub_zero, hl, List.take_length]
    rw [this]
    exact h
  · refine rd_slT2 (SqP.sq ha) c fun p np => ?_
    obtain ⟨_, e, hp⟩ := alT (T := T) np (cutV xs lo hi)
    generalize upd H p _ = H' at e hp ⊢
    refine q _ H' e (.tup hp ?_)
    unfold cutV cutD
    rw [← hl]
    exact ((hi'.x e).drop _).take _
def spRD (T : List (Addr × Str)) (f : Rm → PyData → Bool) : Sp := fun vs H Q _ => ∃ (v u : V) (R : Rm) (d : PyData), vs = [v, u] ∧ Im H v (rmD R) ∧ RmIn R ∧ Im H u d ∧ Sm d ∧ d.depth ≤ 40 ∧ ∀ H', Ext T [] H H' → Q (.bl (f R d)) H'
theorem ok_is_server (D : Def K mg "is_server" s_is_server ["realm", "value"]) (mb : ∀ x ∈ bltns, mg x = none) (G_is_tuple_of : Ok P w K mg base 1 "is_tuple_of" ["value", "least", "most"] spTupD) (G_is_id : Ok P w K mg base 2 "is_id" ["text"] (spDB T idD)) (G_zone_names : Ok P w K mg base 1 "zone_names" ["realm"] (spZn T)) :
    Ok P w K mg base 3 "is_server" ["realm", "value"] (spRD T srvD) := by
  refine D.ok sc_is_server (fun vs H Q E h => ?_) (fun cdv f A outer s H vs Q E hr h => ?_)
  · obtain ⟨v, u, R, d, rfl, _⟩ := h
    rfl
  · obtain ⟨v, u, R, d, rfl, hv, hR, hu, hs, hd, q⟩ := h
    refine ⟨_, (pss_one (ps_ret (pe_and (pe_callO G_is_tuple_of (hr.mono (by decide)) (by rfl) (pa_cons (pv 1) (pa_cons pe_int (pa_cons pe_int pa_nil)))) (pe_and (pe_callO G_is_id (hr.mono (by decide)) (by rfl) (pa_cons (pe_ix (ix_U K rfl) (pv 1) pe_int (fun _ _ => rfl)) pa_nil)) (pe_one (pe_cmpR (op_inW K rfl (Room.units65 hr)) (pe_ix (ix_U K rfl) (pv 1) pe_int (fun _ _ => rfl)) (pe_slice (sl_U2 K rfl) (pe_callO G_zone_names (hr.mono (by decide)) (by rfl) (pa_cons (pv 0) pa_nil)) (po_some pe_int) po_none) rfl)))))), ?_⟩
    walk_at "rd"
    refine ⟨u, d, 2, 2, rfl, hu, ?_⟩
    cases ht : tupB 2 2 d with
    | false =>
      rw [srvD_no ht] at q
      walk_at "rd"
      exact q H .refl
    | true =>
      obtain ⟨a, b, rfl⟩ := pair_of ht
      have q : ∀ H', Ext T [] H H' → Q (.bl (idD a && inZ R b)) H' := q
      have hsa := sm_tup.mp hs
      walk_at "rd"
      refine rd_ixI (d := a) hu rfl fun u1 g1 => ?_
      walk_at "rd"
      refine ⟨u1, a, rfl, g1, hsa.2 a (by simp), fun H1 e1 => ?_⟩
      cases ha : idD a with
      | false =>
        rw [ha] at q
        walk_at "rd"
        exact q H1 e1
      | true =>
        rw [ha] at q
        walk_at "rd"
        refine rd_ixI (d := b) (hu.x e1) rfl fun u2 g2 => ?_
        walk_at "rd"
        refine ⟨v, R, rfl, hv.x e1, hR, fun zp H2 nz e2 hz => ?_⟩
        have hzi : Im H2 (.ref zp) (.tuple ((R.zs.map (·.1)).map .str)) := .tup hz (ImAll.strs fun z hz => by
          obtain ⟨y, hy, rfl⟩ := List.mem_map.mp hz
          exact name_ok (hR.nm y hy))
        walk_at "rd"
        refine rd_slIm (T := T) hzi fun y H3 e3 hy => ?_
        rw [cutD_tail, ← List.map_tail, ← List.map_tail] at hy
        have hbd : b.depth ≤ 64 := by
          have := dep_mem (ds := [a, b]) (d := b) (by simp)
          omega
        refine rd_inWI (b := inZ R b) ((g2.x e2).x e3) hy hbd ?_ inZ_iff (q H3 ((e1.trans e2).trans e3))
        show PyData.depthAll ((R.zs.tail.map (·.1)).map PyData.str) + 1 ≤ 64
        rw [dep_strs0]
        omega
theorem ok_are_items (D : Def K mg "are_items" s_are_items ["realm", "value"]) (mb : ∀ x ∈ bltns, mg x = none) (G_slots : Ok P w K mg base 2 "slots" ["realm"] (spSlotsT T)) (G_is_tuple_of : Ok P w K mg base 1 "is_tuple_of" ["value", "least", "most"] spTupD) (G_is_item : Ok P w K mg base 4 "is_item" ["slot", "value"] (spItemD T)) :
    Ok P w K mg base 5 "are_items" ["realm", "value"] (spRD T itemsB) := by
  refine D.ok sc_are_items (fun vs H Q E h => ?_) (fun cdv f A outer s H vs Q E hr h => ?_)
  · obtain ⟨v, u, R, d, rfl, _⟩ := h
    rfl
  · obtain ⟨v, u, R, d, rfl, hv, hR, hu, hs, hd, q⟩ := h
    refine ⟨_, (pss_cons (ps_set (i := 2) sc_are_items.nd rfl (.inl rfl) (pe_callO G_slots (hr.mono (by decide)) (by rfl) (pa_cons (pv 0) pa_nil)))
   (pss_cons (ps_if (pt_not (pt_E (pe_callO G_is_tuple_of (hr.mono (by decide)) (by rfl) (pa_cons (pv 1) (pa_cons (pe_callB (call_lenU K rfl) (by rfl) (mb _ (by decide)) (by decide +kernel) (pa_cons (pv 2) pa_nil)) (pa_cons (pe_callB (call_lenU K rfl) (by rfl) (mb _ (by decide)) (by decide +kernel) (pa_cons (pv 2) pa_nil)) pa_nil)))))) (pss_one (ps_ret pe_bl)) pss_nil)
   (pss_cons (ps_if (pt_not (pt_E (pe_callB (call_allU K rfl rfl) (by rfl) (mb _ (by decide)) (by decide +kernel) (pa_cons (pe_lc (own := [("part", 5)]) (g := gName 5) (tt := tYes) rfl sc_are_items.nd (pi_seq K rfl (pv 1)) (blkOk_by (N := N_are_items) (sc := defScope s_are_items) (by decide +kernel)) (fun _ _ _ _ _ => (pg_name (i := 5) sc_are_items.nd rfl (Or.inl rfl))) (fun _ _ _ _ _ => pts_nil) (fun _ _ _ _ _ => (pe_callO G_is_tuple_of (hr.mono (by decide)) (by rfl) (pa_cons (pv 5) (pa_cons pe_int (pa_cons pe_int pa_nil)))))) pa_nil)))) (pss_one (ps_ret pe_bl)) pss_nil)
   (pss_cons (ps_if (pt_cmpR (op_neU K rfl hr.units) (pe_callTy (call_tupU K rfl) (by rfl) (mb _ (by decide)) (by decide +kernel) (pa_cons (pe_lc (own := [("slot", 3), ("_", 6)]) (tt := tYes) rfl sc_are_items.nd (pi_seq K rfl (pv 1)) (blkOk_by (N := N_are_items) (sc := defScope s_are_items) (by decide +kernel)) (fun _ _ _ _ _ => (pg_tupU (n := 2) K rfl rfl (pgs_cons (pg_name (i := 3) sc_are_items.nd rfl (Or.inl rfl)) (pgs_cons (pg_name (i := 6) sc_are_items.nd rfl (Or.inl rfl)) pgs_nil)))) (fun _ _ _ _ _ => pts_nil) (fun _ _ _ _ _ => (pv 3))) pa_nil)) (pv 2) (nomark _)) (pss_one (ps_ret pe_bl)) pss_nil)
   (pss_one (ps_ret (pe_callB (call_allU K rfl rfl) (by rfl) (mb _ (by decide)) (by decide +kernel) (pa_cons (pe_lc (own := [("slot", 3), ("item", 4)]) (tt := tYes) rfl sc_are_items.nd (pi_seq K rfl (pv 1)) (blkOk_by (N := N_are_items) (sc := defScope s_are_items) (by decide +kernel)) (fun _ _ _ _ _ => (pg_tupU (n := 2) K rfl rfl (pgs_cons (pg_name (i := 3) sc_are_items.nd rfl (Or.inl rfl)) (pgs_cons (pg_name (i := 4) sc_are_items.nd rfl (Or.inl rfl)) pgs_nil)))) (fun _ _ _ _ _ => pts_nil) (fun _ _ _ _ _ => (pe_callO G_is_item (hr.mono (by decide)) (by rfl) (pa_cons (pv 3) (pa_cons (pv 4) pa_nil))))) pa_nil)))))))), ?_⟩
    walk_at "rdn"
    refine rd_seq ?_
    walk_at "rd"
    refine ⟨v, R, rfl, hv, hR, fun p H1 e1 hp => ?_⟩
    obtain ⟨pa, px, epa, hpa, hpi⟩ := hp.tup'
    cases epa
    have hpl : px.length = (slotsR R).length := by rw [hpi.len, List.length_map]
    walk_at "rdn"
    refine rd_seq ?_
    walk_at "rd"
    refine rd_lenT (SqP.sq hpa) ?_
    walk_at "rd"
    refine rd_lenT (SqP.sq hpa) ?_
    walk_at "rd"
    refine ⟨u, d, px.length, px.length, rfl, hu.x e1, ?_⟩
    refine ⟨_, rfl, ?_⟩
    cases ht : tupB px.length px.length d with
    | false =>
      have hno : itemsB R d = false := by
        cases hi : itemsB R d with
        | false => rfl
        | true =>
          cases d with
          | tuple ds =>
            have h1 := rowsB_len (ss := slotsR R) (ds := ds) hi
            have ht : (decide ((px.length : Int) ≤ (ds.length : Int)) && decide ((ds.length : Int) ≤ (px.length : Int))) = false := ht
            rw [h1, hpl, decide_eq_true (Int.le_refl _)] at ht
            cases ht
          | none => cases hi
          | bool _ => cases hi
          | int _ => cases hi
          | str _ => cases hi
          | list _ => cases hi
          | dict _ => cases hi
      rw [hno] at q
      walk_at "rd"
      exact q H1 e1
    | true =>
      obtain ⟨ds, rfl, h1, h2⟩ := tupB_some ht
      have hdl : ds.length = (slotsR R).length := by omega
      have hsa := sm_tup.mp hs
      obtain ⟨ua, ux, rfl, hua, hui⟩ := (hu.x e1).tup'
      have hui2 : ImAll H1 ux (ds.map id) := by rw [List.map_id]; exact hui
      walk_at "rdn"
      refine rd_seq ?_
      walk_at "rd"
      refine .inr ⟨⟨_, SqP.sq hua⟩, ?_⟩
      refine lcg_fv T id (fun d => .bl (tupB 2 2 d)) (fun _ => true) walk_tup hui2 rfl (fun i H x H' y => y) (fun H' e => SqP.sq (SqP.x hua e)) (by omega) (fun k y x hy H' e' hxy R' S' g1 _ => ?_) (fun D1 H2 nD1 e2 hD1 => ?_)
      · refine rd_name ⟨wipe1, ?_⟩
        walk_at "rd"
        exact ⟨x, y, 2, 2, rfl, hxy, g1 rfl H' .refl⟩
      · rw [filtT] at hD1
        have hD2 : H2 D1 = some (.lst ((ds.map (tupB 2 2)).map V.bl)) := by
          rw [hD1, List.map_map]
          rfl
        walk_at "rd"
        refine rd_all (SqL.of hD2) ?_
        rw [List.all_map, show (id ∘ tupB 2 2) = tupB 2 2 from rfl]
        refine ⟨_, rfl, ?_⟩
        cases hp2 : ds.all (tupB 2 2) with
        | false =>
          have hno : itemsB R (.tuple ds) = false := by
            cases hi : itemsB R (.tuple ds) with
            | false => rfl
            | true =>
              rw [rowsB_pairs (ss := slotsR R) hi] at hp2
              cases hp2
          rw [hno] at q
          walk_at "rd"
          exact q H2 (e1.trans e2)
        | true =>
          obtain ⟨l, rfl⟩ := pairs_map hp2
          have hll : l.length = (slotsR R).length := by rw [← hdl, List.length_map]
          have hl30 := slots_len hR
          have hui3 := hui.x e2
          have hua3 := SqP.x hua e2
          have hp3 := hp.x e2
          walk_at "rdn"
          refine rd_seq ?_
          walk_at "rd"
          refine .inr ⟨⟨_, SqP.sq hua3⟩, ?_⟩
          refine lcg_fm T prD (fun p => p.1) (fun _ => true) walk_tup hui3 rfl (fun i H x H' y => y) (fun H' e => SqP.sq (SqP.x hua3 e)) (by omega) (fun i z x hz' H' e' hxz R' S g1 _ => ?_) (fun D2 H3 nD2 e3 hD2 => ?_)
          · refine rd_gpair (d1 := z.1) (d2 := z.2) hxz fun v1 v2 k1 k2 => ?_
            refine ⟨by rw [wipe_set (by decide), wipe_set (by decide), wipe_wipe], ?_⟩
            walk_at "rd"
            exact g1 rfl _ H' .refl k1
          · rw [filtT] at hD2
            obtain ⟨kx, hkx, hki⟩ := hD2
            walk_at "rd"
            refine rd_tupA T hkx fun p2 H4 np2 e4 hp2' => ?_
            walk_at "rd"
            have hd1 : PyData.depth (.tuple (l.map (·.1))) ≤ 64 := by
              have h60 : ∀ p ∈ l, p.1.depth ≤ 40 := fun p hp => by
                have h1 := dep_mem (ds := l.map prD) (List.mem_map_of_mem hp)
                have h2 := dep_mem (ds := [p.1, p.2]) (d := p.1) (by simp)
                have h3 : (prD p).depth = PyData.depth (.tuple [p.1, p.2]) := rfl
                omega
              have key : ∀ l : List (PyData × PyData), (∀ p ∈ l, p.1.depth ≤ 40) → PyData.depthAll (l.map (·.1)) ≤ 40 := by
                intro l
                induction l with
                | nil => intro _; exact Nat.zero_le _
                | cons p l ih => exact fun h => Nat.max_le.mpr ⟨h p List.mem_cons_self, ih fun q hq => h q (List.mem_cons_of_mem _ hq)⟩
              have := key l h60
              show PyData.depthAll (l.map (·.1)) + 1 ≤ 64
              omega
            have hd2 : PyData.depth (.tuple ((slotsR R).map slD)) ≤ 64 := by
              show PyData.depthAll ((slotsR R).map slD) + 1 ≤ 64
              have := dep_map dep_sl (slotsR R)
              omega
            have i1 : Im H4 (.ref p2) (.tuple (l.map (·.1))) := .tup hp2' (hki.x e4)
            have e14 := ((e1.trans e2).trans e3).trans e4
            by_cases hq : l.map (·.1) = (slotsR R).map slD
            · refine rd_neI (b := true) i1 ((hp3.x e3).x e4) hd1 hd2 ⟨fun _ => rfl, fun _ => by rw [hq]⟩ ?_
              have q : ∀ H', Ext T [] H H' → Q (.bl (rowsB (slotsR R) (l.map prD))) H' := q
              rw [rowsB_of hq] at q
              have hui4 := (hui3.x e3).x e4
              have hua4 := SqP.x (SqP.x hua3 e3) e4
              walk_at "rd"
              refine .inr ⟨⟨_, SqP.sq hua4⟩, ?_⟩
              refine lcg_fv T prD (fun p => .bl (itemD (hostW p.1) p.2)) (fun _ => true) walk_tup hui4 rfl (fun i H x H' y => y) (fun H' e => SqP.sq (SqP.x hua4 e)) (by omega) (fun k y x hy H' e' hxy R' S' g1 _ => ?_) (fun D3 H5 nD3 e5 hD3 => ?_)
              · refine rd_gpair (d1 := y.1) (d2 := y.2) hxy fun v1 v2 k1 k2 => ?_
                refine ⟨by rw [wipe_set (by decide), wipe_set (by decide), wipe_wipe], ?_⟩
                have hym := List.mem_of_getElem? hy
                have hm1 : y.1 ∈ (slotsR R).map slD := by rw [← hq]; exact List.mem_map_of_mem hym
                obtain ⟨sl, hsl, esl⟩ := List.mem_map.mp hm1
                rw [← esl] at k1
                have hs2 := sm_tup.mp (hsa.2 (prD y) (List.mem_map_of_mem hym))
                walk_at "rd"
                refine ⟨v1, v2, sl, y.2, rfl, k1, k2, hs2.2 y.2 (by simp [prD]), ?_, fun H6 e6 => ?_⟩
                · have h1 := dep_mem (ds := l.map prD) (List.mem_map_of_mem hym)
                  have h2 := dep_mem (ds := [y.1, y.2]) (d := y.2) (by simp)
                  have h3 : (prD y).depth = PyData.depth (.tuple [y.1, y.2]) := rfl
                  omega
                · have hh : hostsB sl = hostW y.1 := by rw [hostsB_sl, ← esl, hostW_sl]
                  rw [hh]
                  exact g1 rfl H6 e6
              · rw [filtT] at hD3
                have hD4 : H5 D3 = some (.lst ((l.map fun p => itemD (hostW p.1) p.2).map V.bl)) := by
                  rw [hD3, List.map_map]
                  rfl
                walk_at "rd"
                refine rd_all (SqL.of hD4) ?_
                rw [List.all_map]
                exact q H5 (e14.trans e5)
            · refine rd_neI (b := false) i1 ((hp3.x e3).x e4) hd1 hd2 ⟨fun h => absurd (by injection h) hq, fun h => by cases h⟩ ?_
              have hno : itemsB R (.tuple (l.map prD)) = false := by
                cases hi : itemsB R (.tuple (l.map prD)) with
                | false => rfl
                | true => exact absurd (rowsB_firsts (ss := slotsR R) hi) hq
              rw [hno] at q
              walk_at "rd"
              exact q H4 e14
theorem ok_is_state (D : Def K mg "is_state" s_is_state ["realm", "value"]) (mb : ∀ x ∈ bltns, mg x = none) (G_is_tuple_of : Ok P w K mg base 1 "is_tuple_of" ["value", "least", "most"] spTupD) (G_are_items : Ok P w K mg base 5 "are_items" ["realm", "value"] (spRD T itemsB)) (G_is_server : Ok P w K mg base 3 "is_server" ["realm", "value"] (spRD T srvD)) (G_is_ascending : Ok P w K mg base 1 "is_ascending" ["values"] (spAsc T K)) :
    Ok P w K mg base 6 "is_state" ["realm", "value"] (spRD T stateB) := by
  refine D.ok sc_is_state (fun vs H Q E h => ?_) (fun cdv f A outer s H vs Q E hr h => ?_)
  · obtain ⟨v, u, R, d, rfl, _⟩ := h
    rfl
  · obtain ⟨v, u, R, d, rfl, hv, hR, hu, hs, hd, q⟩ := h
    refine ⟨_, (pss_cons (ps_if (pt_not (pt_E (pe_callO G_is_tuple_of (hr.mono (by decide)) (by rfl) (pa_cons (pv 1) (pa_cons pe_int (pa_cons pe_int pa_nil)))))) (pss_one (ps_ret pe_bl)) pss_nil)
   (pss_cons (ps_asg (pv 1) (pg_tupU (n := 2) K rfl rfl (pgs_cons (pg_name (i := 2) sc_is_state.nd rfl (.inl rfl)) (pgs_cons (pg_name (i := 3) sc_is_state.nd rfl (.inl rfl)) pgs_nil))))
   (pss_cons (ps_if (PW.pt (pw_or (pt_not (pt_E (pe_callO G_are_items (hr.mono (by decide)) (by rfl) (pa_cons (pv 0) (pa_cons (pv 2) pa_nil))))) (pw_or1 (pt_not (pt_E (pe_callB (call_isiU K rfl) (by rfl) (mb _ (by decide)) (by decide +kernel) (pa_cons (pv 3) (pa_cons (pe_bltn (v := .ty "tuple") (u := .type "tuple") (by rfl) (mb _ (by decide)) (by decide +kernel) rfl) pa_nil)))))))) (pss_one (ps_ret pe_bl)) pss_nil)
   (pss_one (ps_ret (pe_and (pe_callB (call_allU K rfl rfl) (by rfl) (mb _ (by decide)) (by decide +kernel) (pa_cons (pe_lc (own := [("part", 4)]) (g := gName 4) (tt := tYes) rfl sc_is_state.nd (pi_seq K rfl (pv 3)) (blkOk_by (N := N_is_state) (sc := defScope s_is_state) (by decide +kernel)) (fun _ _ _ _ _ => (pg_name (i := 4) sc_is_state.nd rfl (Or.inl rfl))) (fun _ _ _ _ _ => pts_nil) (fun _ _ _ _ _ => (pe_callO G_is_server (hr.mono (by decide)) (by rfl) (pa_cons (pv 0) (pa_cons (pv 4) pa_nil))))) pa_nil)) (pe_one (pe_callO G_is_ascending (hr.mono (by decide)) (by rfl) (pa_cons (pv 3) pa_nil))))))))), ?_⟩
    walk_at "rdn"
    refine rd_seq ?_
    walk_at "rd"
    refine ⟨u, d, 2, 2, rfl, hu, ?_⟩
    refine ⟨_, rfl, ?_⟩
    cases ht : tupB 2 2 d with
    | false =>
      rw [stateB_no ht] at q
      walk_at "rd"
      exact q H .refl
    | true =>
      obtain ⟨i, o, rfl⟩ := pair_of ht
      have q : ∀ H', Ext T [] H H' → Q (.bl (itemsB R i && (isTup o && ((els o).all (srvD R) && ascD (els o))))) H' := q
      have hsa := sm_tup.mp hs
      have hi40 : i.depth ≤ 40 := by
        have := dep_mem (ds := [i, o]) (d := i) (by simp)
        omega
      have ho40 : o.depth ≤ 40 := by
        have := dep_mem (ds := [i, o]) (d := o) (by simp)
        omega
      walk_at "rdn"
      refine rd_seq ?_
      walk_at "rd"
      refine rd_gpair (d1 := i) (d2 := o) hu fun v1 v2 g1 g2 => ?_
      walk_at "rdn"
      refine rd_seq ?_
      walk_at "rd"
      refine ⟨v, v1, R, i, rfl, hv, hR, g1, hsa.2 i (by simp), hi40, fun H1 e1 => ?_⟩
      refine ⟨_, rfl, ?_⟩
      cases hi : itemsB R i with
      | false =>
        rw [hi] at q
        walk_at "rd"
        exact q H1 e1
      | true =>
        rw [hi] at q
        walk_at "rd"
        refine rd_isTupD (g2.x e1) ?_
        refine ⟨_, rfl, ?_⟩
        cases hto : isTup o with
        | false =>
          rw [hto] at q
          walk_at "rd"
          exact q H1 e1
        | true =>
          rw [hto] at q
          obtain ⟨os, rfl⟩ : ∃ os, o = .tuple os := by
            cases o with
            | tuple os => exact ⟨os, rfl⟩
            | none => cases hto
            | bool _ => cases hto
            | int _ => cases hto
            | str _ => cases hto
            | list _ => cases hto
            | dict _ => cases hto
          have q : ∀ H', Ext T [] H H' → Q (.bl (os.all (srvD R) && ascD os)) H' := q
          obtain ⟨ua, ux, rfl, hua, hui⟩ := (g2.x e1).tup'
          have hso := sm_tup.mp (hsa.2 (.tuple os) (by simp))
          have hui2 : ImAll H1 ux (os.map id) := by rw [List.map_id]; exact hui
          walk_at "rd"
          refine .inr ⟨⟨_, SqP.sq hua⟩, ?_⟩
          refine lcg_fv T id (fun d => .bl (srvD R d)) (fun _ => true) walk_tup hui2 rfl (fun i H x H' y => y) (fun H' e => SqP.sq (SqP.x hua e)) (by omega) (fun k y x hy H' e' hxy R' S' g1 _ => ?_) (fun D1 H2 nD1 e2 hD1 => ?_)
          · have hym := List.mem_of_getElem? hy
            refine rd_name ⟨wipe1, ?_⟩
            walk_at "rd"
            refine ⟨v, x, R, y, rfl, (hv.x e1).x e', hR, hxy, hso.2 y hym, ?_, fun H3 e3 => g1 rfl H3 e3⟩
            have := dep_mem (ds := os) hym
            omega
          · rw [filtT] at hD1
            have hD2 : H2 D1 = some (.lst ((os.map (srvD R)).map V.bl)) := by
              rw [hD1, List.map_map]
              rfl
            walk_at "rd"
            refine rd_all (SqL.of hD2) ?_
            rw [List.all_map, show (id ∘ srvD R) = srvD R from rfl]
            cases ha : os.all (srvD R) with
            | false =>
              rw [ha] at q
              walk_at "rd"
              exact q H2 (e1.trans e2)
            | true =>
              rw [ha] at q
              walk_at "rd"
              have hal : Alike1 os := by
                obtain ⟨l, e, _⟩ := srvs_rows ha
                rw [e]
                exact alike_ss1 l
              exact ⟨ua, ux, os, rfl, .inl (SqP.x hua e2), hui.x e2, hal, hso.1, fun H3 e3 => q H3 ((e1.trans e2).trans e3)⟩
def spIsOnD (T : List (Addr × Str)) : Sp := fun vs H Q _ => ∃ (u y z : V) (s : Sta) (p x : PyData), vs = [u, y, z] ∧ StAt H u s ∧ Im H y p ∧ Im H z x ∧ p.depth ≤ 60 ∧ x.depth ≤ 60 ∧ ∀ (H' : Hp), Ext T [] H H' → Q (.bl (isOnB s p x)) H'
theorem ok_is_onD (D : Def K mg "is_on" s_is_on ["state", "server", "zone"]) : Ok P w K mg base 1 "is_on" ["state", "server", "zone"] (spIsOnD T) := by
  refine D.ok sc_is_on (fun vs H Q E h => ?_) (fun cdv f A outer s H vs Q E hr h => ?_)
  · obtain ⟨u, y, z, s, p, x, rfl, _⟩ := h
    rfl
  · obtain ⟨u, y, z, s, p, x, rfl, hu, hy, hz, hp, hx, q⟩ := h
    refine ⟨_, (pss_one (ps_ret (pe_cmpR (op_inW K rfl (Room.units65 hr)) (pe_tup (pa_cons (pv 1) (pa_cons (pv 2) pa_nil))) (pe_ix (ix_U K rfl) (pv 0) pe_int (fun _ _ => rfl)) rfl))), ?_⟩
    walk_at "rd"
    walk_at "al"
    rename_i tr H1 _ e1 htr
    obtain ⟨a, ia, oa, xs, o, rfl, ha, hia, hod, hxi, hoa⟩ := hu.x e1
    walk_at "rd"
    refine rd_ixT (v := oa) (SqT.of ha) rfl ?_
    have hrow : Im H1 (.ref tr) (.tuple [p, x]) := Im.new2 (hy.x e1) (hz.x e1) htr
    have hdep : PyData.depth (.tuple (s.on.map ssD)) ≤ 64 := by
      show PyData.depthAll (s.on.map ssD) + 1 ≤ 64
      have := dep_map dep_ss s.on
      omega
    exact rd_inWI (b := isOnB s p x) hrow hoa (dep_pair hp hx) hdep isOnB_iff (q H1 e1)
def spDeedB (T : List (Addr × Str)) : Sp := fun vs H Q _ => ∃ (v u y : V) (R : Rm) (s : Sta) (d : PyData), vs = [v, u, y] ∧ Im H v (rmD R) ∧ RmIn R ∧ StAt H u s ∧ Im H y d ∧ Sm d ∧ d.depth ≤ 40 ∧ ∀ H', Ext T [] H H' → Q (.bl (deedB R s d)) H'
theorem ok_is_deed (D : Def K mg "is_deed" s_is_deed ["realm", "state", "value"]) (mb : ∀ x ∈ bltns, mg x = none) (G_is_tuple_of : Ok P w K mg base 1 "is_tuple_of" ["value", "least", "most"] spTupD) (G_is_slot : Ok P w K mg base 3 "is_slot" ["realm", "value"] (spIsSlot T)) (G_is_item : Ok P w K mg base 4 "is_item" ["slot", "value"] (spItemD T)) (G_is_server : Ok P w K mg base 3 "is_server" ["realm", "value"] (spRD T srvD)) (G_is_on : Ok P w K mg base 1 "is_on" ["state", "server", "zone"] (spIsOnD T)) :
    Ok P w K mg base 5 "is_deed" ["realm", "state", "value"] (spDeedB T) := by
  refine D.ok sc_is_deed (fun vs H Q E h => ?_) (fun cdv f A outer s H vs Q E hr h => ?_)
  · obtain ⟨v, u, y, R, s, d, rfl, _⟩ := h
    rfl
  · obtain ⟨v, u, y, R, s, d, rfl, hv, hR, hu, hy, hs, hd, q⟩ := h
    refine ⟨_, (pss_cons (ps_if (pt_not (pt_E (pe_callO G_is_tuple_of (hr.mono (by decide)) (by rfl) (pa_cons (pv 2) (pa_cons pe_int (pa_cons pe_int pa_nil)))))) (pss_one (ps_ret pe_bl)) pss_nil)
   (pss_cons (ps_asg (pv 2) (pg_tupU (n := 3) K rfl rfl (pgs_cons (pg_name (i := 3) sc_is_deed.nd rfl (.inl rfl)) (pgs_cons (pg_name (i := 4) sc_is_deed.nd rfl (.inl rfl)) (pgs_cons (pg_name (i := 5) sc_is_deed.nd rfl (.inl rfl)) pgs_nil)))))
   (pss_cons (ps_if (pt_cmpR (op_eqU K rfl hr.units) (pv 3) pe_str (nomark _)) (pss_one (ps_ret (pe_and (pe_callO G_is_slot (hr.mono (by decide)) (by rfl) (pa_cons (pv 0) (pa_cons (pv 4) pa_nil))) (pe_one (pe_callO G_is_item (hr.mono (by decide)) (by rfl) (pa_cons (pv 4) (pa_cons (pv 5) pa_nil))))))) pss_nil)
   (pss_cons (ps_if (pt_cmpR (op_eqU K rfl hr.units) (pv 3) pe_str (nomark _)) (pss_one (ps_ret (pe_and (pe_callO G_is_server (hr.mono (by decide)) (by rfl) (pa_cons (pv 0) (pa_cons (pe_tup (pa_cons (pv 4) (pa_cons (pv 5) pa_nil))) pa_nil))) (pe_one (pe_not (pe_callO G_is_on (hr.mono (by decide)) (by rfl) (pa_cons (pv 1) (pa_cons (pv 4) (pa_cons (pv 5) pa_nil))))))))) pss_nil)
   (pss_one (ps_ret (pe_and (pe_cmpR (op_eqU K rfl hr.units) (pv 3) pe_str (nomark _)) (pe_one (pe_callO G_is_on (hr.mono (by decide)) (by rfl) (pa_cons (pv 1) (pa_cons (pv 4) (pa_cons (pv 5) pa_nil)))))))))))), ?_⟩
    walk_at "rdn"
    refine rd_seq ?_
    walk_at "rd"
    refine ⟨y, d, 3, 3, rfl, hy, ?_⟩
    refine ⟨_, rfl, ?_⟩
    cases ht : tupB 3 3 d with
    | false =>
      rw [deedB_no ht] at q
      walk_at "rd"
      exact q H .refl
    | true =>
      obtain ⟨wd, p, x, rfl⟩ := trip_of ht
      rw [deedB_eq] at q
      have hsa := sm_tup.mp hs
      have hdp : ∀ e ∈ [wd, p, x], e.depth ≤ 39 := fun e he => by
        have := dep_mem he
        omega
      obtain ⟨ta, x1, x2, x3, rfl, hta, g1, g2, g3⟩ := hy.trip'
      walk_at "rdn"
      refine rd_seq ?_
      walk_at "rd"
      refine rd_gtup (SqP.sq hta) rfl ?_
      walk_at "rdn"
      refine rd_seq ?_
      walk_at "rd"
      refine rd_eqI (b := wB "put" wd) g1 (.str (Str.ofString "put") kw3.1) (Nat.le_trans (hdp wd (by simp)) (by decide)) (by decide) wB_iff ?_
      refine ⟨_, rfl, ?_⟩
      cases h1 : wB "put" wd with
      | true =>
        rw [h1, if_pos rfl] at q
        walk_at "rd"
        refine ⟨v, x2, R, p, slotB R p, rfl, hv, hR, g2, Nat.le_trans (hdp p (by simp)) (by decide), slotB_iff, fun H1 e1 => ?_⟩
        cases hp : slotB R p with
        | false =>
          rw [hp] at q
          walk_at "rd"
          exact q H1 e1
        | true =>
          rw [hp] at q
          obtain ⟨sl, hsl, rfl⟩ := slotB_some hp
          walk_at "rd"
          refine ⟨x2, x3, sl, x, rfl, g2.x e1, g3.x e1, hsa.2 x (by simp), Nat.le_trans (hdp x (by simp)) (by decide), fun H2 e2 => ?_⟩
          rw [hostsB_sl, ← hostW_sl]
          exact q H2 (e1.trans e2)
      | false =>
        rw [h1, if_neg (by decide)] at q
        walk_at "rdn"
        refine rd_seq ?_
        walk_at "rd"
        refine rd_eqI (b := wB "on" wd) g1 (.str (Str.ofString "on") kw3.2.1) (Nat.le_trans (hdp wd (by simp)) (by decide)) (by decide) wB_iff ?_
        refine ⟨_, rfl, ?_⟩
        cases h2 : wB "on" wd with
        | true =>
          rw [h2, if_pos rfl] at q
          walk_at "rd"
          walk_at "al"
          rename_i tp H1 _ e1 htp
          walk_at "rd"
          refine ⟨v, .ref tp, R, .tuple [p, x], rfl, hv.x e1, hR, Im.new2 (g2.x e1) (g3.x e1) htp, sm_tup.mpr ⟨by show 2 ≤ 1000; decide, fun d hd => hsa.2 d (by rcases List.mem_cons.mp hd with rfl | hd; simp; rw [List.mem_singleton.mp hd]; simp)⟩, ?_, fun H2 e2 => ?_⟩
          · show max p.depth (max x.depth 0) + 1 ≤ 40
            have h3 := hdp p (by simp)
            have h4 := hdp x (by simp)
            omega
          · cases hsv : srvD R (.tuple [p, x]) with
            | false =>
              rw [hsv] at q
              walk_at "rd"
              exact q H2 (e1.trans e2)
            | true =>
              rw [hsv] at q
              have e12 := e1.trans e2
              walk_at "rd"
              refine ⟨u, x2, x3, s, p, x, rfl, hu.x e12, g2.x e12, g3.x e12, Nat.le_trans (hdp p (by simp)) (by decide), Nat.le_trans (hdp x (by simp)) (by decide), fun H3 e3 => ?_⟩
              walk_at "rd"
              exact q H3 (e12.trans e3)
        | false =>
          rw [h2, if_neg (by decide)] at q
          walk_at "rdn"
          walk_at "rd"
          refine rd_eqI (b := wB "off" wd) g1 (.str (Str.ofString "off") kw3.2.2) (Nat.le_trans (hdp wd (by simp)) (by decide)) (by decide) wB_iff ?_
          refine ⟨_, rfl, ?_⟩
          cases h3 : wB "off" wd with
          | false =>
            rw [h3] at q
            exact q H .refl
          | true =>
            rw [h3] at q
            walk_at "rd"
            exact ⟨u, x2, x3, s, p, x, rfl, hu, g2, g3, Nat.le_trans (hdp p (by simp)) (by decide), Nat.le_trans (hdp x (by simp)) (by decide), fun H3 e3 => q H3 e3⟩
end
section
variable {T : List (Addr × Str)} {P : Program} {w : World} {K : PySem.W.Frag} {mg : Str → Option Value} {base : Heap}
local macro_rules | `(tactic| walk_at "tr") => `(tactic| first
  | assumption
  | exact Ext.refl
  | ((with_reducible refine' Im.x (T := T) (H := ?trH) ?tra ?tre); (case tre => assumption); (case tra => walk_at "tr"))
  | ((with_reducible refine' Im.y (T := T) (H := ?trH) ?tra ?tre ?trt); (case tre => assumption); (case trt => walk_at "tr"); (case tra => walk_at "tr"))
  | ((with_reducible refine' ImAll.x (T := T) (H := ?trH) ?tra ?tre); (case tre => assumption); (case tra => walk_at "tr"))
  | ((with_reducible refine' ImAll.y (T := T) (H := ?trH) ?tra ?tre ?trt); (case tre => assumption); (case trt => walk_at "tr"); (case tra => walk_at "tr"))
  | ((with_reducible refine' Ls.x (T := T) (H := ?trH) ?tra ?tre); (case tre => assumption); (case tra => walk_at "tr"))
  | ((with_reducible refine' Ls.y (T := T) (H := ?trH) ?tra ?tre ?trn ?trt); (case tre => assumption); (case trt => walk_at "tr"); (case trn => walk_at "tr"); (case tra => walk_at "tr"))
  | ((with_reducible refine' SqP.x (T := T) (H := ?trH) ?tra ?tre); (case tre => assumption); (case tra => walk_at "tr"))
  | ((with_reducible refine' SqP.y (T := T) (H := ?trH) ?tra ?tre ?trt); (case tre => assumption); (case trt => walk_at "tr"); (case tra => walk_at "tr"))
  | ((with_reducible refine' StAt.x (T := T) (H := ?trH) ?tra ?tre); (case tre => assumption); (case tra => walk_at "tr"))
  | ((with_reducible refine' StAt.y (T := T) (H := ?trH) ?tra ?tre ?trt); (case tre => assumption); (case trt => walk_at "tr"); (case tra => walk_at "tr"))
  | ((with_reducible refine' Pools.ext0 (T := T) (H := ?trH) ?tra ?tre); (case tre => assumption); (case tra => walk_at "tr"))
  | ((with_reducible refine' Pools.ext (T := T) (H := ?trH) ?tra ?tre ?trt); (case tre => assumption); (case trt => walk_at "tr"); (case tra => walk_at "tr"))
  | ((with_reducible refine' CL.x (T := T) (H := ?trH) ?tra ?tre); (case tre => assumption); (case tra => walk_at "tr"))
  | ((with_reducible refine' CL.y (T := T) (H := ?trH) ?tra ?tre); (case tre => assumption); (case tra => walk_at "tr"))
  | ((with_reducible refine' Tape.ext (T := T) (H := ?trH) ?tra ?tre); (case tre => assumption); (case tra => walk_at "tr"))
  | ((with_reducible refine' lst.x (T := T) (H := ?trH) ?tra ?tre); (case tre => assumption); (case tra => walk_at "tr"))
  | ((with_reducible refine' lst.y (T := T) (H := ?trH) ?tra ?tre ?trn); (case tre => assumption); (case trn => walk_at "tr"); (case tra => walk_at "tr"))
  | ((with_reducible refine' tup.x (T := T) (H := ?trH) ?tra ?tre); (case tre => assumption); (case tra => walk_at "tr"))
  | ((with_reducible refine' tup.y (T := T) (H := ?trH) ?tra ?tre ?trt); (case tre => assumption); (case trt => walk_at "tr"); (case tra => walk_at "tr"))
  | ((with_reducible refine' frz.x (T := T) (H := ?trH) ?tra ?tre); (case tre => assumption); (case tra => walk_at "tr"))
  | ((with_reducible refine' frz.y (T := T) (H := ?trH) ?tra ?tre ?trt); (case tre => assumption); (case trt => walk_at "tr"); (case tra => walk_at "tr"))
  | ((with_reducible refine' Im.z (T := T) (H := ?trH) ?tra ?tre ?trt); (case tre => assumption); (case trt => assumption); (case tra => walk_at "tr"))
  | ((with_reducible refine' ImAll.z (T := T) (H := ?trH) ?tra ?tre ?trt); (case tre => assumption); (case trt => assumption); (case tra => walk_at "tr"))
  | ((with_reducible refine' StAt.z (T := T) (H := ?trH) ?tra ?tre ?trt); (case tre => assumption); (case trt => assumption); (case tra => walk_at "tr"))
  | ((with_reducible refine' SqP.z (T := T) (H := ?trH) ?tra ?tre ?trt); (case tre => assumption); (case trt => assumption); (case tra => walk_at "tr"))
  | ((with_reducible refine' tup.z (T := T) (H := ?trH) ?tra ?tre ?trt); (case tre => assumption); (case trt => assumption); (case tra => walk_at "tr"))
  | ((with_reducible refine' Ls.z (T := T) (H := ?trH) ?tra ?tre ?trt ?trn); (case tre => assumption); (case trt => assumption); (case trn => assumption); (case tra => walk_at "tr"))
  | ((with_reducible refine' lst.z (T := T) (H := ?trH) ?tra ?tre ?trn); (case tre => assumption); (case trn => assumption); (case tra => walk_at "tr"))
  | ((with_reducible refine' CL.z (T := T) (H := ?trH) ?tra ?tre ?trn); (case tre => assumption); (case trn => assumption); (case tra => walk_at "tr"))
  | ((with_reducible refine' Tape.ne1 (H := ?trH) ?trt ?trn); (case trn => assumption); (case trt => walk_at "tr"))
  | ((with_reducible refine' Ext.trans (H1 := ?trH) ?tra (Ext.any ?tre)); (case tre => assumption); (case tra => walk_at "tr"))
  | ((with_reducible refine' Ext.trans (H1 := ?trH) ?tra ?tre); (case tre => assumption); (case tra => walk_at "tr"))
  | ((with_reducible refine' Ext.back1 (T := T) (H1 := ?trH) ?tre ?trn ?tra); (case tra => assumption); (case trn => walk_at "tr"); (case tre => walk_at "tr"))
  | ((with_reducible refine' Ext.back0 (T := T) (H1 := ?trH) ?tre ?tra); (case tra => assumption); (case tre => walk_at "tr"))
  | ((with_reducible refine' SqT.of ?tra); (case tra => walk_at "tr"))
  | ((with_reducible refine' SqL.of ?tra); (case tra => walk_at "tr")))
local macro_rules | `(tactic| walk_at "al") => `(tactic| (refine ⟨by first | (show _ ≤ sizeLine; decide) | walk_at "sz", ?_⟩; intro alp aln; generalize alG : upd _ alp _ = alH; obtain ⟨aln2, alx, alh⟩ := al_of (T := T) aln alG; clear alG aln))
local macro_rules | `(tactic| walk_at "al0") => `(tactic| (intro alp aln; generalize alG : upd _ alp _ = alH; obtain ⟨aln2, alx, alh⟩ := al_of (T := T) aln alG; clear alG aln))
theorem put_all {H : Hp} {sl : Sl} {it : Itm} : ∀ {ds : List PyData} {xs : List V} {rs : List (Sl × Itm)}, ImAll H xs (rs.map rowD2) → EachIs (fun d x => ∃ r, Im H x (rowD2 r) ∧ d = rowD2 (r.1, if r.1 = sl then it else r.2)) ds xs → ds = (rs.map fun r => (r.1, if r.1 = sl then it else r.2)).map rowD2
  | _, _, [], h1, h2 => by
    cases h1
    cases h2
    rfl
  | _, _, r :: rs, h1, h2 => by
    cases h1 with
    | cons a b =>
      cases h2 with
      | cons c d =>
        obtain ⟨r', c1, c2⟩ := c
        have e := rowD2_inj (Im.inj _ _ _ a c1)
        rw [put_all b d, c2, ← e]
        rfl
theorem ok_changed (D : Def K mg "changed" s_changed ["state", "deed"]) (mb : ∀ x ∈ bltns, mg x = none) : Ok P w K mg base 1 "changed" ["state", "deed"] (spAfter T) := by
  refine D.ok sc_changed (fun vs H Q E h => ?_) (fun cdv f A outer s H vs Q E hr h => ?_)
  · obtain ⟨v, u, s, d, rfl, _⟩ := h
    rfl
  · obtain ⟨v, u, s, d, rfl, hv, hu, hl, hol, q⟩ := h
    refine ⟨_, (pss_cons (ps_asg (pv 0) (pg_tupU (n := 2) K rfl rfl (pgs_cons (pg_name (i := 2) sc_changed.nd rfl (.inl rfl)) (pgs_cons (pg_name (i := 3) sc_changed.nd rfl (.inl rfl)) pgs_nil))))
   (pss_cons (ps_asg (pv 1) (pg_tupU (n := 3) K rfl rfl (pgs_cons (pg_name (i := 4) sc_changed.nd rfl (.inl rfl)) (pgs_cons (pg_name (i := 5) sc_changed.nd rfl (.inr rfl)) (pgs_cons (pg_name (i := 6) sc_changed.nd rfl (.inr rfl)) pgs_nil)))))
   (pss_cons (ps_if (pt_cmpR (op_eqU K rfl hr.units) (pv 4) pe_str (nomark _)) (pss_one (ps_ret (pe_tup (pa_cons (pe_callTy (call_tupF K rfl) (by rfl) (mb _ (by decide)) (by decide +kernel) (pa_cons (pe_lc (own := [("slot", 8), ("item", 9)]) (tt := tYes) rfl sc_changed.nd (pi_seq K rfl (pv 2)) (blkOk_by (N := N_changed) (sc := defScope s_changed) (by decide +kernel)) (fun _ _ _ _ _ => (pg_tupU (n := 2) K rfl rfl (pgs_cons (pg_name (i := 8) sc_changed.nd rfl (Or.inl rfl)) (pgs_cons (pg_name (i := 9) sc_changed.nd rfl (Or.inl rfl)) pgs_nil)))) (fun _ _ _ _ _ => pts_nil) (fun _ _ _ _ _ => (pe_tup (pa_cons (pv 8) (pa_cons (pe_ifExp (pt_cmpR (op_eqU K rfl hr.units) (pv 8) (pv 5) (nomark _)) (pv 6) (pv 9)) pa_nil))))) pa_nil)) (pa_cons (pv 3) pa_nil))))) pss_nil)
   (pss_cons (ps_if (pt_cmpR (op_eqU K rfl hr.units) (pv 4) pe_str (nomark _)) (pss_one (ps_ret (pe_tup (pa_cons (pv 2) (pa_cons (pe_callTy (call_tupU K rfl) (by rfl) (mb _ (by decide)) (by decide +kernel) (pa_cons (pe_callB (call_sortedU K rfl hr.units) (by rfl) (mb _ (by decide)) (by decide +kernel) (pa_cons (pe_lst (pa_starU K rfl (pv 3) (pa_cons (pe_tup (pa_cons (pv 5) (pa_cons (pv 6) pa_nil))) pa_nil))) pa_nil)) pa_nil)) pa_nil))))) pss_nil)
   (pss_one (ps_ret (pe_tup (pa_cons (pv 2) (pa_cons (pe_callTy (call_tupU K rfl) (by rfl) (mb _ (by decide)) (by decide +kernel) (pa_cons (pe_lc (own := [("pair", 7)]) (g := gName 7) rfl sc_changed.nd (pi_seq K rfl (pv 3)) (blkOk_by (N := N_changed) (sc := defScope s_changed) (by decide +kernel)) (fun _ _ _ _ _ => (pg_name (i := 7) sc_changed.nd rfl (Or.inl rfl))) (fun _ _ _ _ _ => (pts_one (pt_cmpR (op_neU K rfl hr.units) (pv 7) (pe_tup (pa_cons (pv 5) (pa_cons (pv 6) pa_nil))) (nomark _)))) (fun _ _ _ _ _ => (pv 7))) pa_nil)) pa_nil))))))))), ?_⟩
    obtain ⟨a, ia, oa, xs, o, rfl, ha, hia, hod, hxi, hoa⟩ := hv
    have hxl : xs.length ≤ 100 := by
      rw [hxi.len, List.length_map]
      exact hl
    walk_at "rdn"
    refine rd_seq ?_
    walk_at "rdn"
    refine rd_gtup (SqT.of ha) rfl ?_
    walk_at "rdn"
    refine rd_seq ?_
    walk_at "rdn"
    cases d with
    | put sl it =>
      obtain ⟨ta, y1, y2, y3, rfl, hta, g1, g2, g3⟩ := (show Im H u (.tuple [.str (Str.ofString "put"), slD sl, itD it]) from hu).trip'
      have e1 := g1.str'
      subst e1
      refine rd_gtup (SqP.t hta) rfl ?_
      walk_at "rd"
      refine rd_ite (fun _ => ?_) (fun h => absurd rfl h)
      walk_at "rd"
      refine .inr ⟨⟨_, SqF hia⟩, ?_⟩
      refine lcg_im T [] walk_tup xs rfl (fun i H x H' y => y) (fun _ => True) trivial (fun _ _ _ => trivial) (fun _ _ _ _ _ _ _ => trivial) (fun _ _ => Lsts.nil) (fun H' e _ => SqF (frz.x hia e)) (Nat.lt_of_le_of_lt hxl (by decide)) (fun _ => true) (fun d x => ∃ r, Im H x (rowD2 r) ∧ d = rowD2 (r.1, if r.1 = sl then it else r.2)) (fun i x hx H' e' _ R S h1 _ => ?_) (fun D H1 ds nD e1 _ hD hds => ?_)
      · obtain ⟨dr, hdr, hxr⟩ := hxi.get' hx
        rw [List.getElem?_map] at hdr
        obtain ⟨r, hr, rfl⟩ := Option.map_eq_some_iff.mp hdr
        obtain ⟨tb, z1, z2, rfl, htb, k1, k2⟩ := hxr.pair'
        refine rd_gtup (SqP.sq (SqP.x htb e')) rfl ?_
        walk_at "rd"
        refine ⟨rfl, ?_⟩
        walk_at "rd"
        refine rd_eqI (b := decide (r.1 = sl)) (k1.x e') (g2.x e') (Nat.le_trans (dep_sl _) (by decide)) (Nat.le_trans (dep_sl _) (by decide)) (Iff.trans ⟨fun e => slD_inj e, fun e => by rw [e]⟩ decide_eq_true_iff.symm) ?_
        refine ⟨_, rfl, ?_⟩
        refine rd_ite (fun hz => ?_) (fun hz => ?_)
        · walk_at "rd"
          walk_at "al"
          rename_i tc H4 _ e4 htc
          exact h1 rfl _ _ H4 e4 trivial (.new2 ((k1.x e').x e4) ((g3.x e').x e4) htc) ⟨r, hxr, by rw [if_pos hz]; rfl⟩
        · walk_at "rd"
          walk_at "al"
          rename_i tc H4 _ e4 htc
          exact h1 rfl _ _ H4 e4 trivial (.new2 ((k1.x e').x e4) ((k2.x e').x e4) htc) ⟨r, hxr, by rw [if_neg hz]; rfl⟩
      · rw [filtT] at hds
        have hd := put_all hxi hds
        rw [hd] at hD
        obtain ⟨dx, hdx, hdi⟩ := hD.list
        walk_at "rd"
        refine rd_tupFA T hdx fun ti H2 o2 nti e2 hod2 hti => ?_
        walk_at "rd"
        walk_at "al"
        rename_i r H3 _ e3 hr3
        exact q _ H3 ((e1.trans e2).trans e3) ⟨r, ti, oa, dx, o2, rfl, hr3, frz.x hti e3, hod2, (hdi.x e2).x e3, hoa.x ((e1.trans e2).trans e3)⟩
    | on x z =>
      obtain ⟨ta, y1, y2, y3, rfl, hta, g1, g2, g3⟩ := (show Im H u (.tuple [.str (Str.ofString "on"), .str x, .str z]) from hu).trip'
      have e1 := g1.str'
      subst e1
      refine rd_gtup (SqP.t hta) rfl ?_
      walk_at "rd"
      refine rd_ite (fun h => absurd h (by decide +kernel)) (fun _ => ?_)
      walk_at "rd"
      refine rd_ite (fun _ => ?_) (fun h => absurd rfl h)
      obtain ⟨b, ox, rfl, hob, hoi⟩ := hoa.tup'
      have hol2 : ox.length ≤ 500 := by
        rw [hoi.len, List.length_map]
        exact hol
      walk_at "rd"
      refine ⟨b, ox, rfl, .inl (SqP.sq hob), ?_⟩
      walk_at "rd"
      walk_at "al"
      rename_i tr H1 _ e1 htr
      have hrow : Im H1 (.ref tr) (ssD (x, z)) := Im.new2 (g2.x e1) (g3.x e1) htr
      refine ⟨by simp only [List.length_append, List.length_cons, List.length_nil]; walk_at "sz", ?_⟩
      walk_at "al0"
      rename_i lc H4 _ e4 hlc
      have e14 := e1.trans e4
      refine rd_nil ?_
      refine rd_sortA T (ds := (s.on ++ [(x, z)]).map ssD) ⟨_, hlc, by rw [List.map_append]; exact (hoi.x e14).app (.cons (hrow.x e4) .nil)⟩ (alike_ss _) (sortable_ss _) (depth_ss _) fun sa H5 ys nsa e5 hsa hys => ?_
      rw [srtSS_eq] at hys
      walk_at "rd"
      refine rd_tupA T hsa fun to H6 nto e6 hto => ?_
      walk_at "rd"
      walk_at "al"
      rename_i r H7 _ e7 hr7
      have e17 := ((e14.trans e5).trans e6).trans e7
      exact q _ H7 e17 ⟨r, ia, .ref to, xs, o, rfl, hr7, frz.x hia e17, hod, hxi.x e17, (Im.tup hto (hys.x e6)).x e7⟩
    | off x z =>
      obtain ⟨ta, y1, y2, y3, rfl, hta, g1, g2, g3⟩ := (show Im H u (.tuple [.str (Str.ofString "off"), .str x, .str z]) from hu).trip'
      have e1 := g1.str'
      subst e1
      refine rd_gtup (SqP.t hta) rfl ?_
      walk_at "rd"
      refine rd_ite (fun h => absurd h (by decide +kernel)) (fun _ => ?_)
      walk_at "rd"
      refine rd_ite (fun h => absurd h (by decide +kernel)) (fun _ => ?_)
      obtain ⟨b, ox, rfl, hob, hoi⟩ := hoa.tup'
      have hol2 : ox.length ≤ 500 := by
        rw [hoi.len, List.length_map]
        exact hol
      walk_at "rd"
      refine .inr ⟨⟨_, SqP.sq hob⟩, ?_⟩
      refine lcg_rel T [] walk_tup ox rfl (fun i H x H' y => y) (by simp) (fun H' e => SqP.sq (SqP.x hob e)) (Nat.lt_of_le_of_lt hol2 (by decide)) (pIm H ssD fun p => !decide (p = (x, z))) (fun v x => v = x) (fun i y hy H' e' R S h1 h2 => ?_) (fun D H2 us nD e2 hD hus => ?_)
      · obtain ⟨dr, hdr, hyr⟩ := hoi.get' hy
        rw [List.getElem?_map] at hdr
        obtain ⟨r, hr, rfl⟩ := Option.map_eq_some_iff.mp hdr
        have hp := pIm_eq (c := fun p : Str × Str => !decide (p = (x, z))) (fun a b => ssD_inj) hyr
        refine rd_name ⟨wipe1, ?_⟩
        walk_at "rd"
        walk_at "al"
        rename_i tr H3 _ e3 htr
        have hrow : Im H3 (.ref tr) (ssD (x, z)) := Im.new2 ((g2.x e').x e3) ((g3.x e').x e3) htr
        refine rd_neI (b := decide (r = (x, z))) ((hyr.x e').x e3) hrow (Nat.le_trans (dep_ss _) (by decide)) (Nat.le_trans (dep_ss _) (by decide)) (Iff.trans ⟨fun e => ssD_inj e, fun e => by rw [e]⟩ decide_eq_true_iff.symm) ?_
        refine ⟨_, rfl, ?_⟩
        refine rd_itn (fun hz => ?_) (fun hz => ?_)
        · exact h2 (hp.trans (by show (!decide (r = (x, z))) = false; rw [decide_eq_true hz]; rfl)) _ e3
        · walk_at "rd"
          exact h1 (hp.trans (by show (!decide (r = (x, z))) = true; rw [decide_eq_false hz]; rfl)) _ _ e3 rfl
      · have him := im_filter (c := fun p : Str × Str => !decide (p = (x, z))) (fun a b => ssD_inj) hoi hus
        walk_at "rd"
        refine rd_tupA T hD fun to H3 nto e3 hto => ?_
        walk_at "rd"
        walk_at "al"
        rename_i r H4 _ e4 hr4
        have e14 := (e2.trans e3).trans e4
        exact q _ H4 e14 ⟨r, ia, .ref to, xs, o, rfl, hr4, frz.x hia e14, hod, hxi.x e14, (Im.tup hto ((him.x e2).x e3)).x e4⟩
theorem rd_raise {C : Addr} {fld : Str} {W : WX} {ta : TA} {D : Ends} {σ : L2.St} {H : Hp} (q : ta σ H fun vs H1 => ∃ v, vs = [v] ∧ ShowV v ∧ ∀ d, H1 d = none → W (.ref C) (some d) σ (upd H1 d (.xd [(fld, v)]))) : tRaiseSup C fld W ta D σ H := q
theorem FO_NotAllowed : FldOk "word" := fld_word
def spAfterX (T : List (Addr × Str)) (C : Addr) : Sp := fun vs H Q E => ∃ (v u y : V) (R : Rm) (s : Sta) (d : PyData), vs = [v, u, y] ∧ Im H v (rmD R) ∧ RmIn R ∧ StAt H u s ∧ Im H y d ∧ Sm d ∧ d.depth ≤ 40 ∧ s.its.length ≤ 100 ∧ s.on.length ≤ 500 ∧
  (deedB R s d = true → ∀ (x : V) (H' : Hp), Ext T [] H H' → StAt H' x (aft s (ddOf d)) → Q x H') ∧ (deedB R s d = false → ∀ c H', Ext T [] H H' → H' c = none → E (.ref C) (some c) (upd H' c (.xd [(wordS, .str "deed")])))
theorem ok_after {C fI : Addr} (D : Def K mg "after" s_after ["realm", "state", "deed"]) (mb : ∀ x ∈ bltns, mg x = none) (T_NotAllowed : ExcT P K mg "NotAllowed" "word" C fI)
    (G_is_deed : Ok P w K mg base 5 "is_deed" ["realm", "state", "value"] (spDeedB T)) (G_changed : Ok P w K mg base 1 "changed" ["state", "deed"] (spAfter T)) : OkX P w K mg base 6 "after" ["realm", "state", "deed"] (spAfterX T C) := by
  refine D.okX sc_after (fun vs H Q E h => ?_) (fun cdv f A outer s H vs Q E hr h => ?_)
  · obtain ⟨v, u, y, R, s, d, rfl, _⟩ := h
    rfl
  · obtain ⟨v, u, y, R, s, d, rfl, hv, hR, hu, hy, hs, hd, hil, hol, q1, q2⟩ := h
    refine ⟨_, (pss_cons (ps_if (pt_not (pt_E (pe_callO G_is_deed (hr.mono (by decide)) (by rfl) (pa_cons (pv 0) (pa_cons (pv 1) (pa_cons (pv 2) pa_nil)))))) (pss_one (ps_raiseSup rfl FO_NotAllowed T_NotAllowed.toSupTxt hr (takes_of rfl rfl rfl rfl) (pa_cons pe_str pa_nil))) pss_nil)
   (pss_one (ps_ret (pe_callO G_changed (hr.mono (by decide)) (by rfl) (pa_cons (pv 1) (pa_cons (pv 2) pa_nil)))))), ?_⟩
    walk_at "rdn"
    refine rd_seq ?_
    walk_at "rd"
    refine ⟨v, u, y, R, s, d, rfl, hv, hR, hu, hy, hs, hd, fun H1 e1 => ?_⟩
    refine ⟨_, rfl, ?_⟩
    cases hb : deedB R s d with
    | false =>
      walk_at "rd"
      refine rd_raise ?_
      walk_at "rd"
      exact ⟨_, rfl, .inl ⟨_, rfl, by decide +kernel⟩, fun c hc => q2 hb c _ e1 hc⟩
    | true =>
      walk_at "rd"
      refine ⟨u, y, s, ddOf d, rfl, hu.x e1, by rw [ddOf_dd hb]; exact hy.x e1, hil, hol, fun x H2 e2 hx => q1 hb x H2 (e1.trans e2) hx⟩
def spPlanB (T : List (Addr × Str)) : Sp := fun vs H Q _ => ∃ (v u y : V) (R : Rm) (s : Sta) (d : PyData), vs = [v, u, y] ∧ Im H v (rmD R) ∧ RmIn R ∧ StAt H u s ∧ s.its.length ≤ 100 ∧ s.on.length ≤ 400 ∧ Im H y d ∧ Sm d ∧ d.depth ≤ 40 ∧ ∀ H', Ext T [] H H' → Q (.bl (planB R s d)) H'
theorem aft_il (s : Sta) (d : Dd) : (aft s d).its.length = s.its.length := by
  have := congrArg List.length (aft_keys s d)
  rw [List.length_map, List.length_map] at this
  exact this
theorem ok_is_plan (D : Def K mg "is_plan" s_is_plan ["realm", "state", "value"]) (mb : ∀ x ∈ bltns, mg x = none) (M : Cst mg) (G_is_tuple_of : Ok P w K mg base 1 "is_tuple_of" ["value", "least", "most"] spTupD) (G_is_integer_in : Ok P w K mg base 1 "is_integer_in" ["value", "least", "most"] spIntD)
    (G_is_deed : Ok P w K mg base 5 "is_deed" ["realm", "state", "value"] (spDeedB T)) (G_changed : Ok P w K mg base 1 "changed" ["state", "deed"] (spAfter T)) : Ok P w K mg base 6 "is_plan" ["realm", "state", "value"] (spPlanB T) := by
  refine D.ok sc_is_plan (fun vs H Q E h => ?_) (fun cdv f A outer s H vs Q E hr h => ?_)
  · obtain ⟨v, u, y, R, s, d, rfl, _⟩ := h
    rfl
  · obtain ⟨v, u, y, R, s, d, rfl, hv, hR, hu, hil, hol, hy, hs, hd, q⟩ := h
    refine ⟨_, (pss_cons (ps_if (pt_not (pt_E (pe_callO G_is_tuple_of (hr.mono (by decide)) (by rfl) (pa_cons (pv 2) (pa_cons pe_int (pa_cons (pe_glI (by rfl) M.c_MAX_PLAN) pa_nil)))))) (pss_one (ps_ret pe_bl)) pss_nil)
   (pss_cons (ps_set (i := 3) sc_is_plan.nd rfl (.inl rfl) pe_int)
   (pss_cons (ps_for PassesOwn.never rfl (pi_seq K rfl (pv 2)) (pg_name (i := 4) sc_is_plan.nd rfl (.inl rfl)) (pss_cons (ps_if (pt_not (pt_E (pe_callO G_is_tuple_of (hr.mono (by decide)) (by rfl) (pa_cons (pv 4) (pa_cons pe_int (pa_cons pe_int pa_nil)))))) (pss_one (ps_ret pe_bl)) pss_nil)
   (pss_cons (ps_asg (pv 4) (pg_tupU (n := 2) K rfl rfl (pgs_cons (pg_name (i := 5) sc_is_plan.nd rfl (.inl rfl)) (pgs_cons (pg_name (i := 6) sc_is_plan.nd rfl (.inl rfl)) pgs_nil))))
   (pss_cons (ps_if (PW.pt (pw_or (pt_not (pt_E (pe_callO G_is_integer_in (hr.mono (by decide)) (by rfl) (pa_cons (pv 5) (pa_cons (pe_op (op_plus K rfl) (pv 3) pe_int) (pa_cons (pe_glI (by rfl) M.c_MAX_TIME) pa_nil)))))) (pw_or1 (pt_not (pt_E (pe_callO G_is_deed (hr.mono (by decide)) (by rfl) (pa_cons (pv 0) (pa_cons (pv 1) (pa_cons (pv 6) pa_nil))))))))) (pss_one (ps_ret pe_bl)) pss_nil)
   (pss_cons (ps_set (i := 3) sc_is_plan.nd rfl (.inl rfl) (pv 5))
   (pss_one (ps_set (i := 1) sc_is_plan.nd rfl (.inl rfl) (pe_callO G_changed (hr.mono (by decide)) (by rfl) (pa_cons (pv 1) (pa_cons (pv 6) pa_nil))))))))))
   (pss_one (ps_ret pe_bl))))), ?_⟩
    unfold planB at q
    walk_at "rdn"
    refine rd_seq ?_
    walk_at "rd"
    refine ⟨y, d, 0, 12, rfl, hy, ?_⟩
    refine ⟨_, rfl, ?_⟩
    cases ht : tupB 0 12 d with
    | false =>
      rw [ht] at q
      walk_at "rd"
      exact q H .refl
    | true =>
      rw [ht] at q
      obtain ⟨ds, rfl, h1, h2⟩ := tupB_some ht
      have q : ∀ H', Ext T [] H H' → Q (.bl (planF R s 0 ds)) H' := q
      obtain ⟨pp, px, rfl, hpp, hpi⟩ := hy.tup'
      have hsa := sm_tup.mp hs
      have hpl := hpi.len
      walk_at "rdn"
      refine rd_seq ?_
      walk_at "rdn"
      refine rd_seq ?_
      walk_at "rdn"
      refine .inr ⟨⟨_, SqP.sq hpp⟩, ?_⟩
      refine forg_tup (xs := px) (fun i σ H' => Ext T [] H H' ∧ ∃ (y : V) (s' : Sta) (la : Int) (o1 o2 o3 : Option V), σ = [some v, some y, some (.ref pp), some (.int la), o1, o2, o3] ∧ StAt H' y s' ∧ s'.its.length ≤ 100 ∧ s'.on.length ≤ 400 + i ∧ planF R s 0 ds = planF R s' la (ds.drop i))
        ⟨.refl, u, s, 0, _, _, _, rfl, hu, hil, hol, rfl⟩ (fun i σ H' _ h => SqP.sq (SqP.x hpp h.1)) (fun i x σ H1 hx h => ?_) (fun σ H1 h => ?_)
      · obtain ⟨e1, y, s', la, o1, o2, o3, rfl, hy1, hil1, hol1, hpf⟩ := h
        obtain ⟨dr, hdr, hxr⟩ := hpi.get' hx
        have hi12 : i < ds.length := (List.getElem?_eq_some_iff.mp hdr).1
        have hdm := List.mem_of_getElem? hdr
        have hdp : dr.depth ≤ 39 := by
          have := dep_mem hdm
          omega
        have hdrop : ds.drop i = dr :: ds.drop (i + 1) := by
          have h3 := List.drop_eq_getElem_cons hi12
          rw [(List.getElem?_eq_some_iff.mp hdr).2] at h3
          exact h3
        rw [hdrop] at hpf
        refine rd_name ?_
        walk_at "rdn"
        refine rd_seq ?_
        walk_at "rd"
        refine ⟨x, dr, 2, 2, rfl, hxr.x e1, ?_⟩
        refine ⟨_, rfl, ?_⟩
        cases ht2 : tupB 2 2 dr with
        | false =>
          rw [planF_no ht2] at hpf
          rw [hpf] at q
          walk_at "rd"
          exact q H1 e1
        | true =>
          obtain ⟨md, dd, rfl⟩ := pair_of ht2
          rw [planF_cons] at hpf
          have hsb := sm_tup.mp (hsa.2 _ hdm)
          walk_at "rdn"
          refine rd_seq ?_
          walk_at "rd"
          refine rd_gpair (d1 := md) (d2 := dd) (hxr.x e1) fun v1 v2 g1 g2 => ?_
          walk_at "rdn"
          refine rd_seq ?_
          walk_at "rd"
          refine ⟨v1, md, la + 1, 10000, rfl, g1, ?_⟩
          refine ⟨_, rfl, ?_⟩
          cases hm : intB (la + 1) 10000 md with
          | false =>
            rw [hm] at hpf
            rw [hpf] at q
            walk_at "rd"
            exact q H1 e1
          | true =>
            rw [hm] at hpf
            obtain ⟨mi, rfl, hm1, hm2⟩ := int_some hm
            have em := g1.int'
            subst em
            walk_at "rd"
            have hdd : dd.depth ≤ 38 := by
              have := dep_mem (ds := [PyData.int mi, dd]) (d := dd) (by simp)
              omega
            refine ⟨v, y, v2, R, s', dd, rfl, hv.x e1, hR, hy1, g2, hsb.2 dd (by simp), by omega, fun H2 e2 => ?_⟩
            refine ⟨_, rfl, ?_⟩
            cases hb : deedB R s' dd with
            | false =>
              rw [hb] at hpf
              rw [hpf] at q
              walk_at "rd"
              exact q H2 (e1.trans e2)
            | true =>
              rw [hb] at hpf
              have hpf : planF R s 0 ds = planF R (aft s' (ddOf dd)) mi (ds.drop (i + 1)) := hpf
              walk_at "rd"
              refine ⟨y, v2, s', ddOf dd, rfl, hy1.x e2, by rw [ddOf_dd hb]; exact g2.x e2, hil1, by omega, fun z H3 e3 hz => ?_⟩
              walk_at "rd"
              refine ⟨(e1.trans e2).trans e3, z, _, mi, _, _, _, rfl, hz, ?_, ?_, hpf⟩
              · rw [aft_il]
                exact hil1
              · have := aft_on s' (ddOf dd)
                omega
      · obtain ⟨e1, y, s', la, o1, o2, o3, rfl, hy1, hil1, hol1, hpf⟩ := h
        rw [hpl, List.drop_length] at hpf
        rw [show planF R s' la [] = true by unfold planF; rfl] at hpf
        rw [hpf] at q
        walk_at "rd"
        exact q H1 e1
def spStateAt (T : List (Addr × Str)) : Sp := fun vs H Q _ => ∃ (v u x : V) (s : Sta) (pl : List (Int × Dd)) (m : Int), vs = [v, u, x, .int m] ∧ StAt H u s ∧ Im H x (.tuple (pl.map plD)) ∧ s.its.length ≤ 100 ∧ s.on.length ≤ 400 ∧ pl.length ≤ 50 ∧
  ∀ (y : V) (H' : Hp), Ext T [] H H' → StAt H' y (stM s pl m) → Q y H'
theorem ok_state_at (D : Def K mg "state_at" s_state_at ["realm", "state", "plan", "moment"]) (G_changed : Ok P w K mg base 1 "changed" ["state", "deed"] (spAfter T)) : Ok P w K mg base 2 "state_at" ["realm", "state", "plan", "moment"] (spStateAt T) := by
  refine D.ok sc_state_at (fun vs H Q E h => ?_) (fun cdv f A outer s H vs Q E hr h => ?_)
  · obtain ⟨v, u, x, s, pl, m, rfl, _⟩ := h
    rfl
  · obtain ⟨v, u, x, s, pl, m, rfl, hu, hx, hsl, hon, hpl, q⟩ := h
    refine ⟨_, (pss_cons (ps_for PassesOwn.never rfl (pi_seq K rfl (pv 2)) (pg_tupU (n := 2) K rfl rfl (pgs_cons (pg_name (i := 4) sc_state_at.nd rfl (.inl rfl)) (pgs_cons (pg_name (i := 5) sc_state_at.nd rfl (.inl rfl)) pgs_nil))) (pss_one (ps_if (pt_cmpR op_le (pv 4) (pv 3) (nomark _)) (pss_one (ps_set (i := 1) sc_state_at.nd rfl (.inl rfl) (pe_callO G_changed (hr.mono (by decide)) (by rfl) (pa_cons (pv 1) (pa_cons (pv 5) pa_nil))))) pss_nil)))
   (pss_one (ps_ret (pv 1)))), ?_⟩
    obtain ⟨pp, px, rfl, hpp, hpi⟩ := hx.tup'
    have hpxl : px.length = pl.length := by rw [hpi.len, List.length_map]
    walk_at "rdn"
    refine rd_seq ?_
    walk_at "rdn"
    refine .inr ⟨⟨_, SqP.sq hpp⟩, ?_⟩
    refine forg_tup (xs := px) (fun i σ H' => Ext T [] H H' ∧ ∃ (y : V) (a b : Option V), σ = [some v, some y, some (.ref pp), some (.int m), a, b] ∧ StAt H' y (stM s (pl.take i) m)) ⟨.refl, u, none, none, rfl, hu⟩ (fun i σ H' _ h => SqP.sq (SqP.x hpp h.1)) (fun i x σ H1 hx h => ?_) (fun σ H1 h => ?_)
    · obtain ⟨e1, y, a, b, rfl, hy⟩ := h
      obtain ⟨dr, hdr, hxr⟩ := hpi.get' hx
      rw [List.getElem?_map] at hdr
      obtain ⟨p, hp, rfl⟩ := Option.map_eq_some_iff.mp hdr
      rw [stM_snoc hp]
      refine rd_gpair (d1 := .int p.1) (d2 := ddD p.2) (hxr.x e1) fun v1 v2 g1 g2 => ?_
      rw [g1.int']
      walk_at "rd"
      refine rd_ite (fun c => ?_) (fun c => ?_)
      · rw [if_pos c]
        walk_at "rd"
        refine ⟨y, v2, stM s (pl.take i) m, p.2, rfl, hy, g2, ?_, ?_, fun z H2 e2 hz => ?_⟩
        · have h1 := congrArg List.length (stM_its s m (pl.take i))
          rw [List.length_map, List.length_map] at h1
          omega
        · have h1 := stM_on s m (pl.take i)
          rw [List.length_take] at h1
          omega
        · walk_at "rd"
          exact ⟨e1.trans e2, z, _, _, rfl, hz⟩
      · rw [if_neg c]
        walk_at "rd"
        exact ⟨e1, y, _, _, rfl, hy⟩
    · obtain ⟨e1, y, a, b, rfl, hy⟩ := h
      rw [hpxl, List.take_length] at hy
      walk_at "rd"
      exact q _ _ e1 hy
end
theorem cutD_to {ds : List PyData} {m : Nat} (h : m ≤ ds.length) : cutD ds none (some (m : Int)) = ds.take m := by
  unfold cutD
  rw [HT.sIx_none, HT.sIx_nat, List.drop_zero, Nat.sub_zero, Nat.min_eq_left h]
theorem cutD_lastD {ds : List PyData} {d : PyData} (h : ds.getLast? = some d) : cutD ds (some (-1)) none = [d] := by
  unfold cutD
  rw [HT.sIx_none]
  obtain ⟨es, rfl⟩ := List.getLast?_eq_some_iff.mp h
  have e : HT.sIx (es ++ [d]).length 0 (some (-1)) = es.length := by
    show (if (-1 : Int) < 0 then ((-1 : Int) + ((es ++ [d]).length : Int)).toNat else min (-1 : Int).toNat (es ++ [d]).length) = _
    rw [if_pos (by decide), List.length_append, List.length_singleton]
    omega
  rw [e, List.drop_left, List.length_append, List.length_singleton, Nat.add_sub_cancel_left]
  rfl
theorem imall_rev {H : Hp} : ∀ {xs : List V} {ds : List PyData}, ImAll H xs ds → ImAll H xs.reverse ds.reverse
  | _, [], h => by
    cases h
    exact .nil
  | _, d :: ds, h => by
    cases h with
    | cons a b =>
      rw [List.reverse_cons, List.reverse_cons]
      exact (imall_rev b).app (.cons a .nil)
theorem StAt.im {H : Hp} {v : V} {s : Sta} (h : StAt H v s) : Im H v (stD s) := by
  obtain ⟨a, ia, oa, xs, o, rfl, ha, hia, hod, hxi, hoa⟩ := h
  exact .tup ha (.cons (.tupF hia (fun d hd => by
    obtain ⟨r, _, rfl⟩ := List.mem_map.mp hd
    exact ⟨_, rfl⟩) hxi) (.cons hoa .nil))
theorem srv_z {R : Rm} {a z : Str} (h : inZ R (.str z) = false) : srvD R (ssD (a, z)) = false := by
  show (idD (.str a) && inZ R (.str z)) = false
  rw [h, Bool.and_false]
/-- values that are data with a property -/
inductive Gds (H : Hp) (G : PyData → Prop) : List V → Prop
  | nil : Gds H G []
  | cons {v : V} {vs : List V} : (∃ d, G d ∧ Im H v d) → Gds H G vs → Gds H G (v :: vs)
theorem gds_of {H : Hp} {G : PyData → Prop} {vs : List V} (h : Gds H G vs) : ∃ ds, ImAll H vs ds ∧ ∀ d ∈ ds, G d := by
  induction h with
  | nil => exact ⟨[], .nil, fun d h => by cases h⟩
  | cons a _ ih =>
    obtain ⟨d, hd, hi⟩ := a
    obtain ⟨ds, h1, h2⟩ := ih
    exact ⟨d :: ds, .cons hi h1, fun e he => by
      rcases List.mem_cons.mp he with rfl | he
      · exact hd
      · exact h2 e he⟩
theorem snL {k : Nat} {ds : List PyData} (hl : ds.length ≤ 1000) (h : ∀ d ∈ ds, SnK k d) (hk : k ≤ 6 := by decide) : SnK 7 (.tuple ds) := snk_up (sn_list hl (by omega) h) (by omega)
theorem mk2 {a b : PyData} (h1 : SnK 7 a) (h2 : SnK 7 b) : SnK 8 (.tuple [a, b]) := snk2 h1 h2 (by decide)
section
variable {T : List (Addr × Str)} {P : Program} {w : World} {K : PySem.W.Frag} {mg : Str → Option Value} {base : Heap}
local macro_rules | `(tactic| walk_at "tr") => `(tactic| first
  | assumption
  | exact Ext.refl
  | ((with_reducible refine' Im.x (T := T) (H := ?trH) ?tra ?tre); (case tre => assumption); (case tra => walk_at "tr"))
  | ((with_reducible refine' Im.y (T := T) (H := ?trH) ?tra ?tre ?trt); (case tre => assumption); (case trt => walk_at "tr"); (case tra => walk_at "tr"))
  | ((with_reducible refine' ImAll.x (T := T) (H := ?trH) ?tra ?tre); (case tre => assumption); (case tra => walk_at "tr"))
  | ((with_reducible refine' ImAll.y (T := T) (H := ?trH) ?tra ?tre ?trt); (case tre => assumption); (case trt => walk_at "tr"); (case tra => walk_at "tr"))
  | ((with_reducible refine' Ls.x (T := T) (H := ?trH) ?tra ?tre); (case tre => assumption); (case tra => walk_at "tr"))
  | ((with_reducible refine' Ls.y (T := T) (H := ?trH) ?tra ?tre ?trn ?trt); (case tre => assumption); (case trt => walk_at "tr"); (case trn => walk_at "tr"); (case tra => walk_at "tr"))
  | ((with_reducible refine' SqP.x (T := T) (H := ?trH) ?tra ?tre); (case tre => assumption); (case tra => walk_at "tr"))
  | ((with_reducible refine' SqP.y (T := T) (H := ?trH) ?tra ?tre ?trt); (case tre => assumption); (case trt => walk_at "tr"); (case tra => walk_at "tr"))
  | ((with_reducible refine' StAt.x (T := T) (H := ?trH) ?tra ?tre); (case tre => assumption); (case tra => walk_at "tr"))
  | ((with_reducible refine' StAt.y (T := T) (H := ?trH) ?tra ?tre ?trt); (case tre => assumption); (case trt => walk_at "tr"); (case tra => walk_at "tr"))
  | ((with_reducible refine' Pools.ext0 (T := T) (H := ?trH) ?tra ?tre); (case tre => assumption); (case tra => walk_at "tr"))
  | ((with_reducible refine' Pools.ext (T := T) (H := ?trH) ?tra ?tre ?trt); (case tre => assumption); (case trt => walk_at "tr"); (case tra => walk_at "tr"))
  | ((with_reducible refine' CL.x (T := T) (H := ?trH) ?tra ?tre); (case tre => assumption); (case tra => walk_at "tr"))
  | ((with_reducible refine' CL.y (T := T) (H := ?trH) ?tra ?tre); (case tre => assumption); (case tra => walk_at "tr"))
  | ((with_reducible refine' Tape.ext (T := T) (H := ?trH) ?tra ?tre); (case tre => assumption); (case tra => walk_at "tr"))
  | ((with_reducible refine' lst.x (T := T) (H := ?trH) ?tra ?tre); (case tre => assumption); (case tra => walk_at "tr"))
  | ((with_reducible refine' lst.y (T := T) (H := ?trH) ?tra ?tre ?trn); (case tre => assumption); (case trn => walk_at "tr"); (case tra => walk_at "tr"))
  | ((with_reducible refine' tup.x (T := T) (H := ?trH) ?tra ?tre); (case tre => assumption); (case tra => walk_at "tr"))
  | ((with_reducible refine' tup.y (T := T) (H := ?trH) ?tra ?tre ?trt); (case tre => assumption); (case trt => walk_at "tr"); (case tra => walk_at "tr"))
  | ((with_reducible refine' frz.x (T := T) (H := ?trH) ?tra ?tre); (case tre => assumption); (case tra => walk_at "tr"))
  | ((with_reducible refine' frz.y (T := T) (H := ?trH) ?tra ?tre ?trt); (case tre => assumption); (case trt => walk_at "tr"); (case tra => walk_at "tr"))
  | ((with_reducible refine' Im.z (T := T) (H := ?trH) ?tra ?tre ?trt); (case tre => assumption); (case trt => assumption); (case tra => walk_at "tr"))
  | ((with_reducible refine' ImAll.z (T := T) (H := ?trH) ?tra ?tre ?trt); (case tre => assumption); (case trt => assumption); (case tra => walk_at "tr"))
  | ((with_reducible refine' StAt.z (T := T) (H := ?trH) ?tra ?tre ?trt); (case tre => assumption); (case trt => assumption); (case tra => walk_at "tr"))
  | ((with_reducible refine' SqP.z (T := T) (H := ?trH) ?tra ?tre ?trt); (case tre => assumption); (case trt => assumption); (case tra => walk_at "tr"))
  | ((with_reducible refine' tup.z (T := T) (H := ?trH) ?tra ?tre ?trt); (case tre => assumption); (case trt => assumption); (case tra => walk_at "tr"))
  | ((with_reducible refine' Ls.z (T := T) (H := ?trH) ?tra ?tre ?trt ?trn); (case tre => assumption); (case trt => assumption); (case trn => assumption); (case tra => walk_at "tr"))
  | ((with_reducible refine' lst.z (T := T) (H := ?trH) ?tra ?tre ?trn); (case tre => assumption); (case trn => assumption); (case tra => walk_at "tr"))
  | ((with_reducible refine' CL.z (T := T) (H := ?trH) ?tra ?tre ?trn); (case tre => assumption); (case trn => assumption); (case tra => walk_at "tr"))
  | ((with_reducible refine' Tape.ne1 (H := ?trH) ?trt ?trn); (case trn => assumption); (case trt => walk_at "tr"))
  | ((with_reducible refine' Ext.trans (H1 := ?trH) ?tra (Ext.any ?tre)); (case tre => assumption); (case tra => walk_at "tr"))
  | ((with_reducible refine' Ext.trans (H1 := ?trH) ?tra ?tre); (case tre => assumption); (case tra => walk_at "tr"))
  | ((with_reducible refine' Ext.back1 (T := T) (H1 := ?trH) ?tre ?trn ?tra); (case tra => assumption); (case trn => walk_at "tr"); (case tre => walk_at "tr"))
  | ((with_reducible refine' Ext.back0 (T := T) (H1 := ?trH) ?tre ?tra); (case tra => assumption); (case tre => walk_at "tr"))
  | ((with_reducible refine' SqT.of ?tra); (case tra => walk_at "tr"))
  | ((with_reducible refine' SqL.of ?tra); (case tra => walk_at "tr")))
local macro_rules | `(tactic| walk_at "al") => `(tactic| (refine ⟨by first | (show _ ≤ sizeLine; decide) | walk_at "sz", ?_⟩; intro alp aln; generalize alG : upd _ alp _ = alH; obtain ⟨aln2, alx, alh⟩ := al_of (T := T) aln alG; clear alG aln))
local macro_rules | `(tactic| walk_at "al0") => `(tactic| (intro alp aln; generalize alG : upd _ alp _ = alH; obtain ⟨aln2, alx, alh⟩ := al_of (T := T) aln alG; clear alG aln))
theorem rd_consJ {te : TE} {ta : TA} {σ : L2.St} {H : Hp} {R : List V → Hp → Prop} (I : V → Hp → Prop) (h1 : ∀ Q : VK, (∀ v H', I v H' → Q v H') → te σ H Q) (h2 : ∀ v H', I v H' → ta σ H' fun xs H2 => R (v :: xs) H2) : tCons te ta σ H R := h1 _ h2
theorem rd_seqK {t u : TS} {nx bk ct : L2.St → Hp → Prop} {rt : VK} {σ : L2.St} {H : Hp} (I : L2.St → Hp → Prop) (ht : ∀ N : L2.St → Hp → Prop, (∀ σ H, I σ H → N σ H) → t ⟨N, rt, bk, ct⟩ σ H) (hu : ∀ σ H, I σ H → u ⟨nx, rt, bk, ct⟩ σ H) : tSeq t u ⟨nx, rt, bk, ct⟩ σ H := ht _ hu
theorem rd_catII {H : Hp} {Q : VK} {u v : V} {ds es : List PyData} (h1 : Im H u (.tuple ds)) (h2 : Im H v (.tuple es)) (n1 : ds ≠ []) (n2 : es ≠ []) (c : ds.length + es.length ≤ 1000) (q : ∀ y H', Ext T [] H H' → Im H' y (.tuple (ds ++ es)) → Q y H') : rPlus K u v H Q := by
  obtain ⟨a, xs, rfl, ha, hi⟩ := h1.tup'
  obtain ⟨b, ys, rfl, hb, hj⟩ := h2.tup'
  have l1 := hi.len
  have l2 := hj.len
  refine rd_catT (SqP.sq ha) (SqP.sq hb) (fun e => n1 (List.eq_nil_of_length_eq_zero (by rw [← l1, e]; rfl))) (fun e => n2 (List.eq_nil_of_length_eq_zero (by rw [← l2, e]; rfl))) (Nat.le_trans (show _ ≤ 1000 by omega) (by decide)) fun p np => ?_
  obtain ⟨_, e, hp⟩ := alT (T := T) np (xs ++ ys)
  generalize upd H p _ = H' at e hp ⊢
  exact q _ H' e (.tup hp ((hi.x e).app (hj.x e)))
theorem rd_catEI {H : Hp} {Q : VK} {u v : V} {ds es : List PyData} (h1 : Im H u (.tuple ds)) (h2 : Im H v (.tuple es)) (n2 : es ≠ []) (c : ds.length + es.length ≤ 1000) (q : ∀ y H', Ext T [] H H' → Im H' y (.tuple (ds ++ es)) → Q y H') : rPlus K u v H Q := by
  by_cases n1 : ds = []
  · subst n1
    obtain ⟨a, xs, rfl, ha, hi⟩ := h1.tup'
    obtain ⟨b, ys, rfl, hb, hj⟩ := (h2 : Im H v (.tuple es)).tup'
    cases hi
    exact .inr (.inr (.inr (.inr ⟨a, b, ys, rfl, rfl, SqP.sq ha, SqP.sq hb, q _ H .refl h2⟩)))
  · exact rd_catII (T := T) h1 h2 n1 n2 c q
def spBadS (T : List (Addr × Str)) : Sp := fun vs H Q _ => ∃ (l t : Addr) (u : V) (R : Rm) (s : Sta), vs = [.ref t, u] ∧ Tape l H t ∧ StAt H u s ∧ RmIn R ∧ StaOk R s ∧ OnR R s ∧ s.on.length ≤ 50 ∧
  ∀ (y : V) (d : PyData) (H' : Hp), SnK 8 d → stateB R d = false → Im H' y d → Ext T [t] H H' → Tape l H' t → Q y H'
theorem ok_bad_state (D : Def K mg "_law_bad_state" s_law_bad_state ["tape", "state"]) (mb : ∀ x ∈ bltns, mg x = none) (G_law_take : Ok P w K mg base 2 "_law_take" ["tape", "many"] (spTake T)) : Ok P w K mg base 3 "_law_bad_state" ["tape", "state"] (spBadS T) := by
  refine D.ok sc_law_bad_state (fun vs H Q E h => ?_) (fun cdv f0 A outer s H vs Q E hr h => ?_)
  · obtain ⟨l, t, u, R, s, rfl, _⟩ := h
    rfl
  · obtain ⟨l, t, u, R, s, rfl, hT, hu, hR, hs, ho, hon, q⟩ := h
    refine ⟨_, (pss_cons (ps_asg (pv 1) (pg_tupU (n := 2) K rfl rfl (pgs_cons (pg_name (i := 2) sc_law_bad_state.nd rfl (.inl rfl)) (pgs_cons (pg_name (i := 3) sc_law_bad_state.nd rfl (.inl rfl)) pgs_nil))))
   (pss_cons (ps_asg (pe_ix (ix_U K rfl) (pv 2) (pe_callO G_law_take (hr.mono (by decide)) (by rfl) (pa_cons (pv 0) (pa_cons (pe_callB (call_lenU K rfl) (by rfl) (mb _ (by decide)) (by decide +kernel) (pa_cons (pv 2) pa_nil)) pa_nil))) (fun _ _ => rfl)) (pg_tupU (n := 2) K rfl rfl (pgs_cons (pg_name (i := 4) sc_law_bad_state.nd rfl (.inr rfl)) (pgs_cons (pg_name (i := 5) sc_law_bad_state.nd rfl (.inl rfl)) pgs_nil))))
   (pss_cons (ps_set (i := 6) sc_law_bad_state.nd rfl (.inl rfl) (pe_callTy (call_tupU K rfl) (by rfl) (mb _ (by decide)) (by decide +kernel) (pa_cons (pe_lc (own := [("name", 7), ("row", 8)]) (tt := tYes) rfl sc_law_bad_state.nd (pi_seq K rfl (pv 2)) (blkOk_by (N := N_law_bad_state) (sc := defScope s_law_bad_state) (by decide +kernel)) (fun _ _ _ _ _ => (pg_tupU (n := 2) K rfl rfl (pgs_cons (pg_name (i := 7) sc_law_bad_state.nd rfl (Or.inl rfl)) (pgs_cons (pg_name (i := 8) sc_law_bad_state.nd rfl (Or.inl rfl)) pgs_nil)))) (fun _ _ _ _ _ => pts_nil) (fun _ _ _ _ _ => (pe_tup (pa_cons (pv 7) (pa_cons (pe_ifExp (pt_cmpR (op_eqU K rfl hr.units) (pv 7) (pv 4) (nomark _)) (pe_tup pa_nil) (pv 8)) pa_nil))))) pa_nil)))
   (pss_one (ps_ret (pe_ix (ix_U K rfl) (pe_lst (pa_cons (pe_tup (pa_cons (pv 2) pa_nil)) (pa_cons (pe_tup (pa_cons (pv 2) (pa_cons (pv 3) (pa_cons (pe_tup pa_nil) pa_nil)))) (pa_cons (pe_tup (pa_cons (pe_slice (sl_U2 K rfl) (pv 2) (po_some pe_int) po_none) (pa_cons (pv 3) pa_nil))) (pa_cons (pe_ifExp (pt_cmpR op_gt (pe_callB (call_lenU K rfl) (by rfl) (mb _ (by decide)) (by decide +kernel) (pa_cons (pv 2) pa_nil)) pe_int (nomark _)) (pe_tup (pa_cons (pe_op (op_plus K rfl) (pe_slice (sl_U2 K rfl) (pv 2) (po_some pe_int) po_none) (pe_slice (sl_U2 K rfl) (pv 2) po_none (po_some pe_int))) (pa_cons (pv 3) pa_nil))) (pe_tup pa_nil)) (pa_cons (pe_tup (pa_cons (pe_op (op_plus K rfl) (pv 2) (pe_slice (sl_U2 K rfl) (pv 2) po_none (po_some pe_int))) (pa_cons (pv 3) pa_nil))) (pa_cons (pe_tup (pa_cons (pv 6) (pa_cons (pv 3) pa_nil))) (pa_cons (pe_tup (pa_cons (pv 2) (pa_cons (pe_op (op_plus K rfl) (pv 3) (pe_tup (pa_cons (pe_tup (pa_cons pe_str (pa_cons pe_str pa_nil))) pa_nil))) pa_nil))) (pa_cons (pe_tup (pa_cons (pv 2) (pa_cons (pe_op (op_plus K rfl) (pv 3) (pe_tup (pa_cons (pe_tup (pa_cons pe_str (pa_cons pe_str pa_nil))) pa_nil))) pa_nil))) (pa_cons (pe_tup (pa_cons (pv 2) (pa_cons (pe_tup (pa_cons (pe_tup (pa_cons pe_str (pa_cons pe_str pa_nil))) pa_nil)) pa_nil))) (pa_cons (pe_tup pa_nil) (pa_cons pe_int (pa_cons (pe_tup (pa_cons (pv 2) (pa_cons (pe_tup (pa_cons (pe_tup (pa_cons pe_str pa_nil)) pa_nil)) pa_nil))) (pa_cons (pe_tup (pa_cons (pv 2) (pa_cons (pe_tup (pa_cons pe_str pa_nil)) pa_nil))) (pa_cons (pe_tup (pa_cons (pe_tup pa_nil) (pa_cons (pv 3) pa_nil))) (pa_cons (pe_tup (pa_cons (pv 2) (pa_cons (pe_tup (pa_cons (pe_tup (pa_cons pe_str (pa_cons pe_str pa_nil))) pa_nil)) pa_nil))) (pa_cons (pe_ifExp (pt_cmpR op_gt (pe_callB (call_lenU K rfl) (by rfl) (mb _ (by decide)) (by decide +kernel) (pa_cons (pv 3) pa_nil)) pe_int (nomark _)) (pe_tup (pa_cons (pv 2) (pa_cons (pe_op (op_plus K rfl) (pv 3) (pe_slice (sl_U2 K rfl) (pv 3) (po_some (pe_un un_neg pe_int)) po_none)) pa_nil))) (pe_tup pa_nil)) (pa_cons (pe_ifExp (pt_cmpR op_gt (pe_callB (call_lenU K rfl) (by rfl) (mb _ (by decide)) (by decide +kernel) (pa_cons (pv 3) pa_nil)) pe_int (nomark _)) (pe_tup (pa_cons (pv 2) (pa_cons (pe_dnTU K rfl (pv 3)) pa_nil))) (pe_tup pa_nil)) pa_nil)))))))))))))))))) (pe_callO G_law_take (hr.mono (by decide)) (by rfl) (pa_cons (pv 0) (pa_cons pe_int pa_nil))) (fun _ _ => rfl))))))), ?_⟩
    have hil := its_len hs
    have hip := its_pos (R := R)
    have hi30 := sl30 hR
    walk_at "rdn"
    refine rd_seq ?_
    walk_at "rd"
    refine rd_gpair (d1 := I0 s) (d2 := O0 s) hu.im fun x1 x2 g1 g2 => ?_
    obtain ⟨ia, ix, rfl, hia, hii⟩ := g1.tup'
    have hixl : ix.length = s.its.length := by rw [hii.len, List.length_map]
    walk_at "rdn"
    refine rd_seqK (fun σ H' => ∃ (r : Sl × Itm) (v1 v2 : V), Ext T [t] H H' ∧ Tape l H' t ∧ r ∈ s.its ∧ Im H' v1 (slD r.1) ∧ σ = [some (.ref t), some u, some (.ref ia), some x2, some v1, some v2, none, none, none]) (fun N hN => ?_) (fun σ H1 h => ?_)
    · walk_at "rd"
      refine rd_lenT (SqP.sq hia) ?_
      walk_at "rd"
      refine ⟨l, t, ix.length, rfl, by omega, by omega, hT, fun d H1 d0 d1 e1 T1 => ?_⟩
      have hdl : d.toNat < s.its.length := by omega
      have hat : atI (s.its.map rowD2) d = some (rowD2 (s.its[d.toNat])) := by
        obtain ⟨k, rfl⟩ := Int.eq_ofNat_of_zero_le d0
        exact atI_nat (by rw [List.getElem?_map, List.getElem?_eq_getElem (show k < s.its.length from hdl)]; rfl)
      walk_at "rd"
      refine rd_ixI (g1.y e1 hT) hat fun y hy => ?_
      refine rd_gpair (d1 := slD (s.its[d.toNat]).1) (d2 := itD (s.its[d.toNat]).2) hy fun v1 v2 k1 k2 => ?_
      walk_at "rd"
      exact hN _ _ ⟨s.its[d.toNat], v1, v2, e1, T1, List.getElem_mem _, k1, rfl⟩
    obtain ⟨r, v1, v2, e1, T1, hrm, hv1, rfl⟩ := h
    have iI1 : Im H1 (.ref ia) (I0 s) := g1.y e1 hT
    have hia1 := SqP.y hia e1 hT
    have hii1 := hii.y e1 hT
    have iO1 := g2.y e1 hT
    clear g1 g2 hia hii hu
    walk_at "rdn"
    refine rd_seqK (fun σ H' => Ext T [] H1 H' ∧ ∃ xw : V, σ = [some (.ref t), some u, some (.ref ia), some x2, some v1, some v2, some xw, none, none] ∧ Im H' xw (.tuple (s.its.map fun p => .tuple [slD p.1, if p.1 = r.1 then .tuple [] else itD p.2]))) (fun N hN => ?_) (fun σ G0 h => ?_)
    · walk_at "rd"
      refine .inr ⟨⟨_, SqP.sq hia1⟩, ?_⟩
      refine lcg_fm T rowD2 (fun p => .tuple [slD p.1, if p.1 = r.1 then .tuple [] else itD p.2]) (fun _ => true) walk_tup hii1 rfl (fun i H x H' y => y) (fun H' e => SqP.sq (SqP.x hia1 e)) (by omega) (fun i z x hz' H' e' hxz R' S k1 _ => ?_) (fun D1 H2 nD1 e2 hD1 => ?_)
      · refine rd_gpair (d1 := slD z.1) (d2 := itD z.2) hxz fun w1 w2 j1 j2 => ?_
        refine ⟨by rw [wipe_set (by decide), wipe_set (by decide), wipe_wipe], ?_⟩
        walk_at "rd"
        refine rd_eqI (b := decide (z.1 = r.1)) j1 (hv1.x e') (Nat.le_trans (dep_sl _) (by decide)) (Nat.le_trans (dep_sl _) (by decide)) (Iff.trans ⟨fun e => slD_inj e, fun e => by rw [e]⟩ decide_eq_true_iff.symm) ?_
        refine ⟨_, rfl, ?_⟩
        refine rd_ite (fun c => ?_) (fun c => ?_)
        · walk_at "rd"
          walk_at "al"
          rename_i p1 G1 _ y1 gg1
          walk_at "rd"
          walk_at "al"
          rename_i p2 G2 _ y2 gg2
          refine k1 rfl _ G2 (y1.trans y2) ?_
          rw [if_pos c]
          exact .new2 ((j1.x y1).x y2) ((Im.tup gg1 .nil).x y2) gg2
        · walk_at "rd"
          walk_at "al"
          rename_i p2 G2 _ y2 gg2
          refine k1 rfl _ G2 y2 ?_
          rw [if_neg c]
          exact .new2 (j1.x y2) (j2.x y2) gg2
      · rw [filtT] at hD1
        obtain ⟨kx, hkx, hki⟩ := hD1
        walk_at "rd"
        refine rd_tupA T hkx fun p H3 np e3 hp => ?_
        walk_at "rd"
        exact hN _ _ ⟨e2.trans e3, _, rfl, .tup hp (hki.x e3)⟩
    obtain ⟨e2, xw, rfl, iW⟩ := h
    have iI := iI1.x e2
    have iO : Im G0 x2 (O0 s) := iO1.x e2
    have hia := SqP.x hia1 e2
    obtain ⟨oa, ox, rfl, hoa, hoi⟩ := iO.tup'
    have hoxl : ox.length = s.on.length := by rw [hoi.len, List.length_map]
    have T2 := T1.ext e2
    have e02 := e1.trans e2.any
    have hIs := I0_sn hR hs
    have hOs := O0_sn hR ho (by omega)
    have hrow : ∀ d ∈ s.its.map rowD2, SnK 3 d := fun d hd => by
      obtain ⟨p, hp, rfl⟩ := List.mem_map.mp hd
      exact row_sn hR hs hp
    have honm : ∀ d ∈ s.on.map ssD, SnK 1 d := fun d hd => by
      obtain ⟨p, hp, rfl⟩ := List.mem_map.mp hd
      exact on_sn hR ho hp
    have hlen : (s.its.map rowD2).length ≤ 100 := by rw [List.length_map]; omega
    have hWs : SnK 7 (.tuple (s.its.map fun p => .tuple [slD p.1, if p.1 = r.1 then .tuple [] else itD p.2])) := snL (k := 3) (by rw [List.length_map]; omega) fun d hd => by
      obtain ⟨p, hp, rfl⟩ := List.mem_map.mp hd
      refine snk2 (snk_up (sl_sn hR (by rw [← hs.nm]; exact List.mem_map_of_mem hp)) (by decide)) ?_ (by decide)
      by_cases c : p.1 = r.1
      · rw [if_pos c]
        exact snk0 (k := 1) (by decide)
      · rw [if_neg c]
        exact it_sn (hs.ok p hp)
    have g0 : stateB R (.tuple []) = false ∧ SnK 8 (.tuple []) := ⟨rfl, snk0 (k := 7) (by decide)⟩
    have kk : ∀ x ∈ ([Str.ofString "s1", dotS, nsz, Str.ofString "zz", Str.ofString "toolong"] : List Str), PyData.strOk x = true := by decide +kernel
    clear iI1 iO1 hia1 hii1 hv1 e1 e2 T1 hT
    refine rd_ret ?_
    refine rd_op ?_
    refine rd_lst ?_
    have E0 : Ext T [] G0 G0 := .refl
    refine rd_consJ (fun v H' => Ext T [] G0 H' ∧ ∃ d, (stateB R d = false ∧ SnK 8 d) ∧ Im H' v d) (fun Q' hQ => ?_) (fun v1e GE1 hh1 => ?_)
    · walk_at "rd"
      walk_at "al"
      rename_i p G1 np y1 g1
      walk_at "rd"
      exact hQ _ _ ⟨y1, _, ⟨rfl, snk_up (snk1 hIs (by decide)) (by decide)⟩, .tup g1 (.cons ((iI.x E0).x y1) .nil)⟩
    obtain ⟨z1, h1⟩ := hh1
    have E1 := E0.trans z1
    refine rd_consJ (fun v H' => Ext T [] GE1 H' ∧ ∃ d, (stateB R d = false ∧ SnK 8 d) ∧ Im H' v d) (fun Q' hQ => ?_) (fun v2e GE2 hh2 => ?_)
    · walk_at "rd"
      walk_at "al"
      rename_i p G1 np y1 g1
      walk_at "rd"
      walk_at "al"
      rename_i p2 G2 np2 y2 g2
      walk_at "rd"
      exact hQ _ _ ⟨y1.trans y2, _, ⟨rfl, snk_up (snk3 hIs (snk_up hOs (by decide)) (snk0 (k := 3) (by decide)) (by decide)) (by decide)⟩, .new3 (((iI.x E1).x y1).x y2) (((iO.x E1).x y1).x y2) ((Im.tup g1 .nil).x y2) g2⟩
    obtain ⟨z2, h2⟩ := hh2
    have E2 := E1.trans z2
    refine rd_consJ (fun v H' => Ext T [] GE2 H' ∧ ∃ d, (stateB R d = false ∧ SnK 8 d) ∧ Im H' v d) (fun Q' hQ => ?_) (fun v3e GE3 hh3 => ?_)
    · walk_at "rd"
      refine rd_slIm (T := T) (iI.x E2) fun v1 G1 y1 j1 => ?_
      rw [cutD_tail] at j1
      walk_at "rd"
      walk_at "al"
      rename_i p G2 np y2 g2
      walk_at "rd"
      exact hQ _ _ ⟨y1.trans y2, _, ⟨st_items (items_len (by rw [List.length_tail, List.length_map, hil]; omega)), mk2 (snL (by rw [List.length_tail, List.length_map]; omega) fun d hd => hrow d (List.mem_of_mem_tail hd)) (snk_up hOs (by decide))⟩, .new2 (j1.x y2) (((iO.x E2).x y1).x y2) g2⟩
    obtain ⟨z3, h3⟩ := hh3
    have E3 := E2.trans z3
    refine rd_consJ (fun v H' => Ext T [] GE3 H' ∧ ∃ d, (stateB R d = false ∧ SnK 8 d) ∧ Im H' v d) (fun Q' hQ => ?_) (fun v4e GE4 hh4 => ?_)
    · walk_at "rd"
      refine rd_lenT (SqP.sq (SqP.x hia E3)) ?_
      walk_at "rd"
      refine rd_ite (fun c => ?_) (fun c => ?_)
      · obtain ⟨a, b, r, hab⟩ : ∃ a b r, s.its = a :: b :: r := by
          match e : s.its, (show 1 < s.its.length by rw [← hixl]; omega) with
          | a :: b :: r, _ => exact ⟨a, b, r, rfl⟩
          | [_], h => exact absurd h (by simp)
          | [], h => exact absurd h (by simp)
        walk_at "rd"
        refine rd_slIm (T := T) (iI.x E3) fun v1 G1 y1 j1 => ?_
        rw [cutD_tail, hab] at j1
        walk_at "rd"
        refine rd_slIm (T := T) ((iI.x E3).x y1) fun v2 G2 y2 j2 => ?_
        rw [show cutD (s.its.map rowD2) none (some 1) = (s.its.map rowD2).take 1 from cutD_to (m := 1) (by rw [hab]; simp), hab] at j2
        refine rd_catEI (T := T) (j1.x y2) j2 (by simp) (by rw [List.length_map] at hlen; rw [hab] at hlen; simp at hlen ⊢; omega) fun v3 G3 y3 j3 => ?_
        walk_at "rd"
        walk_at "al"
        rename_i p G4 np y4 g4
        walk_at "rd"
        exact hQ _ _ ⟨((y1.trans y2).trans y3).trans y4, _, ⟨st_turn hR hs hab, mk2 (snL (by rw [List.length_map, hab] at hlen; simp at hlen ⊢; omega) fun d hd => hrow d (by rw [hab]; rcases List.mem_append.mp hd with hd | hd; exact List.mem_cons_of_mem _ hd; rw [List.mem_singleton.mp hd]; exact List.mem_cons_self)) (snk_up hOs (by decide))⟩, .new2 (j3.x y4) (((((iO.x E3).x y1).x y2).x y3).x y4) g4⟩
      · walk_at "rd"
        walk_at "al"
        rename_i p G1 np y1 g1
        walk_at "rd"
        exact hQ _ _ ⟨y1, _, g0, .tup g1 .nil⟩
    obtain ⟨z4, h4⟩ := hh4
    have E4 := E3.trans z4
    refine rd_consJ (fun v H' => Ext T [] GE4 H' ∧ ∃ d, (stateB R d = false ∧ SnK 8 d) ∧ Im H' v d) (fun Q' hQ => ?_) (fun v5e GE5 hh5 => ?_)
    · walk_at "rd"
      refine rd_slIm (T := T) (iI.x E4) fun v1 G1 y1 j1 => ?_
      rw [show cutD (s.its.map rowD2) none (some 1) = (s.its.map rowD2).take 1 from cutD_to (m := 1) (by rw [List.length_map]; omega)] at j1
      refine rd_catEI (T := T) ((iI.x E4).x y1) j1 (by intro h; have h := congrArg List.length h; rw [List.length_take, List.length_map] at h; simp only [List.length_nil] at h; omega) (by show (s.its.map rowD2).length + ((s.its.map rowD2).take 1).length ≤ 1000; have h1 := List.length_take_le 1 (s.its.map rowD2); omega) fun v2 G2 y2 j2 => ?_
      walk_at "rd"
      walk_at "al"
      rename_i p G3 np y3 g3
      walk_at "rd"
      exact hQ _ _ ⟨(y1.trans y2).trans y3, _, ⟨st_items (items_len (by rw [List.length_append, List.length_take, List.length_map, hil]; omega)), mk2 (snL (by rw [List.length_append, List.length_take, List.length_map]; omega) fun d hd => hrow d (by rcases List.mem_append.mp hd with hd | hd; exact hd; exact List.mem_of_mem_take hd)) (snk_up hOs (by decide))⟩, .new2 (j2.x y3) ((((iO.x E4).x y1).x y2).x y3) g3⟩
    obtain ⟨z5, h5⟩ := hh5
    have E5 := E4.trans z5
    refine rd_consJ (fun v H' => Ext T [] GE5 H' ∧ ∃ d, (stateB R d = false ∧ SnK 8 d) ∧ Im H' v d) (fun Q' hQ => ?_) (fun v6e GE6 hh6 => ?_)
    · walk_at "rd"
      walk_at "al"
      rename_i p G1 np y1 g1
      walk_at "rd"
      exact hQ _ _ ⟨y1, _, ⟨st_empty hs hrm, mk2 hWs (snk_up hOs (by decide))⟩, .new2 ((iW.x E5).x y1) ((iO.x E5).x y1) g1⟩
    obtain ⟨z6, h6⟩ := hh6
    have E6 := E5.trans z6
    refine rd_consJ (fun v H' => Ext T [] GE6 H' ∧ ∃ d, (stateB R d = false ∧ SnK 8 d) ∧ Im H' v d) (fun Q' hQ => ?_) (fun v7e GE7 hh7 => ?_)
    · walk_at "rd"
      walk_at "al"
      rename_i p G1 np y1 g1
      walk_at "rd"
      walk_at "al"
      rename_i p2 G2 np2 y2 g2
      have k1 : Im G2 (.ref p2) (.tuple [ssD (Str.ofString "s1", dotS)]) := .tup g2 (.cons ((Im.new2 (.str _ (by decide +kernel)) (.str _ (by decide +kernel)) g1).x y2) .nil)
      refine rd_catEI (T := T) (((iO.x E6).x y1).x y2) k1 (by simp) (by simp only [List.length_map, List.length_cons, List.length_nil]; omega) fun v3 G3 y3 j3 => ?_
      walk_at "rd"
      walk_at "al"
      rename_i p4 G4 np4 y4 g4
      walk_at "rd"
      exact hQ _ _ ⟨((y1.trans y2).trans y3).trans y4, _, ⟨st_srv (srv_z (inZ_dot hR)), mk2 (snk_up hIs (by decide)) (snL (k := 1) (by simp only [List.length_append, List.length_map, List.length_cons, List.length_nil]; omega) fun d hd => by rcases List.mem_append.mp hd with hd | hd; exact snk_up (honm d hd) (by decide); rw [List.mem_singleton.mp hd]; exact snk_up (snk2 (snk_str (by decide +kernel)) (snk_str (by decide +kernel)) (by decide)) (by decide))⟩, .new2 (((((iI.x E6).x y1).x y2).x y3).x y4) (j3.x y4) g4⟩
    obtain ⟨z7, h7⟩ := hh7
    have E7 := E6.trans z7
    refine rd_consJ (fun v H' => Ext T [] GE7 H' ∧ ∃ d, (stateB R d = false ∧ SnK 8 d) ∧ Im H' v d) (fun Q' hQ => ?_) (fun v8e GE8 hh8 => ?_)
    · walk_at "rd"
      walk_at "al"
      rename_i p G1 np y1 g1
      walk_at "rd"
      walk_at "al"
      rename_i p2 G2 np2 y2 g2
      have k1 : Im G2 (.ref p2) (.tuple [ssD (Str.ofString "s1", nsz)]) := .tup g2 (.cons ((Im.new2 (.str _ (by decide +kernel)) (.str _ (by decide +kernel)) g1).x y2) .nil)
      refine rd_catEI (T := T) (((iO.x E7).x y1).x y2) k1 (by simp) (by simp only [List.length_map, List.length_cons, List.length_nil]; omega) fun v3 G3 y3 j3 => ?_
      walk_at "rd"
      walk_at "al"
      rename_i p4 G4 np4 y4 g4
      walk_at "rd"
      exact hQ _ _ ⟨((y1.trans y2).trans y3).trans y4, _, ⟨st_srv (srv_z (inZ_nsz hR)), mk2 (snk_up hIs (by decide)) (snL (k := 1) (by simp only [List.length_append, List.length_map, List.length_cons, List.length_nil]; omega) fun d hd => by rcases List.mem_append.mp hd with hd | hd; exact snk_up (honm d hd) (by decide); rw [List.mem_singleton.mp hd]; exact snk_up (snk2 (snk_str (by decide +kernel)) (snk_str (by decide +kernel)) (by decide)) (by decide))⟩, .new2 (((((iI.x E7).x y1).x y2).x y3).x y4) (j3.x y4) g4⟩
    obtain ⟨z8, h8⟩ := hh8
    have E8 := E7.trans z8
    refine rd_consJ (fun v H' => Ext T [] GE8 H' ∧ ∃ d, (stateB R d = false ∧ SnK 8 d) ∧ Im H' v d) (fun Q' hQ => ?_) (fun v9e GE9 hh9 => ?_)
    · walk_at "rd"
      walk_at "al"
      rename_i p G1 np y1 g1
      walk_at "rd"
      walk_at "al"
      rename_i p2 G2 np2 y2 g2
      walk_at "rd"
      walk_at "al"
      rename_i p3 G3 np3 y3 g3
      walk_at "rd"
      exact hQ _ _ ⟨(y1.trans y2).trans y3, _, ⟨st_srv (os := []) (x := ssD (Str.ofString "zz", dotS)) (srv_z (inZ_dot hR)), mk2 (snk_up hIs (by decide)) (snk_up (snk1 (snk2 (snk_str (by decide +kernel)) (snk_str (by decide +kernel)) (by decide)) (by decide)) (by decide))⟩, .new2 ((((iI.x E8).x y1).x y2).x y3) ((Im.tup g2 (.cons ((Im.new2 (.str _ (by decide +kernel)) (.str _ (by decide +kernel)) g1).x y2) .nil)).x y3) g3⟩
    obtain ⟨z9, h9⟩ := hh9
    have E9 := E8.trans z9
    refine rd_consJ (fun v H' => Ext T [] GE9 H' ∧ ∃ d, (stateB R d = false ∧ SnK 8 d) ∧ Im H' v d) (fun Q' hQ => ?_) (fun v10e GE10 hh10 => ?_)
    · walk_at "rd"
      walk_at "al"
      rename_i p G1 np y1 g1
      walk_at "rd"
      exact hQ _ _ ⟨y1, _, g0, .tup g1 .nil⟩
    obtain ⟨z10, h10⟩ := hh10
    have E10 := E9.trans z10
    refine rd_consJ (fun v H' => Ext T [] GE10 H' ∧ ∃ d, (stateB R d = false ∧ SnK 8 d) ∧ Im H' v d) (fun Q' hQ => ?_) (fun v11e GE11 hh11 => ?_)
    · walk_at "rd"
      exact hQ _ _ ⟨.refl, _, ⟨rfl, snk_up (snk_int _) (by decide)⟩, .int 4⟩
    obtain ⟨z11, h11⟩ := hh11
    have E11 := E10.trans z11
    refine rd_consJ (fun v H' => Ext T [] GE11 H' ∧ ∃ d, (stateB R d = false ∧ SnK 8 d) ∧ Im H' v d) (fun Q' hQ => ?_) (fun v12e GE12 hh12 => ?_)
    · walk_at "rd"
      walk_at "al"
      rename_i p G1 np y1 g1
      walk_at "rd"
      walk_at "al"
      rename_i p2 G2 np2 y2 g2
      walk_at "rd"
      walk_at "al"
      rename_i p3 G3 np3 y3 g3
      walk_at "rd"
      exact hQ _ _ ⟨(y1.trans y2).trans y3, _, ⟨st_srv (os := []) (x := .tuple [.str (Str.ofString "s1")]) rfl, mk2 (snk_up hIs (by decide)) (snk_up (snk1 (snk1 (snk_str (by decide +kernel)) (by decide)) (by decide)) (by decide))⟩, .new2 ((((iI.x E11).x y1).x y2).x y3) ((Im.tup g2 (.cons ((Im.tup g1 (.cons (.str _ (by decide +kernel)) .nil)).x y2) .nil)).x y3) g3⟩
    obtain ⟨z12, h12⟩ := hh12
    have E12 := E11.trans z12
    refine rd_consJ (fun v H' => Ext T [] GE12 H' ∧ ∃ d, (stateB R d = false ∧ SnK 8 d) ∧ Im H' v d) (fun Q' hQ => ?_) (fun v13e GE13 hh13 => ?_)
    · walk_at "rd"
      walk_at "al"
      rename_i p G1 np y1 g1
      walk_at "rd"
      walk_at "al"
      rename_i p2 G2 np2 y2 g2
      walk_at "rd"
      exact hQ _ _ ⟨y1.trans y2, _, ⟨st_srv (os := []) (x := .str (Str.ofString "s1")) rfl, mk2 (snk_up hIs (by decide)) (snk_up (snk1 (snk_str (by decide +kernel)) (by decide)) (by decide))⟩, .new2 (((iI.x E12).x y1).x y2) ((Im.tup g1 (.cons (.str _ (by decide +kernel)) .nil)).x y2) g2⟩
    obtain ⟨z13, h13⟩ := hh13
    have E13 := E12.trans z13
    refine rd_consJ (fun v H' => Ext T [] GE13 H' ∧ ∃ d, (stateB R d = false ∧ SnK 8 d) ∧ Im H' v d) (fun Q' hQ => ?_) (fun v14e GE14 hh14 => ?_)
    · walk_at "rd"
      walk_at "al"
      rename_i p G1 np y1 g1
      walk_at "rd"
      walk_at "al"
      rename_i p2 G2 np2 y2 g2
      walk_at "rd"
      exact hQ _ _ ⟨y1.trans y2, _, ⟨st_items (items_len (ds := []) (by simp; omega)), mk2 (snk0 (k := 6) (by decide)) (snk_up hOs (by decide))⟩, .new2 ((Im.tup g1 .nil).x y2) (((iO.x E13).x y1).x y2) g2⟩
    obtain ⟨z14, h14⟩ := hh14
    have E14 := E13.trans z14
    refine rd_consJ (fun v H' => Ext T [] GE14 H' ∧ ∃ d, (stateB R d = false ∧ SnK 8 d) ∧ Im H' v d) (fun Q' hQ => ?_) (fun v15e GE15 hh15 => ?_)
    · walk_at "rd"
      walk_at "al"
      rename_i p G1 np y1 g1
      walk_at "rd"
      walk_at "al"
      rename_i p2 G2 np2 y2 g2
      walk_at "rd"
      walk_at "al"
      rename_i p3 G3 np3 y3 g3
      walk_at "rd"
      exact hQ _ _ ⟨(y1.trans y2).trans y3, _, ⟨st_srv (os := []) (x := ssD (Str.ofString "toolong", dotS)) (srv_z (inZ_dot hR)), mk2 (snk_up hIs (by decide)) (snk_up (snk1 (snk2 (snk_str (by decide +kernel)) (snk_str (by decide +kernel)) (by decide)) (by decide)) (by decide))⟩, .new2 ((((iI.x E14).x y1).x y2).x y3) ((Im.tup g2 (.cons ((Im.new2 (.str _ (by decide +kernel)) (.str _ (by decide +kernel)) g1).x y2) .nil)).x y3) g3⟩
    obtain ⟨z15, h15⟩ := hh15
    have E15 := E14.trans z15
    refine rd_consJ (fun v H' => Ext T [] GE15 H' ∧ ∃ d, (stateB R d = false ∧ SnK 8 d) ∧ Im H' v d) (fun Q' hQ => ?_) (fun v16e GE16 hh16 => ?_)
    · walk_at "rd"
      refine rd_lenT (SqP.sq (SqP.x hoa E15)) ?_
      walk_at "rd"
      refine rd_ite (fun c => ?_) (fun c => ?_)
      · have hne : s.on ≠ [] := fun h => by
          rw [h] at hoxl
          simp only [List.length_nil] at hoxl
          omega
        walk_at "rd"
        refine rd_slIm (T := T) (iO.x E15) fun v1 G1 y1 j1 => ?_
        rw [cutD_lastD (d := ssD (s.on.getLast hne)) (by rw [List.getLast?_map, List.getLast?_eq_some_getLast hne]; rfl)] at j1
        refine rd_catEI (T := T) ((iO.x E15).x y1) j1 (by simp) (by simp only [List.length_map, List.length_cons, List.length_nil]; omega) fun v2 G2 y2 j2 => ?_
        walk_at "rd"
        walk_at "al"
        rename_i p G3 np y3 g3
        walk_at "rd"
        exact hQ _ _ ⟨(y1.trans y2).trans y3, _, ⟨st_dup hne, mk2 (snk_up hIs (by decide)) (snL (k := 1) (by simp only [List.length_append, List.length_map, List.length_cons, List.length_nil]; omega) fun d hd => by rcases List.mem_append.mp hd with hd | hd; exact snk_up (honm d hd) (by decide); rw [List.mem_singleton.mp hd]; exact snk_up (honm _ (List.mem_map_of_mem (List.getLast_mem hne))) (by decide))⟩, .new2 ((((iI.x E15).x y1).x y2).x y3) (j2.x y3) g3⟩
      · walk_at "rd"
        walk_at "al"
        rename_i p G1 np y1 g1
        walk_at "rd"
        exact hQ _ _ ⟨y1, _, g0, .tup g1 .nil⟩
    obtain ⟨z16, h16⟩ := hh16
    have E16 := E15.trans z16
    refine rd_consJ (fun v H' => Ext T [] GE16 H' ∧ ∃ d, (stateB R d = false ∧ SnK 8 d) ∧ Im H' v d) (fun Q' hQ => ?_) (fun v17e GE17 hh17 => ?_)
    · walk_at "rd"
      refine rd_lenT (SqP.sq (SqP.x hoa E16)) ?_
      walk_at "rd"
      refine rd_ite (fun c => ?_) (fun c => ?_)
      · walk_at "rd"
        refine rd_dnT ?_
        walk_at "rd"
        refine ⟨oa, ox, rfl, SqP.sq (SqP.x hoa E16), fun q nq => ?_⟩
        obtain ⟨_, y1, hq⟩ := alT (T := T) nq (ox.drop 0).reverse
        generalize upd _ q _ = G1 at y1 hq ⊢
        have j1 : Im G1 (.ref q) (.tuple (s.on.map ssD).reverse) := .tup hq (imall_rev ((hoi.x E16).x y1))
        walk_at "rd"
        walk_at "al"
        rename_i p G2 np y2 g2
        walk_at "rd"
        exact hQ _ _ ⟨y1.trans y2, _, ⟨st_rev ho (by omega), mk2 (snk_up hIs (by decide)) (snL (k := 1) (by rw [List.length_reverse, List.length_map]; omega) fun d hd => snk_up (honm d (List.mem_reverse.mp hd)) (by decide))⟩, .new2 (((iI.x E16).x y1).x y2) (j1.x y2) g2⟩
      · walk_at "rd"
        walk_at "al"
        rename_i p G1 np y1 g1
        walk_at "rd"
        exact hQ _ _ ⟨y1, _, g0, .tup g1 .nil⟩
    obtain ⟨z17, h17⟩ := hh17
    have E17 := E16.trans z17
    walk_at "rd"
    walk_at "al"
    rename_i pL GL nL yL gL
    have w17 : Ext T [] GE17 GL := yL
    have w16 := z17.trans w17
    have w15 := z16.trans w16
    have w14 := z15.trans w15
    have w13 := z14.trans w14
    have w12 := z13.trans w13
    have w11 := z12.trans w12
    have w10 := z11.trans w11
    have w9 := z10.trans w10
    have w8 := z9.trans w9
    have w7 := z8.trans w8
    have w6 := z7.trans w7
    have w5 := z6.trans w6
    have w4 := z5.trans w5
    have w3 := z4.trans w4
    have w2 := z3.trans w3
    have w1 := z2.trans w2
    have wE := E17.trans yL
    have gx : ∀ {v : V} {H1 H2 : Hp}, (∃ d, (stateB R d = false ∧ SnK 8 d) ∧ Im H1 v d) → Ext T [] H1 H2 → ∃ d, (stateB R d = false ∧ SnK 8 d) ∧ Im H2 v d := fun h e => by
      obtain ⟨d, h1, h2⟩ := h
      exact ⟨d, h1, h2.x e⟩
    obtain ⟨ds, hdi, hdg⟩ := gds_of (.cons (gx h1 w1) (.cons (gx h2 w2) (.cons (gx h3 w3) (.cons (gx h4 w4) (.cons (gx h5 w5) (.cons (gx h6 w6) (.cons (gx h7 w7) (.cons (gx h8 w8) (.cons (gx h9 w9) (.cons (gx h10 w10) (.cons (gx h11 w11) (.cons (gx h12 w12) (.cons (gx h13 w13) (.cons (gx h14 w14) (.cons (gx h15 w15) (.cons (gx h16 w16) (.cons (gx h17 w17) .nil)))))))))))))))))
    have hdl : ds.length = 17 := by rw [← hdi.len]; rfl
    clear w1 w2 w3 w4 w5 w6 w7 w8 w9 w10 w11 w12 w13 w14 w15 w16 w17 z1 z2 z3 z4 z5 z6 z7 z8 z9 z10 z11 z12 z13 z14 z15 z16 z17 h1 h2 h3 h4 h5 h6 h7 h8 h9 h10 h11 h12 h13 h14 h15 h16 h17
    walk_at "rd"
    refine ⟨l, t, 17, rfl, by decide, by decide, T2.ext wE, fun d1 H9 h0 h1 e9 T9 => ?_⟩
    have hLt : pL ≠ t := ((T2.ext E17).ne nL).1
    have hLL : Ls GL pL ds := ⟨_, gL, hdi⟩
    have hat : atI ds d1 = some (ds[d1.toNat]'(by omega)) := by
      obtain ⟨k, rfl⟩ := Int.eq_ofNat_of_zero_le h0
      exact atI_nat (List.getElem?_eq_getElem _)
    refine rd_ixLs (hLL.y e9 hLt (T2.ext wE)) hat fun y0 hy0 => ?_
    have hg := hdg _ (List.getElem_mem (l := ds) (n := d1.toNat) (by omega))
    exact q y0 _ H9 hg.2 hg.1 hy0 ((e02.trans wE.any).trans e9) T9
end
theorem cutD_take {ds : List PyData} {m : Nat} : cutD ds none (some (m : Int)) = ds.take m := by
  unfold cutD
  rw [HT.sIx_none, HT.sIx_nat, List.drop_zero, Nat.sub_zero]
  by_cases h : m ≤ ds.length
  · rw [Nat.min_eq_left h]
  · rw [Nat.min_eq_right (by omega), List.take_length, List.take_of_length_le (by omega)]
theorem on_zone {R : Rm} {s : Sta} (ho : OnR R s) {p : Str × Str} (h : p ∈ s.on) : p.1 ∈ s9L ∧ p.2 ∈ tlZ R := by
  obtain ⟨on0, e, hn, hm⟩ := ho
  rw [e] at h
  exact hm p ((srtSS_perm on0).mem_iff.mp h)
theorem wds : (wB "put" (.str (Str.ofString "take")) = false ∧ wB "on" (.str (Str.ofString "take")) = false ∧ wB "off" (.str (Str.ofString "take")) = false) ∧ (wB "put" (.str (Str.ofString "put")) = true) ∧ (wB "put" (.str (Str.ofString "on")) = false ∧ wB "on" (.str (Str.ofString "on")) = true) ∧ (wB "put" (.str (Str.ofString "off")) = false ∧ wB "on" (.str (Str.ofString "off")) = false ∧ wB "off" (.str (Str.ofString "off")) = true) := by decide +kernel
section
variable {R : Rm} {s : Sta}
theorem bd_put {p x : PyData} (h : (slotB R p && itemD (hostW p) x) = false) : deedB R s (.tuple [.str (Str.ofString "put"), p, x]) = false := by
  rw [deedB_eq, if_pos wds.2.1]
  exact h
theorem bd_take {p x : PyData} : deedB R s (.tuple [.str (Str.ofString "take"), p, x]) = false := by
  rw [deedB_eq, if_neg (by rw [wds.1.1]; decide), if_neg (by rw [wds.1.2.1]; decide), wds.1.2.2]
  rfl
theorem bd_on {p x : PyData} (h : (srvD R (.tuple [p, x]) && !isOnB s p x) = false) : deedB R s (.tuple [.str (Str.ofString "on"), p, x]) = false := by
  rw [deedB_eq, if_neg (by rw [wds.2.2.1.1]; decide), if_pos wds.2.2.1.2]
  exact h
theorem bd_off {p x : PyData} (h : isOnB s p x = false) : deedB R s (.tuple [.str (Str.ofString "off"), p, x]) = false := by
  rw [deedB_eq, if_neg (by rw [wds.2.2.2.1]; decide), if_neg (by rw [wds.2.2.2.2.1]; decide), h, Bool.and_false]
theorem slot_nsz (hR : RmIn R) : slotB R (.tuple [.str (Str.ofString "keys"), .str nsz]) = false := by
  cases e : slotB R (.tuple [.str (Str.ofString "keys"), .str nsz]) with
  | false => rfl
  | true =>
    obtain ⟨sl, hs, e2⟩ := slotB_some e
    have e3 : slD (.k nsz) = slD sl := e2
    have e4 := slD_inj e3
    subst e4
    unfold slotsR at hs
    have hn := nsz_no
    rcases List.mem_append.mp hs with h | h
    · rcases List.mem_cons.mp h with h | h
      · injection h with h
        rw [h, show nameB dotS = true from dot_name] at hn
        cases hn
      · obtain ⟨y, hy, h⟩ := List.mem_flatMap.mp h
        simp only [List.mem_cons, List.not_mem_nil, or_false] at h
        rcases h with h | h | h
        · injection h with h
          have h2 := hR.nm y (List.mem_of_mem_tail hy)
          rw [← h, hn] at h2
          cases h2
        · cases h
        · cases h
    · obtain ⟨p, _, h⟩ := List.mem_map.mp h
      cases h
theorem off_z (ho : OnR R s) {a z : Str} (h : z ∉ tlZ R) : isOnB s (.str a) (.str z) = false := decide_eq_false fun hm => h (on_zone ho hm).2
theorem off_w (ho : OnR R s) {z : Str} : isOnB s (.str (Str.ofString "zzz0")) (.str z) = false := decide_eq_false fun hm => absurd (show Str.ofString "zzz0" ∈ s9L from (on_zone ho hm).1) (by decide +kernel)
end
section
variable {T : List (Addr × Str)} {P : Program} {w : World} {K : PySem.W.Frag} {mg : Str → Option Value} {base : Heap}
local macro_rules | `(tactic| walk_at "tr") => `(tactic| first
  | assumption
  | exact Ext.refl
  | ((with_reducible refine' Im.x (T := T) (H := ?trH) ?tra ?tre); (case tre => assumption); (case tra => walk_at "tr"))
  | ((with_reducible refine' Im.y (T := T) (H := ?trH) ?tra ?tre ?trt); (case tre => assumption); (case trt => walk_at "tr"); (case tra => walk_at "tr"))
  | ((with_reducible refine' ImAll.x (T := T) (H := ?trH) ?tra ?tre); (case tre => assumption); (case tra => walk_at "tr"))
  | ((with_reducible refine' ImAll.y (T := T) (H := ?trH) ?tra ?tre ?trt); (case tre => assumption); (case trt => walk_at "tr"); (case tra => walk_at "tr"))
  | ((with_reducible refine' Ls.x (T := T) (H := ?trH) ?tra ?tre); (case tre => assumption); (case tra => walk_at "tr"))
  | ((with_reducible refine' Ls.y (T := T) (H := ?trH) ?tra ?tre ?trn ?trt); (case tre => assumption); (case trt => walk_at "tr"); (case trn => walk_at "tr"); (case tra => walk_at "tr"))
  | ((with_reducible refine' SqP.x (T := T) (H := ?trH) ?tra ?tre); (case tre => assumption); (case tra => walk_at "tr"))
  | ((with_reducible refine' SqP.y (T := T) (H := ?trH) ?tra ?tre ?trt); (case tre => assumption); (case trt => walk_at "tr"); (case tra => walk_at "tr"))
  | ((with_reducible refine' StAt.x (T := T) (H := ?trH) ?tra ?tre); (case tre => assumption); (case tra => walk_at "tr"))
  | ((with_reducible refine' StAt.y (T := T) (H := ?trH) ?tra ?tre ?trt); (case tre => assumption); (case trt => walk_at "tr"); (case tra => walk_at "tr"))
  | ((with_reducible refine' Pools.ext0 (T := T) (H := ?trH) ?tra ?tre); (case tre => assumption); (case tra => walk_at "tr"))
  | ((with_reducible refine' Pools.ext (T := T) (H := ?trH) ?tra ?tre ?trt); (case tre => assumption); (case trt => walk_at "tr"); (case tra => walk_at "tr"))
  | ((with_reducible refine' CL.x (T := T) (H := ?trH) ?tra ?tre); (case tre => assumption); (case tra => walk_at "tr"))
  | ((with_reducible refine' CL.y (T := T) (H := ?trH) ?tra ?tre); (case tre => assumption); (case tra => walk_at "tr"))
  | ((with_reducible refine' Tape.ext (T := T) (H := ?trH) ?tra ?tre); (case tre => assumption); (case tra => walk_at "tr"))
  | ((with_reducible refine' lst.x (T := T) (H := ?trH) ?tra ?tre); (case tre => assumption); (case tra => walk_at "tr"))
  | ((with_reducible refine' lst.y (T := T) (H := ?trH) ?tra ?tre ?trn); (case tre => assumption); (case trn => walk_at "tr"); (case tra => walk_at "tr"))
  | ((with_reducible refine' tup.x (T := T) (H := ?trH) ?tra ?tre); (case tre => assumption); (case tra => walk_at "tr"))
  | ((with_reducible refine' tup.y (T := T) (H := ?trH) ?tra ?tre ?trt); (case tre => assumption); (case trt => walk_at "tr"); (case tra => walk_at "tr"))
  | ((with_reducible refine' frz.x (T := T) (H := ?trH) ?tra ?tre); (case tre => assumption); (case tra => walk_at "tr"))
  | ((with_reducible refine' frz.y (T := T) (H := ?trH) ?tra ?tre ?trt); (case tre => assumption); (case trt => walk_at "tr"); (case tra => walk_at "tr"))
  | ((with_reducible refine' Im.z (T := T) (H := ?trH) ?tra ?tre ?trt); (case tre => assumption); (case trt => assumption); (case tra => walk_at "tr"))
  | ((with_reducible refine' ImAll.z (T := T) (H := ?trH) ?tra ?tre ?trt); (case tre => assumption); (case trt => assumption); (case tra => walk_at "tr"))
  | ((with_reducible refine' StAt.z (T := T) (H := ?trH) ?tra ?tre ?trt); (case tre => assumption); (case trt => assumption); (case tra => walk_at "tr"))
  | ((with_reducible refine' SqP.z (T := T) (H := ?trH) ?tra ?tre ?trt); (case tre => assumption); (case trt => assumption); (case tra => walk_at "tr"))
  | ((with_reducible refine' tup.z (T := T) (H := ?trH) ?tra ?tre ?trt); (case tre => assumption); (case trt => assumption); (case tra => walk_at "tr"))
  | ((with_reducible refine' Ls.z (T := T) (H := ?trH) ?tra ?tre ?trt ?trn); (case tre => assumption); (case trt => assumption); (case trn => assumption); (case tra => walk_at "tr"))
  | ((with_reducible refine' lst.z (T := T) (H := ?trH) ?tra ?tre ?trn); (case tre => assumption); (case trn => assumption); (case tra => walk_at "tr"))
  | ((with_reducible refine' CL.z (T := T) (H := ?trH) ?tra ?tre ?trn); (case tre => assumption); (case trn => assumption); (case tra => walk_at "tr"))
  | ((with_reducible refine' Tape.ne1 (H := ?trH) ?trt ?trn); (case trn => assumption); (case trt => walk_at "tr"))
  | ((with_reducible refine' Ext.trans (H1 := ?trH) ?tra (Ext.any ?tre)); (case tre => assumption); (case tra => walk_at "tr"))
  | ((with_reducible refine' Ext.trans (H1 := ?trH) ?tra ?tre); (case tre => assumption); (case tra => walk_at "tr"))
  | ((with_reducible refine' Ext.back1 (T := T) (H1 := ?trH) ?tre ?trn ?tra); (case tra => assumption); (case trn => walk_at "tr"); (case tre => walk_at "tr"))
  | ((with_reducible refine' Ext.back0 (T := T) (H1 := ?trH) ?tre ?tra); (case tra => assumption); (case tre => walk_at "tr"))
  | ((with_reducible refine' SqT.of ?tra); (case tra => walk_at "tr"))
  | ((with_reducible refine' SqL.of ?tra); (case tra => walk_at "tr")))
local macro_rules | `(tactic| walk_at "al") => `(tactic| (refine ⟨by first | (show _ ≤ sizeLine; decide) | walk_at "sz", ?_⟩; intro alp aln; generalize alG : upd _ alp _ = alH; obtain ⟨aln2, alx, alh⟩ := al_of (T := T) aln alG; clear alG aln))
local macro_rules | `(tactic| walk_at "al0") => `(tactic| (intro alp aln; generalize alG : upd _ alp _ = alH; obtain ⟨aln2, alx, alh⟩ := al_of (T := T) aln alG; clear alG aln))
def GdD (R : Rm) (s : Sta) (d : PyData) : Prop := deedB R s d = false ∧ SnK 6 d
def spBadD (T : List (Addr × Str)) : Sp := fun vs H Q _ => ∃ (l t : Addr) (v u : V) (R : Rm) (s : Sta), vs = [.ref t, v, u] ∧ Tape l H t ∧ StAt H u s ∧ RmIn R ∧ StaOk R s ∧ OnR R s ∧ s.on.length ≤ 50 ∧
  ∀ (p : Addr) (ds : List PyData) (H' : Hp), Ls H' p ds → 1 ≤ ds.length → ds.length ≤ 15 → (∀ d ∈ ds, GdD R s d) → p ≠ t → Ext T [t] H H' → Tape l H' t → Q (.ref p) H'
theorem ok_bad_deeds (D : Def K mg "_law_bad_deeds" s_law_bad_deeds ["tape", "realm", "state"]) (mb : ∀ x ∈ bltns, mg x = none) (G_law_take : Ok P w K mg base 2 "_law_take" ["tape", "many"] (spTake T)) : Ok P w K mg base 3 "_law_bad_deeds" ["tape", "realm", "state"] (spBadD T) := by
  refine D.ok sc_law_bad_deeds (fun vs H Q E h => ?_) (fun cdv f0 A outer s H vs Q E hr h => ?_)
  · obtain ⟨l, t, v, u, R, s, rfl, _⟩ := h
    rfl
  · obtain ⟨l, t, v, u, R, s, rfl, hT, hu, hR, hs, ho, hon, q⟩ := h
    refine ⟨_, (pss_cons (ps_asg (pe_ix (ix_U K rfl) (pe_ix (ix_U K rfl) (pv 2) pe_int (fun _ _ => rfl)) (pe_callO G_law_take (hr.mono (by decide)) (by rfl) (pa_cons (pv 0) (pa_cons (pe_callB (call_lenU K rfl) (by rfl) (mb _ (by decide)) (by decide +kernel) (pa_cons (pe_ix (ix_U K rfl) (pv 2) pe_int (fun _ _ => rfl)) pa_nil)) pa_nil))) (fun _ _ => rfl)) (pg_tupU (n := 2) K rfl rfl (pgs_cons (pg_name (i := 3) sc_law_bad_deeds.nd rfl (.inl rfl)) (pgs_cons (pg_name (i := 4) sc_law_bad_deeds.nd rfl (.inl rfl)) pgs_nil))))
   (pss_cons (ps_set (i := 5) sc_law_bad_deeds.nd rfl (.inl rfl) (pe_lst (pa_cons (pe_tup (pa_cons pe_str (pa_cons (pv 3) pa_nil))) (pa_cons (pe_tup (pa_cons pe_str (pa_cons (pv 3) (pa_cons (pe_tup pa_nil) pa_nil)))) (pa_cons (pe_tup (pa_cons pe_str (pa_cons (pe_tup (pa_cons pe_str (pa_cons pe_str pa_nil))) (pa_cons (pv 4) pa_nil)))) (pa_cons (pe_tup (pa_cons pe_str (pa_cons (pv 3) (pa_cons (pv 4) pa_nil)))) (pa_cons (pe_tup pa_nil) (pa_cons pe_int (pa_cons (pe_tup (pa_cons pe_str (pa_cons (pv 3) (pa_cons (pv 4) (pa_cons pe_int pa_nil))))) pa_nil)))))))))
   (pss_cons (ps_set (i := 5) sc_law_bad_deeds.nd rfl (.inl rfl) (pe_op (op_plus K rfl) (pv 5) (pe_lst (pa_cons (pe_tup (pa_cons pe_str (pa_cons pe_str (pa_cons pe_str pa_nil)))) (pa_cons (pe_tup (pa_cons pe_str (pa_cons pe_str (pa_cons pe_str pa_nil)))) (pa_cons (pe_tup (pa_cons pe_str (pa_cons pe_str (pa_cons pe_str pa_nil)))) (pa_cons (pe_tup (pa_cons pe_str (pa_cons pe_str (pa_cons pe_str pa_nil)))) pa_nil)))))))
   (pss_cons (ps_for PassesOwn.never rfl (pi_seq K rfl (pe_slice (sl_U2 K rfl) (pe_ix (ix_U K rfl) (pv 2) pe_int (fun _ _ => rfl)) po_none (po_some pe_int))) (pg_tupU (n := 2) K rfl rfl (pgs_cons (pg_name (i := 6) sc_law_bad_deeds.nd rfl (.inl rfl)) (pgs_cons (pg_name (i := 7) sc_law_bad_deeds.nd rfl (.inl rfl)) pgs_nil))) (pss_cons (ps_expr (pe_bm PySem.F.plainAttrs_list PySem.F.slot_list_append PySem.F.type_list_append mt_append (pv 5) (pa_cons (pe_tup (pa_cons pe_str (pa_cons (pv 6) (pa_cons (pv 7) pa_nil)))) pa_nil)))
   (pss_one (ps_expr (pe_bm PySem.F.plainAttrs_list PySem.F.slot_list_append PySem.F.type_list_append mt_append (pv 5) (pa_cons (pe_tup (pa_cons pe_str (pa_cons pe_str (pa_cons (pv 7) pa_nil)))) pa_nil))))))
   (pss_one (ps_ret (pv 5))))))), ?_⟩
    have hil := its_len hs
    have hip := its_pos (R := R)
    have hi30 := sl30 hR
    have hui : Im H u (.tuple [I0 s, O0 s]) := hu.im
    walk_at "rdn"
    refine rd_seqK (fun σ H' => ∃ (r : Sl × Itm) (v1 v2 : V), Ext T [t] H H' ∧ Tape l H' t ∧ r ∈ s.its ∧ Im H' v1 (slD r.1) ∧ Im H' v2 (itD r.2) ∧ σ = [some (.ref t), some v, some u, some v1, some v2, none, none, none]) (fun N hN => ?_) (fun σ H1 h => ?_)
    · walk_at "rd"
      refine rd_ixI (d := I0 s) hui rfl fun x1 g1 => ?_
      walk_at "rd"
      refine rd_ixI (d := I0 s) hui rfl fun x2 g2 => ?_
      obtain ⟨ia, ix, rfl, hia, hii⟩ := g2.tup'
      have hixl : ix.length = s.its.length := by rw [hii.len, List.length_map]
      walk_at "rd"
      refine rd_lenT (SqP.sq hia) ?_
      walk_at "rd"
      refine ⟨l, t, ix.length, rfl, by omega, by omega, hT, fun d H1 d0 d1 e1 T1 => ?_⟩
      have hdl : d.toNat < s.its.length := by omega
      have hat : atI (s.its.map rowD2) d = some (rowD2 (s.its[d.toNat])) := by
        obtain ⟨k, rfl⟩ := Int.eq_ofNat_of_zero_le d0
        exact atI_nat (by rw [List.getElem?_map, List.getElem?_eq_getElem (show k < s.its.length from hdl)]; rfl)
      refine rd_ixI (g1.y e1 hT) hat fun y hy => ?_
      refine rd_gpair (d1 := slD (s.its[d.toNat]).1) (d2 := itD (s.its[d.toNat]).2) hy fun v1 v2 k1 k2 => ?_
      walk_at "rd"
      exact hN _ _ ⟨s.its[d.toNat], v1, v2, e1, T1, List.getElem_mem _, k1, k2, rfl⟩
    obtain ⟨r, v1, v2, e1, T1, hrm, hv1, hv2, rfl⟩ := h
    have hu1 := hui.y e1 hT
    have hri := hs.ok r hrm
    have hrs : r.1 ∈ slotsR R := by rw [← hs.nm]; exact List.mem_map_of_mem hrm
    have s1 := sl_sn hR hrs
    have s2 := it_sn hri
    have s0 : ∀ {z : Str}, z.length ≤ 1000 → SnK 2 (.str z) := fun h => snk_up (snk_str h) (by decide)
    have u1 : SnK 2 (slD r.1) := snk_up s1 (by decide)
    have t3 : ∀ {a b c : PyData}, SnK 2 a → SnK 2 b → SnK 2 c → SnK 6 (.tuple [a, b, c]) := fun h1 h2 h3 => snk_up (snk3 h1 h2 h3 (by decide)) (by decide)
    have ht0 : SnK 2 (.tuple []) := snk0 (k := 1) (by decide)
    clear hui hu
    walk_at "rdn"
    refine rd_seqK (fun σ H' => Ext T [] H1 H' ∧ ∃ (p : Addr) (ds : List PyData), σ = [some (.ref t), some v, some u, some v1, some v2, some (.ref p), none, none] ∧ Ls H' p ds ∧ ds.length = 7 ∧ ∀ d ∈ ds, GdD R s d) (fun N hN => ?_) (fun σ H2 h => ?_)
    · walk_at "rd"
      walk_at "al"
      rename_i p1 G1 _ y1 g1
      walk_at "rd"
      walk_at "al"
      rename_i p2 G2 _ y2 g2
      walk_at "rd"
      walk_at "al"
      rename_i p3 G3 _ y3 g3
      walk_at "rd"
      walk_at "al"
      rename_i p4 G4 _ y4 g4
      walk_at "rd"
      walk_at "al"
      rename_i p5 G5 _ y5 g5
      walk_at "rd"
      walk_at "al"
      rename_i p6 G6 _ y6 g6
      walk_at "rd"
      walk_at "al"
      rename_i p7 G7 _ y7 g7
      walk_at "rd"
      walk_at "al"
      rename_i p8 G8 _ y8 g8
      walk_at "rd"
      walk_at "al"
      rename_i pl G9 _ y9 g9
      have z8 : Ext T [] G8 G9 := y9
      have z7 := y8.trans z8
      have z6 := y7.trans z7
      have z5 := y6.trans z6
      have z4 := y5.trans z5
      have z3 := y4.trans z4
      have z2 := y3.trans z3
      have z1 := y2.trans z2
      have z0 := y1.trans z1
      have a1 := hv1.x z0
      have a2 := hv2.x z0
      have c1 : ∃ d, GdD R s d ∧ Im G9 (.ref p1) d := ⟨_, ⟨rfl, snk_up (snk2 (s0 (by decide +kernel)) u1 (by decide)) (by decide)⟩, .tup (tup.x g1 z1) (.cons (.str _ (by decide +kernel)) (.cons a1 .nil))⟩
      have c2 : ∃ d, GdD R s d ∧ Im G9 (.ref p3) d := ⟨_, ⟨bd_put (p := slD r.1) (x := .tuple []) (by rw [show itemD (hostW (slD r.1)) (.tuple []) = false from rfl, Bool.and_false]), t3 (s0 (by decide +kernel)) u1 ht0⟩, .new3 (.str _ (by decide +kernel)) a1 (.tup (tup.x g2 z2) .nil) (tup.x g3 z3)⟩
      have c3 : ∃ d, GdD R s d ∧ Im G9 (.ref p5) d := ⟨_, ⟨bd_put (p := .tuple [.str (Str.ofString "keys"), .str nsz]) (x := itD r.2) (by rw [slot_nsz hR]; rfl), t3 (s0 (by decide +kernel)) (snk_up (snk2 (snk_str (by decide +kernel)) (snk_str (by decide +kernel)) (by decide)) (by decide)) s2⟩, .new3 (.str _ (by decide +kernel)) (.new2 (.str _ (by decide +kernel)) (.str _ (by decide +kernel)) (tup.x g4 z4)) a2 (tup.x g5 z5)⟩
      have c4 : ∃ d, GdD R s d ∧ Im G9 (.ref p6) d := ⟨_, ⟨bd_take (p := slD r.1) (x := itD r.2), t3 (s0 (by decide +kernel)) u1 s2⟩, .new3 (.str _ (by decide +kernel)) a1 a2 (tup.x g6 z6)⟩
      have c5 : ∃ d, GdD R s d ∧ Im G9 (.ref p7) d := ⟨.tuple [], ⟨rfl, snk_up ht0 (by decide)⟩, .tup (tup.x g7 z7) .nil⟩
      have c6 : ∃ d, GdD R s d ∧ Im G9 (.int 3) d := ⟨.int 3, ⟨rfl, snk_up (snk_int _) (by decide)⟩, .int _⟩
      have c7 : ∃ d, GdD R s d ∧ Im G9 (.ref p8) d := ⟨.tuple [.str (Str.ofString "put"), slD r.1, itD r.2, .int 0], ⟨rfl, snk_up (sn_list (k := 2) (by show 4 ≤ 1000; decide) (by decide) fun d hd => by
        simp only [List.mem_cons, List.not_mem_nil, or_false] at hd
        rcases hd with rfl | rfl | rfl | rfl
        · exact s0 (by decide +kernel)
        · exact u1
        · exact s2
        · exact snk_up (snk_int _) (by decide)) (by decide)⟩, .tup (tup.x g8 z8) (.cons (.str _ (by decide +kernel)) (.cons a1 (.cons a2 (.cons (.int _) .nil))))⟩
      obtain ⟨ds, hdi, hdg⟩ := gds_of (.cons c1 (.cons c2 (.cons c3 (.cons c4 (.cons c5 (.cons c6 (.cons c7 .nil)))))))
      walk_at "rd"
      exact hN _ _ ⟨z0, pl, ds, rfl, ⟨_, g9, hdi⟩, by rw [← hdi.len]; rfl, hdg⟩
    obtain ⟨e2, p0, ds0, rfl, hp0, hl0, hg0⟩ := h
    have hu2 := hu1.x e2
    walk_at "rdn"
    refine rd_seqK (fun σ H' => Ext T [] H2 H' ∧ ∃ (p : Addr) (ds : List PyData), σ = [some (.ref t), some v, some u, some v1, some v2, some (.ref p), none, none] ∧ Nw H2 p ∧ Ls H' p ds ∧ ds.length = 11 ∧ ∀ d ∈ ds, GdD R s d) (fun N hN => ?_) (fun σ H3 h => ?_)
    · walk_at "rd"
      walk_at "al"
      rename_i p1 G1 _ y1 g1
      walk_at "rd"
      walk_at "al"
      rename_i p2 G2 _ y2 g2
      walk_at "rd"
      walk_at "al"
      rename_i p3 G3 _ y3 g3
      walk_at "rd"
      walk_at "al"
      rename_i p4 G4 _ y4 g4
      walk_at "rd"
      walk_at "al"
      rename_i pl G5 _ y5 g5
      have z4 : Ext T [] G4 G5 := y5
      have z3 := y4.trans z4
      have z2 := y3.trans z3
      have z1 := y2.trans z2
      have z0 := y1.trans z1
      have nd : dotS ∉ tlZ R := fun h => (tlZ_name hR h).2 rfl
      have nn : nsz ∉ tlZ R := fun h => by
        have := (tlZ_name hR h).1
        rw [nsz_no] at this
        cases this
      have c1 : ∃ d, GdD R s d ∧ Im G5 (.ref p1) d := ⟨_, ⟨bd_on (p := .str (Str.ofString "s1")) (x := .str dotS) (by rw [show srvD R (.tuple [.str (Str.ofString "s1"), .str dotS]) = false from srv_z (inZ_dot hR)]; rfl), t3 (s0 (by decide +kernel)) (s0 (by decide +kernel)) (s0 (by decide +kernel))⟩, .new3 (.str _ (by decide +kernel)) (.str _ (by decide +kernel)) (.str _ (by decide +kernel)) (tup.x g1 z1)⟩
      have c2 : ∃ d, GdD R s d ∧ Im G5 (.ref p2) d := ⟨_, ⟨bd_off (p := .str (Str.ofString "s1")) (x := .str nsz) (off_z ho nn), t3 (s0 (by decide +kernel)) (s0 (by decide +kernel)) (s0 (by decide +kernel))⟩, .new3 (.str _ (by decide +kernel)) (.str _ (by decide +kernel)) (.str _ (by decide +kernel)) (tup.x g2 z2)⟩
      have c3 : ∃ d, GdD R s d ∧ Im G5 (.ref p3) d := ⟨_, ⟨bd_on (p := .str (Str.ofString "")) (x := .str dotS) (by rw [show srvD R (.tuple [.str (Str.ofString ""), .str dotS]) = false from srv_z (inZ_dot hR)]; rfl), t3 (s0 (by decide +kernel)) (s0 (by decide +kernel)) (s0 (by decide +kernel))⟩, .new3 (.str _ (by decide +kernel)) (.str _ (by decide +kernel)) (.str _ (by decide +kernel)) (tup.x g3 z3)⟩
      have c4 : ∃ d, GdD R s d ∧ Im G5 (.ref p4) d := ⟨_, ⟨bd_off (p := .str (Str.ofString "zzzz")) (x := .str dotS) (off_z ho nd), t3 (s0 (by decide +kernel)) (s0 (by decide +kernel)) (s0 (by decide +kernel))⟩, .new3 (.str _ (by decide +kernel)) (.str _ (by decide +kernel)) (.str _ (by decide +kernel)) (tup.x g4 z4)⟩
      obtain ⟨ds, hdi, hdg⟩ := gds_of (.cons c1 (.cons c2 (.cons c3 (.cons c4 .nil))))
      have hdl : ds.length = 4 := by rw [← hdi.len]; rfl
      obtain ⟨px, hpx, hpi⟩ := hp0
      refine rd_catA T (lst.x hpx z0) g5 (by rw [hpi.len, hl0]; simp) fun pc G6 npc y6 hpc => ?_
      walk_at "rd"
      refine hN _ _ ⟨z0.trans y6, pc, ds0 ++ ds, rfl, z0.back0 npc, ⟨_, hpc, ((hpi.x z0).x y6).app (hdi.x y6)⟩, by rw [List.length_append]; omega, fun d hd => ?_⟩
      rcases List.mem_append.mp hd with hd | hd
      · exact hg0 d hd
      · exact hdg d hd
    obtain ⟨e3, p, ds, rfl, np, hp, hdl, hdg⟩ := h
    have hu3 := hu2.x e3
    have T3 := (T1.ext e2).ext e3
    have T2 := T1.ext e2
    walk_at "rdn"
    refine rd_seqK (fun σ H' => Ext T [] H2 H' ∧ ∃ (p : Addr) (ds : List PyData) (o1 o2 : Option V), σ = [some (.ref t), some v, some u, some v1, some v2, some (.ref p), o1, o2] ∧ Nw H2 p ∧ Ls H' p ds ∧ 11 ≤ ds.length ∧ ds.length ≤ 15 ∧ ∀ d ∈ ds, GdD R s d) (fun N hN => ?_) (fun σ H4 h => ?_)
    · walk_at "rd"
      refine rd_ixI (d := O0 s) hu3 rfl fun x1 g1 => ?_
      walk_at "rd"
      refine rd_slIm (T := T) g1 fun y G1 y1 j1 => ?_
      rw [show cutD (s.on.map ssD) none (some 2) = (s.on.map ssD).take 2 from cutD_take (m := 2), ← List.map_take] at j1
      obtain ⟨sp, sx, rfl, hsp, hsi⟩ := j1.tup'
      have hsl : sx.length ≤ 2 := by
        rw [hsi.len, List.length_map, List.length_take]
        omega
      refine ⟨sp, rfl, .inr ⟨⟨_, SqP.sq hsp⟩, ?_⟩⟩
      refine forg_tup (xs := sx) (fun i σ H' => Ext T [] H2 H' ∧ SqP H' sp sx ∧ ImAll H' sx ((s.on.take 2).map ssD) ∧ ∃ (ds : List PyData) (o1 o2 : Option V), σ = [some (.ref t), some v, some u, some v1, some v2, some (.ref p), o1, o2] ∧ Ls H' p ds ∧ ds.length = 11 + 2 * i ∧ ∀ d ∈ ds, GdD R s d)
        ⟨e3.trans y1, hsp, hsi, ds, _, _, rfl, hp.x y1, hdl, hdg⟩ (fun i σ H' _ h => SqP.sq h.2.1) (fun i x σ G2 hx h => ?_) (fun σ G2 h => ?_)
      · obtain ⟨y2, hsp2, hsi2, ds2, o1, o2, rfl, hp2, hdl2, hdg2⟩ := h
        have hil2 : i < 2 := by
          have := (List.getElem?_eq_some_iff.mp hx).1
          omega
        obtain ⟨dr, hdr, hxr⟩ := hsi2.get' hx
        rw [List.getElem?_map] at hdr
        obtain ⟨pr, hpr, rfl⟩ := Option.map_eq_some_iff.mp hdr
        have hpm : pr ∈ s.on := List.mem_of_mem_take (List.mem_of_getElem? hpr)
        obtain ⟨hz9, hzt⟩ := on_zone ho hpm
        have hzn := (tlZ_name hR hzt).1
        have sz1 : SnK 2 (.str pr.2) := s0 (Nat.le_trans (name_len hzn) (by decide))
        have h9 : ∀ y ∈ s9L, y.length ≤ 1000 := by decide +kernel
        refine rd_gpair (d1 := .str pr.1) (d2 := .str pr.2) hxr fun w1 w2 k1 k2 => ?_
        obtain rfl := k1.str'
        obtain rfl := k2.str'
        obtain ⟨dx, hdx, hdi2⟩ := hp2
        have hp2 : Ls G2 p ds2 := ⟨dx, hdx, hdi2⟩
        walk_at "rdn"
        refine rd_seq ?_
        walk_at "rd"
        walk_at "al"
        rename_i q1 G3 _ y3 g3
        have b1 : Im G3 (.ref q1) (.tuple [.str (Str.ofString "on"), .str pr.1, .str pr.2]) := .new3 (.str _ (by decide +kernel)) (k1.x y3) (k2.x y3) g3
        have gd1 : GdD R s (.tuple [.str (Str.ofString "on"), .str pr.1, .str pr.2]) := ⟨bd_on (by rw [show isOnB s (.str pr.1) (.str pr.2) = true from decide_eq_true hpm]; exact Bool.and_false _), t3 (s0 (by decide +kernel)) (s0 (h9 _ hz9)) sz1⟩
        refine rd_nil ?_
        refine pushE (T := T) (Hb := H2) (y2.trans y3) np (hp2.x y3) b1 (by omega) fun G4 y4 y34 m4 hp4 => ?_
        have k2' := (k2.x y3).z y34 m4
        have hsp4 := SqP.z (SqP.x hsp2 y3) y34 m4
        have hsi4 := ImAll.z (hsi2.x y3) y34 m4
        clear hdx hdi2
        obtain ⟨dx4, hdx4, hdi4⟩ := hp4
        have hp4 : Ls G4 p _ := ⟨dx4, hdx4, hdi4⟩
        walk_at "rd"
        walk_at "al"
        rename_i q2 G5 _ y5 g5
        have b2 : Im G5 (.ref q2) (.tuple [.str (Str.ofString "off"), .str (Str.ofString "zzz0"), .str pr.2]) := .new3 (.str _ (by decide +kernel)) (.str _ (by decide +kernel)) (k2'.x y5) g5
        have gd2 : GdD R s (.tuple [.str (Str.ofString "off"), .str (Str.ofString "zzz0"), .str pr.2]) := ⟨bd_off (off_w ho), t3 (s0 (by decide +kernel)) (s0 (by decide +kernel)) sz1⟩
        refine rd_nil ?_
        refine pushE (T := T) (Hb := H2) (y4.trans y5) np (hp4.x y5) b2 (by simp only [List.length_append, List.length_cons, List.length_nil]; omega) fun G6 y6 y56 m6 hp6 => ?_
        walk_at "rd"
        refine ⟨y6, SqP.z (SqP.x hsp4 y5) y56 m6, ImAll.z (hsi4.x y5) y56 m6, _, _, _, rfl, hp6, by simp only [List.length_append, List.length_cons, List.length_nil]; omega, fun d hd => ?_⟩
        rcases List.mem_append.mp hd with hd | hd
        · rcases List.mem_append.mp hd with hd | hd
          · exact hdg2 d hd
          · rw [List.mem_singleton.mp hd]
            exact gd1
        · rw [List.mem_singleton.mp hd]
          exact gd2
      · obtain ⟨y2, hsp2, hsi2, ds2, o1, o2, rfl, hp2, hdl2, hdg2⟩ := h
        exact hN _ _ ⟨y2, p, ds2, o1, o2, rfl, np, hp2, by omega, by omega, hdg2⟩
    obtain ⟨e4, p, ds, o1, o2, rfl, np, hp, hd1, hd2, hdg⟩ := h
    walk_at "rd"
    exact q p ds H4 hp (by omega) hd2 hdg (T2.ne np).1 ((e1.trans e2.any).trans e4.any) (T2.ext e4)
def spRefusedD (T : List (Addr × Str)) : Sp := fun vs H Q _ => ∃ (v u y : V) (R : Rm) (s : Sta) (d : PyData), vs = [v, u, y] ∧ Im H v (rmD R) ∧ RmIn R ∧ StAt H u s ∧ Im H y d ∧ Sm d ∧ d.depth ≤ 40 ∧ s.its.length ≤ 100 ∧ s.on.length ≤ 500 ∧ deedB R s d = false ∧ ∀ H', Ext T [] H H' → Q (.bl true) H'
theorem ok_law_refused {C fI CN CB : Addr} (D : Def K mg "_law_refused" s_law_refused ["realm", "state", "deed"]) (mb : ∀ x ∈ bltns, mg x = none) (T_NotAllowed : ExcT P K mg "NotAllowed" "word" C fI) (EI : ErrIs K mg C CN CB)
    (G_after : OkX P w K mg base 6 "after" ["realm", "state", "deed"] (spAfterX T C)) : Ok P w K mg base 7 "_law_refused" ["realm", "state", "deed"] (spRefusedD T) := by
  have gC_NeverdarkError := EI.gN
  have gC_BadText := EI.gB
  refine D.ok sc_law_refused (fun vs H Q E h => ?_) (fun cdv f A outer s H vs Q E hr h => ?_)
  · obtain ⟨v, u, y, R, s, d, rfl, _⟩ := h
    rfl
  · obtain ⟨v, u, y, R, s, d, rfl, hv, hR, hu, hy, hs, hd, hil, hol, hb, q⟩ := h
    refine ⟨_, (pss_cons (ps_try_as (i := 3) rfl rfl sc_law_refused.nd rfl rfl ⟨rfl, by decide, .inl T_NotAllowed.gC⟩ takes0 (fun W pn xe tk _ => (pss_one (ps_expr (pe_callX G_after (hr.mono (by decide)) (by rfl) tk (pa_cons (pv 0) (pa_cons (pv 1) (pa_cons (pv 2) pa_nil))))))) (fun a oe cls d pn hz hf => (pss_one (ps_ret (pe_and (pe_callB (call_isX T_NotAllowed hz hf) (by rfl) (mb _ (by decide)) (by decide +kernel) (pa_cons (pv 3) (pa_cons (pe_cls (by rfl) gC_NeverdarkError) pa_nil))) (pe_and (pe_not (pe_callB (call_isX T_NotAllowed hz hf) (by rfl) (mb _ (by decide)) (by decide +kernel) (pa_cons (pv 3) (pa_cons (pe_cls (by rfl) gC_BadText) pa_nil)))) (pe_one (pe_cmpR (op_eqU K rfl hr.units) (pe_xf T_NotAllowed.xf T_NotAllowed.noN hz hf (pv 3)) pe_str (nomark _)))))))))
   (pss_one (ps_ret pe_bl))), ?_⟩
    refine rd_seq ?_
    walk_at "rd"
    refine rd_callS ?_
    walk_at "rd"
    refine ⟨v, u, y, R, s, d, rfl, hv, hR, hu, hy, hs, hd, hil, hol, fun h => absurd h (by rw [hb]; decide), fun _ c H1 e1 nd => ?_⟩
    refine ⟨true, T_NotAllowed.te, fun _ a na => ?_, fun h => nomatch h⟩
    have e2 : Ext T [] H1 (upd H1 c (.xd [(wordS, .str "deed")])) := .new nd
    have hd : (upd H1 c (.xd [(wordS, .str "deed")])) c = some (.xd [(wordS, .str "deed")]) := upd_same
    generalize upd H1 c (.xd [(wordS, .str "deed")]) = H2 at e2 hd ⊢
    walk_at "rd"
    refine ⟨.ref CN, .ref CN, true, c, _, rfl, rfl, rfl, hd, (fun u r => r), EI.kN, ?_⟩
    walk_at "rd"
    refine ⟨.ref CB, .ref CB, false, c, _, rfl, rfl, rfl, hd, (fun u r => r), EI.kB, ?_⟩
    walk_at "rd"
    refine rd_xf ?_
    walk_at "rd"
    refine ⟨rfl, rfl, c, _, .str "deed", rfl, hd, rfl, ?_⟩
    walk_at "rd"
    rw [decide_eq_true rfl]
    exact q _ (e1.trans e2)
end
theorem pl_in {pl : List (Int × Dd)} {R : Rm} (hR : RmIn R) (h : ∀ p ∈ pl, DdOk R p.2) : ∀ d ∈ pl.map plD, SnK 4 d := fun d hd => by
  obtain ⟨p, hp, rfl⟩ := List.mem_map.mp hd
  exact pl_sn hR (h p hp)
def GdP (R : Rm) (s : Sta) (pl : List (Int × Dd)) (d : PyData) : Prop := (planB R s d = false ∨ pl = []) ∧ SnK 8 d
theorem plast {pl : List (Int × Dd)} (h : pl ≠ []) : plD (pl.getLast h) ∈ pl.map plD := List.mem_map_of_mem (List.getLast_mem h)
section
variable {T : List (Addr × Str)} {P : Program} {w : World} {K : PySem.W.Frag} {mg : Str → Option Value} {base : Heap}
local macro_rules | `(tactic| walk_at "tr") => `(tactic| first
  | assumption
  | exact Ext.refl
  | ((with_reducible refine' Im.x (T := T) (H := ?trH) ?tra ?tre); (case tre => assumption); (case tra => walk_at "tr"))
  | ((with_reducible refine' Im.y (T := T) (H := ?trH) ?tra ?tre ?trt); (case tre => assumption); (case trt => walk_at "tr"); (case tra => walk_at "tr"))
  | ((with_reducible refine' ImAll.x (T := T) (H := ?trH) ?tra ?tre); (case tre => assumption); (case tra => walk_at "tr"))
  | ((with_reducible refine' ImAll.y (T := T) (H := ?trH) ?tra ?tre ?trt); (case tre => assumption); (case trt => walk_at "tr"); (case tra => walk_at "tr"))
  | ((with_reducible refine' Ls.x (T := T) (H := ?trH) ?tra ?tre); (case tre => assumption); (case tra => walk_at "tr"))
  | ((with_reducible refine' Ls.y (T := T) (H := ?trH) ?tra ?tre ?trn ?trt); (case tre => assumption); (case trt => walk_at "tr"); (case trn => walk_at "tr"); (case tra => walk_at "tr"))
  | ((with_reducible refine' SqP.x (T := T) (H := ?trH) ?tra ?tre); (case tre => assumption); (case tra => walk_at "tr"))
  | ((with_reducible refine' SqP.y (T := T) (H := ?trH) ?tra ?tre ?trt); (case tre => assumption); (case trt => walk_at "tr"); (case tra => walk_at "tr"))
  | ((with_reducible refine' StAt.x (T := T) (H := ?trH) ?tra ?tre); (case tre => assumption); (case tra => walk_at "tr"))
  | ((with_reducible refine' StAt.y (T := T) (H := ?trH) ?tra ?tre ?trt); (case tre => assumption); (case trt => walk_at "tr"); (case tra => walk_at "tr"))
  | ((with_reducible refine' Pools.ext0 (T := T) (H := ?trH) ?tra ?tre); (case tre => assumption); (case tra => walk_at "tr"))
  | ((with_reducible refine' Pools.ext (T := T) (H := ?trH) ?tra ?tre ?trt); (case tre => assumption); (case trt => walk_at "tr"); (case tra => walk_at "tr"))
  | ((with_reducible refine' CL.x (T := T) (H := ?trH) ?tra ?tre); (case tre => assumption); (case tra => walk_at "tr"))
  | ((with_reducible refine' CL.y (T := T) (H := ?trH) ?tra ?tre); (case tre => assumption); (case tra => walk_at "tr"))
  | ((with_reducible refine' Tape.ext (T := T) (H := ?trH) ?tra ?tre); (case tre => assumption); (case tra => walk_at "tr"))
  | ((with_reducible refine' lst.x (T := T) (H := ?trH) ?tra ?tre); (case tre => assumption); (case tra => walk_at "tr"))
  | ((with_reducible refine' lst.y (T := T) (H := ?trH) ?tra ?tre ?trn); (case tre => assumption); (case trn => walk_at "tr"); (case tra => walk_at "tr"))
  | ((with_reducible refine' tup.x (T := T) (H := ?trH) ?tra ?tre); (case tre => assumption); (case tra => walk_at "tr"))
  | ((with_reducible refine' tup.y (T := T) (H := ?trH) ?tra ?tre ?trt); (case tre => assumption); (case trt => walk_at "tr"); (case tra => walk_at "tr"))
  | ((with_reducible refine' frz.x (T := T) (H := ?trH) ?tra ?tre); (case tre => assumption); (case tra => walk_at "tr"))
  | ((with_reducible refine' frz.y (T := T) (H := ?trH) ?tra ?tre ?trt); (case tre => assumption); (case trt => walk_at "tr"); (case tra => walk_at "tr"))
  | ((with_reducible refine' Im.z (T := T) (H := ?trH) ?tra ?tre ?trt); (case tre => assumption); (case trt => assumption); (case tra => walk_at "tr"))
  | ((with_reducible refine' ImAll.z (T := T) (H := ?trH) ?tra ?tre ?trt); (case tre => assumption); (case trt => assumption); (case tra => walk_at "tr"))
  | ((with_reducible refine' StAt.z (T := T) (H := ?trH) ?tra ?tre ?trt); (case tre => assumption); (case trt => assumption); (case tra => walk_at "tr"))
  | ((with_reducible refine' SqP.z (T := T) (H := ?trH) ?tra ?tre ?trt); (case tre => assumption); (case trt => assumption); (case tra => walk_at "tr"))
  | ((with_reducible refine' tup.z (T := T) (H := ?trH) ?tra ?tre ?trt); (case tre => assumption); (case trt => assumption); (case tra => walk_at "tr"))
  | ((with_reducible refine' Ls.z (T := T) (H := ?trH) ?tra ?tre ?trt ?trn); (case tre => assumption); (case trt => assumption); (case trn => assumption); (case tra => walk_at "tr"))
  | ((with_reducible refine' lst.z (T := T) (H := ?trH) ?tra ?tre ?trn); (case tre => assumption); (case trn => assumption); (case tra => walk_at "tr"))
  | ((with_reducible refine' CL.z (T := T) (H := ?trH) ?tra ?tre ?trn); (case tre => assumption); (case trn => assumption); (case tra => walk_at "tr"))
  | ((with_reducible refine' Tape.ne1 (H := ?trH) ?trt ?trn); (case trn => assumption); (case trt => walk_at "tr"))
  | ((with_reducible refine' Ext.trans (H1 := ?trH) ?tra (Ext.any ?tre)); (case tre => assumption); (case tra => walk_at "tr"))
  | ((with_reducible refine' Ext.trans (H1 := ?trH) ?tra ?tre); (case tre => assumption); (case tra => walk_at "tr"))
  | ((with_reducible refine' Ext.back1 (T := T) (H1 := ?trH) ?tre ?trn ?tra); (case tra => assumption); (case trn => walk_at "tr"); (case tre => walk_at "tr"))
  | ((with_reducible refine' Ext.back0 (T := T) (H1 := ?trH) ?tre ?tra); (case tra => assumption); (case tre => walk_at "tr"))
  | ((with_reducible refine' SqT.of ?tra); (case tra => walk_at "tr"))
  | ((with_reducible refine' SqL.of ?tra); (case tra => walk_at "tr")))
local macro_rules | `(tactic| walk_at "al") => `(tactic| (refine ⟨by first | (show _ ≤ sizeLine; decide) | walk_at "sz", ?_⟩; intro alp aln; generalize alG : upd _ alp _ = alH; obtain ⟨aln2, alx, alh⟩ := al_of (T := T) aln alG; clear alG aln))
local macro_rules | `(tactic| walk_at "al0") => `(tactic| (intro alp aln; generalize alG : upd _ alp _ = alH; obtain ⟨aln2, alx, alh⟩ := al_of (T := T) aln alG; clear alG aln))
theorem rd_catE2 {H : Hp} {Q : VK} {u v : V} {ds es : List PyData} (h1 : Im H u (.tuple ds)) (h2 : Im H v (.tuple es)) (n2 : ds ≠ [] → es ≠ []) (c : ds.length + es.length ≤ 1000) (q : ∀ y H', Ext T [] H H' → Im H' y (.tuple (ds ++ es)) → Q y H') : rPlus K u v H Q := by
  by_cases n1 : ds = []
  · subst n1
    obtain ⟨a, xs, rfl, ha, hi⟩ := h1.tup'
    obtain ⟨b, ys, rfl, hb, hj⟩ := (h2 : Im H v (.tuple es)).tup'
    cases hi
    exact .inr (.inr (.inr (.inr ⟨a, b, ys, rfl, rfl, SqP.sq ha, SqP.sq hb, q _ H .refl h2⟩)))
  · exact rd_catII (T := T) h1 h2 n1 (n2 n1) c q
theorem rd_catN {H : Hp} {Q : VK} {u v : V} {ds : List PyData} (h1 : Im H u (.tuple ds)) (h2 : Im H v (.tuple [])) (n1 : ds ≠ []) (c : ds.length ≤ 1000) (q : ∀ y H', Ext T [] H H' → Im H' y (.tuple ds) → Q y H') : rPlus K u v H Q := by
  have h1' := h1
  obtain ⟨a, xs, rfl, ha, hi⟩ := h1.tup'
  obtain ⟨b, ys, rfl, hb, hj⟩ := h2.tup'
  cases hj
  have hl := hi.len
  have hs : xs ≠ [] := fun e => n1 (by
    rw [e] at hl
    exact List.length_eq_zero_iff.mp hl.symm)
  exact .inr (.inr (.inr (.inl ⟨a, b, xs, [], rfl, rfl, SqP.sq ha, SqP.sq hb, hs, Nat.le_trans (show xs.length + 0 ≤ 1000 by omega) (by decide), fun _ => q _ H .refl h1', fun h => absurd rfl h⟩)))
theorem rd_neB {b : Bool} {H : Hp} {Q : VK} (q : Q (.bl false) H) : rNeU K (.bl b) (.bl b) H Q := rd_neS rfl (by rw [decide_eq_true rfl]; exact q)
def spLaw (T : List (Addr × Str)) (K : PySem.W.Frag) : Sp := fun vs H Q _ => ∃ (a : Addr) (ns : List Int), vs = [.ref a] ∧ SqL K H a (ns.map V.int) ∧ ns.length ≤ 63 ∧ ∀ H', Q (.bl true) H'
theorem ok_law {f C : Addr} {fd : FuncData} (F : Fun K "law" "law" s_law f fd) (mb : ∀ x ∈ bltns, mg x = none)
    (G_law_tape : Ok P w K mg base 1 "_law_tape" ["script", "budget"] (spTape T K)) (G_law_take : Ok P w K mg base 2 "_law_take" ["tape", "many"] (spTake T)) (G_law_realm : Ok P w K mg base 7 "_law_realm" ["tape", "most"] (spRealm T))
    (G_law_pools : Ok P w K mg base 5 "_law_pools" ["tape", "realm"] (spPools T)) (G_law_start : Ok P w K mg base 6 "_law_start" ["tape", "realm", "pools"] (spStartF T)) (G_law_bent_start : Ok P w K mg base 6 "_law_bent_start" ["tape", "realm", "pools", "state"] (spBent T))
    (G_is_state : Ok P w K mg base 6 "is_state" ["realm", "value"] (spRD T stateB)) (G_law_bad_state : Ok P w K mg base 3 "_law_bad_state" ["tape", "state"] (spBadS T)) (G_law_bad_deeds : Ok P w K mg base 3 "_law_bad_deeds" ["tape", "realm", "state"] (spBadD T))
    (G_is_deed : Ok P w K mg base 5 "is_deed" ["realm", "state", "value"] (spDeedB T)) (G_law_refused : Ok P w K mg base 7 "_law_refused" ["realm", "state", "deed"] (spRefusedD T)) (G_law_deeds : Ok P w K mg base 7 "_law_deeds" ["tape", "realm", "pools", "state", "many"] (spDeeds T))
    (G_law_timed : Ok P w K mg base 3 "_law_timed" ["tape", "deeds", "wide"] (spTimed T)) (G_is_plan : Ok P w K mg base 6 "is_plan" ["realm", "state", "value"] (spPlanB T)) (G_after : Ok P w K mg base 6 "after" ["realm", "state", "deed"] (sp0 (spAfterX T C))) (G_law_after : Ok P w K mg base 1 "_law_after" ["state", "deed"] (spAfter T))
    (G_state_at : Ok P w K mg base 2 "state_at" ["realm", "state", "plan", "moment"] (spStateAt T)) (G_item_of : Ok P w K mg base 1 "item_of" ["state", "slot"] (spItemOf T)) (G_is_on : Ok P w K mg base 1 "is_on" ["state", "server", "zone"] (spIsOnD T)) : FnOk P w K mg base CX0 9 f fd ["script"] (spLaw T K) := by
  refine F.ok sc_law (fun vs H Q E h => ?_) (fun cdv A outer s H vs Q E hr h => ?_)
  · obtain ⟨a, ns, rfl, _⟩ := h
    rfl
  · obtain ⟨a, ns, rfl, ha, hl, q⟩ := h
    refine ⟨_, (pss_cons (ps_set (i := 1) sc_law.nd rfl (.inl rfl) (pe_callO G_law_tape (hr.mono (by decide)) (by rfl) (pa_cons (pv 0) (pa_cons pe_int pa_nil))))
   (pss_cons (ps_set (i := 2) sc_law.nd rfl (.inl rfl) (pe_callO G_law_realm (hr.mono (by decide)) (by rfl) (pa_cons (pv 1) (pa_cons pe_int pa_nil))))
   (pss_cons (ps_set (i := 3) sc_law.nd rfl (.inl rfl) (pe_callO G_law_pools (hr.mono (by decide)) (by rfl) (pa_cons (pv 1) (pa_cons (pv 2) pa_nil))))
   (pss_cons (ps_set (i := 4) sc_law.nd rfl (.inr rfl) (pe_callO G_law_start (hr.mono (by decide)) (by rfl) (pa_cons (pv 1) (pa_cons (pv 2) (pa_cons (pv 3) pa_nil)))))
   (pss_cons (ps_set (i := 4) sc_law.nd rfl (.inr rfl) (pe_callO G_law_bent_start (hr.mono (by decide)) (by rfl) (pa_cons (pv 1) (pa_cons (pv 2) (pa_cons (pv 3) (pa_cons (pv 4) pa_nil))))))
   (pss_cons (ps_if (PW.pt (pw_or (pt_cmpR op_isnotU (pe_callO G_is_state (hr.mono (by decide)) (by rfl) (pa_cons (pv 2) (pa_cons (pv 4) pa_nil))) pe_bl (nomark _)) (pw_or1 (pt_cmpR op_isnotU (pe_callO G_is_state (hr.mono (by decide)) (by rfl) (pa_cons (pv 2) (pa_cons (pe_callO G_law_bad_state (hr.mono (by decide)) (by rfl) (pa_cons (pv 1) (pa_cons (pv 4) pa_nil))) pa_nil))) pe_bl (nomark _))))) (pss_one (ps_ret pe_bl)) pss_nil)
   (pss_cons (ps_set (i := 5) sc_law.nd rfl (.inl rfl) (pe_callO G_law_bad_deeds (hr.mono (by decide)) (by rfl) (pa_cons (pv 1) (pa_cons (pv 2) (pa_cons (pv 4) pa_nil)))))
   (pss_cons (ps_set (i := 6) sc_law.nd rfl (.inl rfl) (pe_ix (ix_U K rfl) (pv 5) (pe_callO G_law_take (hr.mono (by decide)) (by rfl) (pa_cons (pv 1) (pa_cons (pe_callB (call_lenU K rfl) (by rfl) (mb _ (by decide)) (by decide +kernel) (pa_cons (pv 5) pa_nil)) pa_nil))) (fun _ _ => rfl)))
   (pss_cons (ps_if (PW.pt (pw_or (pt_cmpR op_isnotU (pe_callO G_is_deed (hr.mono (by decide)) (by rfl) (pa_cons (pv 2) (pa_cons (pv 4) (pa_cons (pv 6) pa_nil)))) pe_bl (nomark _)) (pw_or1 (pt_not (pt_E (pe_callO G_law_refused (hr.mono (by decide)) (by rfl) (pa_cons (pv 2) (pa_cons (pv 4) (pa_cons (pv 6) pa_nil))))))))) (pss_one (ps_ret pe_bl)) pss_nil)
   (pss_cons (ps_set (i := 7) sc_law.nd rfl (.inl rfl) (pe_callO G_law_deeds (hr.mono (by decide)) (by rfl) (pa_cons (pv 1) (pa_cons (pv 2) (pa_cons (pv 3) (pa_cons (pv 4) (pa_cons (pe_callO G_law_take (hr.mono (by decide)) (by rfl) (pa_cons (pv 1) (pa_cons pe_int pa_nil))) pa_nil)))))))
   (pss_cons (ps_set (i := 8) sc_law.nd rfl (.inl rfl) (pe_callO G_law_timed (hr.mono (by decide)) (by rfl) (pa_cons (pv 1) (pa_cons (pv 7) (pa_cons (pe_callO G_law_take (hr.mono (by decide)) (by rfl) (pa_cons (pv 1) (pa_cons pe_int pa_nil))) pa_nil)))))
   (pss_cons (ps_if (pt_cmpR op_isnotU (pe_callO G_is_plan (hr.mono (by decide)) (by rfl) (pa_cons (pv 2) (pa_cons (pv 4) (pa_cons (pv 8) pa_nil)))) pe_bl (nomark _)) (pss_one (ps_ret pe_bl)) pss_nil)
   (pss_cons (ps_set (i := 9) sc_law.nd rfl (.inl rfl) (pv 4))
   (pss_cons (ps_set (i := 10) sc_law.nd rfl (.inl rfl) (pe_lst (pa_cons (pe_tup (pa_cons pe_int (pa_cons (pv 4) pa_nil))) pa_nil)))
   (pss_cons (ps_for PassesOwn.never rfl (pi_seq K rfl (pv 8)) (pg_tupU (n := 2) K rfl rfl (pgs_cons (pg_name (i := 11) sc_law.nd rfl (.inr rfl)) (pgs_cons (pg_name (i := 6) sc_law.nd rfl (.inl rfl)) pgs_nil))) (pss_cons (ps_if (PW.pt (pw_or (pt_cmpR op_isnotU (pe_callO G_is_deed (hr.mono (by decide)) (by rfl) (pa_cons (pv 2) (pa_cons (pv 9) (pa_cons (pv 6) pa_nil)))) pe_bl (nomark _)) (pw_or1 (pt_cmpR (op_neU K rfl hr.units) (pe_callO G_after (hr.mono (by decide)) (by rfl) (pa_cons (pv 2) (pa_cons (pv 9) (pa_cons (pv 6) pa_nil)))) (pe_callO G_law_after (hr.mono (by decide)) (by rfl) (pa_cons (pv 9) (pa_cons (pv 6) pa_nil))) (nomark _))))) (pss_one (ps_ret pe_bl)) pss_nil)
   (pss_cons (ps_set (i := 9) sc_law.nd rfl (.inl rfl) (pe_callO G_law_after (hr.mono (by decide)) (by rfl) (pa_cons (pv 9) (pa_cons (pv 6) pa_nil))))
   (pss_one (ps_expr (pe_bm PySem.F.plainAttrs_list PySem.F.slot_list_append PySem.F.type_list_append mt_append (pv 10) (pa_cons (pe_tup (pa_cons (pv 11) (pa_cons (pv 9) pa_nil))) pa_nil)))))))
   (pss_cons (ps_for PassesOwn.never rfl (pi_range1 (by rfl) (mb _ (by decide)) (pa_cons (pe_callB (call_lenU K rfl) (by rfl) (mb _ (by decide)) (by decide +kernel) (pa_cons (pv 10) pa_nil)) pa_nil)) (pg_name (i := 12) sc_law.nd rfl (.inl rfl)) (pss_one (ps_for PassesOwn.never rfl (pi_seq K rfl (pe_lst (pa_cons (pe_ix (ix_U K rfl) (pe_ix (ix_U K rfl) (pv 10) (pv 12) (fun _ _ => rfl)) pe_int (fun _ _ => rfl)) (pa_cons (pe_op op_sub (pe_ix (ix_U K rfl) (pe_ix (ix_U K rfl) (pv 10) (pv 12) (fun _ _ => rfl)) pe_int (fun _ _ => rfl)) pe_int) (pa_cons (pe_op (op_plus K rfl) (pe_ix (ix_U K rfl) (pe_ix (ix_U K rfl) (pv 10) (pv 12) (fun _ _ => rfl)) pe_int (fun _ _ => rfl)) pe_int) (pa_cons (pe_un un_neg pe_int) (pa_cons pe_int pa_nil))))))) (pg_name (i := 11) sc_law.nd rfl (.inr rfl)) (pss_cons (ps_set (i := 13) sc_law.nd rfl (.inl rfl) (pe_ix (ix_U K rfl) (pe_lc (own := [("row", 22)]) (g := gName 22) rfl sc_law.nd (pi_seq K rfl (pv 10)) (blkOk_by (N := N_law) (sc := defScope s_law) (by decide +kernel)) (fun _ _ _ _ _ => (pg_name (i := 22) sc_law.nd rfl (Or.inl rfl))) (fun _ _ _ _ _ => (pts_one (pt_cmpR op_le (pe_ix (ix_U K rfl) (pv 22) pe_int (fun _ _ => rfl)) (pe_callB (call_max2 rfl) (by rfl) (mb _ (by decide)) (by decide +kernel) (pa_cons pe_int (pa_cons (pv 11) pa_nil))) (nomark _)))) (fun _ _ _ _ _ => (pe_ix (ix_U K rfl) (pv 22) pe_int (fun _ _ => rfl)))) (pe_un un_neg pe_int) (fun _ _ => rfl)))
   (pss_one (ps_if (pt_cmpR (op_neU K rfl hr.units) (pe_callO G_state_at (hr.mono (by decide)) (by rfl) (pa_cons (pv 2) (pa_cons (pv 4) (pa_cons (pv 8) (pa_cons (pv 11) pa_nil))))) (pv 13) (nomark _)) (pss_one (ps_ret pe_bl)) pss_nil))))))
   (pss_cons (ps_for PassesOwn.never rfl (pi_seq K rfl (pe_ix (ix_U K rfl) (pv 9) pe_int (fun _ _ => rfl))) (pg_tupU (n := 2) K rfl rfl (pgs_cons (pg_name (i := 14) sc_law.nd rfl (.inl rfl)) (pgs_cons (pg_name (i := 15) sc_law.nd rfl (.inl rfl)) pgs_nil))) (pss_one (ps_if (pt_cmpR (op_neU K rfl hr.units) (pe_callO G_item_of (hr.mono (by decide)) (by rfl) (pa_cons (pv 9) (pa_cons (pv 14) pa_nil))) (pv 15) (nomark _)) (pss_one (ps_ret pe_bl)) pss_nil)))
   (pss_cons (ps_for PassesOwn.never rfl (pi_seq K rfl (pe_slice (sl_U2 K rfl) (pe_ix (ix_U K rfl) (pv 2) pe_int (fun _ _ => rfl)) (po_some pe_int) po_none)) (pg_tupU (n := 2) K rfl rfl (pgs_cons (pg_name (i := 16) sc_law.nd rfl (.inl rfl)) (pgs_cons (pg_name (i := 17) sc_law.nd rfl (.inl rfl)) pgs_nil))) (pss_one (ps_for PassesOwn.never rfl (pi_seq K rfl (pe_lst (pa_cons pe_str (pa_cons pe_str (pa_cons pe_str (pa_cons pe_str (pa_cons pe_str pa_nil))))))) (pg_name (i := 18) sc_law.nd rfl (.inl rfl)) (pss_cons (ps_set (i := 19) sc_law.nd rfl (.inl rfl) (pe_callO G_is_on (hr.mono (by decide)) (by rfl) (pa_cons (pv 9) (pa_cons (pv 18) (pa_cons (pv 16) pa_nil)))))
   (pss_one (ps_if (PW.pt (pw_or (pt_not (pt_E (pe_callB (call_isiU K rfl) (by rfl) (mb _ (by decide)) (by decide +kernel) (pa_cons (pv 19) (pa_cons (pe_bltn (v := .ty "bool") (u := .type "bool") (by rfl) (mb _ (by decide)) (by decide +kernel) rfl) pa_nil))))) (pw_or1 (pt_cmpR (op_neU K rfl hr.units) (pv 19) (pe_cmpR (op_inW K rfl (Room.units65 hr)) (pe_tup (pa_cons (pv 18) (pa_cons (pv 16) pa_nil))) (pe_ix (ix_U K rfl) (pv 9) pe_int (fun _ _ => rfl)) rfl) (nomark _))))) (pss_one (ps_ret pe_bl)) pss_nil))))))
   (pss_cons (ps_set (i := 20) sc_law.nd rfl (.inl rfl) (pe_lst (pa_cons (pe_op (op_plus K rfl) (pv 8) (pe_slice (sl_U2 K rfl) (pv 8) (po_some (pe_un un_neg pe_int)) po_none)) (pa_cons (pe_op (op_plus K rfl) (pv 8) (pe_tup (pa_cons (pe_tup (pa_cons pe_int (pa_cons (pe_tup (pa_cons pe_str (pa_cons pe_str (pa_cons pe_str pa_nil)))) pa_nil))) pa_nil))) (pa_cons (pe_op (op_plus K rfl) (pv 8) (pe_tup (pa_cons (pe_tup (pa_cons pe_int pa_nil)) pa_nil))) (pa_cons (pe_op (op_plus K rfl) (pv 8) (pe_tup (pa_cons pe_int pa_nil))) (pa_cons pe_int pa_nil)))))))
   (pss_cons (ps_if (pt_cmpR op_gt (pe_callB (call_lenU K rfl) (by rfl) (mb _ (by decide)) (by decide +kernel) (pa_cons (pv 8) pa_nil)) pe_int (nomark _)) (pss_one (ps_set (i := 20) sc_law.nd rfl (.inl rfl) (pe_op (op_plus K rfl) (pv 20) (pe_lst (pa_cons (pe_op (op_plus K rfl) (pe_tup (pa_cons (pe_tup (pa_cons pe_int (pa_cons (pe_ix (ix_U K rfl) (pe_ix (ix_U K rfl) (pv 8) pe_int (fun _ _ => rfl)) pe_int (fun _ _ => rfl)) pa_nil))) pa_nil)) (pe_slice (sl_U2 K rfl) (pv 8) (po_some pe_int) po_none)) (pa_cons (pe_op (op_plus K rfl) (pv 8) (pe_tup (pa_cons (pe_tup (pa_cons (pe_ix (ix_U K rfl) (pe_ix (ix_U K rfl) (pv 8) (pe_un un_neg pe_int) (fun _ _ => rfl)) pe_int (fun _ _ => rfl)) (pa_cons (pe_ix (ix_U K rfl) (pe_ix (ix_U K rfl) (pv 8) pe_int (fun _ _ => rfl)) pe_int (fun _ _ => rfl)) pa_nil))) pa_nil))) pa_nil)))))) pss_nil)
   (pss_cons (ps_if (pt_cmpR op_gt (pe_callB (call_lenU K rfl) (by rfl) (mb _ (by decide)) (by decide +kernel) (pa_cons (pv 8) pa_nil)) pe_int (nomark _)) (pss_one (ps_expr (pe_bm PySem.F.plainAttrs_list PySem.F.slot_list_append PySem.F.type_list_append mt_append (pv 20) (pa_cons (pe_tup (pa_cons (pe_ix (ix_U K rfl) (pv 8) pe_int (fun _ _ => rfl)) (pa_cons (pe_ix (ix_U K rfl) (pv 8) pe_int (fun _ _ => rfl)) pa_nil))) pa_nil)))) pss_nil)
   (pss_cons (ps_set (i := 19) sc_law.nd rfl (.inl rfl) (pe_callO G_is_plan (hr.mono (by decide)) (by rfl) (pa_cons (pv 2) (pa_cons (pv 4) (pa_cons (pe_ix (ix_U K rfl) (pv 20) (pe_callO G_law_take (hr.mono (by decide)) (by rfl) (pa_cons (pv 1) (pa_cons (pe_callB (call_lenU K rfl) (by rfl) (mb _ (by decide)) (by decide +kernel) (pa_cons (pv 20) pa_nil)) pa_nil))) (fun _ _ => rfl)) pa_nil)))))
   (pss_cons (ps_set (i := 21) sc_law.nd rfl (.inl rfl) (pe_callTy (call_tupU K rfl) (by rfl) (mb _ (by decide)) (by decide +kernel) (pa_cons (pe_lc (own := [("k", 12)]) (g := gName 12) (tt := tYes) rfl sc_law.nd (pi_range1 (by rfl) (mb _ (by decide)) (pa_cons pe_int pa_nil)) (blkOk_by (N := N_law) (sc := defScope s_law) (by decide +kernel)) (fun _ _ _ _ _ => (pg_name (i := 12) sc_law.nd rfl (Or.inl rfl))) (fun _ _ _ _ _ => pts_nil) (fun _ _ _ _ _ => (pe_tup (pa_cons (pe_op (op_plus K rfl) (pv 12) pe_int) (pa_cons (pe_tup (pa_cons pe_str (pa_cons (pe_ix (ix_U K rfl) (pe_ix (ix_U K rfl) (pe_ix (ix_U K rfl) (pv 4) pe_int (fun _ _ => rfl)) pe_int (fun _ _ => rfl)) pe_int (fun _ _ => rfl)) (pa_cons (pe_ix (ix_U K rfl) (pe_ix (ix_U K rfl) (pe_ix (ix_U K rfl) (pv 4) pe_int (fun _ _ => rfl)) pe_int (fun _ _ => rfl)) pe_int (fun _ _ => rfl)) pa_nil)))) pa_nil))))) pa_nil)))
   (pss_cons (ps_if (PW.pt (pw_or (pt_cmpR op_isnotU (pe_callO G_is_plan (hr.mono (by decide)) (by rfl) (pa_cons (pv 2) (pa_cons (pv 4) (pa_cons (pv 21) pa_nil)))) pe_bl (nomark _)) (pw_or1 (pt_cmpR op_isnotU (pe_callO G_is_plan (hr.mono (by decide)) (by rfl) (pa_cons (pv 2) (pa_cons (pv 4) (pa_cons (pe_slice (sl_U2 K rfl) (pv 21) po_none (po_some pe_int)) pa_nil)))) pe_bl (nomark _))))) (pss_one (ps_ret pe_bl)) pss_nil)
   (pss_one (ps_ret (pe_or (pe_cmpR op_isU (pv 19) pe_bl (nomark _)) (pe_one (pe_and (pe_cmpR (op_eqU K rfl hr.units) (pe_callB (call_lenU K rfl) (by rfl) (mb _ (by decide)) (by decide +kernel) (pa_cons (pv 8) pa_nil)) pe_int (nomark _)) (pe_one (pe_cmpR op_isU (pv 19) pe_bl (nomark _)))))))))))))))))))))))))))))))), ?_⟩
    walk_at "rdn"
    refine rd_seq ?_
    walk_at "rdn"
    refine ⟨a, ns, 0, rfl, ha, hl, fun t l H1 nt e1 T1 => ?_⟩
    walk_at "rdn"
    refine rd_seq ?_
    walk_at "rdn"
    refine ⟨l, t, 4, rfl, by decide, by decide, T1, fun v R H2 hRo hF hv e2 T2 => ?_⟩
    have hR := hRo.rin (by decide)
    walk_at "rdn"
    refine rd_seq ?_
    walk_at "rdn"
    refine ⟨l, t, v, R, rfl, T2, hv, hR, fun pa ps H3 npa hP hps e3 T3 => ?_⟩
    walk_at "rdn"
    refine rd_seq ?_
    walk_at "rdn"
    refine ⟨l, t, pa, v, R, ps, rfl, T3, hv.y e3 T2, hR, hP, hps, fun u0 s0 H4 hs0 hsl0 hsv0 ho0 hon0 hu0 e4 T4 => ?_⟩
    have hv4 := (hv.y e3 T2).y e4 T3
    have hP4 := hP.ext e4 T3
    walk_at "rdn"
    refine rd_seq ?_
    walk_at "rdn"
    refine ⟨l, t, pa, v, u0, R, ps, s0, rfl, T4, hv4, hR, hP4, hps, hu0, hs0, by omega, fun u s H5 hs _ _ hon hu e5 T5 => ?_⟩
    have ho : OnR R s := by
      obtain ⟨on0, h1, h2⟩ := ho0
      exact ⟨on0, by rw [hon]; exact h1, h2⟩
    have hon50 : s.on.length ≤ 50 := by rw [hon]; omega
    have hv5 := hv4.y e5 T4
    have hP5 := hP4.ext e5 T4
    clear ha nt npa hF hv hP hv4 hP4 hu0 e1 e2 e3 e4 e5 T1 T2 T3 T4 hsl0 hsv0 ho0 hs0 hon
    have hil := its_len hs
    have hip := its_pos (R := R)
    have hi30 := sl30 hR
    have his := I0_sn hR hs
    have hos := O0_sn hR ho (by omega)
    have hst : SnK 5 (stD s) := snk2 (k := 4) his (snk_up hos (by decide)) (by decide)
    walk_at "rdn"
    refine rd_seqK (fun σ H' => Ext T [t] H5 H' ∧ Tape l H' t ∧ σ = [some (.ref a), some (.ref t), some v, some (.ref pa), some u, none, none, none, none, none, none, none, none, none, none, none, none, none, none, none, none, none, none]) (fun N hN => ?_) (fun σ H6 h => ?_)
    · walk_at "rd"
      refine ⟨v, u, R, stD s, rfl, hv5, hR, hu.im, hst.1, Nat.le_trans hst.2 (by decide), fun H6 e6 => ?_⟩
      rw [st_ok hs ho]
      refine rd_isnBl ?_
      refine ⟨_, rfl, ?_⟩
      walk_at "rd"
      refine rd_itn (fun _ => ?_) (fun h => absurd rfl h)
      walk_at "rd"
      refine ⟨l, t, u, R, s, rfl, T5.ext e6, hu.x e6, hR, hs, ho, hon50, fun y d H7 hd hdf hy e7 T7 => ?_⟩
      walk_at "rd"
      refine ⟨v, y, R, d, rfl, (hv5.x e6).y e7 (T5.ext e6), hR, hy, hd.1, Nat.le_trans hd.2 (by decide), fun H8 e8 => ?_⟩
      rw [hdf]
      refine rd_isnBl ?_
      walk_at "rd"
      refine rd_itn (fun _ => ?_) (fun h => absurd rfl h)
      walk_at "rd"
      exact hN _ _ ⟨(e6.any.trans e7).trans e8.any, T7.ext e8, rfl⟩
    obtain ⟨e6, T6, rfl⟩ := h
    have hv6 := hv5.y e6 T5
    have hu6 := hu.y e6 T5
    have hP6 := hP5.ext e6 T5
    clear hv5 hu hP5 e6 T5
    walk_at "rdn"
    refine rd_seqK (fun σ H' => Ext T [t] H6 H' ∧ Tape l H' t ∧ ∃ (p : Addr) (ds : List PyData), σ = [some (.ref a), some (.ref t), some v, some (.ref pa), some u, some (.ref p), none, none, none, none, none, none, none, none, none, none, none, none, none, none, none, none, none] ∧ Ls H' p ds ∧ 1 ≤ ds.length ∧ ds.length ≤ 15 ∧ (∀ d ∈ ds, GdD R s d) ∧ p ≠ t) (fun N hN => ?_) (fun σ H7 h => ?_)
    · walk_at "rd"
      refine ⟨l, t, v, u, R, s, rfl, T6, hu6, hR, hs, ho, hon50, fun p ds H7 hp h1 h2 h3 hpt e7 T7 => ?_⟩
      walk_at "rd"
      exact hN _ _ ⟨e7, T7, p, ds, rfl, hp, h1, h2, h3, hpt⟩
    obtain ⟨e7, T7, bp, bds, rfl, hbp, hb1, hb2, hbg, hbt⟩ := h
    have hv7 := hv6.y e7 T6
    have hu7 := hu6.y e7 T6
    have hP7 := hP6.ext e7 T6
    clear hv6 hu6 hP6 e7 T6
    walk_at "rdn"
    refine rd_seqK (fun σ H' => Ext T [t] H7 H' ∧ Tape l H' t ∧ ∃ (y : V) (d : PyData), σ = [some (.ref a), some (.ref t), some v, some (.ref pa), some u, some (.ref bp), some y, none, none, none, none, none, none, none, none, none, none, none, none, none, none, none, none] ∧ GdD R s d ∧ Im H' y d) (fun N hN => ?_) (fun σ H8 h => ?_)
    · obtain ⟨bx, hbx, hbi⟩ := hbp
      have hbxl := hbi.len
      walk_at "rd"
      refine ⟨l, t, bx.length, rfl, by omega, by omega, T7, fun d H8 d0 d1 e8 T8 => ?_⟩
      have hdl : d.toNat < bds.length := by omega
      have hat : atI bds d = some (bds[d.toNat]) := by
        obtain ⟨k, rfl⟩ := Int.eq_ofNat_of_zero_le d0
        exact atI_nat (List.getElem?_eq_getElem (show k < bds.length from hdl))
      have hbp : Ls H7 bp bds := ⟨bx, hbx, hbi⟩
      refine rd_ixLs (hbp.y e8 hbt T7) hat fun y hy => ?_
      walk_at "rd"
      exact hN _ _ ⟨e8, T8, y, _, rfl, hbg _ (List.getElem_mem _), hy⟩
    obtain ⟨e8, T8, y0, d0, rfl, hd0, hy0⟩ := h
    have hv8 := hv7.y e8 T7
    have hu8 := hu7.y e8 T7
    have hP8 := hP7.ext e8 T7
    clear hv7 hu7 hP7 e8 T7 hbp
    walk_at "rdn"
    refine rd_seqK (fun σ H' => Ext T [] H8 H' ∧ σ = [some (.ref a), some (.ref t), some v, some (.ref pa), some u, some (.ref bp), some y0, none, none, none, none, none, none, none, none, none, none, none, none, none, none, none, none]) (fun N hN => ?_) (fun σ H9 h => ?_)
    · walk_at "rd"
      refine ⟨v, u, y0, R, s, d0, rfl, hv8, hR, hu8, hy0, hd0.2.1, Nat.le_trans hd0.2.2 (by decide), fun H9 e9 => ?_⟩
      rw [hd0.1]
      refine rd_isnBl ?_
      refine ⟨_, rfl, ?_⟩
      walk_at "rd"
      refine rd_itn (fun _ => ?_) (fun h => absurd rfl h)
      walk_at "rd"
      refine ⟨v, u, y0, R, s, d0, rfl, hv8.x e9, hR, hu8.x e9, hy0.x e9, hd0.2.1, Nat.le_trans hd0.2.2 (by decide), by omega, by omega, hd0.1, fun H10 e10 => ?_⟩
      walk_at "rd"
      exact hN _ _ ⟨e9.trans e10, rfl⟩
    obtain ⟨e9, rfl⟩ := h
    have T9 := T8.ext e9
    have hv9 := hv8.x e9
    have hu9 := hu8.x e9
    have hP9 := hP8.ext0 e9
    clear hv8 hu8 hP8 e9 T8 hy0 hd0
    walk_at "rdn"
    refine rd_seqK (fun σ H' => Ext T [t] H9 H' ∧ Tape l H' t ∧ ∃ (x : V) (ds : List Dd), σ = [some (.ref a), some (.ref t), some v, some (.ref pa), some u, some (.ref bp), some y0, some x, none, none, none, none, none, none, none, none, none, none, none, none, none, none, none] ∧ Im H' x (.tuple (ds.map ddD)) ∧ (∀ d ∈ ds, DdOk R d) ∧ OnOk s ds ∧ ds.length ≤ 12) (fun N hN => ?_) (fun σ H10 h => ?_)
    · walk_at "rd"
      refine ⟨l, t, 13, rfl, by decide, by decide, T9, fun m H10 h10 h11 e10 T10 => ?_⟩
      walk_at "rd"
      refine ⟨l, t, pa, v, u, R, ps, s, m, rfl, T10, hv9.y e10 T9, hR, hP9.ext e10 T9, hps, hu9.y e10 T9, hs, hon50, h10, by omega, fun x ds H11 hok hoo hlm hx e11 T11 => ?_⟩
      walk_at "rd"
      exact hN _ _ ⟨e10.trans e11, T11, x, ds, rfl, hx, hok, hoo, by omega⟩
    obtain ⟨e10, T10, xd, ds, rfl, hxd, hdok, hdon, hdl12⟩ := h
    have hv10 := hv9.y e10 T9
    have hu10 := hu9.y e10 T9
    clear hv9 hu9 hP9 e10 T9
    walk_at "rdn"
    refine rd_seqK (fun σ H' => Ext T [t] H10 H' ∧ Tape l H' t ∧ ∃ (x : V) (pl : List (Int × Dd)), σ = [some (.ref a), some (.ref t), some v, some (.ref pa), some u, some (.ref bp), some y0, some xd, some x, none, none, none, none, none, none, none, none, none, none, none, none, none, none] ∧ Im H' x (.tuple (pl.map plD)) ∧ Asc pl ∧ pl.map (·.2) = ds) (fun N hN => ?_) (fun σ H11 h => ?_)
    · walk_at "rd"
      refine ⟨l, t, 3, rfl, by decide, by decide, T10, fun m H11 h10 h11 e11 T11 => ?_⟩
      walk_at "rd"
      refine ⟨l, t, xd, ds, m, rfl, T11, hxd.y e11 T10, hdl12, h10, by omega, fun y pl H12 hasc hpl hy e12 T12 => ?_⟩
      walk_at "rd"
      exact hN _ _ ⟨e11.trans e12, T12, y, pl, rfl, hy, hasc, hpl⟩
    obtain ⟨e11, T11, xp, pl, rfl, hxp, hasc, hpld⟩ := h
    have hv11 := hv10.y e11 T10
    have hu11 := hu10.y e11 T10
    clear hv10 hu10 e11 T10 hxd
    have hdok2 : ∀ p ∈ pl, DdOk R p.2 := fun p hp => hdok p.2 (by rw [← hpld]; exact List.mem_map_of_mem hp)
    have hdon2 : OnOk s (pl.map (·.2)) := by rw [hpld]; exact hdon
    have hpll : pl.length ≤ 12 := by
      have := congrArg List.length hpld
      rw [List.length_map] at this
      omega
    have hplS := pl_in hR hdok2
    have hplT : SnK 5 (.tuple (pl.map plD)) := sn_list (k := 4) (by rw [List.length_map]; omega) (by decide) hplS
    have hplok : planB R s (.tuple (pl.map plD)) = true := by
      unfold planB
      rw [show tupB 0 12 (.tuple (pl.map plD)) = true by
        show (decide ((0 : Int) ≤ ((pl.map plD).length : Int)) && decide (((pl.map plD).length : Int) ≤ 12)) = true
        rw [decide_eq_true (by omega), decide_eq_true (by rw [List.length_map]; omega)]
        rfl, Bool.true_and]
      exact planF_ok hdok2 hdon2 hasc.1 fun p hp => ⟨by have := hasc.2.1 p hp; omega, by have := hasc.2.2 p hp; omega⟩
    obtain ⟨pp, px, rfl, hpp, hpi⟩ := hxp.tup'
    have hpxl : px.length = pl.length := by rw [hpi.len, List.length_map]
    walk_at "rdn"
    refine rd_seqK (fun σ H' => Ext T [] H11 H' ∧ σ = [some (.ref a), some (.ref t), some v, some (.ref pa), some u, some (.ref bp), some y0, some xd, some (.ref pp), none, none, none, none, none, none, none, none, none, none, none, none, none, none]) (fun N hN => ?_) (fun σ H12 h => ?_)
    · walk_at "rd"
      refine ⟨v, u, .ref pp, R, s, _, rfl, hv11, hR, hu11, by omega, by omega, hxp, hplT.1, Nat.le_trans hplT.2 (by decide), fun H12 e12 => ?_⟩
      rw [hplok]
      refine rd_isnBl ?_
      refine ⟨_, rfl, ?_⟩
      walk_at "rd"
      refine rd_itn (fun _ => ?_) (fun h => absurd rfl h)
      walk_at "rd"
      exact hN _ _ ⟨e12, rfl⟩
    obtain ⟨e12, rfl⟩ := h
    have T12 := T11.ext e12
    have hv12 := hv11.x e12
    have hu12 := hu11.x e12
    have hxp12 := hxp.x e12
    have hpp12 := SqP.x hpp e12
    have hpi12 := hpi.x e12
    clear hv11 hu11 hxp hpp hpi e12 T11
    walk_at "rdn"
    refine rd_seqK (fun σ H' => H' = H12 ∧ σ = [some (.ref a), some (.ref t), some v, some (.ref pa), some u, some (.ref bp), some y0, some xd, some (.ref pp), some u, none, none, none, none, none, none, none, none, none, none, none, none, none]) (fun N hN => ?_) (fun σ H13 h => ?_)
    · walk_at "rd"
      exact hN _ _ ⟨rfl, rfl⟩
    obtain ⟨rfl, rfl⟩ := h
    walk_at "rdn"
    refine rd_seqK (fun σ H' => Ext T [] H13 H' ∧ ∃ kp : Addr, σ = [some (.ref a), some (.ref t), some v, some (.ref pa), some u, some (.ref bp), some y0, some xd, some (.ref pp), some u, some (.ref kp), none, none, none, none, none, none, none, none, none, none, none, none] ∧ Nw H13 kp ∧ Ls H' kp ((knL s 0 []).map knD)) (fun N hN => ?_) (fun σ H14 h => ?_)
    · walk_at "rd"
      walk_at "al"
      rename_i q1 G1 _ f1 g1
      walk_at "rd"
      walk_at "al"
      rename_i kp G2 nkp f2 g2
      walk_at "rd"
      exact hN _ _ ⟨f1.trans f2, kp, rfl, f1.back0 nkp, ⟨_, g2, .cons ((Im.new2 (.int 0) (hu12.im.x f1) g1).x f2) .nil⟩⟩
    obtain ⟨e14, kp, rfl, nkp, hkp⟩ := h
    -- the deeds one by one
    walk_at "rdn"
    refine rd_seqK (fun σ H' => Ext T [] H13 H' ∧ ∃ (y : V) (o1 o6 : Option V), σ = [some (.ref a), some (.ref t), some v, some (.ref pa), some u, some (.ref bp), o6, some xd, some (.ref pp), some y, some (.ref kp), o1, none, none, none, none, none, none, none, none, none, none, none] ∧ StAt H' y (hereF s pl) ∧ Ls H' kp ((knL s 0 pl).map knD)) (fun N hN => ?_) (fun σ H15 h => ?_)
    · walk_at "rdn"
      refine .inr ⟨⟨_, SqP.sq (SqP.x hpp12 e14)⟩, ?_⟩
      refine forg_tup (xs := px) (fun i σ H' => Ext T [] H13 H' ∧ ∃ (y : V) (o1 o6 : Option V), σ = [some (.ref a), some (.ref t), some v, some (.ref pa), some u, some (.ref bp), o6, some xd, some (.ref pp), some y, some (.ref kp), o1, none, none, none, none, none, none, none, none, none, none, none] ∧ StAt H' y (hereF s (pl.take i)) ∧ Ls H' kp ((knL s 0 (pl.take i)).map knD))
        ⟨e14, u, _, _, rfl, hu12.x e14, hkp⟩ (fun i σ H' _ h => SqP.sq (SqP.x hpp12 h.1)) (fun i x σ G1 hx h => ?_) (fun σ G1 h => ?_)
      · obtain ⟨f1, y, o1, o6, rfl, hy, hkn⟩ := h
        obtain ⟨dr, hdr, hxr⟩ := hpi12.get' hx
        rw [List.getElem?_map] at hdr
        obtain ⟨p, hp, rfl⟩ := Option.map_eq_some_iff.mp hdr
        have hpm := List.mem_of_getElem? hp
        have hok := hdok2 p hpm
        have hoka := onOk_at hdon2 hp
        have hbd := deed_ok hok hoka
        have hds := dd_sn hR hok
        have hhi : (hereF s (pl.take i)).its.length ≤ 100 := by
          have := congrArg List.length (hereF_its s (pl.take i))
          rw [List.length_map, List.length_map] at this
          omega
        have hho : (hereF s (pl.take i)).on.length ≤ 100 := by
          have := hereF_on s (pl.take i)
          rw [List.length_take] at this
          omega
        have hi12 : i < 12 := by
          have := (List.getElem?_eq_some_iff.mp hp).1
          omega
        refine rd_gpair (d1 := .int p.1) (d2 := ddD p.2) (hxr.x f1) fun v1 v2 k1 k2 => ?_
        rw [k1.int']
        walk_at "rdn"
        refine rd_seqK (fun σ H' => Ext T [] G1 H' ∧ σ = [some (.ref a), some (.ref t), some v, some (.ref pa), some u, some (.ref bp), some v2, some xd, some (.ref pp), some y, some (.ref kp), some (.int p.1), none, none, none, none, none, none, none, none, none, none, none]) (fun N hN => ?_) (fun σ G2 h => ?_)
        · walk_at "rd"
          refine ⟨v, y, v2, R, hereF s (pl.take i), ddD p.2, rfl, hv12.x f1, hR, hy, k2, hds.1, Nat.le_trans hds.2 (by decide), fun G2 f2 => ?_⟩
          rw [hbd]
          refine rd_isnBl ?_
          refine ⟨_, rfl, ?_⟩
          walk_at "rd"
          refine rd_itn (fun _ => ?_) (fun h => absurd rfl h)
          walk_at "rd"
          refine ⟨v, y, v2, R, hereF s (pl.take i), ddD p.2, rfl, (hv12.x f1).x f2, hR, hy.x f2, k2.x f2, hds.1, Nat.le_trans hds.2 (by decide), hhi, by omega, fun _ x3 G3 f3 hx3 => ?_, fun h => absurd h (by rw [hbd]; decide)⟩
          rw [ddOf_of hbd] at hx3
          walk_at "rd"
          refine ⟨y, v2, hereF s (pl.take i), p.2, rfl, (hy.x f2).x f3, (k2.x f2).x f3, hhi, by omega, fun x4 G4 f4 hx4 => ?_⟩
          refine rd_neI (b := true) (hx3.im.x f4) hx4.im (dep_st _) (dep_st _) (by simp) ?_
          walk_at "rd"
          exact hN _ _ ⟨(f2.trans f3).trans f4, rfl⟩
        obtain ⟨f2, rfl⟩ := h
        have f12 := f1.trans f2
        have hy2 := hy.x f2
        have hkn2 := hkn.x f2
        have k22 := k2.x f2
        clear hy hkn k1 k2 f1 f2 hxr hx
        walk_at "rdn"
        refine rd_seqK (fun σ H' => Ext T [] G2 H' ∧ ∃ y3 : V, σ = [some (.ref a), some (.ref t), some v, some (.ref pa), some u, some (.ref bp), some v2, some xd, some (.ref pp), some y3, some (.ref kp), some (.int p.1), none, none, none, none, none, none, none, none, none, none, none] ∧ StAt H' y3 (hereF s (pl.take (i + 1)))) (fun N hN => ?_) (fun σ G3 h => ?_)
        · walk_at "rd"
          refine ⟨y, v2, hereF s (pl.take i), p.2, rfl, hy2, k22, hhi, by omega, fun x4 G4 f4 hx4 => ?_⟩
          walk_at "rd"
          exact hN _ _ ⟨f4, x4, rfl, by rw [hereF_snoc hp]; exact hx4⟩
        obtain ⟨f3, y3, rfl, hy3⟩ := h
        obtain ⟨dx, hdx, hdi⟩ := hkn2.x f3
        have hkn3 : Ls G3 kp ((knL s 0 (pl.take i)).map knD) := ⟨dx, hdx, hdi⟩
        walk_at "rd"
        walk_at "al"
        rename_i q4 G4 _ f4 g4
        have hrow : Im G4 (.ref q4) (knD (p.1, hereF s (pl.take (i + 1)))) := .new2 (.int _) (hy3.im.x f4) g4
        refine rd_nil ?_
        refine pushE (T := T) (Hb := H13) ((f12.trans f3).trans f4) nkp (hkn3.x f4) hrow (by rw [List.length_map, knL_len, List.length_take]; omega) fun G5 f5 f45 m5 hk5 => ?_
        walk_at "rd"
        refine ⟨f5, y3, _, _, rfl, (hy3.x f4).z f45 m5, ?_⟩
        rw [List.take_add_one, hp]
        show Ls G5 kp ((knL s 0 (pl.take i ++ [p])).map knD)
        rw [knL_snoc, List.map_append, ← hereF_snoc hp]
        exact hk5
      · obtain ⟨f1, y, o1, o6, rfl, hy, hkn⟩ := h
        rw [hpxl, List.take_length] at hy hkn
        exact hN _ _ ⟨f1, y, o1, o6, rfl, hy, hkn⟩
    obtain ⟨e15, yh, o1, o6, rfl, hyh, hkn⟩ := h
    have T15 := T12.ext e15
    have hv15 := hv12.x e15
    have hu15 := hu12.x e15
    have hxp15 := hxp12.x e15
    have hpp15 := SqP.x hpp12 e15
    have hpi15 := hpi12.x e15
    clear hv12 hu12 hxp12 hpp12 hpi12 e14 e15 T12 hkp nkp
    obtain ⟨kx, hkx, hki⟩ := hkn
    have hkn : Ls H15 kp ((knL s 0 pl).map knD) := ⟨kx, hkx, hki⟩
    have hkl : kx.length = pl.length + 1 := by rw [hki.len, List.length_map, knL_len]
    -- the states at the moments
    walk_at "rdn"
    refine rd_seqK (fun σ H' => Ext T [] H15 H' ∧ ∃ (o1 o2 o3 : Option V), σ = [some (.ref a), some (.ref t), some v, some (.ref pa), some u, some (.ref bp), o6, some xd, some (.ref pp), some yh, some (.ref kp), o1, o2, o3, none, none, none, none, none, none, none, none, none]) (fun N hN => ?_) (fun σ H16 h => ?_)
    · walk_at "rd"
      refine ⟨by omega, by omega, ?_⟩
      refine forg_range (fun i σ H' => Ext T [] H15 H' ∧ ∃ (o1 o2 o3 : Option V), σ = [some (.ref a), some (.ref t), some v, some (.ref pa), some u, some (.ref bp), o6, some xd, some (.ref pp), some yh, some (.ref kp), o1, o2, o3, none, none, none, none, none, none, none, none, none])
        ⟨.refl, _, _, _, rfl⟩ (fun i σ G1 hi h => ?_) (fun σ G1 h => ?_)
      · obtain ⟨f1, o1, o2, o3, rfl⟩ := h
        have hik : i < (knL s 0 pl).length := by rw [knL_len]; omega
        have hat : atI ((knL s 0 pl).map knD) (0 + (i : Int)) = some (knD ((knL s 0 pl)[i])) := by
          rw [Int.zero_add]
          exact atI_nat (by rw [List.getElem?_map, List.getElem?_eq_getElem hik]; rfl)
        have hkn1 := hkn.x f1
        refine rd_name ?_
        walk_at "rd"
        refine rd_ixLs hkn1 hat fun y1 g1 => ?_
        walk_at "rd"
        refine rd_ixI (d := .int ((knL s 0 pl)[i]).1) g1 rfl fun y2 g2 => ?_
        rw [g2.int']
        walk_at "rd"
        refine rd_ixLs hkn1 hat fun y1 g1 => ?_
        walk_at "rd"
        refine rd_ixI (d := .int ((knL s 0 pl)[i]).1) g1 rfl fun y2 g2 => ?_
        rw [g2.int']
        walk_at "rd"
        refine rd_ixLs hkn1 hat fun y1 g1 => ?_
        walk_at "rd"
        refine rd_ixI (d := .int ((knL s 0 pl)[i]).1) g1 rfl fun y2 g2 => ?_
        rw [g2.int']
        generalize ((knL s 0 pl)[i]).1 = mk
        walk_at "rd"
        walk_at "al"
        rename_i ql G2 nql f2 hql
        have hql : G2 ql = some (.lst (([mk, mk - 1, mk + 1, -5, 9999] : List Int).map V.int)) := hql
        walk_at "rd"
        refine forg_list (xs := ([mk, mk - 1, mk + 1, -5, 9999] : List Int).map V.int) (fun j σ H' => Ext T [] G2 H' ∧ ∃ (o1 o3 : Option V), σ = [some (.ref a), some (.ref t), some v, some (.ref pa), some u, some (.ref bp), o6, some xd, some (.ref pp), some yh, some (.ref kp), o1, some (.int (0 + (i : Int))), o3, none, none, none, none, none, none, none, none, none])
          ⟨.refl, _, _, rfl⟩ (fun j σ H' _ h => SqL.of (lst.x hql h.1)) (fun j x σ G3 hx h => ?_) (fun σ G3 h => ?_)
        · obtain ⟨f3, o1, o3, rfl⟩ := h
          rw [List.getElem?_map] at hx
          obtain ⟨mo, _, rfl⟩ := Option.map_eq_some_iff.mp hx
          have f13 := (f1.trans f2).trans f3
          have hkn3 := hkn.x f13
          obtain ⟨kx3, hkx3, hki3⟩ := hkn3
          have hkl3 : kx3.length = pl.length + 1 := by rw [hki3.len, List.length_map, knL_len]
          refine rd_name ?_
          walk_at "rdn"
          refine rd_seqK (fun σ H' => Ext T [] G3 H' ∧ ∃ yd : V, σ = [some (.ref a), some (.ref t), some v, some (.ref pa), some u, some (.ref bp), o6, some xd, some (.ref pp), some yh, some (.ref kp), some (.int mo), some (.int (0 + (i : Int))), some yd, none, none, none, none, none, none, none, none, none] ∧ Im H' yd (stD (stM s pl mo))) (fun N hN => ?_) (fun σ G4 h => ?_)
          · walk_at "rd"
            refine lcg_fm T knD (fun r => stD r.2) (fun r => decide (r.1 ≤ if mo > 0 then mo else 0)) (walk_list (K := K) (a := kp)) hki3 rfl (fun i H x H' y => y) (fun H' e => SqL.of (lst.x hkx3 e)) (by rw [knL_len]; omega) (fun i2 z x hz' H' e' hxz R' S j1 j2 => ?_) (fun D1 G4 nD1 f4 hD1 => ?_)
            · have hxz : Im H' x (.tuple [.int z.1, stD z.2]) := hxz
              refine rd_name ⟨wipe1, ?_⟩
              walk_at "rd"
              refine rd_ixI (d := .int z.1) hxz rfl fun y2 g2 => ?_
              rw [g2.int']
              walk_at "rd"
              refine ⟨0, mo, rfl, ?_⟩
              walk_at "rd"
              refine rd_ite (fun c => ?_) (fun c => ?_)
              · walk_at "rd"
                refine rd_ixI (d := stD z.2) hxz rfl fun y3 g3 => ?_
                exact j1 (decide_eq_true c) y3 H' .refl g3
              · exact j2 (decide_eq_false c) H' .refl
            · obtain ⟨lf, r, elf, er⟩ := kn_due (pl := pl) (s := s) (m := 0) (M := if mo > 0 then mo else 0) (by split <;> omega) hasc.1
              rw [elf, List.map_append] at hD1
              rw [stM_max hasc.2.1] at er
              walk_at "rd"
              refine rd_ixLs hD1 (at_last (by rw [List.map_cons, List.map_nil, List.getLast?_concat])) fun y3 g3 => ?_
              rw [er] at g3
              walk_at "rd"
              exact hN _ _ ⟨f4, y3, rfl, g3⟩
          obtain ⟨f4, yd, rfl, hyd⟩ := h
          have f14 := f13.trans f4
          walk_at "rd"
          refine ⟨v, u, .ref pp, s, pl, mo, rfl, hu15.x f14, hxp15.x f14, by omega, by omega, by omega, fun y5 G5 f5 hy5 => ?_⟩
          walk_at "rd"
          refine rd_neI (b := true) hy5.im (hyd.x f5) (dep_st _) (dep_st _) (by simp) ?_
          walk_at "rd"
          exact ⟨(f3.trans f4).trans f5, _, _, rfl⟩
        · obtain ⟨f3, o1, o3, rfl⟩ := h
          exact ⟨(f1.trans f2).trans f3, _, _, _, rfl⟩
      · obtain ⟨f1, o1, o2, o3, rfl⟩ := h
        exact hN _ _ ⟨f1, _, _, _, rfl⟩
    obtain ⟨e16, o1, o2, o3, rfl⟩ := h
    have T16 := T15.ext e16
    have hv16 := hv15.x e16
    have hu16 := hu15.x e16
    have hxp16 := hxp15.x e16
    have hpp16 := SqP.x hpp15 e16
    have hpi16 := hpi15.x e16
    have hyh16 := hyh.x e16
    clear hv15 hu15 hxp15 hpp15 hpi15 e16 T15 hkn hkx hki hyh
    have hhi : (hereF s pl).its.map (·.1) = slotsR R := by rw [hereF_its, hs.nm]
    have hhl : (hereF s pl).its.length ≤ 100 := by
      have := congrArg List.length hhi
      rw [List.length_map] at this
      omega
    -- the items
    walk_at "rdn"
    refine rd_seqK (fun σ H' => Ext T [] H16 H' ∧ ∃ (o4 o5 : Option V), σ = [some (.ref a), some (.ref t), some v, some (.ref pa), some u, some (.ref bp), o6, some xd, some (.ref pp), some yh, some (.ref kp), o1, o2, o3, o4, o5, none, none, none, none, none, none, none]) (fun N hN => ?_) (fun σ H17 h => ?_)
    · walk_at "rd"
      refine rd_ixI (d := I0 (hereF s pl)) hyh16.im rfl fun u1 g1 => ?_
      obtain ⟨ia, ix, rfl, hia, hii⟩ := g1.tup'
      refine ⟨ia, rfl, .inr ⟨⟨_, SqP.sq hia⟩, ?_⟩⟩
      refine forg_tup (xs := ix) (fun i σ H' => Ext T [] H16 H' ∧ ∃ (o4 o5 : Option V), σ = [some (.ref a), some (.ref t), some v, some (.ref pa), some u, some (.ref bp), o6, some xd, some (.ref pp), some yh, some (.ref kp), o1, o2, o3, o4, o5, none, none, none, none, none, none, none])
        ⟨.refl, _, _, rfl⟩ (fun i σ H' _ h => SqP.sq (SqP.x hia h.1)) (fun i x σ G1 hx h => ?_) (fun σ G1 h => ?_)
      · obtain ⟨f1, o4, o5, rfl⟩ := h
        obtain ⟨dr, hdr, hxr⟩ := hii.get' hx
        rw [List.getElem?_map] at hdr
        obtain ⟨r, hr', rfl⟩ := Option.map_eq_some_iff.mp hdr
        refine rd_gpair (d1 := slD r.1) (d2 := itD r.2) (hxr.x f1) fun v1 v2 k1 k2 => ?_
        walk_at "rd"
        refine ⟨yh, v1, hereF s pl, r.1, r.2, rfl, hyh16.x f1, k1, List.mem_of_getElem? hr', by rw [hhi]; exact slots_nodup hR, hhl, fun x3 G2 f2 hx3 => ?_⟩
        walk_at "rd"
        refine rd_neI (b := true) hx3 (k2.x f2) (Nat.le_trans (dep_it _) (by decide)) (Nat.le_trans (dep_it _) (by decide)) (by simp) ?_
        walk_at "rd"
        exact ⟨f1.trans f2, _, _, rfl⟩
      · obtain ⟨f1, o4, o5, rfl⟩ := h
        exact hN _ _ ⟨f1, _, _, rfl⟩
    obtain ⟨e17, o4, o5, rfl⟩ := h
    have T17 := T16.ext e17
    have hv17 := hv16.x e17
    have hu17 := hu16.x e17
    have hxp17 := hxp16.x e17
    have hpp17 := SqP.x hpp16 e17
    have hpi17 := hpi16.x e17
    have hyh17 := hyh16.x e17
    clear hv16 hu16 hxp16 hpp16 hpi16 e17 T16 hyh16
    -- the servers
    walk_at "rdn"
    refine rd_seqK (fun σ H' => Ext T [] H17 H' ∧ ∃ (o7 o8 o9 o10 : Option V), σ = [some (.ref a), some (.ref t), some v, some (.ref pa), some u, some (.ref bp), o6, some xd, some (.ref pp), some yh, some (.ref kp), o1, o2, o3, o4, o5, o7, o8, o9, o10, none, none, none]) (fun N hN => ?_) (fun σ H18 h => ?_)
    · walk_at "rd"
      refine rd_ixI (d := .tuple (R.zs.map siD)) hv17 rfl fun u1 hu1 => ?_
      walk_at "rd"
      refine rd_slIm (T := T) hu1 fun y1 G1 f1 hy1 => ?_
      rw [cutD_tail, ← List.map_tail] at hy1
      obtain ⟨zp, zx, rfl, hzp, hzi⟩ := hy1.tup'
      refine ⟨zp, rfl, .inr ⟨⟨_, SqP.sq hzp⟩, ?_⟩⟩
      refine forg_tup (xs := zx) (fun i σ H' => Ext T [] G1 H' ∧ ∃ (o7 o8 o9 o10 : Option V), σ = [some (.ref a), some (.ref t), some v, some (.ref pa), some u, some (.ref bp), o6, some xd, some (.ref pp), some yh, some (.ref kp), o1, o2, o3, o4, o5, o7, o8, o9, o10, none, none, none])
        ⟨.refl, _, _, _, _, rfl⟩ (fun i σ H' _ h => SqP.sq (SqP.x hzp h.1)) (fun i x σ G2 hx h => ?_) (fun σ G2 h => ?_)
      · obtain ⟨f2, o7, o8, o9, o10, rfl⟩ := h
        obtain ⟨dr, hdr, hxr⟩ := hzi.get' hx
        rw [List.getElem?_map] at hdr
        obtain ⟨z, hz', rfl⟩ := Option.map_eq_some_iff.mp hdr
        have hzn := name_ok (hR.nm z (List.mem_of_mem_tail (List.mem_of_getElem? hz')))
        refine rd_gpair (d1 := .str z.1) (d2 := .int z.2) (hxr.x f2) fun v1 v2 k1 k2 => ?_
        rw [k1.str', k2.int']
        walk_at "rd"
        walk_at "al"
        rename_i ql G3 nql f3 hql
        have hql : G3 ql = some (.lst (([Str.ofString "s1", Str.ofString "s2", Str.ofString "s3", Str.ofString "t9", Str.ofString "u"] : List Str).map V.str)) := hql
        have hsk : ∀ x ∈ ([Str.ofString "s1", Str.ofString "s2", Str.ofString "s3", Str.ofString "t9", Str.ofString "u"] : List Str), PyData.strOk x = true := by decide +kernel
        walk_at "rd"
        refine forg_list (xs := ([Str.ofString "s1", Str.ofString "s2", Str.ofString "s3", Str.ofString "t9", Str.ofString "u"] : List Str).map V.str) (fun j σ H' => Ext T [] G3 H' ∧ ∃ (o9 o10 : Option V), σ = [some (.ref a), some (.ref t), some v, some (.ref pa), some u, some (.ref bp), o6, some xd, some (.ref pp), some yh, some (.ref kp), o1, o2, o3, o4, o5, some (.str z.1), some (.int z.2), o9, o10, none, none, none])
          ⟨.refl, _, _, rfl⟩ (fun j σ H' _ h => SqL.of (lst.x hql h.1)) (fun j x σ G4 hx h => ?_) (fun σ G4 h => ?_)
        · obtain ⟨f4, o9, o10, rfl⟩ := h
          rw [List.getElem?_map] at hx
          obtain ⟨sv, hsv, rfl⟩ := Option.map_eq_some_iff.mp hx
          have hsvk := hsk sv (List.mem_of_getElem? hsv)
          have f14 := ((f1.trans f2).trans f3).trans f4
          refine rd_name ?_
          walk_at "rdn"
          refine rd_seq ?_
          walk_at "rd"
          refine ⟨yh, .str sv, .str z.1, hereF s pl, .str sv, .str z.1, rfl, hyh17.x f14, .str _ hsvk, .str _ hzn, Nat.zero_le _, Nat.zero_le _, fun G5 f5 => ?_⟩
          walk_at "rd"
          walk_at "al"
          rename_i q6 G6 _ f6 g6
          have f16 := (f14.trans f5).trans f6
          walk_at "rd"
          refine rd_ixI (d := O0 (hereF s pl)) (hyh17.x f16).im rfl fun u6 g7 => ?_
          refine rd_inWI (b := isOnB (hereF s pl) (.str sv) (.str z.1)) (Im.new2 (.str _ hsvk) (.str _ hzn) g6) g7 (by show 0 + 1 ≤ 64; decide) ?_ isOnB_iff ?_
          · show PyData.depthAll ((hereF s pl).on.map ssD) + 1 ≤ 64
            have := dep_map dep_ss (hereF s pl).on
            omega
          · refine rd_neB ?_
            walk_at "rd"
            exact ⟨(f4.trans f5).trans f6, _, _, rfl⟩
        · obtain ⟨f4, o9, o10, rfl⟩ := h
          exact ⟨(f2.trans f3).trans f4, _, _, _, _, rfl⟩
      · obtain ⟨f2, o7, o8, o9, o10, rfl⟩ := h
        exact hN _ _ ⟨f1.trans f2, _, _, _, _, rfl⟩
    obtain ⟨e18, o7, o8, o9, o10, rfl⟩ := h
    have T18 := T17.ext e18
    have hv18 := hv17.x e18
    have hu18 := hu17.x e18
    have hxp18 := hxp17.x e18
    have hpp18 := SqP.x hpp17 e18
    have hpi18 := hpi17.x e18
    clear hv17 hu17 hxp17 hpp17 hpi17 e18 T17 hyh17
    -- plans out of form
    have s5 : SnK 7 (.tuple (pl.map plD)) := snk_up hplT (by decide)
    have sapp : ∀ {es : List PyData}, (∀ d ∈ es, SnK 4 d) → es.length ≤ 20 → SnK 8 (.tuple (pl.map plD ++ es)) := fun he hl => snk_up (sn_list (k := 4) (by rw [List.length_append, List.length_map]; omega) (by decide) fun d hd => by
      rcases List.mem_append.mp hd with hd | hd
      · exact hplS d hd
      · exact he d hd) (by decide)
    walk_at "rdn"
    refine rd_seqK (fun σ H' => Ext T [] H18 H' ∧ ∃ (wp : Addr) (ws : List PyData), σ = [some (.ref a), some (.ref t), some v, some (.ref pa), some u, some (.ref bp), o6, some xd, some (.ref pp), some yh, some (.ref kp), o1, o2, o3, o4, o5, o7, o8, o9, o10, some (.ref wp), none, none] ∧ Nw H18 wp ∧ Ls H' wp ws ∧ ws.length = 5 ∧ ∀ d ∈ ws, GdP R s pl d) (fun N hN => ?_) (fun σ H19 h => ?_)
    · refine rd_asg ?_
      refine rd_lst ?_
      refine rd_consJ (fun w H' => Ext T [] H18 H' ∧ ∃ d, GdP R s pl d ∧ Im H' w d) (fun Q' hQ => ?_) (fun w1 G1 h1 => ?_)
      · walk_at "rd"
        refine rd_slIm (T := T) hxp18 fun y1 G1 f1 j1 => ?_
        by_cases hne : pl = []
        · subst hne
          refine rd_catE2 (T := T) (hxp18.x f1) j1 (fun h => absurd rfl h) (by show 0 + (cutD [] (some (-1)) none).length ≤ 1000; unfold cutD; simp) fun y2 G2 f2 j2 => ?_
          refine hQ _ _ ⟨f1.trans f2, _, ⟨.inr rfl, ?_⟩, j2⟩
          unfold cutD
          rw [List.drop_of_length_le (Nat.zero_le _), List.take_nil]
          exact snk0 (k := 7) (by decide)
        · rw [cutD_lastD (d := plD (pl.getLast hne)) (by rw [List.getLast?_map, List.getLast?_eq_some_getLast hne]; rfl)] at j1
          refine rd_catE2 (T := T) (hxp18.x f1) j1 (fun _ => by simp) (by rw [List.length_map]; simp; omega) fun y2 G2 f2 j2 => ?_
          exact hQ _ _ ⟨f1.trans f2, _, ⟨.inl (w_end (plast hne) (by omega)), sapp (fun d hd => by rw [List.mem_singleton.mp hd]; exact hplS _ (plast hne)) (by simp)⟩, j2⟩
      obtain ⟨z1, c1⟩ := h1
      refine rd_consJ (fun w H' => Ext T [] G1 H' ∧ ∃ d, GdP R s pl d ∧ Im H' w d) (fun Q' hQ => ?_) (fun w2 G2 h2 => ?_)
      · walk_at "rd"
        walk_at "al"
        rename_i q1 F1 _ x1 g1
        walk_at "rd"
        walk_at "al"
        rename_i q2 F2 _ x2 g2
        walk_at "rd"
        walk_at "al"
        rename_i q3 F3 _ x3 g3
        have i1 : Im F1 (.ref q1) (.tuple [.str (Str.ofString "on"), .str (Str.ofString "zz"), .str (Str.ofString ".")]) := .new3 (.str _ (by decide +kernel)) (.str _ (by decide +kernel)) (.str _ (by decide +kernel)) g1
        have i3 : Im F3 (.ref q3) (.tuple [.tuple [.int 10001, .tuple [.str (Str.ofString "on"), .str (Str.ofString "zz"), .str (Str.ofString ".")]]]) := .tup g3 (.cons ((Im.new2 (.int _) (i1.x x2) g2).x x3) .nil)
        refine rd_catE2 (T := T) ((((hxp18.x z1).x x1).x x2).x x3) i3 (fun _ => by simp) (by rw [List.length_map]; simp; omega) fun y4 F4 x4 j4 => ?_
        refine hQ _ _ ⟨((x1.trans x2).trans x3).trans x4, _, ⟨.inl (w_bad no_1 (List.mem_append_right _ (List.mem_singleton.mpr rfl))), sapp (fun d hd => ?_) (by simp)⟩, j4⟩
        rw [List.mem_singleton.mp hd]
        exact snk_up (snk2 (k := 1) (snk_up (snk_int _) (by decide)) (snk3 (snk_str (by decide +kernel)) (snk_str (by decide +kernel)) (snk_str (by decide +kernel)) (by decide)) (by decide)) (by decide)
      obtain ⟨z2, c2⟩ := h2
      have z12 := z1.trans z2
      refine rd_consJ (fun w H' => Ext T [] G2 H' ∧ ∃ d, GdP R s pl d ∧ Im H' w d) (fun Q' hQ => ?_) (fun w3 G3 h3 => ?_)
      · walk_at "rd"
        walk_at "al"
        rename_i q1 F1 _ x1 g1
        walk_at "rd"
        walk_at "al"
        rename_i q2 F2 _ x2 g2
        have i2 : Im F2 (.ref q2) (.tuple [.tuple [.int 9999]]) := .tup g2 (.cons ((Im.tup g1 (.cons (.int _) .nil)).x x2) .nil)
        refine rd_catE2 (T := T) (((hxp18.x z12).x x1).x x2) i2 (fun _ => by simp) (by rw [List.length_map]; simp; omega) fun y4 F4 x4 j4 => ?_
        refine hQ _ _ ⟨(x1.trans x2).trans x4, _, ⟨.inl (w_bad no_2 (List.mem_append_right _ (List.mem_singleton.mpr rfl))), sapp (fun d hd => ?_) (by simp)⟩, j4⟩
        rw [List.mem_singleton.mp hd]
        exact snk_up (snk1 (snk_int _) (by decide)) (by decide)
      obtain ⟨z3, c3⟩ := h3
      have z13 := z12.trans z3
      refine rd_consJ (fun w H' => Ext T [] G3 H' ∧ ∃ d, GdP R s pl d ∧ Im H' w d) (fun Q' hQ => ?_) (fun w4 G4 h4 => ?_)
      · walk_at "rd"
        walk_at "al"
        rename_i q1 F1 _ x1 g1
        have i1 : Im F1 (.ref q1) (.tuple [.int 9999]) := .tup g1 (.cons (.int _) .nil)
        refine rd_catE2 (T := T) ((hxp18.x z13).x x1) i1 (fun _ => by simp) (by rw [List.length_map]; simp; omega) fun y4 F4 x4 j4 => ?_
        refine hQ _ _ ⟨x1.trans x4, _, ⟨.inl (w_bad no_3 (List.mem_append_right _ (List.mem_singleton.mpr rfl))), sapp (fun d hd => ?_) (by simp)⟩, j4⟩
        rw [List.mem_singleton.mp hd]
        exact snk_up (snk_int _) (by decide)
      obtain ⟨z4, c4⟩ := h4
      have z14 := z13.trans z4
      walk_at "rd"
      walk_at "al"
      rename_i wp G5 nwp z5 gwp
      have gx : ∀ {v : V} {H1 H2 : Hp}, (∃ d, GdP R s pl d ∧ Im H1 v d) → Ext T [] H1 H2 → ∃ d, GdP R s pl d ∧ Im H2 v d := fun h e => by
        obtain ⟨d, h1, h2⟩ := h
        exact ⟨d, h1, h2.x e⟩
      have c5 : ∃ d, GdP R s pl d ∧ Im G5 (.int 5) d := ⟨.int 5, ⟨.inl rfl, snk_up (snk_int _) (by decide)⟩, .int _⟩
      obtain ⟨ws, hwi, hwg⟩ := gds_of (.cons (gx c1 (((z2.trans z3).trans z4).trans z5)) (.cons (gx c2 ((z3.trans z4).trans z5)) (.cons (gx c3 (z4.trans z5)) (.cons (gx c4 z5) (.cons c5 .nil)))))
      walk_at "rd"
      exact hN _ _ ⟨z14.trans z5, wp, ws, rfl, z14.back0 nwp, ⟨_, gwp, hwi⟩, by rw [← hwi.len]; rfl, hwg⟩
    obtain ⟨e19, wp, ws, rfl, nwp, hwp, hwl, hwg⟩ := h
    have hxp19 := hxp18.x e19
    have hpp19 := SqP.x hpp18 e19
    walk_at "rdn"
    refine rd_seqK (fun σ H' => Ext T [] H18 H' ∧ ∃ (wp : Addr) (ws : List PyData), σ = [some (.ref a), some (.ref t), some v, some (.ref pa), some u, some (.ref bp), o6, some xd, some (.ref pp), some yh, some (.ref kp), o1, o2, o3, o4, o5, o7, o8, o9, o10, some (.ref wp), none, none] ∧ Nw H18 wp ∧ Ls H' wp ws ∧ 5 ≤ ws.length ∧ ws.length ≤ 7 ∧ ∀ d ∈ ws, GdP R s pl d) (fun N hN => ?_) (fun σ H20 h => ?_)
    · walk_at "rd"
      refine rd_lenT (SqP.sq hpp19) ?_
      walk_at "rd"
      refine rd_ite (fun c => ?_) (fun c => ?_)
      · obtain ⟨p0, pr, hp0⟩ : ∃ p0 pr, pl = p0 :: pr := by
          cases hpl : pl with
          | nil =>
            rw [hpl] at hpxl
            simp only [List.length_nil] at hpxl
            omega
          | cons p0 pr => exact ⟨p0, pr, rfl⟩
        have hne : pl ≠ [] := by rw [hp0]; simp
        have hat0 : atI (pl.map plD) 0 = some (plD p0) := by rw [hp0]; exact at_zero _ _
        have hatl : atI (pl.map plD) (-1) = some (plD (pl.getLast hne)) := at_last (by rw [List.getLast?_map, List.getLast?_eq_some_getLast hne]; rfl)
        have hdd0 : SnK 3 (ddD p0.2) := dd_sn hR (hdok2 p0 (by rw [hp0]; exact List.mem_cons_self))
        refine rd_asg ?_
        refine rd_op ?_
        refine rd_var rfl ?_
        refine rd_lst ?_
        refine rd_consJ (fun w H' => Ext T [] H19 H' ∧ ∃ d, GdP R s pl d ∧ Im H' w d) (fun Q' hQ => ?_) (fun w1 G1 h1 => ?_)
        · walk_at "rd"
          refine rd_ixI (d := plD p0) hxp19 hat0 fun y1 j1 => ?_
          walk_at "rd"
          refine rd_ixI (d := ddD p0.2) (show Im H19 y1 (.tuple [.int p0.1, ddD p0.2]) from j1) rfl fun y2 j2 => ?_
          walk_at "rd"
          walk_at "al"
          rename_i q1 F1 _ x1 g1
          walk_at "rd"
          walk_at "al"
          rename_i q2 F2 _ x2 g2
          have i2 : Im F2 (.ref q2) (.tuple [.tuple [.int 0, ddD p0.2]]) := .tup g2 (.cons ((Im.new2 (.int _) (j2.x x1) g1).x x2) .nil)
          walk_at "rd"
          refine rd_slIm (T := T) ((hxp19.x x1).x x2) fun y3 F3 x3 j3 => ?_
          rw [cutD_tail, ← List.map_tail] at j3
          have hfin : ∀ (y : V) (F : Hp), Ext T [] F3 F → Im F y (.tuple (.tuple [.int 0, ddD p0.2] :: pl.tail.map plD)) → Q' y F := fun y F x4 j4 => hQ _ _ ⟨((x1.trans x2).trans x3).trans x4, _, ⟨.inl (w_bad no_4 List.mem_cons_self), snk_up (sn_list (k := 4) (by rw [List.length_cons, List.length_map, List.length_tail]; omega) (by decide) fun d hd => by
            rcases List.mem_cons.mp hd with rfl | hd
            · exact snk2 (k := 3) (snk_up (snk_int _) (by decide)) hdd0 (by decide)
            · obtain ⟨p, hp, rfl⟩ := List.mem_map.mp hd
              exact hplS _ (List.mem_map_of_mem (List.mem_of_mem_tail hp))) (by decide)⟩, j4⟩
          by_cases hn1 : pl.tail.map plD = []
          · rw [hn1] at j3 hfin
            exact rd_catN (T := T) (i2.x x3) j3 (by simp) (by simp) fun y F x4 j4 => hfin y F x4 j4
          · exact rd_catII (T := T) (i2.x x3) j3 (by simp) hn1 (by rw [List.length_map, List.length_tail]; simp; omega) fun y F x4 j4 => hfin y F x4 j4
        obtain ⟨z1, c1⟩ := h1
        refine rd_consJ (fun w H' => Ext T [] G1 H' ∧ ∃ d, GdP R s pl d ∧ Im H' w d) (fun Q' hQ => ?_) (fun w2 G2 h2 => ?_)
        · walk_at "rd"
          refine rd_ixI (d := plD (pl.getLast hne)) (hxp19.x z1) hatl fun y1 j1 => ?_
          walk_at "rd"
          refine rd_ixI (d := .int (pl.getLast hne).1) (show Im G1 y1 (.tuple [.int (pl.getLast hne).1, ddD (pl.getLast hne).2]) from j1) rfl fun y2 j2 => ?_
          rw [j2.int']
          walk_at "rd"
          refine rd_ixI (d := plD p0) (hxp19.x z1) hat0 fun y3 j3 => ?_
          walk_at "rd"
          refine rd_ixI (d := ddD p0.2) (show Im G1 y3 (.tuple [.int p0.1, ddD p0.2]) from j3) rfl fun y4 j4 => ?_
          walk_at "rd"
          walk_at "al"
          rename_i q1 F1 _ x1 g1
          walk_at "rd"
          walk_at "al"
          rename_i q2 F2 _ x2 g2
          have i2 : Im F2 (.ref q2) (.tuple [.tuple [.int (pl.getLast hne).1, ddD p0.2]]) := .tup g2 (.cons ((Im.new2 (.int _) (j4.x x1) g1).x x2) .nil)
          refine rd_catE2 (T := T) (((hxp19.x z1).x x1).x x2) i2 (fun _ => by simp) (by rw [List.length_map]; simp; omega) fun y5 F3 x3 j5 => ?_
          refine hQ _ _ ⟨(x1.trans x2).trans x3, _, ⟨.inl (w_end (plast hne) (by rw [mom_pl]; show ¬ (pl.getLast hne).1 < (pl.getLast hne).1; omega)), sapp (fun d hd => ?_) (by simp)⟩, j5⟩
          rw [List.mem_singleton.mp hd]
          exact snk2 (k := 3) (snk_up (snk_int _) (by decide)) hdd0 (by decide)
        obtain ⟨z2, c2⟩ := h2
        walk_at "rd"
        walk_at "al"
        rename_i lp G3 _ z3 glp
        have gx : ∀ {v : V} {H1 H2 : Hp}, (∃ d, GdP R s pl d ∧ Im H1 v d) → Ext T [] H1 H2 → ∃ d, GdP R s pl d ∧ Im H2 v d := fun h e => by
          obtain ⟨d, h1, h2⟩ := h
          exact ⟨d, h1, h2.x e⟩
        obtain ⟨w2, hw2i, hw2g⟩ := gds_of (.cons (gx c1 (z2.trans z3)) (.cons (gx c2 z3) .nil))
        have hw2l : w2.length = 2 := by rw [← hw2i.len]; rfl
        obtain ⟨wx, hwx, hwi⟩ := hwp
        have z03 := (z1.trans z2).trans z3
        refine rd_catA T (lst.x hwx z03) glp (by rw [hwi.len, hwl]; simp) fun pc G4 npc z4 hpc => ?_
        walk_at "rd"
        refine hN _ _ ⟨e19.trans (z03.trans z4), pc, ws ++ w2, rfl, (e19.trans z03).back0 npc, ⟨_, hpc, ((hwi.x z03).x z4).app (hw2i.x z4)⟩, by rw [List.length_append]; omega, by rw [List.length_append]; omega, fun d hd => ?_⟩
        rcases List.mem_append.mp hd with hd | hd
        · exact hwg d hd
        · exact hw2g d hd
      · walk_at "rd"
        exact hN _ _ ⟨e19, wp, ws, rfl, nwp, hwp, by omega, by omega, hwg⟩
    obtain ⟨e20, wp, ws, rfl, nwp, hwp, hwl1, hwl2, hwg⟩ := h
    have hxp20 := hxp18.x e20
    have hpp20 := SqP.x hpp18 e20
    obtain ⟨wx0, hwx0, hwi0⟩ := hwp
    have hwp : Ls H20 wp ws := ⟨wx0, hwx0, hwi0⟩
    walk_at "rdn"
    refine rd_seqK (fun σ H' => Ext T [] H18 H' ∧ ∃ (ws : List PyData), σ = [some (.ref a), some (.ref t), some v, some (.ref pa), some u, some (.ref bp), o6, some xd, some (.ref pp), some yh, some (.ref kp), o1, o2, o3, o4, o5, o7, o8, o9, o10, some (.ref wp), none, none] ∧ Ls H' wp ws ∧ 5 ≤ ws.length ∧ ws.length ≤ 8 ∧ ∀ d ∈ ws, GdP R s pl d) (fun N hN => ?_) (fun σ H21 h => ?_)
    · walk_at "rd"
      refine rd_lenT (SqP.sq hpp20) ?_
      walk_at "rd"
      refine rd_ite (fun c => ?_) (fun c => ?_)
      · obtain ⟨p0, p1, pr, hp01⟩ : ∃ p0 p1 pr, pl = p0 :: p1 :: pr := by
          match hpl : pl, (show 1 < pl.length by omega) with
          | p0 :: p1 :: pr, _ => exact ⟨p0, p1, pr, rfl⟩
          | [_], h => exact absurd h (by simp)
          | [], h => exact absurd h (by simp)
        have hat0 : atI (pl.map plD) 0 = some (plD p0) := by rw [hp01]; exact at_zero _ _
        have hat1 : atI (pl.map plD) 1 = some (plD p1) := by rw [hp01]; exact atI_nat (j := 1) rfl
        have hlt : p0.1 < p1.1 := by
          have := hasc.1
          rw [hp01] at this
          exact (List.pairwise_cons.mp this).1 p1 List.mem_cons_self
        walk_at "rd"
        refine rd_ixI (d := plD p1) hxp20 hat1 fun y1 j1 => ?_
        walk_at "rd"
        refine rd_ixI (d := plD p0) hxp20 hat0 fun y2 j2 => ?_
        walk_at "rd"
        walk_at "al"
        rename_i q1 F1 _ x1 g1
        have i1 : Im F1 (.ref q1) (.tuple [plD p1, plD p0]) := .new2 (j1.x x1) (j2.x x1) g1
        refine rd_nil ?_
        refine pushE (T := T) (Hb := H18) (e20.trans x1) nwp (hwp.x x1) i1 (by omega) fun F2 x2 x12 m2 hw2 => ?_
        walk_at "rd"
        refine hN _ _ ⟨x2, _, rfl, hw2, by rw [List.length_append]; omega, by rw [List.length_append]; simp only [List.length_cons, List.length_nil]; omega, fun d hd => ?_⟩
        rcases List.mem_append.mp hd with hd | hd
        · exact hwg d hd
        · rw [List.mem_singleton.mp hd]
          exact ⟨.inl (w_swap hlt), snk_up (snk2 (k := 4) (hplS _ (by rw [hp01]; simp)) (hplS _ (by rw [hp01]; simp)) (by decide)) (by decide)⟩
      · walk_at "rd"
        exact hN _ _ ⟨e20, ws, rfl, hwp, by omega, by omega, hwg⟩
    obtain ⟨e21, ws, rfl, hwp, hwl1, hwl2, hwg⟩ := h
    have T21 := T18.ext e21
    have hv21 := hv18.x e21
    have hu21 := hu18.x e21
    have hpp21 := SqP.x hpp18 e21
    have hwt : wp ≠ t := (T18.ne nwp).1
    clear hv18 hu18 hxp18 hpp18 hpi18 e19 e20 e21 T18 hwx0 hwi0 hxp19 hxp20 hpp19 hpp20
    walk_at "rdn"
    refine rd_seqK (fun σ H' => Ext T [t] H21 H' ∧ Tape l H' t ∧ ∃ (b : Bool), σ = [some (.ref a), some (.ref t), some v, some (.ref pa), some u, some (.ref bp), o6, some xd, some (.ref pp), some yh, some (.ref kp), o1, o2, o3, o4, o5, o7, o8, o9, some (.bl b), some (.ref wp), none, none] ∧ (b = false ∨ pl = [])) (fun N hN => ?_) (fun σ H22 h => ?_)
    · obtain ⟨wx, hwx, hwi⟩ := hwp
      have hwxl := hwi.len
      have hwp : Ls H21 wp ws := ⟨wx, hwx, hwi⟩
      walk_at "rd"
      refine ⟨l, t, wx.length, rfl, by omega, by omega, T21, fun d H22 d0 d1 e22 T22 => ?_⟩
      have hdl : d.toNat < ws.length := by omega
      have hat : atI ws d = some (ws[d.toNat]) := by
        obtain ⟨k, rfl⟩ := Int.eq_ofNat_of_zero_le d0
        exact atI_nat (List.getElem?_eq_getElem (show k < ws.length from hdl))
      refine rd_ixLs (hwp.y e22 hwt T21) hat fun y hy => ?_
      have hg := hwg _ (List.getElem_mem (l := ws) (n := d.toNat) hdl)
      walk_at "rd"
      refine ⟨v, u, y, R, s, _, rfl, hv21.y e22 T21, hR, hu21.y e22 T21, by omega, by omega, hy, hg.2.1, Nat.le_trans hg.2.2 (by decide), fun H23 e23 => ?_⟩
      walk_at "rd"
      exact hN _ _ ⟨e22.trans e23.any, T22.ext e23, _, rfl, hg.1⟩
    obtain ⟨e22, T22, b, rfl, hb⟩ := h
    have hv22 := hv21.y e22 T21
    have hu22 := hu21.y e22 T21
    have hpp22 := SqP.y hpp21 e22 T21
    clear hv21 hu21 hpp21 e22 T21 hwp
    obtain ⟨r0, rr, hr0⟩ : ∃ r0 rr, s.its = r0 :: rr := by
      cases h : s.its with
      | nil =>
        rw [h] at hil
        simp only [List.length_nil] at hil
        omega
      | cons r0 rr => exact ⟨r0, rr, rfl⟩
    have hr0m : r0 ∈ s.its := by rw [hr0]; exact List.mem_cons_self
    have hr0s : r0.1 ∈ slotsR R := by rw [← hs.nm]; exact List.mem_map_of_mem hr0m
    have hdl : DdOk R (.put r0.1 r0.2) := ⟨hr0s, hs.ok r0 hr0m⟩
    walk_at "rdn"
    refine rd_seqK (fun σ H' => Ext T [] H22 H' ∧ ∃ (yl : V), σ = [some (.ref a), some (.ref t), some v, some (.ref pa), some u, some (.ref bp), o6, some xd, some (.ref pp), some yh, some (.ref kp), o1, o2, o3, o4, o5, o7, o8, o9, some (.bl b), some (.ref wp), some yl, none] ∧ Im H' yl (.tuple ((longP r0.1 r0.2 13).map plD))) (fun N hN => ?_) (fun σ H23 h => ?_)
    · walk_at "rd"
      refine ⟨by decide, by decide, ?_⟩
      refine lcg_rangeD T (n := 13) (fun k => plD ((k : Int) + 1, .put r0.1 r0.2)) (by decide) (fun i G1 hi f1 R' hRq => ?_) (fun D1 G1 nD1 f1 hD1 => ?_)
      · have hui : Im G1 u (.tuple [I0 s, O0 s]) := (hu22.x f1).im
        have hat0 : atI (s.its.map rowD2) 0 = some (rowD2 r0) := by rw [hr0]; exact at_zero _ _
        walk_at "rd"
        refine rd_ixI (d := I0 s) hui rfl fun y1 j1 => ?_
        walk_at "rd"
        refine rd_ixI (d := rowD2 r0) j1 hat0 fun y2 j2 => ?_
        walk_at "rd"
        refine rd_ixI (d := slD r0.1) (show Im G1 y2 (.tuple [slD r0.1, itD r0.2]) from j2) rfl fun y3 j3 => ?_
        walk_at "rd"
        refine rd_ixI (d := I0 s) hui rfl fun y4 j4 => ?_
        walk_at "rd"
        refine rd_ixI (d := rowD2 r0) j4 hat0 fun y5 j5 => ?_
        walk_at "rd"
        refine rd_ixI (d := itD r0.2) (show Im G1 y5 (.tuple [slD r0.1, itD r0.2]) from j5) rfl fun y6 j6 => ?_
        walk_at "rd"
        walk_at "al"
        rename_i q1 F1 _ x1 g1
        walk_at "rd"
        walk_at "al"
        rename_i q2 F2 _ x2 g2
        refine hRq _ F2 (x1.trans x2) ?_
        have i1 : Im F1 (.ref q1) (ddD (.put r0.1 r0.2)) := .new3 (.str _ (by decide +kernel)) (j3.x x1) (j6.x x1) g1
        rw [Int.zero_add] at g2
        exact .new2 (.int _) (i1.x x2) g2
      · obtain ⟨kx, hkx, hki⟩ := hD1
        walk_at "rd"
        refine rd_tupA T hkx fun p G2 np f2 hp => ?_
        walk_at "rd"
        refine hN _ _ ⟨f1.trans f2, _, rfl, .tup hp ?_⟩
        have e : (longP r0.1 r0.2 13).map plD = (List.range 13).map fun k : Nat => plD ((k : Int) + 1, .put r0.1 r0.2) := by
          unfold longP
          rw [List.map_map]
          rfl
        rw [e]
        exact hki.x f2
    obtain ⟨e23, yl, rfl, hyl⟩ := h
    have hlS : ∀ n : Nat, n ≤ 13 → SnK 5 (.tuple ((longP r0.1 r0.2 n).map plD)) := fun n hn => sn_list (k := 4) (by unfold longP; rw [List.length_map, List.length_map, List.length_range]; omega) (by decide) fun d hd => by
      obtain ⟨p, hp, rfl⟩ := List.mem_map.mp hd
      unfold longP at hp
      obtain ⟨k, _, rfl⟩ := List.mem_map.mp hp
      exact pl_sn hR hdl
    walk_at "rdn"
    refine rd_seqK (fun σ H' => Ext T [] H23 H' ∧ σ = [some (.ref a), some (.ref t), some v, some (.ref pa), some u, some (.ref bp), o6, some xd, some (.ref pp), some yh, some (.ref kp), o1, o2, o3, o4, o5, o7, o8, o9, some (.bl b), some (.ref wp), some yl, none]) (fun N hN => ?_) (fun σ H24 h => ?_)
    · walk_at "rd"
      refine ⟨v, u, yl, R, s, _, rfl, hv22.x e23, hR, hu22.x e23, by omega, by omega, hyl, (hlS 13 (by decide)).1, Nat.le_trans (hlS 13 (by decide)).2 (by decide), fun H24 e24 => ?_⟩
      rw [long_no]
      refine rd_isnBl ?_
      refine ⟨_, rfl, ?_⟩
      walk_at "rd"
      refine rd_itn (fun _ => ?_) (fun h => absurd rfl h)
      walk_at "rd"
      refine rd_slIm (T := T) (hyl.x e24) fun y1 H25 e25 j1 => ?_
      rw [show cutD ((longP r0.1 r0.2 13).map plD) none (some 12) = ((longP r0.1 r0.2 13).map plD).take 12 from cutD_take (m := 12), show ((longP r0.1 r0.2 13).map plD).take 12 = (longP r0.1 r0.2 12).map plD from rfl] at j1
      have e2325 := (e23.trans e24).trans e25
      walk_at "rd"
      refine ⟨v, u, y1, R, s, _, rfl, hv22.x e2325, hR, hu22.x e2325, by omega, by omega, j1, (hlS 12 (by decide)).1, Nat.le_trans (hlS 12 (by decide)).2 (by decide), fun H26 e26 => ?_⟩
      rw [long_ok hdl.1 hdl.2]
      refine rd_isnBl ?_
      walk_at "rd"
      refine rd_itn (fun _ => ?_) (fun h => absurd rfl h)
      walk_at "rd"
      exact hN _ _ ⟨(e24.trans e25).trans e26, rfl⟩
    obtain ⟨e24, rfl⟩ := h
    have hpp24 := SqP.x hpp22 (e23.trans e24)
    cases b with
    | false =>
      walk_at "rdn"
      walk_at "rd"
      refine rd_isBl ?_
      walk_at "rd"
      exact q H24
    | true =>
      have hpe : pl = [] := hb.resolve_left (by decide)
      have hpx0 : px.length = 0 := by rw [hpxl, hpe]; rfl
      walk_at "rdn"
      walk_at "rd"
      refine rd_isBl ?_
      walk_at "rd"
      refine rd_ite (fun h => absurd h (by decide)) (fun _ => ?_)
      walk_at "rd"
      refine rd_lenT (SqP.sq hpp24) ?_
      rw [hpx0]
      walk_at "rd"
      refine rd_ite (fun _ => ?_) (fun h => absurd rfl h)
      walk_at "rd"
      refine rd_isBl ?_
      walk_at "rd"
      exact q H24
end
section
variable {T : List (Addr × Str)} {P : Program} {w : World} {K : PySem.W.Frag} {mg : Str → Option Value} {base : Heap}
theorem ok_law_mix (D : Def K mg "_law_mix" s_law_mix ["number"]) (mb : ∀ x ∈ bltns, mg x = none) : Ok P w K mg base 1 "_law_mix" ["number"] spMix := by
  refine D.ok sc_law_mix (fun vs H Q E h => ?_) (fun cdv f A outer s H vs Q E hr h => ?_)
  · obtain ⟨n, rfl, _⟩ := h
    rfl
  · obtain ⟨n, rfl, q⟩ := h
    refine ⟨_, (pss_cons (ps_set (i := 0) sc_law_mix.nd rfl (.inl rfl) (pe_op op_mod (pe_callTy call_int1U (by rfl) (mb _ (by decide)) (by decide +kernel) (pa_cons (pe_op (op_plus K rfl) (pe_op op_mul (pv 0) pe_int) pe_int) pa_nil)) pe_int))
   (pss_one (ps_ret (pe_op op_mod (pe_callTy call_int1U (by rfl) (mb _ (by decide)) (by decide +kernel) (pa_cons (pe_op (op_plus K rfl) (pe_op op_fdivW (pe_op op_mul (pv 0) (pv 0)) pe_int) (pe_op op_mul (pv 0) pe_int)) pa_nil)) pe_int)))), ?_⟩
    walk_at "rd"
    exact q
theorem ok_law_tape (D : Def K mg "_law_tape" s_law_tape ["script", "budget"]) (mb : ∀ x ∈ bltns, mg x = none) : Ok P w K mg base 1 "_law_tape" ["script", "budget"] (spTape T K) := by
  refine D.ok sc_law_tape (fun vs H Q E h => ?_) (fun cdv f A outer s H vs Q E hr h => ?_)
  · obtain ⟨a, ns, b, rfl, _⟩ := h
    rfl
  · obtain ⟨a, ns, b, rfl, ha, hl, q⟩ := h
    refine ⟨_, (pss_one (ps_ret (pe_lst (pa_cons (pe_callTy (call_listU K rfl) (by rfl) (mb _ (by decide)) (by decide +kernel) (pa_cons (pv 0) pa_nil)) (pa_cons pe_int (pa_cons pe_int (pa_cons pe_int (pa_cons (pv 1) pa_nil)))))))), ?_⟩
    walk_at "rd"
    refine rd_listL ha fun l nl => ?_
    walk_at "rd"
    refine ⟨by show 5 ≤ sizeLine; decide, fun t nt => ?_⟩
    have hlt : l ≠ t := fun z => by
      rw [← z, upd_same] at nt
      cases nt
    have ntH : H t = none := by
      rw [upd_ne (Ne.symm hlt)] at nt
      exact nt
    exact q t l _ (.of ntH) ((Ext.new nl).trans (.new nt)) ⟨ns, 0, 0, 1, b, upd_same, by rw [upd_ne hlt]; exact upd_same, hlt, by decide, by decide⟩
theorem ok_law_take (D : Def K mg "_law_take" s_law_take ["tape", "many"]) (G_law_mix : Ok P w K mg base 1 "_law_mix" ["number"] spMix) (mb : ∀ x ∈ bltns, mg x = none) : Ok P w K mg base 2 "_law_take" ["tape", "many"] (spTake T) := by
  refine D.ok sc_law_take (fun vs H Q E h => ?_) (fun cdv f A outer s H vs Q E hr h => ?_)
  · obtain ⟨l, t, m, rfl, _⟩ := h
    rfl
  · obtain ⟨l, t, m, rfl, hm, hm2, hT, q⟩ := h
    obtain ⟨ns, pos, rest, st, bud, ht, hlh, hlt, hr0, hs0⟩ := hT
    refine ⟨_, (pss_cons (ps_if (pt_cmpR op_lt (pe_ix (ix_U K rfl) (pv 0) pe_int (fun _ _ => rfl)) (pv 1) (nomark _)) (pss_one (ps_if (pt_cmpR op_lt (pe_ix (ix_U K rfl) (pv 0) pe_int (fun _ _ => rfl)) (pe_callB (call_lenU K rfl) (by rfl) (mb _ (by decide)) (by decide +kernel) (pa_cons (pe_ix (ix_U K rfl) (pv 0) pe_int (fun _ _ => rfl)) pa_nil)) (nomark _)) (pss_cons (ps_set (i := 2) sc_law_take.nd rfl (.inl rfl) (pe_ix (ix_U K rfl) (pe_ix (ix_U K rfl) (pv 0) pe_int (fun _ _ => rfl)) (pe_ix (ix_U K rfl) (pv 0) pe_int (fun _ _ => rfl)) (fun _ _ => rfl)))
   (pss_cons (ps_set (i := 2) sc_law_take.nd rfl (.inl rfl) (pe_ifExp (pt_cmpR op_ge (pv 2) pe_int (nomark _)) (pe_op op_mul pe_int (pv 2)) (pe_op op_sub (pe_op op_mul (pe_un un_neg pe_int) (pv 2)) pe_int)))
   (pss_cons (ps_asg (pe_op (op_plus K rfl) (pe_ix (ix_U K rfl) (pv 0) pe_int (fun _ _ => rfl)) pe_int) (pg_sub (pv 0) pe_int set_list))
   (pss_cons (ps_asg (pe_callO G_law_mix (hr.mono (by decide)) (by rfl) (pa_cons (pe_op (op_plus K rfl) (pe_ix (ix_U K rfl) (pv 0) pe_int (fun _ _ => rfl)) (pv 2)) pa_nil)) (pg_sub (pv 0) pe_int set_list))
   (pss_one (ps_asg (pe_ifExp (pt_cmpR op_ge (pv 2) (pe_op op_pow pe_int pe_int) (nomark _)) (pv 2) (pe_callO G_law_mix (hr.mono (by decide)) (by rfl) (pa_cons (pe_callO G_law_mix (hr.mono (by decide)) (by rfl) (pa_cons (pv 2) pa_nil)) pa_nil))) (pg_sub (pv 0) pe_int set_list))))))) (pss_cons (ps_asg (pe_callO G_law_mix (hr.mono (by decide)) (by rfl) (pa_cons (pe_op (op_plus K rfl) (pe_ix (ix_U K rfl) (pv 0) pe_int (fun _ _ => rfl)) pe_int) pa_nil)) (pg_sub (pv 0) pe_int set_list))
   (pss_one (ps_asg (pe_ix (ix_U K rfl) (pv 0) pe_int (fun _ _ => rfl)) (pg_sub (pv 0) pe_int set_list)))))) pss_nil)
   (pss_cons (ps_set (i := 3) sc_law_take.nd rfl (.inl rfl) (pe_op op_mod (pe_callTy call_int1U (by rfl) (mb _ (by decide)) (by decide +kernel) (pa_cons (pe_ix (ix_U K rfl) (pv 0) pe_int (fun _ _ => rfl)) pa_nil)) (pv 1)))
   (pss_cons (ps_asg (pe_op op_fdivW (pe_ix (ix_U K rfl) (pv 0) pe_int (fun _ _ => rfl)) (pv 1)) (pg_sub (pv 0) pe_int set_list))
   (pss_one (ps_ret (pv 3)))))), ?_⟩
    have fin : ∀ (H1 : Hp) (po : Nat) (re sm : Int) (σ' : L2.St), H1 t = some (.lst [.ref l, .int (po : Int), .int re, .int sm, .int bud]) → H1 l = some (.lst (ns.map V.int)) → 0 ≤ re → 0 ≤ sm → Ext T [t] H H1 →
        ∀ d, 0 ≤ d → d < m → Q (.int d) (upd H1 t (.lst [.ref l, .int (po : Int), .int (re / m), .int sm, .int bud])) := fun H1 po re sm σ' e1 e2 h1 h2 ex d h3 h4 =>
      q d _ h3 h4 (ex.trans (.mut (by simp) e1)) ⟨ns, po, re / m, sm, bud, upd_same, by rw [upd_ne hlt]; exact e2, hlt, Int.ediv_nonneg h1 (by omega), h2⟩
    have wm : ∀ i, CDivW i m := fun i => wide_div hm (b := 64) (by omega) (by decide) (by decide)
    have tail : ∀ (H1 : Hp) (po : Nat) (re sm : Int) (xs : List V), xs = [.ref l, .int (po : Int), .int re, .int sm, .int bud] → H1 t = some (.lst xs) → H1 l = some (.lst (ns.map V.int)) → 0 ≤ re → 0 ≤ sm → Ext T [t] H H1 →
        Q (.int (re % m)) (upd H1 t (.lst (xs.set 2 (.int (re / m))))) := fun H1 po re sm xs exs e1 e2 h1 h2 ex => by
      subst exs
      exact fin H1 po re sm [] e1 e2 h1 h2 ex _ (Int.emod_nonneg _ (by omega)) (Int.emod_lt_of_pos _ hm)
    walk_at "rd"
    refine rd_ite (fun h1 => ?_) (fun h1 => ?_)
    · walk_at "rd"
      refine rd_ite (fun h2 => ?_) (fun h2 => ?_)
      · walk_at "rd"
        have hp : pos < ns.length := by
          rw [List.length_map] at h2
          omega
        refine rd_ixL (v := .int ns[pos]) (SqL.of hlh) (atI_nat (by rw [List.getElem?_map, List.getElem?_eq_getElem hp]; rfl)) ?_
        walk_at "rd"
        refine rd_ite (fun h3 => ?_) (fun h3 => ?_)
        · walk_at "rd"
          refine ⟨_, rfl, ?_⟩
          walk_at "rd"
          refine rd_ite (fun h4 => ?_) (fun h4 => ?_)
          · walk_at "rd"
            refine rd_i (wm _) ?_
            walk_at "rd"
            exact tail _ (pos + 1) _ _ _ rfl upd_same (by walk_at "hp") (by omega) (mixI_nn _) (by walk_at "ext")
          · walk_at "rd"
            refine ⟨_, rfl, ?_⟩
            walk_at "rd"
            refine ⟨_, rfl, ?_⟩
            walk_at "rd"
            refine rd_i (wm _) ?_
            walk_at "rd"
            exact tail _ (pos + 1) _ _ _ rfl upd_same (by walk_at "hp") (mixI_nn _) (mixI_nn _) (by walk_at "ext")
        · walk_at "rd"
          refine ⟨_, rfl, ?_⟩
          walk_at "rd"
          refine rd_ite (fun h4 => ?_) (fun h4 => ?_)
          · walk_at "rd"
            refine rd_i (wm _) ?_
            walk_at "rd"
            exact tail _ (pos + 1) _ _ _ rfl upd_same (by walk_at "hp") (by omega) (mixI_nn _) (by walk_at "ext")
          · walk_at "rd"
            refine ⟨_, rfl, ?_⟩
            walk_at "rd"
            refine ⟨_, rfl, ?_⟩
            walk_at "rd"
            refine rd_i (wm _) ?_
            walk_at "rd"
            exact tail _ (pos + 1) _ _ _ rfl upd_same (by walk_at "hp") (mixI_nn _) (mixI_nn _) (by walk_at "ext")
      · walk_at "rd"
        refine ⟨_, rfl, ?_⟩
        walk_at "rd"
        refine rd_i (wm _) ?_
        walk_at "rd"
        exact tail _ pos _ _ _ rfl upd_same (by walk_at "hp") (mixI_nn _) (mixI_nn _) (by walk_at "ext")
    · walk_at "rd"
      refine rd_i (wm _) ?_
      walk_at "rd"
      exact tail H pos rest st _ rfl ht hlh hr0 hs0 .refl
end
/-! ### what the head has written: the defs, the constants, the words of the language -/
def DefIn (K : PySem.W.Frag) (x : Str) (st : Stmt) : Prop :=
  ∃ (f : Addr) (oc : Value) (od : Option Addr) (kV doc pm : Value) (an : Option Addr) (cdv ct : Value) (osl : Array (Option Value)),
    PySem.W.nsIn K mainGlobals x = some (some (.ref f)) ∧ K.lookup f = some ⟨oc, od, .func (PySem.W.fnOf x x (defArgs st) (defBody st) (defScope st) .none kV doc pm an cdv ct), osl⟩ ∧ PySem.W.codeIn K cdv x = true ∧ PySem.W.keepIn K (.ref f) = true
def DefInC (K : PySem.W.Frag) (x : Str) (st : Stmt) (c : Addr) : Prop :=
  ∃ (f : Addr) (oc : Value) (od : Option Addr) (kV doc pm : Value) (an : Option Addr) (ct : Value) (osl : Array (Option Value)),
    PySem.W.nsIn K mainGlobals x = some (some (.ref f)) ∧ K.lookup f = some ⟨oc, od, .func (PySem.W.fnOf x x (defArgs st) (defBody st) (defScope st) .none kV doc pm an (.ref c) ct), osl⟩ ∧ PySem.W.codeIn K (.ref c) x = true ∧ PySem.W.keepIn K (.ref f) = true
theorem DefIn.of {K : PySem.W.Frag} {x : Str} {st : Stmt} {f : Addr} {oc : Value} {od : Option Addr} {kV doc pm : Value} {an : Option Addr} {cdv ct : Value} {osl : Array (Option Value)} (h1 : PySem.W.nsIn K mainGlobals x = some (some (.ref f)))
    (h2 : K.lookup f = some ⟨oc, od, .func (PySem.W.fnOf x x (defArgs st) (defBody st) (defScope st) .none kV doc pm an cdv ct), osl⟩) (h3 : PySem.W.codeIn K cdv x = true) (h4 : PySem.W.keepIn K (.ref f) = true) : DefIn K x st := ⟨f, oc, od, kV, doc, pm, an, cdv, ct, osl, h1, h2, h3, h4⟩
theorem DefInC.of {K : PySem.W.Frag} {x : Str} {st : Stmt} {f c : Addr} {oc : Value} {od : Option Addr} {kV doc pm : Value} {an : Option Addr} {ct : Value} {osl : Array (Option Value)} (h1 : PySem.W.nsIn K mainGlobals x = some (some (.ref f)))
    (h2 : K.lookup f = some ⟨oc, od, .func (PySem.W.fnOf x x (defArgs st) (defBody st) (defScope st) .none kV doc pm an (.ref c) ct), osl⟩) (h3 : PySem.W.codeIn K (.ref c) x = true) (h4 : PySem.W.keepIn K (.ref f) = true) : DefInC K x st c := ⟨f, oc, od, kV, doc, pm, an, ct, osl, h1, h2, h3, h4⟩
theorem cstS_of {K : PySem.W.Frag} {x y : Str} {t : Tok} (h : PySem.W.nsIn K mainGlobals x = some (some (.str y t))) : ∃ t, PySem.W.nsIn K mainGlobals x = some (some (.str y t)) := ⟨t, h⟩
theorem cstI_of {K : PySem.W.Frag} {x : Str} {y : Int} {t : Tok} (h : PySem.W.nsIn K mainGlobals x = some (some (.int y t))) : ∃ t, PySem.W.nsIn K mainGlobals x = some (some (.int y t)) := ⟨t, h⟩
section
variable {K : PySem.W.Frag} {h : Heap} {mg : Str → Option Value} {x : Str} {st : Stmt} {ps : List Str}
def BindOk (x : Str) (st : Stmt) (ps : List Str) : Prop := ∀ (kV doc pm : Value) (an : Option Addr) (cdv ct : Value) (us : List Value), us.length = ps.length → bindArgs (PySem.W.fnOf x x (defArgs st) (defBody st) (defScope st) .none kV doc pm an cdv ct) ⟨us, []⟩ = pure (ps.zip us)
theorem DefIn.mk (d : DefIn K x st) (X : K.In h) (G : h.Ns mainGlobals mg) (hb : BindOk x st ps) : Def K mg x st ps := by
  obtain ⟨f, oc, od, kV, doc, pm, an, cdv, ct, osl, h1, h2, h3, h4⟩ := d
  have F := fun_mk (st := st) h2 h3 h4
  exact ⟨f, _, F, PySem.W.mg_of X G h1, F.binds hb⟩
theorem DefInC.mk {c : Addr} (d : DefInC K x st c) (X : K.In h) (G : h.Ns mainGlobals mg) (hb : BindOk x st ps) : DefC K mg x st ps c := by
  obtain ⟨f, oc, od, kV, doc, pm, an, ct, osl, h1, h2, h3, h4⟩ := d
  exact ⟨f, oc, od, kV, doc, pm, an, ct, osl, h2, h3, h4, PySem.W.mg_of X G h1, (fun_mk (st := st) h2 h3 h4).binds hb⟩
end
/-! ### what the head has written of classes and of second names -/
def MethIn (K : PySem.W.Frag) (C : Addr) (m qual : Str) (st : Stmt) : Prop :=
  ∃ (f : Addr) (oc : Value) (od : Option Addr) (kV doc pm : Value) (an : Option Addr) (cdv ct : Value) (osl : Array (Option Value)),
    PySem.W.findIn K (.ref C) m = some (some (.ref f)) ∧ PySem.W.isFn K (.ref f) = true ∧ K.lookup f = some ⟨oc, od, .func (PySem.W.fnOf m qual (defArgs st) (defBody st) (defScope st) .none kV doc pm an cdv ct), osl⟩ ∧ PySem.W.codeIn K cdv qual = true ∧ PySem.W.keepIn K (.ref f) = true
theorem MethIn.of {K : PySem.W.Frag} {C : Addr} {m qual : Str} {st : Stmt} {f : Addr} {oc : Value} {od : Option Addr} {kV doc pm : Value} {an : Option Addr} {cdv ct : Value} {osl : Array (Option Value)} (h1 : PySem.W.findIn K (.ref C) m = some (some (.ref f))) (h2 : PySem.W.isFn K (.ref f) = true)
    (h3 : K.lookup f = some ⟨oc, od, .func (PySem.W.fnOf m qual (defArgs st) (defBody st) (defScope st) .none kV doc pm an cdv ct), osl⟩) (h4 : PySem.W.codeIn K cdv qual = true) (h5 : PySem.W.keepIn K (.ref f) = true) : MethIn K C m qual st := ⟨f, oc, od, kV, doc, pm, an, cdv, ct, osl, h1, h2, h3, h4, h5⟩
def DefIn2 (K : PySem.W.Frag) (x y : Str) (st : Stmt) : Prop :=
  ∃ (f : Addr) (oc : Value) (od : Option Addr) (kV doc pm : Value) (an : Option Addr) (cdv ct : Value) (osl : Array (Option Value)),
    PySem.W.nsIn K mainGlobals x = some (some (.ref f)) ∧ PySem.W.nsIn K mainGlobals y = some (some (.ref f)) ∧ K.lookup f = some ⟨oc, od, .func (PySem.W.fnOf x x (defArgs st) (defBody st) (defScope st) .none kV doc pm an cdv ct), osl⟩ ∧ PySem.W.codeIn K cdv x = true ∧ PySem.W.keepIn K (.ref f) = true
theorem DefIn2.of {K : PySem.W.Frag} {x y : Str} {st : Stmt} {f : Addr} {oc : Value} {od : Option Addr} {kV doc pm : Value} {an : Option Addr} {cdv ct : Value} {osl : Array (Option Value)} (h1 : PySem.W.nsIn K mainGlobals x = some (some (.ref f))) (h2 : PySem.W.nsIn K mainGlobals y = some (some (.ref f)))
    (h3 : K.lookup f = some ⟨oc, od, .func (PySem.W.fnOf x x (defArgs st) (defBody st) (defScope st) .none kV doc pm an cdv ct), osl⟩) (h4 : PySem.W.codeIn K cdv x = true) (h5 : PySem.W.keepIn K (.ref f) = true) : DefIn2 K x y st := ⟨f, oc, od, kV, doc, pm, an, cdv, ct, osl, h1, h2, h3, h4, h5⟩
section
variable {P : Program} {w : World} {K : PySem.W.Frag} {mg : Str → Option Value} {base : Heap} {h : Heap}
theorem DefIn2.d {x y : Str} {st : Stmt} (d : DefIn2 K x y st) : DefIn K x st := by
  obtain ⟨f, oc, od, kV, doc, pm, an, cdv, ct, osl, h1, _, h3, h4, h5⟩ := d
  exact ⟨f, oc, od, kV, doc, pm, an, cdv, ct, osl, h1, h3, h4, h5⟩
theorem DefIn2.same {x y : Str} {st : Stmt} (d : DefIn2 K x y st) (X : K.In h) (G : h.Ns mainGlobals mg) : mg y = mg x := by
  obtain ⟨f, oc, od, kV, doc, pm, an, cdv, ct, osl, h1, h2, _⟩ := d
  rw [PySem.W.mg_of X G h1, PySem.W.mg_of X G h2]
theorem MethIn.fn {C : Addr} {m qual : Str} {st : Stmt} (d : MethIn K C m qual st) {ps : List Str} (hb : ∀ (kV doc pm : Value) (an : Option Addr) (cdv ct : Value) (us : List Value), us.length = ps.length → bindArgs (PySem.W.fnOf m qual (defArgs st) (defBody st) (defScope st) .none kV doc pm an cdv ct) ⟨us, []⟩ = pure (ps.zip us)) :
    ∃ (f : Addr) (fd : FuncData), Fun K m qual st f fd ∧ Meth K C m f ∧ Binds K fd ps [] := by
  obtain ⟨f, oc, od, kV, doc, pm, an, cdv, ct, osl, h1, h2, h3, h4, h5⟩ := d
  have F := fun_mk (st := st) h3 h4 h5
  exact ⟨f, _, F, ⟨h1, h2, h5⟩, F.binds hb⟩
end
open PySem.W (ksFn ks_superIn)
theorem exm_selfE {K : PySem.W.Frag} {S : Addr} (h1 : PySem.W.subIn K (.ref S) (.type "BaseException") = some true) (h2 : PySem.W.hasDictIn K S = true) (h3 : PySem.W.typeIn K (.ref S) = some (.type "type")) (h4 : PySem.W.subIn K (.ref S) (.ref S) = some true) :
    PySem.W.exmOne K (.ref S) (.ref S) = some true := PySem.W.exm_ref h1 h2 h3 h4
/-- what the head has written of the code of a def of a class -/
structure InitIn (P : Program) (K : PySem.W.Frag) (fld : Str) (C fI : Addr) (parts : List Expr) (ps : List Pos) (p1 p2 q1 q2 q3 q4 : Pos) (qual : Str) : Prop where
  ex : ∃ (oc : Value) (od : Option Addr) (doc pm kV : Value) (an : Option Addr) (cda cc : Addr) (ct : Value) (osl : Array (Option Value)),
    K.lookup fI = some ⟨oc, od, .func (ksFn "__init__" qual (supA fld p1 p2) (supB fld parts ps q1 q2 q3 q4) (supS fld) .none kV doc pm an (.ref cda) ct cc), osl⟩ ∧ PySem.W.codeIn K (.ref cda) qual = true ∧
    (∃ ccl cdd vs ccs file tf, K.lookup cda = some ⟨ccl, cdd, .fields vs, ccs⟩ ∧ vs[2]? = some (.str file tf) ∧ ((P.main.file : Str) == file) = true) ∧
    (∃ cl cld csl, K.lookup cc = some ⟨cl, cld, .cell (some (.ref C)), csl⟩)
theorem InitIn.of {P : Program} {K : PySem.W.Frag} {fld : Str} {C fI : Addr} {parts : List Expr} {ps : List Pos} {p1 p2 q1 q2 q3 q4 : Pos} {qual : Str} {oc : Value} {od : Option Addr} {doc pm kV : Value} {an : Option Addr} {cda cc : Addr} {ct : Value} {osl : Array (Option Value)} {ccl : Value} {cdd : Option Addr} {vs : Array Value} {ccs : Array (Option Value)} {file : Str} {tf : Tok} {cl : Value} {cld : Option Addr} {csl : Array (Option Value)}
    (h1 : K.lookup fI = some ⟨oc, od, .func (ksFn "__init__" qual (supA fld p1 p2) (supB fld parts ps q1 q2 q3 q4) (supS fld) .none kV doc pm an (.ref cda) ct cc), osl⟩) (h2 : PySem.W.codeIn K (.ref cda) qual = true)
    (h3 : K.lookup cda = some ⟨ccl, cdd, .fields vs, ccs⟩) (h4 : vs[2]? = some (.str file tf)) (h5 : ((P.main.file : Str) == file) = true) (h6 : K.lookup cc = some ⟨cl, cld, .cell (some (.ref C)), csl⟩) : InitIn P K fld C fI parts ps p1 p2 q1 q2 q3 q4 qual :=
  ⟨oc, od, doc, pm, kV, an, cda, cc, ct, osl, h1, h2, ⟨ccl, cdd, vs, ccs, file, tf, h3, h4, h5⟩, ⟨cl, cld, csl, h6⟩⟩
structure ClsIn (P : Program) (K : PySem.W.Frag) (nm fld : Str) (C fI CN : Addr) : Prop where
  aC : PySem.W.nsIn K mainGlobals nm = some (some (.ref C))
  cls : ∃ nm q N bs sn sub ab col dd k0 k1 k2 k3 k5, K.lookup C = some (excClassObj nm q C N bs [.ref CN, .type "ValueError", .type "Exception", .type "BaseException", .type "object"] true sn sub ab col dd k0 k1 k2 k3 k5 "ValueError.__new__")
  sa : PySem.W.findIn K (.ref C) "__setattr__" = some (some (.builtin "object.__setattr__"))
  ga : PySem.W.findIn K (.ref C) "__getattribute__" = some (some (.builtin "BaseException.__getattribute__"))
  gg : PySem.W.findIn K (.ref C) "__getattr__" = some none
  noN : PySem.W.findIn K (.ref C) fld = some none
  iC : PySem.W.findIn K (.ref C) "__init__" = some (some (.ref fI))
  tC : PySem.W.typeIn K (.ref fI) = some (.type "function")
  kC : PySem.W.keepIn K (.ref C) = true
  exC : PySem.W.subIn K (.ref C) (.type "BaseException") = some true
  tyC : PySem.W.typeIn K (.ref C) = some (.type "type")
  hdC : PySem.W.hasDictIn K C = true
  sC : PySem.W.subIn K (.ref C) (.ref C) = some true
  sup : ks_superIn K C C "__init__" = some (some (.builtin "ValueError.__init__"))
  subV : PySem.W.subIn K (.ref C) (.type "ValueError") = some true
  selfC : PySem.W.mroIn K C (.ref C) = some true
  gsup : PySem.W.nsIn K mainGlobals "super" = some none
  opq : PySem.W.nsIn K cStatics "thirdparty.any" = some none
  ha : PySem.W.findIn K (.ref C) "__class__" = some (some (.builtin "object.__class__"))
  hn : PySem.W.specialIn K (.builtin "object.__class__") "__get__" = some (some (.builtin "getset_descriptor.__get__"))
  ht : PySem.W.takesIn K (.builtin "object.__class__") = some true
  hm : PySem.W.mroIn K C (.type "object") = some true
theorem ClsIn.of {P : Program} {K : PySem.W.Frag} {nm fld : Str} {C fI CN : Addr} {nm' q : Str} {N : Addr} {bs : List Value} {sn : List Str} {sub : List Value} {ab : Bool} {col : Option Bool} {dd : Option Addr} {k0 k1 k2 k3 k5 : Option Value}
    (aC : PySem.W.nsIn K mainGlobals nm = some (some (.ref C)))
    (cls : K.lookup C = some (excClassObj nm' q C N bs [.ref CN, .type "ValueError", .type "Exception", .type "BaseException", .type "object"] true sn sub ab col dd k0 k1 k2 k3 k5 "ValueError.__new__"))
    (sa : PySem.W.findIn K (.ref C) "__setattr__" = some (some (.builtin "object.__setattr__")))
    (ga : PySem.W.findIn K (.ref C) "__getattribute__" = some (some (.builtin "BaseException.__getattribute__")))
    (gg : PySem.W.findIn K (.ref C) "__getattr__" = some none)
    (noN : PySem.W.findIn K (.ref C) fld = some none)
    (iC : PySem.W.findIn K (.ref C) "__init__" = some (some (.ref fI)))
    (tC : PySem.W.typeIn K (.ref fI) = some (.type "function"))
    (kC : PySem.W.keepIn K (.ref C) = true)
    (exC : PySem.W.subIn K (.ref C) (.type "BaseException") = some true)
    (tyC : PySem.W.typeIn K (.ref C) = some (.type "type"))
    (hdC : PySem.W.hasDictIn K C = true)
    (sC : PySem.W.subIn K (.ref C) (.ref C) = some true)
    (sup : ks_superIn K C C "__init__" = some (some (.builtin "ValueError.__init__")))
    (subV : PySem.W.subIn K (.ref C) (.type "ValueError") = some true)
    (selfC : PySem.W.mroIn K C (.ref C) = some true)
    (gsup : PySem.W.nsIn K mainGlobals "super" = some none)
    (opq : PySem.W.nsIn K cStatics "thirdparty.any" = some none)
    (ha : PySem.W.findIn K (.ref C) "__class__" = some (some (.builtin "object.__class__")))
    (hn : PySem.W.specialIn K (.builtin "object.__class__") "__get__" = some (some (.builtin "getset_descriptor.__get__")))
    (ht : PySem.W.takesIn K (.builtin "object.__class__") = some true)
    (hm : PySem.W.mroIn K C (.type "object") = some true) : ClsIn P K nm fld C fI CN :=
  ⟨aC, ⟨nm', q, N, bs, sn, sub, ab, col, dd, k0, k1, k2, k3, k5, cls⟩, sa, ga, gg, noN, iC, tC, kC, exC, tyC, hdC, sC, sup, subV, selfC, gsup, opq, ha, hn, ht, hm⟩
theorem ExcT.of {P : Program} {K : PySem.W.Frag} {h : Heap} {mg : Str → Option Value} {nm fld : Str} {C fI CN : Addr} {parts : List Expr} {ps : List Pos} {p1 p2 q1 q2 q3 q4 : Pos} {qual : Str} (X : K.In h) (G : h.Ns mainGlobals mg) (c : ClsIn P K nm fld C fI CN) (i : InitIn P K fld C fI parts ps p1 p2 q1 q2 q3 q4 qual)
    (htop : (P.main.scope.names.lookup ("super" : Str)).isSome = false) (hp : PartsOk fld parts (pz ps 3)) (hc : CallOk fld parts ps) : ExcT P K mg nm fld C fI where
  gC := PySem.W.mg_of X G c.aC
  cls := by
    obtain ⟨nm, q, N, bs, sn, sub, ab, col, dd, k0, k1, k2, k3, k5, e⟩ := c.cls
    exact ⟨nm, q, N, bs, _, sn, sub, ab, col, dd, k0, k1, k2, k3, k5, e, rfl⟩
  sa := c.sa
  ga := c.ga
  gg := c.gg
  noN := c.noN
  iC := c.iC
  tC := c.tC
  kC := c.kC
  exC := c.exC
  tyC := c.tyC
  hdC := c.hdC
  te := exm_selfE c.exC c.hdC c.tyC c.sC
  sup := c.sup
  subV := c.subV
  selfC := c.selfC
  gsup := c.gsup
  opq := c.opq
  htop := htop
  fn := by
    obtain ⟨oc, od, doc, pm, kV, an, cda, cc, ct, osl, h1, h2, h3, h4⟩ := i.ex
    exact ⟨oc, od, doc, pm, kV, an, cda, cc, ct, osl, p1, p2, q1, q2, q3, q4, ps, parts, qual, h1, h2, h3, h4, hp, hc⟩
  ec := ⟨c.ga, c.gg, c.exC, c.hdC, c.ha, c.hn, c.ht, c.hm⟩
theorem parts2 {fld c1 : Str} {k1 : Nat} {p1 p2 p3 jp : Pos} (FO : FldOk fld) (hc : c1.length ≤ 100) : PartsOk fld [.Constant (.str c1) k1 p1, .FormattedValue (.Name fld p2) (-1) none p3] jp :=
  fun _ _ _ _ _ _ _ _ _ _ _ _ _ hn hv hs h => join2 hn hv hs FO.fl FO.db hc h
abbrev parts_NotAllowed : List Expr := [.Constant (.str "not allowed: ") 0 ⟨12, 27, 12, 40⟩, .FormattedValue (.Name "word" ⟨12, 41, 12, 45⟩) (-1) none ⟨12, 40, 12, 46⟩]
abbrev ps_NotAllowed : List Pos := [⟨12, 8, 12, 13⟩, ⟨12, 8, 12, 15⟩, ⟨12, 8, 12, 24⟩, ⟨12, 25, 12, 47⟩, ⟨12, 8, 12, 48⟩, ⟨12, 8, 12, 48⟩]
theorem all_mk {l : PySem.W.OpenLaw} {w : World} {K : PySem.W.Frag} {h : Heap} {mg : Str → Option Value} {fa CN C_NotAllowed I_NotAllowed CB : Addr} (X : K.In h) (G : h.Ns mainGlobals mg) (hfa : mg "law" = some (.ref fa))
    (d1 : DefIn K "is_integer_in" s_is_integer_in) (d2 : DefIn K "is_tuple_of" s_is_tuple_of) (d3 : DefIn K "is_ascending" s_is_ascending) (d4 : DefIn K "is_word" s_is_word) (d5 : DefIn K "is_id" s_is_id) (d6 : DefIn K "are_ids" s_are_ids) (d7 : DefIn K "zone_names" s_zone_names) (d8 : DefIn K "slots" s_slots) (d9 : DefIn K "is_slot" s_is_slot) (d10 : DefIn K "is_item" s_is_item) (d11 : DefIn K "are_items" s_are_items) (d12 : DefIn K "is_server" s_is_server) (d13 : DefIn K "is_state" s_is_state) (d14 : DefIn K "item_of" s_item_of) (d15 : DefIn K "is_on" s_is_on) (d16 : DefIn K "is_deed" s_is_deed) (d17 : DefIn K "changed" s_changed) (d18 : DefIn K "after" s_after) (d19 : DefIn K "is_plan" s_is_plan) (d20 : DefIn K "state_at" s_state_at) (d21 : DefIn K "_law_mix" s_law_mix) (d22 : DefIn K "_law_tape" s_law_tape) (d23 : DefIn K "_law_take" s_law_take) (d24 : DefIn K "_law_id" s_law_id) (d25 : DefIn K "_law_ids" s_law_ids) (d26 : DefIn K "_law_label" s_law_label) (d27 : DefIn K "_law_labels" s_law_labels) (d28 : DefIn K "_law_lag" s_law_lag) (d29 : DefIn K "_law_zones" s_law_zones) (d30 : DefIn K "_law_realm" s_law_realm) (d31 : DefIn K "_law_chain" s_law_chain) (d32 : DefIn K "_law_slots" s_law_slots) (d33 : DefIn K "_law_home" s_law_home) (d34 : DefIn K "_law_life" s_law_life) (d35 : DefIn K "_law_pools" s_law_pools) (d36 : DefIn K "_law_pool" s_law_pool) (d37 : DefIn K "_law_item" s_law_item) (d38 : DefIn K "_law_first_item" s_law_first_item) (d39 : DefIn K "_law_start" s_law_start) (d40 : DefIn K "_law_at" s_law_at) (d41 : DefIn K "_law_after" s_law_after) (d42 : DefIn K "_law_server_deed" s_law_server_deed) (d43 : DefIn K "_law_mixed" s_law_mixed) (d44 : DefIn K "_law_deed" s_law_deed) (d45 : DefIn K "_law_deeds" s_law_deeds) (d46 : DefIn K "_law_bent_start" s_law_bent_start) (d47 : DefIn K "_law_timed" s_law_timed) (d48 : DefIn K "_law_bad_state" s_law_bad_state) (d49 : DefIn K "_law_bad_deeds" s_law_bad_deeds) (d50 : DefIn K "_law_refused" s_law_refused) (d51 : DefIn K "law" s_law)
    (c_NotAllowed : ClsIn l.prog K "NotAllowed" "word" C_NotAllowed I_NotAllowed CN) (i_NotAllowed : InitIn l.prog K "word" C_NotAllowed I_NotAllowed parts_NotAllowed ps_NotAllowed ⟨11, 17, 11, 21⟩ ⟨11, 23, 11, 27⟩ ⟨13, 8, 13, 12⟩ ⟨13, 8, 13, 17⟩ ⟨13, 20, 13, 24⟩ ⟨13, 8, 13, 24⟩ "NotAllowed.__init__")
    (tp : (l.prog.main.scope.names.lookup ("super" : Str)).isSome = false)
    (aN : PySem.W.nsIn K mainGlobals "NeverdarkError" = some (some (.ref CN)))
    (aB : PySem.W.nsIn K mainGlobals "BadText" = some (some (.ref CB)))
    (kN : PySem.W.kitOne K (.ref C_NotAllowed) (.ref CN) = some true)
    (kB : PySem.W.kitOne K (.ref C_NotAllowed) (.ref CB) = some false)
    (mb : ∀ x ∈ bltns, PySem.W.nsIn K mainGlobals x = some none) (c1 : ∃ t, PySem.W.nsIn K mainGlobals "LETTERS" = some (some (.str "abcdefghijklmnopqrstuvwxyz0123456789" t))) (c2 : ∃ t, PySem.W.nsIn K mainGlobals "MAX_ID" = some (some (.int 4 t))) (c3 : ∃ t, PySem.W.nsIn K mainGlobals "MAX_TIME" = some (some (.int 10000 t))) (c4 : ∃ t, PySem.W.nsIn K mainGlobals "MAX_LIFE" = some (some (.int 1000 t))) (c5 : ∃ t, PySem.W.nsIn K mainGlobals "MAX_IDS" = some (some (.int 4 t))) (c6 : ∃ t, PySem.W.nsIn K mainGlobals "MAX_SIGNERS" = some (some (.int 3 t))) (c7 : ∃ t, PySem.W.nsIn K mainGlobals "MAX_PLAN" = some (some (.int 12 t))) :
    LamX.LawAtS l w K CX0 9 63 "script" mg fa h := by
  have M : Cst mg := ⟨c1.imp fun _ e => PySem.W.mg_of X G e, c2.imp fun _ e => PySem.W.mg_of X G e, c3.imp fun _ e => PySem.W.mg_of X G e, c4.imp fun _ e => PySem.W.mg_of X G e, c5.imp fun _ e => PySem.W.mg_of X G e, c6.imp fun _ e => PySem.W.mg_of X G e, c7.imp fun _ e => PySem.W.mg_of X G e⟩
  have mb : ∀ x ∈ bltns, mg x = none := fun x hx => PySem.W.mg_none_of X G (mb x hx)
  have T_NotAllowed : ExcT l.prog K mg "NotAllowed" "word" C_NotAllowed I_NotAllowed := ExcT.of X G c_NotAllowed i_NotAllowed tp (parts2 fld_word (by decide +kernel)) (fun _ _ _ _ _ => ⟨_, rfl⟩)
  obtain ⟨f, oc, od, kV, doc, pm, an, cdv, ct, osl, h1, h2, h3, h4⟩ := d51
  have F_law := fun_mk (st := s_law) h2 h3 h4
  have e := hfa.symm.trans (PySem.W.mg_of X G h1)
  cases e
  have D_is_integer_in := d1.mk (ps := ["value", "least", "most"]) X G fun _ _ _ _ _ _ us hl => match us, hl with | [_, _, _], _ => rfl
  have D_is_tuple_of := d2.mk (ps := ["value", "least", "most"]) X G fun _ _ _ _ _ _ us hl => match us, hl with | [_, _, _], _ => rfl
  have D_is_ascending := d3.mk (ps := ["values"]) X G fun _ _ _ _ _ _ us hl => match us, hl with | [_], _ => rfl
  have D_is_word := d4.mk (ps := ["text", "letters", "most"]) X G fun _ _ _ _ _ _ us hl => match us, hl with | [_, _, _], _ => rfl
  have D_is_id := d5.mk (ps := ["text"]) X G fun _ _ _ _ _ _ us hl => match us, hl with | [_], _ => rfl
  have D_are_ids := d6.mk (ps := ["value", "least", "most"]) X G fun _ _ _ _ _ _ us hl => match us, hl with | [_, _, _], _ => rfl
  have D_zone_names := d7.mk (ps := ["realm"]) X G fun _ _ _ _ _ _ us hl => match us, hl with | [_], _ => rfl
  have D_slots := d8.mk (ps := ["realm"]) X G fun _ _ _ _ _ _ us hl => match us, hl with | [_], _ => rfl
  have D_is_slot := d9.mk (ps := ["realm", "value"]) X G fun _ _ _ _ _ _ us hl => match us, hl with | [_, _], _ => rfl
  have D_is_item := d10.mk (ps := ["slot", "value"]) X G fun _ _ _ _ _ _ us hl => match us, hl with | [_, _], _ => rfl
  have D_are_items := d11.mk (ps := ["realm", "value"]) X G fun _ _ _ _ _ _ us hl => match us, hl with | [_, _], _ => rfl
  have D_is_server := d12.mk (ps := ["realm", "value"]) X G fun _ _ _ _ _ _ us hl => match us, hl with | [_, _], _ => rfl
  have D_is_state := d13.mk (ps := ["realm", "value"]) X G fun _ _ _ _ _ _ us hl => match us, hl with | [_, _], _ => rfl
  have D_item_of := d14.mk (ps := ["state", "slot"]) X G fun _ _ _ _ _ _ us hl => match us, hl with | [_, _], _ => rfl
  have D_is_on := d15.mk (ps := ["state", "server", "zone"]) X G fun _ _ _ _ _ _ us hl => match us, hl with | [_, _, _], _ => rfl
  have D_is_deed := d16.mk (ps := ["realm", "state", "value"]) X G fun _ _ _ _ _ _ us hl => match us, hl with | [_, _, _], _ => rfl
  have D_changed := d17.mk (ps := ["state", "deed"]) X G fun _ _ _ _ _ _ us hl => match us, hl with | [_, _], _ => rfl
  have D_after := d18.mk (ps := ["realm", "state", "deed"]) X G fun _ _ _ _ _ _ us hl => match us, hl with | [_, _, _], _ => rfl
  have D_is_plan := d19.mk (ps := ["realm", "state", "value"]) X G fun _ _ _ _ _ _ us hl => match us, hl with | [_, _, _], _ => rfl
  have D_state_at := d20.mk (ps := ["realm", "state", "plan", "moment"]) X G fun _ _ _ _ _ _ us hl => match us, hl with | [_, _, _, _], _ => rfl
  have D_law_mix := d21.mk (ps := ["number"]) X G fun _ _ _ _ _ _ us hl => match us, hl with | [_], _ => rfl
  have D_law_tape := d22.mk (ps := ["script", "budget"]) X G fun _ _ _ _ _ _ us hl => match us, hl with | [_, _], _ => rfl
  have D_law_take := d23.mk (ps := ["tape", "many"]) X G fun _ _ _ _ _ _ us hl => match us, hl with | [_, _], _ => rfl
  have D_law_id := d24.mk (ps := ["tape"]) X G fun _ _ _ _ _ _ us hl => match us, hl with | [_], _ => rfl
  have D_law_ids := d25.mk (ps := ["tape", "many"]) X G fun _ _ _ _ _ _ us hl => match us, hl with | [_, _], _ => rfl
  have D_law_label := d26.mk (ps := ["tape"]) X G fun _ _ _ _ _ _ us hl => match us, hl with | [_], _ => rfl
  have D_law_labels := d27.mk (ps := ["tape"]) X G fun _ _ _ _ _ _ us hl => match us, hl with | [_], _ => rfl
  have D_law_lag := d28.mk (ps := ["tape"]) X G fun _ _ _ _ _ _ us hl => match us, hl with | [_], _ => rfl
  have D_law_zones := d29.mk (ps := ["tape", "most"]) X G fun _ _ _ _ _ _ us hl => match us, hl with | [_, _], _ => rfl
  have D_law_realm := d30.mk (ps := ["tape", "most"]) X G fun _ _ _ _ _ _ us hl => match us, hl with | [_, _], _ => rfl
  have D_law_chain := d31.mk (ps := ["realm", "name"]) X G fun _ _ _ _ _ _ us hl => match us, hl with | [_, _], _ => rfl
  have D_law_slots := d32.mk (ps := ["realm"]) X G fun _ _ _ _ _ _ us hl => match us, hl with | [_], _ => rfl
  have D_law_home := d33.mk (ps := ["realm", "slot"]) X G fun _ _ _ _ _ _ us hl => match us, hl with | [_, _], _ => rfl
  have D_law_life := d34.mk (ps := ["tape"]) X G fun _ _ _ _ _ _ us hl => match us, hl with | [_], _ => rfl
  have D_law_pools := d35.mk (ps := ["tape", "realm"]) X G fun _ _ _ _ _ _ us hl => match us, hl with | [_, _], _ => rfl
  have D_law_pool := d36.mk (ps := ["pools", "zone"]) X G fun _ _ _ _ _ _ us hl => match us, hl with | [_, _], _ => rfl
  have D_law_item := d37.mk (ps := ["content", "life", "signers"]) X G fun _ _ _ _ _ _ us hl => match us, hl with | [_, _, _], _ => rfl
  have D_law_first_item := d38.mk (ps := ["tape", "realm", "pools", "slot"]) X G fun _ _ _ _ _ _ us hl => match us, hl with | [_, _, _, _], _ => rfl
  have D_law_start := d39.mk (ps := ["tape", "realm", "pools"]) X G fun _ _ _ _ _ _ us hl => match us, hl with | [_, _, _], _ => rfl
  have D_law_at := d40.mk (ps := ["state", "slot"]) X G fun _ _ _ _ _ _ us hl => match us, hl with | [_, _], _ => rfl
  have D_law_after := d41.mk (ps := ["state", "deed"]) X G fun _ _ _ _ _ _ us hl => match us, hl with | [_, _], _ => rfl
  have D_law_server_deed := d42.mk (ps := ["tape", "realm", "state"]) X G fun _ _ _ _ _ _ us hl => match us, hl with | [_, _, _], _ => rfl
  have D_law_mixed := d43.mk (ps := ["tape", "realm", "pools", "slot", "item"]) X G fun _ _ _ _ _ _ us hl => match us, hl with | [_, _, _, _, _], _ => rfl
  have D_law_deed := d44.mk (ps := ["tape", "realm", "pools", "state"]) X G fun _ _ _ _ _ _ us hl => match us, hl with | [_, _, _, _], _ => rfl
  have D_law_deeds := d45.mk (ps := ["tape", "realm", "pools", "state", "many"]) X G fun _ _ _ _ _ _ us hl => match us, hl with | [_, _, _, _, _], _ => rfl
  have D_law_bent_start := d46.mk (ps := ["tape", "realm", "pools", "state"]) X G fun _ _ _ _ _ _ us hl => match us, hl with | [_, _, _, _], _ => rfl
  have D_law_timed := d47.mk (ps := ["tape", "deeds", "wide"]) X G fun _ _ _ _ _ _ us hl => match us, hl with | [_, _, _], _ => rfl
  have D_law_bad_state := d48.mk (ps := ["tape", "state"]) X G fun _ _ _ _ _ _ us hl => match us, hl with | [_, _], _ => rfl
  have D_law_bad_deeds := d49.mk (ps := ["tape", "realm", "state"]) X G fun _ _ _ _ _ _ us hl => match us, hl with | [_, _, _], _ => rfl
  have D_law_refused := d50.mk (ps := ["realm", "state", "deed"]) X G fun _ _ _ _ _ _ us hl => match us, hl with | [_, _, _], _ => rfl
  refine ⟨PySem.W.fnOf "law" "law" (defArgs s_law) (defBody s_law) (defScope s_law) .none kV doc pm an cdv ct, [], spLaw [] K, fun p hp => ?_, fun p hp => ?_, fun p hp => ?_, fun s u => .of_eq rfl, fun H a ns hl _ hT hS => ?_, fun base _ _ hTB => ?_⟩
  · cases hp
  · cases hp
  · cases hp
  · exact ⟨a, ns, rfl, hS, hl, fun _ => rfl⟩
  · have EI : ErrIs K mg C_NotAllowed CN CB := ⟨PySem.W.mg_of X G aN, PySem.W.mg_of X G aB, kN, kB⟩
    have O_law_tape := ok_law_tape (P := l.prog) (w := w) (base := base) (T := []) (D := D_law_tape) (mb := mb)
    have O_law_mix := ok_law_mix (P := l.prog) (w := w) (base := base) (D := D_law_mix) (mb := mb)
    have O_law_take := ok_law_take (P := l.prog) (w := w) (base := base) (T := []) (D := D_law_take) (mb := mb) (G_law_mix := O_law_mix)
    have O_law_id := ok_law_id (P := l.prog) (w := w) (base := base) (T := []) (D := D_law_id) (mb := mb) (G_law_take := O_law_take)
    have O_law_label := ok_law_label (P := l.prog) (w := w) (base := base) (T := []) (D := D_law_label) (mb := mb) (G_law_take := O_law_take) (G_law_id := O_law_id)
    have O_law_labels := ok_law_labels (P := l.prog) (w := w) (base := base) (T := []) (D := D_law_labels) (mb := mb) (G_law_label := O_law_label)
    have O_law_lag := ok_law_lag (P := l.prog) (w := w) (base := base) (T := []) (D := D_law_lag) (G_law_take := O_law_take)
    have O_law_zones := ok_law_zones (P := l.prog) (w := w) (base := base) (T := []) (D := D_law_zones) (mb := mb) (G_law_take := O_law_take) (G_law_labels := O_law_labels) (G_law_lag := O_law_lag)
    have O_law_ids := ok_law_ids (P := l.prog) (w := w) (base := base) (T := []) (D := D_law_ids) (mb := mb) (G_law_id := O_law_id)
    have O_law_realm := ok_law_realm (P := l.prog) (w := w) (base := base) (T := []) (D := D_law_realm) (mb := mb) (G_law_take := O_law_take) (G_law_zones := O_law_zones) (G_law_label := O_law_label) (G_law_id := O_law_id) (G_law_ids := O_law_ids)
    have O_law_pools := ok_law_pools (P := l.prog) (w := w) (base := base) (T := []) (D := D_law_pools) (mb := mb) (G_law_ids := O_law_ids)
    have O_law_slots := ok_law_slots (P := l.prog) (w := w) (base := base) (T := []) (D := D_law_slots) (mb := mb)
    have O_law_life := ok_law_life (P := l.prog) (w := w) (base := base) (T := []) (D := D_law_life) (G_law_take := O_law_take)
    have O_law_chain := ok_law_chain (P := l.prog) (w := w) (base := base) (T := []) (D := D_law_chain) (mb := mb)
    have O_law_home := ok_law_home (P := l.prog) (w := w) (base := base) (T := []) (D := D_law_home) (G_law_chain := O_law_chain)
    have O_law_pool := ok_law_pool (P := l.prog) (w := w) (base := base) (T := []) (D := D_law_pool) (mb := mb)
    have O_law_item := ok_law_item (P := l.prog) (w := w) (base := base) (T := []) (D := D_law_item) (mb := mb)
    have O_law_first_item := ok_law_first_item (P := l.prog) (w := w) (base := base) (T := []) (D := D_law_first_item) (mb := mb) (G_law_take := O_law_take) (G_law_life := O_law_life) (G_law_home := O_law_home) (G_law_pool := O_law_pool) (G_law_item := O_law_item) (G_law_ids := O_law_ids)
    have O_law_start := ok_law_start (P := l.prog) (w := w) (base := base) (T := []) (D := D_law_start) (mb := mb) (G_law_take := O_law_take) (G_law_slots := O_law_slots) (G_law_first_item := O_law_first_item)
    have O_law_at := ok_law_at (P := l.prog) (w := w) (base := base) (T := []) (D := D_law_at) (mb := mb)
    have O_law_mixed := ok_law_mixed (P := l.prog) (w := w) (base := base) (T := []) (D := D_law_mixed) (mb := mb) (G_law_take := O_law_take) (G_law_life := O_law_life) (G_law_home := O_law_home) (G_law_pool := O_law_pool) (G_law_ids := O_law_ids)
    have O_law_after := ok_law_after (P := l.prog) (w := w) (base := base) (T := []) (D := D_law_after) (mb := mb)
    have O_law_bent_start := ok_law_bent_start (P := l.prog) (w := w) (base := base) (T := []) (D := D_law_bent_start) (mb := mb) (G_law_take := O_law_take) (G_law_slots := O_law_slots) (G_law_at := O_law_at) (G_law_item := O_law_item) (G_law_pool := O_law_pool) (G_law_mixed := O_law_mixed) (G_law_after := O_law_after)
    have O_is_tuple_of := ok_is_tuple_of (P := l.prog) (w := w) (base := base) (D := D_is_tuple_of) (mb := mb)
    have O_zone_names := ok_zone_names (P := l.prog) (w := w) (base := base) (T := []) (D := D_zone_names) (mb := mb)
    have O_slots := ok_slots (P := l.prog) (w := w) (base := base) (T := []) (D := D_slots) (mb := mb) (G_zone_names := O_zone_names)
    have O_is_word := ok_is_word (P := l.prog) (w := w) (base := base) (T := []) (D := D_is_word) (mb := mb)
    have O_is_id := ok_is_id (P := l.prog) (w := w) (base := base) (T := []) (D := D_is_id) (M := M) (G_is_word := O_is_word)
    have O_is_ascending := ok_is_ascending (P := l.prog) (w := w) (base := base) (T := []) (D := D_is_ascending) (mb := mb)
    have O_are_ids := ok_are_ids (P := l.prog) (w := w) (base := base) (T := []) (D := D_are_ids) (mb := mb) (G_is_tuple_of := O_is_tuple_of) (G_is_id := O_is_id) (G_is_ascending := O_is_ascending)
    have O_is_integer_in := ok_is_integer_in (P := l.prog) (w := w) (base := base) (D := D_is_integer_in) (mb := mb)
    have O_is_item := ok_is_item (P := l.prog) (w := w) (base := base) (T := []) (D := D_is_item) (M := M) (G_is_tuple_of := O_is_tuple_of) (G_are_ids := O_are_ids) (G_is_integer_in := O_is_integer_in)
    have O_are_items := ok_are_items (P := l.prog) (w := w) (base := base) (T := []) (D := D_are_items) (mb := mb) (G_slots := O_slots) (G_is_tuple_of := O_is_tuple_of) (G_is_item := O_is_item)
    have O_is_server := ok_is_server (P := l.prog) (w := w) (base := base) (T := []) (D := D_is_server) (mb := mb) (G_is_tuple_of := O_is_tuple_of) (G_is_id := O_is_id) (G_zone_names := O_zone_names)
    have O_is_state := ok_is_state (P := l.prog) (w := w) (base := base) (T := []) (D := D_is_state) (mb := mb) (G_is_tuple_of := O_is_tuple_of) (G_are_items := O_are_items) (G_is_server := O_is_server) (G_is_ascending := O_is_ascending)
    have O_law_bad_state := ok_bad_state (P := l.prog) (w := w) (base := base) (T := []) (D := D_law_bad_state) (mb := mb) (G_law_take := O_law_take)
    have O_law_bad_deeds := ok_bad_deeds (P := l.prog) (w := w) (base := base) (T := []) (D := D_law_bad_deeds) (mb := mb) (G_law_take := O_law_take)
    have O_is_slot := ok_is_slot (P := l.prog) (w := w) (base := base) (T := []) (D := D_is_slot) (G_slots := O_slots)
    have O_is_on := ok_is_onD (P := l.prog) (w := w) (base := base) (T := []) (D := D_is_on)
    have O_is_deed := ok_is_deed (P := l.prog) (w := w) (base := base) (T := []) (D := D_is_deed) (mb := mb) (G_is_tuple_of := O_is_tuple_of) (G_is_slot := O_is_slot) (G_is_item := O_is_item) (G_is_server := O_is_server) (G_is_on := O_is_on)
    have O_changed := ok_changed (P := l.prog) (w := w) (base := base) (T := []) (D := D_changed) (mb := mb)
    have O_after := ok_after (P := l.prog) (w := w) (base := base) (T := []) (D := D_after) (mb := mb) (G_is_deed := O_is_deed) (G_changed := O_changed) (T_NotAllowed := T_NotAllowed)
    have O_law_refused := ok_law_refused (P := l.prog) (w := w) (base := base) (T := []) (D := D_law_refused) (mb := mb) (G_after := O_after) (T_NotAllowed := T_NotAllowed) (EI := EI)
    have O_law_server_deed := ok_law_server_deed (P := l.prog) (w := w) (base := base) (T := []) (D := D_law_server_deed) (mb := mb) (G_law_take := O_law_take) (G_law_life := O_law_life) (G_law_item := O_law_item)
    have O_law_deed := ok_law_deed (P := l.prog) (w := w) (base := base) (T := []) (D := D_law_deed) (mb := mb) (G_law_take := O_law_take) (G_law_slots := O_law_slots) (G_law_server_deed := O_law_server_deed) (G_law_life := O_law_life) (G_law_item := O_law_item) (G_law_at := O_law_at) (G_law_mixed := O_law_mixed)
    have O_law_deeds := ok_law_deeds (P := l.prog) (w := w) (base := base) (T := []) (D := D_law_deeds) (mb := mb) (G_law_deed := O_law_deed) (G_law_after := O_law_after)
    have O_law_timed := ok_law_timed (P := l.prog) (w := w) (base := base) (T := []) (D := D_law_timed) (mb := mb) (G_law_take := O_law_take)
    have O_is_plan := ok_is_plan (P := l.prog) (w := w) (base := base) (T := []) (D := D_is_plan) (mb := mb) (M := M) (G_is_tuple_of := O_is_tuple_of) (G_is_integer_in := O_is_integer_in) (G_is_deed := O_is_deed) (G_changed := O_changed)
    have O_state_at := ok_state_at (P := l.prog) (w := w) (base := base) (T := []) (D := D_state_at) (G_changed := O_changed)
    have O_item_of := ok_item_of (P := l.prog) (w := w) (base := base) (T := []) (D := D_item_of) (mb := mb)
    exact ok_law F_law mb O_law_tape O_law_take O_law_realm O_law_pools O_law_start O_law_bent_start O_is_state O_law_bad_state O_law_bad_deeds O_is_deed O_law_refused O_law_deeds O_law_timed O_is_plan O_after.ok0 O_law_after O_state_at O_item_of O_is_on
end NK
open PySem.W
set_option maxHeartbeats 0 in
theorem PySem.Challenge.cw_neverdark_k21_forms_of_states_holds : PySem.Challenge.rw_neverdark_k21_forms_of_states.Holds := by
  w_on; o_law; k_head; (case hw => w_witness2)
  k_fill
  refine LamX.walk_ofTs (l := PySem.Challenge.rw_neverdark_k21_forms_of_states) (n := 63) (k := 9) (x := "script") (CX := fun _ => L2.CX0) rfl (by decide) rfl ⟨rfl, by decide, by decide⟩ (fun w h Y => Y) ?F (fun _ _ _ _ _ h => h)
  case F =>
    intro w mg fa h Y KX G hmg
    refine' NK.all_mk KX G hmg ?d1 ?d2 ?d3 ?d4 ?d5 ?d6 ?d7 ?d8 ?d9 ?d10 ?d11 ?d12 ?d13 ?d14 ?d15 ?d16 ?d17 ?d18 ?d19 ?d20 ?d21 ?d22 ?d23 ?d24 ?d25 ?d26 ?d27 ?d28 ?d29 ?d30 ?d31 ?d32 ?d33 ?d34 ?d35 ?d36 ?d37 ?d38 ?d39 ?d40 ?d41 ?d42 ?d43 ?d44 ?d45 ?d46 ?d47 ?d48 ?d49 ?d50 ?d51 ?c_NotAllowed ?i_NotAllowed ?tp ?aN ?aB ?kN ?kB ?mb ?c1 ?c2 ?c3 ?c4 ?c5 ?c6 ?c7
    case d1 => (refine' NK.DefIn.of ?x1 ?x2 ?x3 ?x4; (case x1 => k_is); (case x2 => k_is); (case x3 => k_is); (case x4 => k_is))
    case d2 => (refine' NK.DefIn.of ?x1 ?x2 ?x3 ?x4; (case x1 => k_is); (case x2 => k_is); (case x3 => k_is); (case x4 => k_is))
    case d3 => (refine' NK.DefIn.of ?x1 ?x2 ?x3 ?x4; (case x1 => k_is); (case x2 => k_is); (case x3 => k_is); (case x4 => k_is))
    case d4 => (refine' NK.DefIn.of ?x1 ?x2 ?x3 ?x4; (case x1 => k_is); (case x2 => k_is); (case x3 => k_is); (case x4 => k_is))
    case d5 => (refine' NK.DefIn.of ?x1 ?x2 ?x3 ?x4; (case x1 => k_is); (case x2 => k_is); (case x3 => k_is); (case x4 => k_is))
    case d6 => (refine' NK.DefIn.of ?x1 ?x2 ?x3 ?x4; (case x1 => k_is); (case x2 => k_is); (case x3 => k_is); (case x4 => k_is))
    case d7 => (refine' NK.DefIn.of ?x1 ?x2 ?x3 ?x4; (case x1 => k_is); (case x2 => k_is); (case x3 => k_is); (case x4 => k_is))
    case d8 => (refine' NK.DefIn.of ?x1 ?x2 ?x3 ?x4; (case x1 => k_is); (case x2 => k_is); (case x3 => k_is); (case x4 => k_is))
    case d9 => (refine' NK.DefIn.of ?x1 ?x2 ?x3 ?x4; (case x1 => k_is); (case x2 => k_is); (case x3 => k_is); (case x4 => k_is))
    case d10 => (refine' NK.DefIn.of ?x1 ?x2 ?x3 ?x4; (case x1 => k_is); (case x2 => k_is); (case x3 => k_is); (case x4 => k_is))
    case d11 => (refine' NK.DefIn.of ?x1 ?x2 ?x3 ?x4; (case x1 => k_is); (case x2 => k_is); (case x3 => k_is); (case x4 => k_is))
    case d12 => (refine' NK.DefIn.of ?x1 ?x2 ?x3 ?x4; (case x1 => k_is); (case x2 => k_is); (case x3 => k_is); (case x4 => k_is))
    case d13 => (refine' NK.DefIn.of ?x1 ?x2 ?x3 ?x4; (case x1 => k_is); (case x2 => k_is); (case x3 => k_is); (case x4 => k_is))
    case d14 => (refine' NK.DefIn.of ?x1 ?x2 ?x3 ?x4; (case x1 => k_is); (case x2 => k_is); (case x3 => k_is); (case x4 => k_is))
    case d15 => (refine' NK.DefIn.of ?x1 ?x2 ?x3 ?x4; (case x1 => k_is); (case x2 => k_is); (case x3 => k_is); (case x4 => k_is))
    case d16 => (refine' NK.DefIn.of ?x1 ?x2 ?x3 ?x4; (case x1 => k_is); (case x2 => k_is); (case x3 => k_is); (case x4 => k_is))
    case d17 => (refine' NK.DefIn.of ?x1 ?x2 ?x3 ?x4; (case x1 => k_is); (case x2 => k_is); (case x3 => k_is); (case x4 => k_is))
    case d18 => (refine' NK.DefIn.of ?x1 ?x2 ?x3 ?x4; (case x1 => k_is); (case x2 => k_is); (case x3 => k_is); (case x4 => k_is))
    case d19 => (refine' NK.DefIn.of ?x1 ?x2 ?x3 ?x4; (case x1 => k_is); (case x2 => k_is); (case x3 => k_is); (case x4 => k_is))
    case d20 => (refine' NK.DefIn.of ?x1 ?x2 ?x3 ?x4; (case x1 => k_is); (case x2 => k_is); (case x3 => k_is); (case x4 => k_is))
    case d21 => (refine' NK.DefIn.of ?x1 ?x2 ?x3 ?x4; (case x1 => k_is); (case x2 => k_is); (case x3 => k_is); (case x4 => k_is))
    case d22 => (refine' NK.DefIn.of ?x1 ?x2 ?x3 ?x4; (case x1 => k_is); (case x2 => k_is); (case x3 => k_is); (case x4 => k_is))
    case d23 => (refine' NK.DefIn.of ?x1 ?x2 ?x3 ?x4; (case x1 => k_is); (case x2 => k_is); (case x3 => k_is); (case x4 => k_is))
    case d24 => (refine' NK.DefIn.of ?x1 ?x2 ?x3 ?x4; (case x1 => k_is); (case x2 => k_is); (case x3 => k_is); (case x4 => k_is))
    case d25 => (refine' NK.DefIn.of ?x1 ?x2 ?x3 ?x4; (case x1 => k_is); (case x2 => k_is); (case x3 => k_is); (case x4 => k_is))
    case d26 => (refine' NK.DefIn.of ?x1 ?x2 ?x3 ?x4; (case x1 => k_is); (case x2 => k_is); (case x3 => k_is); (case x4 => k_is))
    case d27 => (refine' NK.DefIn.of ?x1 ?x2 ?x3 ?x4; (case x1 => k_is); (case x2 => k_is); (case x3 => k_is); (case x4 => k_is))
    case d28 => (refine' NK.DefIn.of ?x1 ?x2 ?x3 ?x4; (case x1 => k_is); (case x2 => k_is); (case x3 => k_is); (case x4 => k_is))
    case d29 => (refine' NK.DefIn.of ?x1 ?x2 ?x3 ?x4; (case x1 => k_is); (case x2 => k_is); (case x3 => k_is); (case x4 => k_is))
    case d30 => (refine' NK.DefIn.of ?x1 ?x2 ?x3 ?x4; (case x1 => k_is); (case x2 => k_is); (case x3 => k_is); (case x4 => k_is))
    case d31 => (refine' NK.DefIn.of ?x1 ?x2 ?x3 ?x4; (case x1 => k_is); (case x2 => k_is); (case x3 => k_is); (case x4 => k_is))
    case d32 => (refine' NK.DefIn.of ?x1 ?x2 ?x3 ?x4; (case x1 => k_is); (case x2 => k_is); (case x3 => k_is); (case x4 => k_is))
    case d33 => (refine' NK.DefIn.of ?x1 ?x2 ?x3 ?x4; (case x1 => k_is); (case x2 => k_is); (case x3 => k_is); (case x4 => k_is))
    case d34 => (refine' NK.DefIn.of ?x1 ?x2 ?x3 ?x4; (case x1 => k_is); (case x2 => k_is); (case x3 => k_is); (case x4 => k_is))
    case d35 => (refine' NK.DefIn.of ?x1 ?x2 ?x3 ?x4; (case x1 => k_is); (case x2 => k_is); (case x3 => k_is); (case x4 => k_is))
    case d36 => (refine' NK.DefIn.of ?x1 ?x2 ?x3 ?x4; (case x1 => k_is); (case x2 => k_is); (case x3 => k_is); (case x4 => k_is))
    case d37 => (refine' NK.DefIn.of ?x1 ?x2 ?x3 ?x4; (case x1 => k_is); (case x2 => k_is); (case x3 => k_is); (case x4 => k_is))
    case d38 => (refine' NK.DefIn.of ?x1 ?x2 ?x3 ?x4; (case x1 => k_is); (case x2 => k_is); (case x3 => k_is); (case x4 => k_is))
    case d39 => (refine' NK.DefIn.of ?x1 ?x2 ?x3 ?x4; (case x1 => k_is); (case x2 => k_is); (case x3 => k_is); (case x4 => k_is))
    case d40 => (refine' NK.DefIn.of ?x1 ?x2 ?x3 ?x4; (case x1 => k_is); (case x2 => k_is); (case x3 => k_is); (case x4 => k_is))
    case d41 => (refine' NK.DefIn.of ?x1 ?x2 ?x3 ?x4; (case x1 => k_is); (case x2 => k_is); (case x3 => k_is); (case x4 => k_is))
    case d42 => (refine' NK.DefIn.of ?x1 ?x2 ?x3 ?x4; (case x1 => k_is); (case x2 => k_is); (case x3 => k_is); (case x4 => k_is))
    case d43 => (refine' NK.DefIn.of ?x1 ?x2 ?x3 ?x4; (case x1 => k_is); (case x2 => k_is); (case x3 => k_is); (case x4 => k_is))
    case d44 => (refine' NK.DefIn.of ?x1 ?x2 ?x3 ?x4; (case x1 => k_is); (case x2 => k_is); (case x3 => k_is); (case x4 => k_is))
    case d45 => (refine' NK.DefIn.of ?x1 ?x2 ?x3 ?x4; (case x1 => k_is); (case x2 => k_is); (case x3 => k_is); (case x4 => k_is))
    case d46 => (refine' NK.DefIn.of ?x1 ?x2 ?x3 ?x4; (case x1 => k_is); (case x2 => k_is); (case x3 => k_is); (case x4 => k_is))
    case d47 => (refine' NK.DefIn.of ?x1 ?x2 ?x3 ?x4; (case x1 => k_is); (case x2 => k_is); (case x3 => k_is); (case x4 => k_is))
    case d48 => (refine' NK.DefIn.of ?x1 ?x2 ?x3 ?x4; (case x1 => k_is); (case x2 => k_is); (case x3 => k_is); (case x4 => k_is))
    case d49 => (refine' NK.DefIn.of ?x1 ?x2 ?x3 ?x4; (case x1 => k_is); (case x2 => k_is); (case x3 => k_is); (case x4 => k_is))
    case d50 => (refine' NK.DefIn.of ?x1 ?x2 ?x3 ?x4; (case x1 => k_is); (case x2 => k_is); (case x3 => k_is); (case x4 => k_is))
    case d51 => (refine' NK.DefIn.of ?x1 ?x2 ?x3 ?x4; (case x1 => k_is); (case x2 => k_is); (case x3 => k_is); (case x4 => k_is))
    case c_NotAllowed => (refine' NK.ClsIn.of ?x1 ?x2 ?x3 ?x4 ?x5 ?x6 ?x7 ?x8 ?x9 ?x10 ?x11 ?x12 ?x13 ?x14 ?x15 ?x16 ?x17 ?x18 ?x19 ?x20 ?x21 ?x22; (case x1 => first | k_is | ks_is | exact rfl); (case x2 => first | k_is | ks_is | exact rfl); (case x3 => first | k_is | ks_is | exact rfl); (case x4 => first | k_is | ks_is | exact rfl); (case x5 => first | k_is | ks_is | exact rfl); (case x6 => first | k_is | ks_is | exact rfl); (case x7 => first | k_is | ks_is | exact rfl); (case x8 => first | k_is | ks_is | exact rfl); (case x9 => first | k_is | ks_is | exact rfl); (case x10 => first | k_is | ks_is | exact rfl); (case x11 => first | k_is | ks_is | exact rfl); (case x12 => first | k_is | ks_is | exact rfl); (case x13 => first | k_is | ks_is | exact rfl); (case x14 => first | k_is | ks_is | exact rfl); (case x15 => first | k_is | ks_is | exact rfl); (case x16 => first | k_is | ks_is | exact rfl); (case x17 => first | k_is | ks_is | exact rfl); (case x18 => first | k_is | ks_is | exact rfl); (case x19 => first | k_is | ks_is | exact rfl); (case x20 => first | k_is | ks_is | exact rfl); (case x21 => first | k_is | ks_is | exact rfl); (case x22 => first | k_is | ks_is | exact rfl))
    case i_NotAllowed => (refine' NK.InitIn.of ?x1 ?x2 ?x3 ?x4 ?x5 ?x6; (case x1 => k_is); (case x2 => k_is); (case x3 => k_is); (case x4 => exact rfl); (case x5 => first | exact rfl | decide +kernel); (case x6 => k_is))
    case tp => first | exact rfl | decide +kernel
    case aN => first | k_is | k_exc | exact rfl | decide +kernel
    case aB => first | k_is | k_exc | exact rfl | decide +kernel
    case kN => first | k_is | k_exc | exact rfl | decide +kernel
    case kB => first | k_is | k_exc | exact rfl | decide +kernel
    case mb =>
      intro x hx
      rcases List.mem_cons.mp hx with e | hx
      · rw [e]; k_is
      rcases List.mem_cons.mp hx with e | hx
      · rw [e]; k_is
      rcases List.mem_cons.mp hx with e | hx
      · rw [e]; k_is
      rcases List.mem_cons.mp hx with e | hx
      · rw [e]; k_is
      rcases List.mem_cons.mp hx with e | hx
      · rw [e]; k_is
      rcases List.mem_cons.mp hx with e | hx
      · rw [e]; k_is
      rcases List.mem_cons.mp hx with e | hx
      · rw [e]; k_is
      rcases List.mem_cons.mp hx with e | hx
      · rw [e]; k_is
      rcases List.mem_cons.mp hx with e | hx
      · rw [e]; k_is
      rcases List.mem_cons.mp hx with e | hx
      · rw [e]; k_is
      rcases List.mem_cons.mp hx with e | hx
      · rw [e]; k_is
      rcases List.mem_cons.mp hx with e | hx
      · rw [e]; k_is
      rcases List.mem_cons.mp hx with e | hx
      · rw [e]; k_is
      rcases List.mem_cons.mp hx with e | hx
      · rw [e]; k_is
      rcases List.mem_cons.mp hx with e | hx
      · rw [e]; k_is
      rcases List.mem_cons.mp hx with e | hx
      · rw [e]; k_is
      rcases List.mem_cons.mp hx with e | hx
      · rw [e]; k_is
      rcases List.mem_cons.mp hx with e | hx
      · rw [e]; k_is
      cases hx
    case c1 => refine' NK.cstS_of ?x; (case x => k_is)
    case c2 => refine' NK.cstI_of ?x; (case x => k_is)
    case c3 => refine' NK.cstI_of ?x; (case x => k_is)
    case c4 => refine' NK.cstI_of ?x; (case x => k_is)
    case c5 => refine' NK.cstI_of ?x; (case x => k_is)
    case c6 => refine' NK.cstI_of ?x; (case x => k_is)
    case c7 => refine' NK.cstI_of ?x; (case x => k_is)
