import PyProof.Rows.All
import Wide.All
import OpenK.AllK
import Wide.FinOn
import PySem.Challenge.RW_neverdark_k56_forms_of_tables
import HandS.ForMost
import HandS.Walk
import HandS.IsInst
import HandS.Style
import HandS.FStr
import HandS.WideBits
import HandS.Deep
import HandS.Steps
import HandS.Lambda
import HandS.EndTab
import KE.SortKeyHeap
import KE.DatumOrd
import KE.KDictPairs
import KE.KDictCopyH
import PyProof.P3In
import HandS.NoneIn
import HandS.Star
import HandS.ForExc
import HandS.ExcIs
import HandS.ExcField
import HandS.ExcSuper
import KE.KExcSuper
import HandS.List
import KE.DataMinMax
import HandS.Flow
import HandS.Iter
import HandS.Zip
import HandS.DictTup
import KE.SortData
import KE.KUnpackStar
import HandS.CallLocal
import KE.GoesEnumKw
import KE.GoesMore
import HandS.Codes
import KE.DataCmp
import KE.GoesEnum
import KE.KItemsList
import HandS.MapObj
import PyProof.TupleOfGen
import HandS.Conv
import HandS.ExcValue
import HandS.TupMul
import KE.RegKSuper
set_option Elab.async false
set_option linter.all false
set_option maxRecDepth 100000
set_option maxHeartbeats 4000000
namespace NK
open PySem PySem.Spec PyProof.Rows L2
/-! ### a def of the text that keeps a promise, found by its name -/
def Ok (P : Program) (w : World) (K : PySem.W.Frag) (mg : Str → Option Value) (base : Heap) (k : Nat) (x : Str) (ps : List Str) (sp : Sp) : Prop :=
  ∃ (f : Addr) (fd : FuncData), FnOk P w K mg base CX0 k f fd ps sp ∧ mg x = some (.ref f) ∧ PySem.W.keepIn K (.ref f) = true ∧ Binds K fd ps []
def Def (K : PySem.W.Frag) (mg : Str → Option Value) (x : Str) (st : Stmt) (ps : List Str) : Prop :=
  ∃ (f : Addr) (fd : FuncData), Fun K x x st f fd ∧ mg x = some (.ref f) ∧ Binds K fd ps []
section
variable {P : Program} {w : World} {K : PySem.W.Frag} {mg : Str → Option Value} {base : Heap}
theorem Def.ok {x : Str} {st : Stmt} {N ps : List Str} {k : Nat} {sp : Sp} (D : Def K mg x st ps) (S : FnScope N ps (defScope st)) (len : ∀ vs H Q E, sp vs H Q E → vs.length = ps.length)
    (hbody : ∀ (cdv : Value) (f : Addr) (A : Around) (outer : List Env) (s : Shared) (H : Hp) (vs : List V) (Q : VK) (E : XK), Room k (A.deeper (envOfC x (defScope st) s.heap.objs.size f cdv)) → sp vs H Q E →
      ∃ t, PSs (cxOf CX0 P w K mg base N x (defScope st) f cdv A outer s H E).nox (defBody st) t ∧ t { nx := fun _ H' => Q .non H', rt := Q } (start N vs) H) : Ok P w K mg base (k + 1) x ps sp := by
  obtain ⟨f, fd, F, hm, hb⟩ := D
  exact ⟨f, fd, F.ok S len fun cdv A outer s H vs Q E hr h => hbody cdv f A outer s H vs Q E hr h, hm, F.kp, hb⟩
theorem Ok.mono {j k : Nat} {x : Str} {ps : List Str} {sp : Sp} (h : Ok P w K mg base j x ps sp) (hk : j ≤ k) : Ok P w K mg base k x ps sp := by
  obtain ⟨f, fd, F, r⟩ := h
  exact ⟨f, fd, F.mono hk, r⟩
end
section
variable {X : Cx}
theorem pe_callO {x : Str} {p pos : Pos} {e : Expr} {es : List Expr} {t : TA} {k : Nat} {ps : List Str} {sp : Sp} (h : Ok X.prog X.w X.K X.mg X.base k x ps sp) (hr : Room k X.A) (hg : Gl X x) (ha : PA X (e :: es) t)
    (hdb : (x == ("__debug__" : Str)) = false := by decide) (he : starEach (e :: es) X.env = (false, eval e X.env) :: starEach es X.env := by rfl) (hpl : (backTo pos (starEach es X.env)).any (·.1) = false := by rfl) :
    PE X (.Call (.Name x p) (e :: es) [] pos) (tCall sp [] E0 t) := by
  obtain ⟨f, fd, F, hm, hk, hb⟩ := h
  exact pe_call F hr hg hm hk hb .nil pass0 ha hdb he hpl
/-- a module's constant -/
theorem pe_glS {x : Str} {z : Str} {pos : Pos} (hg : Gl X x) (hm : ∃ t, X.mg x = some (.str z t)) (hd : (x == ("__debug__" : Str)) = false := by decide) : PE X (.Name x pos) (tC (.str z)) := by
  obtain ⟨t, hm⟩ := hm
  exact pe_glob hg hm ⟨t, rfl⟩ hd
theorem pe_glI {x : Str} {z : Int} {pos : Pos} (hg : Gl X x) (hm : ∃ t, X.mg x = some (.int z t)) (hd : (x == ("__debug__" : Str)) = false := by decide) : PE X (.Name x pos) (tC (.int z)) := by
  obtain ⟨t, hm⟩ := hm
  exact pe_glob hg hm ⟨t, rfl⟩ hd
/-- the empty tuple ahead of another one -/
def rCatT0 (K : PySem.W.Frag) : R2 := fun x y H Q => ∃ a b ys, x = .ref a ∧ y = .ref b ∧ SqT K H a [] ∧ SqT K H b ys ∧ Q (.ref b) H
theorem op_catT0 {X : Cx} (K : PySem.W.Frag) (hK : X.K = K) : OpR X (binaryOp .Add) (rCatT0 K) := by
  subst hK
  intro pins s σ H x y v u Q I rx ry h
  obtain ⟨a, b, ys, rfl, rfl, ha, hb, q⟩ := h
  cases rx
  cases ry
  obtain ⟨its, rv, ⟨o, ho, hc, n, hd⟩, hz⟩ := I.tuple ha
  obtain ⟨its2, rv2, ⟨o2, ho2, hc2, n2, hd2⟩, hz2⟩ := I.tuple hb
  cases rv
  obtain ⟨c1, d1, k1, s1⟩ := o
  obtain ⟨c2, d2, k2, s2⟩ := o2
  simp only at hc hd hc2 hd2
  subst hc hd hc2 hd2
  have t1 : s.TypeIs (.ref a) "tuple" := ⟨_, ho, rfl⟩
  have t2 : s.TypeIs (.ref b) "tuple" := ⟨_, ho2, rfl⟩
  refine PySem.wpAny_binaryOp_concat (T := "tuple") (id := "tuple.__add__") t1 t2 PySem.noFill_tuple_add PySem.seq_tuple_add ?_
  exact PySem.call_meets PySem.F.slot_tuple_add t1 PySem.F.entry_tuple_add (PySem.F.args_tuple_add_2 _ _) (PyProof.Rows.tuple_addW0 a b #[] its2.toArray n n2 d1 d2 s1 s2 rfl) ⟨ho, ho2, ⟨.ref b, H, I, rfl, q⟩⟩
/-! ### one rule for each sign, whatever its operands are; K is the written part by its name -/
def rPlus (K : PySem.W.Frag) : R2 := fun x y H Q => (rI0 (fun i j => .int (i + j)) x y H Q) ∨ (∃ i j, x = .str i ∧ y = .str j ∧ i.length + j.length ≤ sizeLine ∧ Q (.str (i ++ j)) H) ∨ (rCat x y H Q) ∨ (rCatT K x y H Q) ∨ (rCatT0 K x y H Q)
theorem op_plus (K : PySem.W.Frag) (hK : X.K = K) : OpR X (binaryOp .Add) (rPlus K) := by
  have h0 := op_catT0 (X := X) K hK
  subst hK
  exact op_add.or (op_add_str.or (op_cat.or (op_catT.or h0)))
def rEqU (K : PySem.W.Frag) : R2 := fun x y H Q => rEq x y H Q ∨ rEqD K x y H Q
def rNeU (K : PySem.W.Frag) : R2 := fun x y H Q => rNe x y H Q ∨ rNeD K x y H Q
theorem op_eqU (K : PySem.W.Frag) (hK : X.K = K) (hu : X.A.units + 64 < cLine) : OpR X (compareOp .Eq) (rEqU K) := by
  subst hK
  exact op_eq.or (op_eqD hu)
theorem op_neU (K : PySem.W.Frag) (hK : X.K = K) (hu : X.A.units + 64 < cLine) : OpR X (compareOp .NotEq) (rNeU K) := by
  subst hK
  exact op_ne.or (op_neD hu)
def rInU (K : PySem.W.Frag) : R2 := fun x y H Q => rIn K false x y H Q ∨ rInS x y H Q
def rNinU (K : PySem.W.Frag) : R2 := fun x y H Q => rIn K true x y H Q ∨ rNotInS x y H Q
theorem op_inU (K : PySem.W.Frag) (hK : X.K = K) : OpR X (compareOp .In) (rInU K) := by
  subst hK
  exact op_in_seq.or op_in_sign
theorem op_ninU (K : PySem.W.Frag) (hK : X.K = K) : OpR X (compareOp .NotIn) (rNinU K) := by
  subst hK
  exact op_notIn_seq.or op_notIn_sign
def rIsNU : R2 := fun x y H Q => rNotB x y H Q ∨ rNotN x y H Q
theorem op_isnotU : OpR X (compareOp .IsNot) rIsNU := op_notBl.or op_notN
theorem ix_U (K : PySem.W.Frag) (hK : X.K = K) : IxR X (rIx K) := by
  subst hK
  exact ix_seq
def rSlU (K : PySem.W.Frag) : V → Option Int → Option Int → Hp → VK → Prop := fun x lo hi H Q => rSlL K x lo hi H Q ∨ rSlS x lo hi H Q ∨ rSlT K x lo hi H Q
theorem sl_U (K : PySem.W.Frag) (hK : X.K = K) : SlR X (rSlU K) := by
  subst hK
  exact sl_list.or (sl_str.or sl_tup)
def rLenU (K : PySem.W.Frag) : List V → Hp → VK → Prop := fun xs H Q => (∃ z, xs = [.str z] ∧ z.length ≤ sizeLine ∧ Q (.int z.length) H) ∨ (∃ p ys, xs = [.ref p] ∧ (SqL K H p ys ∨ SqT K H p ys) ∧ Q (.int ys.length) H)
theorem call_lenU (K : PySem.W.Frag) (hK : X.K = K) : CallR X (.builtin "len") (rLenU K) := by
  subst hK
  exact call_len_str.or call_len_seq
def rInt1 : List V → Hp → VK → Prop := fun xs H Q => (∃ i, xs = [.int i] ∧ Q (.int i) H) ∨ ∃ k, xs = [.bl k] ∧ Q (.int (if k then 1 else 0)) H
theorem call_int1U : CallR X (.type "int") rInt1 := call_int1
def rListOf (K : PySem.W.Frag) : List V → Hp → VK → Prop := fun xs H Q => ∃ p ys, xs = [.ref p] ∧ (SqL K H p ys ∨ SqT K H p ys) ∧ ∀ l, H l = none → Q (.ref l) (upd H l (.lst ys))
theorem call_listU (K : PySem.W.Frag) (hK : X.K = K) : CallR X (.type "list") (rListOf K) := by
  subst hK
  exact call_list_of
def rTupOf (K : PySem.W.Frag) : List V → Hp → VK → Prop := fun xs H Q => ∃ p ys, xs = [.ref p] ∧ ((SqL K H p ys ∧ ∀ l, H l = none → Q (.ref l) (upd H l (.tup ys))) ∨ (SqT K H p ys ∧ Q (.ref p) H))
theorem call_tupU (K : PySem.W.Frag) (hK : X.K = K) : CallR X (.type "tuple") (rTupOf K) := by
  subst hK
  exact call_tuple_of
theorem call_allU (K : PySem.W.Frag) (hK : X.K = K) (hc : X.calm = true) : CallR X (.builtin "all") (rAll K) := by
  subst hK
  exact cr_all hc
theorem call_isiU (K : PySem.W.Frag) (hK : X.K = K) : CallR X (.builtin "isinstance") (rIsi K) := by
  subst hK
  exact call_isi
def rEndsW : V → List V → Hp → VK → Prop := fun x xs H Q => ∃ a b, x = .str a ∧ xs = [.str b] ∧ Q (.bl (Txt.endswith a b)) H
theorem mt_endsU : MtR X "str.endswith" rEndsW := mt_endswith
theorem pt_E {e : Expr} {t : TE} (h : PE X e t) (he : ∀ whole, isTrue e X.env whole = (do let v ← whole; standAt e.pos; holding [v] (truthy v)) := by intro _; rfl) : PT X e (tB t) := pt_val h he
end
/-! ### steps of a reading -/
section
variable {K : PySem.W.Frag} {σ : L2.St} {H : Hp} {Q : VK} {te ta tb : TE} {D : Ends} {nx : L2.St → Hp → Prop} {rt : VK} {bk ct : L2.St → Hp → Prop}
theorem rd_var {i : Nat} {v : V} (h : σ[i]? = some (some v)) (q : Q v H) : tVar i σ H Q := ⟨v, h, q⟩
theorem rd_c {v : V} (q : Q v H) : tC v σ H Q := q
theorem rd_op {r : R2} (q : ta σ H fun x H1 => tb σ H1 fun y H2 => r x y H2 Q) : tOp r ta tb σ H Q := q
theorem rd_un {r : V → Hp → VK → Prop} (q : ta σ H fun x H1 => r x H1 Q) : tUn r ta σ H Q := q
theorem rd_i0 {f : Int → Int → V} {i j : Int} (q : Q (f i j) H) : rI0 f (.int i) (.int j) H Q := ⟨i, j, rfl, rfl, q⟩
theorem rd_i {C : Int → Int → Prop} {f : Int → Int → V} {i j : Int} (c : C i j) (q : Q (f i j) H) : rI C f (.int i) (.int j) H Q := ⟨i, j, rfl, rfl, c, q⟩
theorem rd_plusI {i j : Int} (q : Q (.int (i + j)) H) : rPlus K (.int i) (.int j) H Q := .inl ⟨i, j, rfl, rfl, q⟩
theorem rd_plusS {i j : Str} (c : i.length + j.length ≤ sizeLine) (q : Q (.str (i ++ j)) H) : rPlus K (.str i) (.str j) H Q := .inr (.inl ⟨i, j, rfl, rfl, c, q⟩)
theorem rd_uI {f : Int → Int} {i : Int} (q : Q (.int (f i)) H) : rU (fun i => .int (f i)) (.int i) H Q := ⟨i, rfl, q⟩
theorem rd_ixL {p : Addr} {xs : List V} {i : Int} {v : V} (h : SqL K H p xs) (a : atI xs i = some v) (q : Q v H) : rIx K (.ref p) (.int i) H Q := .inl ⟨p, xs, i, v, rfl, rfl, h, a, q⟩
theorem rd_ixT {p : Addr} {xs : List V} {i : Int} {v : V} (h : SqT K H p xs) (a : atI xs i = some v) (q : Q v H) : rIx K (.ref p) (.int i) H Q := .inr (.inl ⟨p, xs, i, v, rfl, rfl, h, a, q⟩)
theorem rd_B {Q : Bool → Hp → Prop} (q : te σ H fun v H1 => ∃ b, v = .bl b ∧ Q b H1) : tB te σ H Q := q
theorem rd_bl {b : Bool} {Q : Bool → Prop} (q : Q b) : ∃ c, V.bl b = .bl c ∧ Q c := ⟨b, rfl, q⟩
theorem rd_if {c : TT} {t u : TS} (q : c σ H fun b H1 => if b = true then t D σ H1 else u D σ H1) : tIfS c t u D σ H := q
theorem rd_ifE {c : TT} (q : c σ H fun b H1 => if b = true then ta σ H1 Q else tb σ H1 Q) : tIf c ta tb σ H Q := q
theorem rd_seq {t u : TS} (q : t ⟨fun σ H => u ⟨nx, rt, bk, ct⟩ σ H, rt, bk, ct⟩ σ H) : tSeq t u ⟨nx, rt, bk, ct⟩ σ H := q
theorem rd_next (q : nx σ H) : tNext ⟨nx, rt, bk, ct⟩ σ H := q
theorem rd_asg {g : TG} (q : te σ H fun x H1 => g x σ H1 nx) : tAsg te g ⟨nx, rt, bk, ct⟩ σ H := q
theorem rd_name {i : Nat} {v : V} {Q : L2.St → Hp → Prop} (q : Q (σ.set i (some v)) H) : gName i v σ H Q := q
theorem rd_ret (q : te σ H rt) : tRet te ⟨nx, rt, bk, ct⟩ σ H := q
theorem rd_drop (q : te σ H fun _ H1 => nx σ H1) : tDrop te ⟨nx, rt, bk, ct⟩ σ H := q
theorem rd_call {sp : Sp} {E : XK} {t : TA} (q : t σ H fun vs H1 => sp (vs ++ []) H1 Q E) : tCall sp [] E t σ H Q := q
theorem rd_cons {tr : TA} {Q : List V → Hp → Prop} (q : ta σ H fun x H1 => tr σ H1 fun xs H2 => Q (x :: xs) H2) : tCons ta tr σ H Q := q
theorem rd_nil {Q : List V → Hp → Prop} (q : Q [] H) : tNil σ H Q := q
theorem rd_cb {r : List V → Hp → VK → Prop} {t : TA} (q : t σ H fun vs H1 => r vs H1 Q) : tCB r t σ H Q := q
theorem rd_sub {to ti : TE} {t : TSet} {v : V} {Q : L2.St → Hp → Prop} (q : to σ H fun o H1 => ti σ H1 fun i H2 => t o i v H2 fun H3 => Q σ H3) : gSub to ti t v σ H Q := q
theorem rd_not (q : ta σ H fun x H1 => ∃ c, x = .bl c ∧ Q (.bl (!c)) H1) : tNotV ta σ H Q := q
theorem rd_and (q : ta σ H fun x H1 => ∃ c, x = .bl c ∧ if c = true then tb σ H1 Q else Q (.bl false) H1) : tAndV ta tb σ H Q := q
theorem rd_or (q : ta σ H fun x H1 => ∃ c, x = .bl c ∧ if c = true then Q (.bl true) H1 else tb σ H1 Q) : tOrV ta tb σ H Q := q
theorem rd_T {Q : Bool → Hp → Prop} (q : te σ H fun v H1 => ∃ b, v = .bl b ∧ Q b H1) : tTest te σ H Q := q
theorem rd_tnot {t : TT} {Q : Bool → Hp → Prop} (q : t σ H fun c H1 => Q (!c) H1) : tNot t σ H Q := q
theorem rd_tand {t u : TT} {Q : Bool → Hp → Prop} (q : t σ H fun c H1 => if c = true then u σ H1 Q else Q false H1) : tAnd t u σ H Q := q
theorem rd_tor {t u : TT} {Q : Bool → Hp → Prop} (q : t σ H fun c H1 => if c = true then Q true H1 else u σ H1 Q) : tOr t u σ H Q := q
theorem rd_chain {r r' : R2} {tc : TE} (q : ta σ H fun x H1 => tb σ H1 fun y H2 => r x y H2 fun z H3 => ∃ k, z = .bl k ∧ (if k = true then tc σ H3 fun w' H4 => r' y w' H4 Q else Q (.bl false) H3)) : tChain r r' ta tb tc σ H Q := q
theorem rd_ite {p A B : Prop} [Decidable p] (h1 : p → A) (h2 : ¬ p → B) : if decide p = true then A else B := by
  by_cases h : p
  · rw [if_pos (decide_eq_true h)]
    exact h1 h
  · rw [if_neg (by rw [decide_eq_false h]; decide)]
    exact h2 h
theorem rd_itn {p A B : Prop} [Decidable p] (h1 : p → B) (h2 : ¬ p → A) : if (!decide p) = true then A else B := by
  by_cases h : p
  · rw [decide_eq_true h]
    exact h1 h
  · rw [decide_eq_false h]
    exact h2 h
theorem rd_len {z : Str} (h : z.length ≤ sizeLine) (q : Q (.int z.length) H) : rLenU K [.str z] H Q := .inl ⟨z, rfl, h, q⟩
theorem rd_lenL {p : Addr} {ys : List V} (h : SqL K H p ys) (q : Q (.int ys.length) H) : rLenU K [.ref p] H Q := .inr ⟨p, ys, rfl, .inl h, q⟩
theorem rd_int1 {i : Int} (q : Q (.int i) H) : rInt1 [.int i] H Q := .inl ⟨i, rfl, q⟩
theorem rd_listL {p : Addr} {ys : List V} (h : SqL K H p ys) (q : ∀ l, H l = none → Q (.ref l) (upd H l (.lst ys))) : rListOf K [.ref p] H Q := ⟨p, ys, rfl, .inl h, q⟩
theorem rd_tupL {p : Addr} {ys : List V} (h : SqL K H p ys) (q : ∀ l, H l = none → Q (.ref l) (upd H l (.tup ys))) : rTupOf K [.ref p] H Q := ⟨p, ys, rfl, .inl ⟨h, q⟩⟩
theorem rd_m1 {r : V → List V → Hp → VK → Prop} (q : ta σ H fun x H1 => (∃ a, x = .str a) ∧ tb σ H1 fun y H2 => r x [y] H2 Q) : tM1 r ta tb σ H Q := q
theorem rd_ends {a b : Str} (q : Q (.bl (Txt.endswith a b)) H) : rEndsW (.str a) [.str b] H Q := ⟨a, b, rfl, rfl, q⟩
theorem rd_inS {c : Nat} {z : Str} (q : Q (.bl (decide (c ∈ z.cps.toList))) H) : rInU K (.str ⟨#[c]⟩) (.str z) H Q := .inr ⟨c, z, rfl, rfl, q⟩
theorem rd_ninS {c : Nat} {z : Str} (q : Q (.bl (!decide (c ∈ z.cps.toList))) H) : rNinU K (.str ⟨#[c]⟩) (.str z) H Q := .inr ⟨c, z, rfl, rfl, q⟩
theorem rd_all {a : Addr} {bs : List Bool} (h : SqL K H a (bs.map V.bl)) (q : Q (.bl (bs.all id)) H) : rAll K [.ref a] H Q := ⟨a, bs, rfl, h, q⟩
theorem rd_isStr {z : Str} (q : Q (.bl true) H) : rIsi K [.str z, .ty "str"] H Q := ⟨_, _, _, _, true, rfl, .ty _, .base (.str _), rfl, q⟩
theorem rd_lst {t : TA} (q : t σ H fun xs H1 => xs.length ≤ sizeLine ∧ ∀ p, H1 p = none → Q (.ref p) (upd H1 p (.lst xs))) : tLst t σ H Q := q
theorem rd_tup {t : TA} (q : t σ H fun xs H1 => xs.length ≤ sizeLine ∧ ∀ p, H1 p = none → Q (.ref p) (upd H1 p (.tup xs))) : tTup t σ H Q := q
theorem rd_set {p : Addr} {k : Int} {v : V} {xs : List V} {j : Nat} {Q : Hp → Prop} (h : H p = some (.lst xs)) (a : ixN xs.length k = some j) (q : Q (upd H p (.lst (xs.set j v)))) : rSetL (.ref p) (.int k) v H Q := ⟨p, xs, k, j, rfl, rfl, h, a, q⟩
end
/-! ### what stays: all but the objects of ms, and the tables of code objects -/
open LamX in
structure Ext (T : List (Addr × Str)) (ms : List Addr) (H H' : Hp) : Prop where
  keep : ∀ b o, b ∉ ms → (∀ ps, o ≠ .tbl ps) → H b = some o → H' b = some o
  tabs : LamX.Tabs T H → LamX.Tabs T H'
/-- nothing but a table of code objects stands there -/
def Nw (H : Hp) (p : Addr) : Prop := ∀ o, H p = some o → ∃ ps, o = .tbl ps
theorem Nw.of {H : Hp} {p : Addr} (h : H p = none) : Nw H p := fun o e => by
  rw [h] at e
  cases e
theorem Nw.ne {H : Hp} {p q : Addr} {o : HO} (f : Nw H p) (h : H q = some o) (hn : ∀ ps, o ≠ .tbl ps) : q ≠ p := fun z => by
  rw [z] at h
  obtain ⟨ps, e⟩ := f o h
  exact hn ps e
theorem Nw.lst {H : Hp} {p q : Addr} {xs : List V} (f : Nw H p) (h : H q = some (.lst xs)) : q ≠ p := f.ne h fun _ z => by cases z
theorem Nw.tup {H : Hp} {p q : Addr} {xs : List V} (f : Nw H p) (h : H q = some (.tup xs)) : q ≠ p := f.ne h fun _ z => by cases z
section
variable {T : List (Addr × Str)} {ms : List Addr} {K : PySem.W.Frag} {H H1 H2 : Hp}
theorem Ext.back {p : Addr} (e : Ext T ms H H1) (hp : p ∉ ms) (f : Nw H1 p) : Nw H p := fun o ho => Classical.byContradiction fun n => n (f o (e.keep p o hp (fun ps z => n ⟨ps, z⟩) ho))
theorem Ext.refl : Ext T ms H H := ⟨fun _ _ _ _ h => h, id⟩
theorem Ext.trans (a : Ext T ms H H1) (b : Ext T ms H1 H2) : Ext T ms H H2 := ⟨fun c o hc hn h => b.keep c o hc hn (a.keep c o hc hn h), fun t => b.tabs (a.tabs t)⟩
theorem Ext.same (s : Same H H1) : Ext T ms H H1 := ⟨fun c o _ _ h => s c o h, fun t => t.ext s⟩
theorem Ext.new {p : Addr} {o : HO} (h : H p = none) : Ext T ms H (upd H p o) := .same fun b x e => by
  rw [upd_ne (ne_of_none e h)]
  exact e
theorem Ext.wide {ms' : List Addr} (a : Ext T ms H H1) (h : ∀ b, b ∈ ms → b ∈ ms') : Ext T ms' H H1 := ⟨fun c o hc hn => a.keep c o (fun z => hc (h c z)) hn, a.tabs⟩
theorem Ext.any (a : Ext T [] H H1) : Ext T ms H H1 := a.wide fun b h => absurd h (by simp)
/-- a list that may change is changed -/
theorem Ext.mut {p : Addr} {xs : List V} {u : HO} (hp : p ∈ ms) (h : H p = some (.lst xs)) : Ext T ms H (upd H p u) := ⟨fun b x hb _ e => by
  rw [upd_ne (fun z => hb (by rw [z]; exact hp))]
  exact e, fun t q hq => by
  obtain ⟨ps, h1, h2, h3⟩ := t q hq
  refine ⟨ps, ?_, h2, fun pos cv hc => ?_⟩
  · rw [upd_ne]
    · exact h1
    · intro z
      rw [z, h] at h1
      cases h1
  · obtain ⟨c, e1, e2⟩ := h3 pos cv hc
    refine ⟨c, e1, ?_⟩
    rw [upd_ne]
    · exact e2
    · intro z
      rw [z, h] at e2
      unfold LamX.CodeO at e2
      cases e2⟩
theorem Ext.lst {p : Addr} {xs : List V} (e : Ext T ms H H1) (hp : p ∉ ms) (h : H p = some (.lst xs)) : H1 p = some (.lst xs) := e.keep p _ hp (fun _ z => by cases z) h
theorem Ext.tup {p : Addr} {xs : List V} (e : Ext T ms H H1) (hp : p ∉ ms) (h : H p = some (.tup xs)) : H1 p = some (.tup xs) := e.keep p _ hp (fun _ z => by cases z) h
theorem Ext.seqL {a : Addr} {xs : List V} (e : Ext T ms H H1) (ha : a ∉ ms) (h : SqL K H a xs) : SqL K H1 a xs := by
  rcases h with (h | ⟨o, h⟩) | h
  · exact .inl (.inl (e.keep a _ ha (fun _ z => by cases z) h))
  · exact .inl (.inr ⟨o, e.keep a _ ha (fun _ z => by cases z) h⟩)
  · exact .inr h
theorem Ext.seqT {a : Addr} {xs : List V} (e : Ext T ms H H1) (ha : a ∉ ms) (h : SqT K H a xs) : SqT K H1 a xs := by
  rcases h with (h | ⟨o, h⟩) | h
  · exact .inl (.inl (e.keep a _ ha (fun _ z => by cases z) h))
  · exact .inl (.inr ⟨o, e.keep a _ ha (fun _ z => by cases z) h⟩)
  · exact .inr h
end
/-! ### the law's tape -/
/-- the tape at t: the script's list at l, its place, what is left of a cell, the running number, the budget -/
def Tape (l : Addr) (H : Hp) (t : Addr) : Prop := ∃ (ns : List Int) (pos : Nat) (rest st bud : Int), H t = some (.lst [.ref l, .int (pos : Int), .int rest, .int st, .int bud]) ∧ H l = some (.lst (ns.map V.int)) ∧ l ≠ t ∧ 0 ≤ rest ∧ 0 ≤ st
theorem Tape.ext {T : List (Addr × Str)} {H H1 : Hp} {l t : Addr} (p : Tape l H t) (e : Ext T [] H H1) : Tape l H1 t := by
  obtain ⟨ns, pos, rest, st, bud, h1, h2, h3⟩ := p
  exact ⟨ns, pos, rest, st, bud, e.lst (by simp) h1, e.lst (by simp) h2, h3⟩
theorem Tape.upd {H : Hp} {l t q : Addr} {o : HO} (p : Tape l H t) (h : H q = none) : Tape l (upd H q o) t := p.ext (T := []) (.new h)
/-- another object is changed -/
theorem Tape.own {H : Hp} {l t q : Addr} {o : HO} (p : Tape l H t) (h1 : q ≠ t) (h2 : q ≠ l) : Tape l (L2.upd H q o) t := by
  obtain ⟨ns, pos, rest, st, bud, a1, a2, h3⟩ := p
  exact ⟨ns, pos, rest, st, bud, by rw [upd_ne h1.symm]; exact a1, by rw [upd_ne h2.symm]; exact a2, h3⟩
theorem Tape.ne {H : Hp} {l t q : Addr} (p : Tape l H t) (h : Nw H q) : q ≠ t ∧ q ≠ l := by
  obtain ⟨ns, pos, rest, st, bud, a1, a2, _⟩ := p
  exact ⟨(h.lst a1).symm, (h.lst a2).symm⟩
def mixI (n : Int) : Int :=
  ((n * 6364136223846793005 + 1442695040888963407) % 18446744073709551616 * ((n * 6364136223846793005 + 1442695040888963407) % 18446744073709551616) / 4294967296 + (n * 6364136223846793005 + 1442695040888963407) % 18446744073709551616 * 69621) % 18446744073709551557
theorem mixI_nn (n : Int) : 0 ≤ mixI n := Int.emod_nonneg _ (by decide)
def spMix : Sp := fun vs H Q _ => ∃ n : Int, vs = [.int n] ∧ Q (.int (mixI n)) H
def spTape (T : List (Addr × Str)) (K : PySem.W.Frag) : Sp := fun vs H Q _ => ∃ (a : Addr) (ns : List Int) (b : Int), vs = [.ref a, .int b] ∧ SqL K H a (ns.map V.int) ∧ ns.length ≤ 63 ∧ ∀ t l H', Nw H t → Ext T [] H H' → Tape l H' t → Q (.ref t) H'
def spTake (T : List (Addr × Str)) : Sp := fun vs H Q _ => ∃ (l t : Addr) (m : Int), vs = [.ref t, .int m] ∧ 0 < m ∧ m < 2 ^ 64 ∧ Tape l H t ∧ ∀ d H', 0 ≤ d → d < m → Ext T [t] H H' → Tape l H' t → Q (.int d) H'
section
variable {T : List (Addr × Str)} {ms : List Addr} {K : PySem.W.Frag} {H H1 H2 : Hp}
/-- an own new list is changed -/
theorem Ext.own {p : Addr} {xs : List V} {u : HO} (e : Ext T ms H H1) (hn : Nw H p) (h : H1 p = some (.lst xs)) : Ext T ms H (upd H1 p u) := ⟨fun b x hb hx q => by
  rw [upd_ne (hn.ne q hx)]
  exact e.keep b x hb hx q, fun t => (Ext.mut (T := T) (ms := [p]) (u := u) (by simp) h).tabs (e.tabs t)⟩
theorem Ext.newR {p : Addr} {o : HO} (e : Ext T ms H H1) (h : H1 p = none) : Ext T ms H (upd H1 p o) := e.trans (.new h)
theorem wipe1 {σ : L2.St} {k : Nat} {v : Option V} : wipe ((wipe σ [k]).set k v) [k] = wipe σ [k] := by
  show ((σ.set k none).set k v).set k none = σ.set k none
  rw [List.set_set, List.set_set]
/-- a comprehension over one name whose test and element are functions of the item -/
theorem lc_pure {J : It} {n : Nat} {G : Hp → Prop} {Y : Nat → Hp → V → Hp → Prop} {tt : TT} {te : TE} {σ : L2.St} {D : Addr} {Qd : Hp → Prop} {k : Nat} (w : Walk J n G Y) (xs : List V) (hn : n = xs.length) (hY : ∀ i H x H', Y i H x H' → H' = H ∧ xs[i]? = some x) (hD : H1 D = none)
    (hG : ∀ H, Ext T ms H1 H → G H) (p : V → Bool) (f : V → V) (hl : xs.length < sizeLine)
    (step : ∀ x ∈ xs, ∀ H, Ext T ms H1 H → ∀ (R : V → Hp → Prop) (S : Hp → Prop), (p x = true → ∀ H2, Ext T ms H H2 → R (f x) H2) → (p x = false → ∀ H2, Ext T ms H H2 → S H2) →
      tt ((wipe σ [k]).set k (some x)) H fun b H2 => if b = true then te ((wipe σ [k]).set k (some x)) H2 R else S H2)
    (hDm : D ∉ ms) (hd : ∀ H, Ext T ms H1 H → H D = some (.lst ((xs.filter p).map f)) → Qd H) :
    ∃ W : Nat → Nat → Hp → Prop, (∃ z, W 0 z (upd H1 D (.lst []))) ∧ ∀ j z H, W j z H →
      (J.stop j H ∧ Qd H) ∨ (J.go j H ∧ ∃ Nx : Hp → Prop, (∀ H', Nx H' → ∃ y, y < z ∧ W (j + 1) y H') ∧ ∀ x H', J.yld j H x H' → gName k x (wipe σ [k]) H' fun σ2 H2 => wipe σ2 [k] = wipe σ [k] ∧ tt σ2 H2 fun b H3 =>
        if b = true then te σ2 H3 fun y H4 => ∃ acc, H4 D = some (.lst acc) ∧ acc.length < sizeLine ∧ Nx (upd H4 D (.lst (acc ++ [y]))) else Nx H3) := by
  refine lc_it w (fun i H => Ext T ms H1 H ∧ H D = some (.lst (((xs.take i).filter p).map f))) ⟨.new hD, by rw [List.take_zero]; exact upd_same⟩ (fun i H _ h => hG H h.1) (fun i x H H' hi h y => ?_) (fun H h => ?_)
  · obtain ⟨e1, e2⟩ := hY i H x H' y
    subst e1
    obtain ⟨h1, h2⟩ := h
    have hx : x ∈ xs := List.mem_of_getElem? e2
    have et : xs.take (i + 1) = xs.take i ++ [x] := by rw [List.take_add_one, e2]; rfl
    refine ⟨wipe1, step x hx H' h1 _ _ (fun hp H2 e => ⟨_, e.lst hDm h2, ?_, ?_⟩) (fun hp H2 e => ?_)⟩
    · refine Nat.lt_of_le_of_lt ?_ hl
      rw [List.length_map]
      exact Nat.le_trans (List.length_filter_le _ _) (by rw [List.length_take]; exact Nat.min_le_right _ _)
    · refine ⟨(h1.trans e).own (.of hD) (e.lst hDm h2), ?_⟩
      rw [upd_same, et, List.filter_append, List.map_append, List.filter_cons_of_pos hp]
      rfl
    · refine ⟨h1.trans e, ?_⟩
      rw [et, List.filter_append, List.filter_cons_of_neg (by rw [hp]; decide), List.filter_nil, List.append_nil]
      exact e.lst hDm h2
  · obtain ⟨h1, h2⟩ := h
    rw [hn, List.take_length] at h2
    exact hd H h1 h2
end
/-! ### a list or a tuple walked -/
def iSeq (K : PySem.W.Frag) (tl : TE) : TI := fun σ H R => tl σ H fun x H1 => ∃ a, x = .ref a ∧ (((∃ xs, SqL K H1 a xs) ∧ R (Itl K a) H1) ∨ ((∃ xs, SqT K H1 a xs) ∧ R (Itt K a) H1))
theorem pi_seq {X : Cx} (K : PySem.W.Frag) (hK : X.K = K) {tg l : Expr} {tl : TE} (hl : PE X l tl) : PI X tg l (iSeq K tl) := by
  subst hK
  refine ⟨fun pins s σ H R I h => ?_⟩
  refine thn (hl.run pins s σ H _ I h) fun v s1 ⟨x, H1, I1, r1, a, e, q⟩ => ?_
  subst e
  cases r1
  have fr : ∀ b, b ∈ [s1.heap.objs.size] → ∀ {o : Obj}, FpOk X pins H1 b := fun b hb _ => by
    have e : b = s1.heap.objs.size := by simpa using hb
    rw [e]
    exact I1.fpOk (Nat.le_refl _) (I1.hok.fresh (Nat.le_refl _))
  rcases q with ⟨⟨xs, hq⟩, q⟩ | ⟨⟨xs, hq⟩, q⟩
  · obtain ⟨us, ru, pl, _⟩ := I1.list hq
    refine wpAny_pyIter_list pl.isList ?_
    exact ⟨s1.heap.objs.size, [s1.heap.objs.size], _, _, H1, rfl, I1.kept (t' := s1.toks) fun b o e => Heap.get?_push_of_some _ e, turn_list a _, ⟨_, Heap.get?_push_size _ rfl, rfl, rfl⟩, fun b hb => fr b hb (o := default), q⟩
  · obtain ⟨us, ru, pl, _⟩ := I1.tuple hq
    refine wpAny_pyIter_tuple (show s1.heap.IsTuple a us.toArray from pl) ?_
    exact ⟨s1.heap.objs.size, [s1.heap.objs.size], _, _, H1, rfl, I1.kept (t' := s1.toks) fun b o e => Heap.get?_push_of_some _ e, turn_tuple a _, ⟨_, Heap.get?_push_size _ rfl, rfl, rfl⟩, fun b hb => fr b hb (o := default), q⟩
/-! ### texts as lists of signs -/
abbrev sg (z : Str) : List Nat := z.cps.toList
theorem sg_len (z : Str) : (sg z).length = z.length := Array.length_toList
theorem sg_inj {a b : Str} (h : sg a = sg b) : a = b := TL.ext_tl h
theorem sg_app (a b : Str) : sg (a ++ b) = sg a ++ sg b := TL.tl_append a b
theorem endswith_iff (x y : Str) : Txt.endswith x y = true ↔ sg y <:+ sg x := by
  unfold Txt.endswith
  rw [StrLaws.subAt_eq, Bool.and_eq_true, decide_eq_true_eq, beq_iff_eq]
  rw [List.suffix_iff_eq_drop, ← sg_len, ← sg_len]
  have hx : x.cps.toList.length = (sg x).length := rfl
  constructor
  · rintro ⟨h1, h2⟩
    rw [List.take_of_length_le (by rw [List.length_drop]; omega)] at h2
    exact h2.symm
  · intro h
    have hl := congrArg List.length h
    rw [List.length_drop] at hl
    refine ⟨by omega, ?_⟩
    rw [List.take_of_length_le (by rw [List.length_drop]; omega)]
    exact h.symm
/-! ### comprehensions, read -/
def LcG (J : It) (g : TG) (tt : TT) (te : TE) (vs : List Nat) (σ : L2.St) (H1 : Hp) (Q : VK) : Prop := ∀ D, H1 D = none → ∃ W : Nat → Nat → Hp → Prop, (∃ z, W 0 z (upd H1 D (.lst []))) ∧ ∀ j z H, W j z H →
  (J.stop j H ∧ Q (.ref D) H) ∨ (J.go j H ∧ ∃ Nx : Hp → Prop, (∀ H', Nx H' → ∃ y, y < z ∧ W (j + 1) y H') ∧ ∀ x H', J.yld j H x H' → g x (wipe σ vs) H' fun σ2 H2 => wipe σ2 vs = wipe σ vs ∧ tt σ2 H2 fun b H3 =>
    if b = true then te σ2 H3 fun y H4 => ∃ acc, H4 D = some (.lst acc) ∧ acc.length < sizeLine ∧ Nx (upd H4 D (.lst (acc ++ [y]))) else Nx H3)
section
variable {K : PySem.W.Frag} {σ : L2.St} {H H1 : Hp} {Q : VK} {wi : TI} {g : TG} {tt : TT} {te : TE} {vs : List Nat} {R : It → Hp → Prop}
theorem rd_lc (q : wi σ H fun J H1 => LcG J g tt te vs σ H1 Q) : tLc wi g tt te vs σ H Q := q
theorem rd_iStr (q : te σ H fun v H1 => ∃ x, v = .str x ∧ R (Its x) H1) : iStr te σ H R := q
theorem rd_exStr {z : Str} {P : Str → Prop} (q : P z) : ∃ x, V.str z = .str x ∧ P x := ⟨z, rfl, q⟩
theorem rd_exRef {a : Addr} {P : Addr → Prop} (q : P a) : ∃ x, V.ref a = .ref x ∧ P x := ⟨a, rfl, q⟩
theorem rd_exInt {a : Int} {P : Int → Prop} (q : P a) : ∃ x, V.int a = .int x ∧ P x := ⟨a, rfl, q⟩
theorem rd_exInts {a : Int} {P : Int → Prop} (q : P a) : ∃ x, [V.int a] = [.int x] ∧ P x := ⟨a, rfl, q⟩
theorem rd_seqL {a : Addr} {xs : List V} {B C : Prop} (h : SqL K H1 a xs) (q : B) : ((∃ xs, SqL K H1 a xs) ∧ B) ∨ C := .inl ⟨⟨xs, h⟩, q⟩
theorem rd_iSeq (q : te σ H fun x H1 => ∃ a, x = .ref a ∧ (((∃ xs, SqL K H1 a xs) ∧ R (Itl K a) H1) ∨ ((∃ xs, SqT K H1 a xs) ∧ R (Itt K a) H1))) : iSeq K te σ H R := q
theorem rd_rng {ta : TA} (q : ta σ H fun vs H1 => ∃ j : Int, vs = [.int j] ∧ -(2 ^ 62) ≤ j ∧ j < 2 ^ 62 ∧ R (Itr 0 j.toNat) H1) : iRng1 ta σ H R := q
/-- the signs of a text, each a text -/
def chrs (z : Str) : List V := (sg z).map fun c => .str ⟨#[c]⟩
variable (T : List (Addr × Str)) (ms : List Addr)
theorem lcg_str {z : Str} {k : Nat} (p : V → Bool) (f : V → V) (hz : z.length < sizeLine) (hm : ∀ D, H D = none → D ∉ ms)
    (step : ∀ x ∈ chrs z, ∀ H', Ext T ms H H' → ∀ (R : V → Hp → Prop) (S : Hp → Prop), (p x = true → ∀ H2, Ext T ms H' H2 → R (f x) H2) → (p x = false → ∀ H2, Ext T ms H' H2 → S H2) →
      tt ((wipe σ [k]).set k (some x)) H' fun b H2 => if b = true then te ((wipe σ [k]).set k (some x)) H2 R else S H2)
    (q : ∀ D H2, Nw H D → Ext T ms H H2 → H2 D = some (.lst (((chrs z).filter p).map f)) → Q (.ref D) H2) : LcG (Its z) (gName k) tt te [k] σ H Q := fun D hD =>
  lc_pure walk_str (chrs z) (by rw [chrs, List.length_map, sg_len]; rfl) (fun i H x H' y => by
    obtain ⟨e, c, h1, h2⟩ := y
    refine ⟨e, ?_⟩
    rw [chrs, List.getElem?_map, h2, show (sg z)[i]? = some c by rw [← h1]; exact Array.getElem?_toList]
    rfl) hD (fun _ _ => True.intro) p f (by rw [chrs, List.length_map, sg_len]; exact hz) step (hm D hD) fun H2 e h => q D H2 (.of hD) e h
theorem lcg_list {a : Addr} {xs : List V} {k : Nat} (h : SqL K H a xs) (p : V → Bool) (f : V → V) (hz : xs.length < sizeLine) (ha : a ∉ ms) (hm : ∀ D, H D = none → D ∉ ms)
    (step : ∀ x ∈ xs, ∀ H', Ext T ms H H' → ∀ (R : V → Hp → Prop) (S : Hp → Prop), (p x = true → ∀ H2, Ext T ms H' H2 → R (f x) H2) → (p x = false → ∀ H2, Ext T ms H' H2 → S H2) →
      tt ((wipe σ [k]).set k (some x)) H' fun b H2 => if b = true then te ((wipe σ [k]).set k (some x)) H2 R else S H2)
    (q : ∀ D H2, Nw H D → Ext T ms H H2 → H2 D = some (.lst ((xs.filter p).map f)) → Q (.ref D) H2) : LcG (Itl K a) (gName k) tt te [k] σ H Q := fun D hD =>
  lc_pure walk_list xs rfl (fun i H x H' y => y) hD (fun H' e => e.seqL ha h) p f hz step (hm D hD) fun H2 e h => q D H2 (.of hD) e h
theorem lcg_tup {a : Addr} {xs : List V} {k : Nat} (h : SqT K H a xs) (p : V → Bool) (f : V → V) (hz : xs.length < sizeLine) (ha : a ∉ ms) (hm : ∀ D, H D = none → D ∉ ms)
    (step : ∀ x ∈ xs, ∀ H', Ext T ms H H' → ∀ (R : V → Hp → Prop) (S : Hp → Prop), (p x = true → ∀ H2, Ext T ms H' H2 → R (f x) H2) → (p x = false → ∀ H2, Ext T ms H' H2 → S H2) →
      tt ((wipe σ [k]).set k (some x)) H' fun b H2 => if b = true then te ((wipe σ [k]).set k (some x)) H2 R else S H2)
    (q : ∀ D H2, Nw H D → Ext T ms H H2 → H2 D = some (.lst ((xs.filter p).map f)) → Q (.ref D) H2) : LcG (Itt K a) (gName k) tt te [k] σ H Q := fun D hD =>
  lc_pure walk_tup xs rfl (fun i H x H' y => y) hD (fun H' e => e.seqT ha h) p f hz step (hm D hD) fun H2 e h => q D H2 (.of hD) e h
end
/-! ### loops, read -/
def ForG (J : It) (g : TG) (tb : TS) (D : Ends) (σ : L2.St) (H1 : Hp) : Prop := ∃ W : Nat → Nat → L2.St → Hp → Prop, (∃ z, W 0 z σ H1) ∧ ∀ j z σ H, W j z σ H →
  (J.stop j H ∧ D.nx σ H) ∨ (J.go j H ∧ ∃ N : L2.St → Hp → Prop, (∀ σ' H', N σ' H' → ∃ y, y < z ∧ W (j + 1) y σ' H') ∧ ∀ x H', J.yld j H x H' → g x σ H' fun σ2 H2 => tb { D with nx := N, ct := N, bk := D.nx } σ2 H2)
section
variable {K : PySem.W.Frag} {σ : L2.St} {H H1 : Hp} {wi : TI} {g : TG} {tb : TS} {nx bk ct : L2.St → Hp → Prop} {rt : VK}
theorem rd_for {D : Ends} (q : wi σ H fun J H1 => ForG J g tb D σ H1) : tFor wi g tb D σ H := q
theorem forg_it {J : It} {n : Nat} {G : Hp → Prop} {Y : Nat → Hp → V → Hp → Prop} (w : Walk J n G Y) (Pv : Nat → L2.St → Hp → Prop) (h0 : Pv 0 σ H) (hG : ∀ i σ H, i ≤ n → Pv i σ H → G H)
    (hs : ∀ i x σ H H', i < n → Pv i σ H → Y i H x H' → g x σ H' fun σ2 H2 => tb ⟨Pv (i + 1), rt, nx, Pv (i + 1)⟩ σ2 H2) (hd : ∀ σ H, Pv n σ H → nx σ H) : ForG J g tb ⟨nx, rt, bk, ct⟩ σ H := for_it w Pv h0 hG hs hd
theorem forg_list {a : Addr} {xs : List V} (Pv : Nat → L2.St → Hp → Prop) (h0 : Pv 0 σ H) (hl : ∀ i σ H, i ≤ xs.length → Pv i σ H → SqL K H a xs)
    (hs : ∀ i x σ H, xs[i]? = some x → Pv i σ H → g x σ H fun σ2 H2 => tb ⟨Pv (i + 1), rt, nx, Pv (i + 1)⟩ σ2 H2) (hd : ∀ σ H, Pv xs.length σ H → nx σ H) : ForG (Itl K a) g tb ⟨nx, rt, bk, ct⟩ σ H :=
  forg_it walk_list Pv h0 hl (fun i x σ H H' hi p y => by
    rw [y.1]
    exact hs i x σ H y.2 p) hd
theorem forg_tup {a : Addr} {xs : List V} (Pv : Nat → L2.St → Hp → Prop) (h0 : Pv 0 σ H) (hl : ∀ i σ H, i ≤ xs.length → Pv i σ H → SqT K H a xs)
    (hs : ∀ i x σ H, xs[i]? = some x → Pv i σ H → g x σ H fun σ2 H2 => tb ⟨Pv (i + 1), rt, nx, Pv (i + 1)⟩ σ2 H2) (hd : ∀ σ H, Pv xs.length σ H → nx σ H) : ForG (Itt K a) g tb ⟨nx, rt, bk, ct⟩ σ H :=
  forg_it walk_tup Pv h0 hl (fun i x σ H H' hi p y => by
    rw [y.1]
    exact hs i x σ H y.2 p) hd
theorem forg_range {lo : Int} {n : Nat} (Pv : Nat → L2.St → Hp → Prop) (h0 : Pv 0 σ H)
    (hs : ∀ (i : Nat) σ H, i < n → Pv i σ H → g (.int (lo + i)) σ H fun σ2 H2 => tb ⟨Pv (i + 1), rt, nx, Pv (i + 1)⟩ σ2 H2) (hd : ∀ σ H, Pv n σ H → nx σ H) : ForG (Itr lo n) g tb ⟨nx, rt, bk, ct⟩ σ H :=
  forg_it walk_range Pv h0 (fun _ _ _ _ _ => True.intro) (fun i x σ H H' hi p y => by
    obtain ⟨e1, e2⟩ := y
    rw [e1, e2]
    exact hs i σ H hi p) hd
end
theorem rd_ntt {A B : Prop} (h : B) : if (!true) = true then A else B := h
theorem rd_nff {A B : Prop} (h : A) : if (!false) = true then A else B := h
theorem rd_cut {σ : L2.St} {H : Hp} {nx bk ct : L2.St → Hp → Prop} {rt : VK} {t u : TS} (Mid : L2.St → Hp → Prop) (h1 : ∀ nx' : L2.St → Hp → Prop, (∀ σ' H', Mid σ' H' → nx' σ' H') → t ⟨nx', rt, bk, ct⟩ σ H) (h2 : ∀ σ' H', Mid σ' H' → u ⟨nx, rt, bk, ct⟩ σ' H') : tSeq t u ⟨nx, rt, bk, ct⟩ σ H := h1 _ h2
theorem filtT {α : Type} (l : List α) : l.filter (fun _ => true) = l := List.filter_eq_self.mpr fun _ _ => rfl
/-! ### further steps -/
section
variable {K : PySem.W.Frag} {σ : L2.St} {H : Hp} {Q : VK} {te : TE}
theorem rd_tyes {Q : Bool → Hp → Prop} (q : Q true H) : tYes σ H Q := q
theorem dec_str (a b : Str) : decide (V.str a = V.str b) = decide (a = b) := by
  by_cases h : a = b
  · rw [h]
    simp
  · rw [decide_eq_false h]
    exact decide_eq_false fun z => h (V.str.inj z)
theorem dec_intV (a b : Int) : decide (V.int a = V.int b) = decide (a = b) := by
  by_cases h : a = b
  · rw [h]
    simp
  · rw [decide_eq_false h]
    exact decide_eq_false fun z => h (V.int.inj z)
theorem dec_bl (a b : Bool) : decide (V.bl a = V.bl b) = decide (a = b) := by
  by_cases h : a = b
  · rw [h]
    simp
  · rw [decide_eq_false h]
    exact decide_eq_false fun z => h (V.bl.inj z)
theorem rd_isBool {z : Bool} (q : Q (.bl true) H) : rIsi K [.bl z, .ty "bool"] H Q := ⟨_, _, _, _, true, rfl, .ty _, .base (.bl _), rfl, q⟩
theorem rd_ixS {z : Str} {i : Int} {c : Nat} (hz : z.length ≤ sizeLine) (h : atI z.cps.toList i = some c) (q : Q (.str ⟨#[c]⟩) H) : rIx K (.str z) (.int i) H Q := .inr (.inr ⟨z, i, c, rfl, rfl, hz, h, q⟩)
theorem rd_cat {a b : Addr} {xs ys : List V} (h1 : H a = some (.lst xs)) (h2 : H b = some (.lst ys)) (c : xs.length + ys.length ≤ sizeLine) (q : ∀ p, H p = none → Q (.ref p) (upd H p (.lst (xs ++ ys)))) : rPlus K (.ref a) (.ref b) H Q := .inr (.inr (.inl ⟨a, b, xs, ys, rfl, rfl, h1, h2, c, q⟩))
theorem rd_slS {z : Str} {lo hi : Option Int} (hz : z.length ≤ sizeLine) (q : Q (.str (cutS z lo hi)) H) : rSlU K (.str z) lo hi H Q := .inr (.inl ⟨z, rfl, hz, q⟩)
theorem rd_slL {a : Addr} {xs : List V} {lo hi : Option Int} (h : SqL K H a xs) (q : ∀ p, H p = none → Q (.ref p) (upd H p (.lst (cutV xs lo hi)))) : rSlU K (.ref a) lo hi H Q := .inl ⟨a, xs, rfl, h, q⟩
theorem rd_sl {r : V → Option Int → Option Int → Hp → VK → Prop} {tl th : TO} (q : te σ H fun x H1 => tl σ H1 fun lo H2 => th σ H2 fun hi H3 => r x lo hi H3 Q) : tSl r te tl th σ H Q := q
theorem rd_noP {Q : Option Int → Hp → Prop} (q : Q none H) : tNoPart σ H Q := q
theorem rd_part {Q : Option Int → Hp → Prop} (q : te σ H fun v H1 => ∃ i, v = .int i ∧ Q (some i) H1) : tPart te σ H Q := q
theorem rd_eqStr {a b : Str} (q : Q (.bl (decide (a = b))) H) : rEqU K (.str a) (.str b) H Q := .inl ⟨rfl, by rw [dec_str]; exact q⟩
theorem rd_neStr {a b : Str} (q : Q (.bl (!decide (a = b))) H) : rNeU K (.str a) (.str b) H Q := .inl ⟨rfl, by rw [dec_str]; exact q⟩
theorem rd_eqInt {a b : Int} (q : Q (.bl (decide (a = b))) H) : rEqU K (.int a) (.int b) H Q := .inl ⟨rfl, by rw [dec_intV]; exact q⟩
theorem rd_neInt {a b : Int} (q : Q (.bl (!decide (a = b))) H) : rNeU K (.int a) (.int b) H Q := .inl ⟨rfl, by rw [dec_intV]; exact q⟩
theorem rd_eqBl {a b : Bool} (q : Q (.bl (decide (a = b))) H) : rEqU K (.bl a) (.bl b) H Q := .inl ⟨rfl, by rw [dec_bl]; exact q⟩
theorem rd_rev (q : te σ H fun x H1 => ∃ a xs, x = .ref a ∧ SqL K H1 a xs ∧ ∀ p, H1 p = none → Q (.ref p) (upd H1 p (.lst xs.reverse))) : tRevL K te σ H Q := q
theorem rd_exA {a : Str} {P : Prop} (q : P) : (∃ b, V.str a = .str b) ∧ P := ⟨⟨a, rfl⟩, q⟩
def tFs (ts : List TE) : TE := fun σ H Q => tJs ts Str.empty σ H fun out H1 => Q (.str out) H1
theorem rd_fs {ts : List TE} (q : tJs ts Str.empty σ H fun out H1 => Q (.str out) H1) : tFs ts σ H Q := q
theorem rd_jc {t : TE} {ts : List TE} {acc : Str} {Q : Str → Hp → Prop} (q : t σ H fun x H1 => ∃ y : Str, x = .str y ∧ (acc ++ y).length ≤ sizeLine ∧ tJs ts (acc ++ y) σ H1 Q) : tJs (t :: ts) acc σ H Q := q
theorem rd_jn {acc : Str} {Q : Str → Hp → Prop} (q : Q acc H) : tJs [] acc σ H Q := q
theorem rd_fmt {t : TE} (q : t σ H fun x H1 => (∃ y : Str, x = .str y ∧ y.length ≤ sizeLine ∧ Q (.str y) H1) ∨ ∃ i : Int, x = .int i ∧ i.natAbs.log2 < 1920 ∧ Q (.str (toString i)) H1) : tFmt t σ H Q := q
theorem rd_fmtS {y : Str} {C : Prop} (h : y.length ≤ sizeLine) (q : Q (.str y) H) : (∃ z : Str, V.str y = .str z ∧ z.length ≤ sizeLine ∧ Q (.str z) H) ∨ C := .inl ⟨y, rfl, h, q⟩
theorem rd_bm {T : String} {r : V → List V → Hp → VK → Prop} {t : TA} (q : te σ H fun x H1 => tyV K T x H1 ∧ t σ H1 fun xs H2 => r x xs H2 Q) : tBM K T r te t σ H Q := q
theorem rd_tyL {p : Addr} {xs : List V} {P : Prop} (h : H p = some (.lst xs)) (q : P) : tyV K "list" (.ref p) H ∧ P := ⟨.inl ⟨rfl, xs, .inl (.inl h)⟩, q⟩
theorem rd_app {p : Addr} {xs : List V} {y : V} (h : H p = some (.lst xs)) (c : xs.length < sizeLine) (q : Q .non (upd H p (.lst (xs ++ [y])))) : rAppend (.ref p) [y] H Q := ⟨p, xs, y, rfl, rfl, h, c, q⟩
end
/-! ### a list of data, sorted -/
section
open PySem.W
def Srt (xs : List V) (ds : List PyData) (ys : List V) : Prop := EachIs (fun y d => (y, d) ∈ xs.zip ds) ys (ds.mergeSort (dataLe false id))
def rSortD (K : PySem.W.Frag) : List V → Hp → VK → Prop := fun vs H Q => ∃ (a : Addr) (xs : List V) (ds : List PyData), vs = [.ref a] ∧ SqL K H a xs ∧ DpAll K H xs ds ∧ AllAlike ds ∧ Sortable ds ∧ (∀ d ∈ ds, d.depth ≤ 60) ∧
  ∀ (ys : List V) (p : Addr), Srt xs ds ys → H p = none → Q (.ref p) (upd H p (.lst ys))
end
def dotS : Str := "."
theorem sg_dot : sg dotS = [46] := by decide +kernel
def lettersS : Str := "abcdefghijklmnopqrstuvwxyz0123456789"
def wordB (z ls : Str) (m : Int) : Bool := decide ((1 : Int) ≤ (z.length : Int)) && (decide ((z.length : Int) ≤ m) && (sg z).all fun c => decide (c ∈ sg ls))
def idB (z : Str) : Bool := wordB z lettersS 4
def labelB (z : Str) : Bool := wordB z lettersS 8
def partsL (z : Str) : List Str := Txt.split z dotS
def nameB (z : Str) : Bool := decide (z = dotS) || (decide (((partsL z).length : Int) ≤ 4) && (partsL z).all labelB)
def endsB (n o : Str) : Bool := decide (o = dotS) || (decide (n = o) || Txt.endswith n (dotS ++ o))
theorem parts_sg (z : Str) : (partsL z).map sg = TL.spl [46] 0 [] (sg z) := by
  have h := TL.split_spl z dotS (by rw [show TL.tl dotS = [46] from sg_dot]; simp) (TL.kind_ok (by decide +kernel))
  rw [show TL.tl dotS = [46] from sg_dot] at h
  exact h
theorem dot_len : (Str.ofString ".").length = 1 := by decide +kernel
/-! ### an index that lies in it -/
theorem at_in {α : Type} {l : List α} {i : Int} (h0 : 0 ≤ i) (h : i < l.length) : ∃ c, atI l i = some c ∧ l[i.toNat]? = some c ∧ c ∈ l := by
  have hi : i.toNat < l.length := by omega
  have e : i = ((i.toNat : Nat) : Int) := by omega
  obtain ⟨c, hc⟩ : ∃ c, l[i.toNat]? = some c := ⟨_, List.getElem?_eq_getElem hi⟩
  have h2 := atI_nat hc
  rw [← e] at h2
  exact ⟨c, h2, hc, List.mem_of_getElem? hc⟩
theorem sum_le {B : Nat} : ∀ {l : List Nat}, (∀ x ∈ l, x ≤ B) → l.sum ≤ l.length * B
  | [], _ => by simp
  | x :: r, h => by
    have h1 := h x List.mem_cons_self
    have h2 := sum_le (l := r) fun y hy => h y (List.mem_cons_of_mem _ hy)
    rw [List.sum_cons, List.length_cons, Nat.succ_mul]
    omega
def joinS (ys : List Str) : Str := Txt.join dotS ys
theorem parts_join {ys : List Str} (hne : ys ≠ []) (h : ∀ y ∈ ys, 46 ∉ sg y) : partsL (joinS ys) = ys := TL.split_join sg_dot (by decide +kernel) hne h
theorem label_nodot {y : Str} (h : labelB y = true) : 46 ∉ sg y := fun hm => by
  unfold labelB wordB at h
  rw [Bool.and_eq_true, Bool.and_eq_true] at h
  have h2 := of_decide_eq_true (List.all_eq_true.mp h.2.2 46 hm)
  exact absurd h2 (by decide +kernel)
theorem name_join {ys : List Str} (hne : ys ≠ []) (hl : ys.length ≤ 4) (h : ∀ y ∈ ys, labelB y = true) : nameB (joinS ys) = true := by
  unfold nameB
  rw [parts_join hne fun y hy => label_nodot (h y hy), decide_eq_true (show (ys.length : Int) ≤ 4 by omega), List.all_eq_true.mpr h]
  simp
theorem at_last {α : Type} {l : List α} {v : α} (h : l.getLast? = some v) : atI l (-1) = some v := by
  obtain ⟨r, e⟩ := List.getLast?_eq_some_iff.mp h
  rw [e]
  exact atI_last _ _
/-! ### sorted of data -/
section
open PySem.W
theorem each_zip {γ : Type} : ∀ {xs : List V} {us : List Value} {ds : List γ}, Vals xs us → ds.length = xs.length → EachIs (fun u d => ∃ y, RelV y u ∧ (y, d) ∈ xs.zip ds) us ds
  | _, _, [], .nil, _ => .nil
  | _, _, d :: ds, .nil, h => by cases h
  | _, _, [], .cons _ _, h => by cases h
  | _, _, d :: ds, .cons (a := x) r t, h => by
    refine .cons ⟨x, r, List.mem_cons_self⟩ ?_
    exact (each_zip t (by simpa using h)).mono fun u e ⟨y, h1, h2⟩ => ⟨y, h1, List.mem_cons_of_mem _ h2⟩
/-- the sorted values, by their abstract ones -/
theorem each_back {γ : Type} {R : V → γ → Prop} : ∀ {us : List Value} {ds : List γ}, EachIs (fun u d => ∃ y, RelV y u ∧ R y d) us ds → ∃ ys, Vals ys us ∧ EachIs R ys ds
  | _, _, .nil => ⟨[], .nil, .nil⟩
  | _, _, .cons ⟨y, h1, h2⟩ t => by
    obtain ⟨ys, a, b⟩ := each_back t
    exact ⟨y :: ys, .cons h1 a, .cons h2 b⟩
theorem dpAll_len {K : PySem.W.Frag} {H : Hp} : ∀ {xs : List V} {ds : List PyData}, DpAll K H xs ds → ds.length = xs.length
  | _, _, .nil => rfl
  | _, _, .cons _ t => by rw [List.length_cons, List.length_cons, dpAll_len t]
theorem call_sortedU {X : Cx} (K : PySem.W.Frag) (hK : X.K = K) (hu : X.A.units + 64 < cLine) : CallR X (.builtin "sorted") (rSortD K) := by
  subst hK
  intro pins s σ H vs us Q I r h
  obtain ⟨a, xs, ds, rfl, hs, hd, hal, hk, hdep, q⟩ := h
  cases r with
  | cons r t =>
    cases t
    cases r
    obtain ⟨its, rv, hl, hz⟩ := I.list hs
    have hlen := dpAll_len hd
    obtain ⟨as, hr⟩ := Dp.readsAll I ds xs its hd rv
    have er : EachIs (fun v d => ∃ as, Reads s.heap v (id d) as) its ds := readsAll_each (enc := id) (bs := ds) (by rw [List.map_id]; exact hr)
    refine sorted_data (bs := ds) (enc := id) hl.isList (each_zip rv hlen) er (by rw [List.map_id]; exact hal) (by rw [List.map_id]; exact hk) (by rw [hlen]; exact hz) (fun d hm => ?_) fun out ho he => ?_
    · have := hdep d hm
      show X.A.units + 2 + d.depth < cLine
      omega
    · obtain ⟨ys, h1, h2⟩ := each_back he
      obtain ⟨ep, hp⟩ := PyProof.Rows.sortedAll_at s.heap its (List.toArray out)
      refine ⟨.ref _, upd H (s.heap.objs.size + 1) (.lst ys), I.laid (t' := s.toks) (fun _ _ => PyProof.Rows.sortedAll_old) (Nat.le_succ _) ⟨?_, out, ep, h1, hp⟩, rfl, q ys _ h2 (I.hok.fresh (Nat.le_succ _))⟩
      rw [h1.length, ho, hlen]
      exact hz
end
/-! ### sorted(xs, key=lambda x: ..) whose keys are ints -/
section
open PySem.W
def tSortLam (T : List (Addr × Str)) (K : PySem.W.Frag) (N : List Str) (ta : TA) (tb : TE) : TE := fun σ H Q => ta σ H fun vs H1 => ∃ (a : Addr) (xs : List V) (κ : V → Int), vs = [.ref a] ∧ SqL K H1 a xs ∧ LamX.Tabs T H1 ∧
  (∀ x ∈ xs, ∀ H2, Ext T [] H1 H2 → ∀ Q' : VK, (∀ H3, Ext T [] H2 H3 → Q' (.int (κ x)) H3) → tb (start N [x]) H2 Q') ∧ ∀ q H3, Nw H1 q → Ext T [] H1 H3 → H3 q = some (.lst (xs.mergeSort fun a b => decide (κ a ≤ κ b))) → Q (.ref q) H3
theorem rd_sortLam {T : List (Addr × Str)} {K : PySem.W.Frag} {N : List Str} {ta : TA} {tb : TE} {σ : L2.St} {H : Hp} {Q : VK} (q : ta σ H fun vs H1 => ∃ (a : Addr) (xs : List V) (κ : V → Int), vs = [.ref a] ∧ SqL K H1 a xs ∧ LamX.Tabs T H1 ∧
  (∀ x ∈ xs, ∀ H2, Ext T [] H1 H2 → ∀ Q' : VK, (∀ H3, Ext T [] H2 H3 → Q' (.int (κ x)) H3) → tb (start N [x]) H2 Q') ∧ ∀ q H3, Nw H1 q → Ext T [] H1 H3 → H3 q = some (.lst (xs.mergeSort fun a b => decide (κ a ≤ κ b))) → Q (.ref q) H3) : tSortLam T K N ta tb σ H Q := q
end
/-! ### a def whose own code object is known: it makes a lambda -/
def DefC (K : PySem.W.Frag) (mg : Str → Option Value) (x : Str) (st : Stmt) (ps : List Str) (c : Addr) : Prop :=
  ∃ (f : Addr) (oc : Value) (od : Option Addr) (kV doc pm : Value) (an : Option Addr) (ct : Value) (osl : Array (Option Value)),
    K.lookup f = some ⟨oc, od, .func (PySem.W.fnOf x x (defArgs st) (defBody st) (defScope st) .none kV doc pm an (.ref c) ct), osl⟩ ∧ PySem.W.codeIn K (.ref c) x = true ∧ PySem.W.keepIn K (.ref f) = true ∧ mg x = some (.ref f) ∧
    Binds K (PySem.W.fnOf x x (defArgs st) (defBody st) (defScope st) .none kV doc pm an (.ref c) ct) ps []
theorem DefC.ok {P : Program} {w : World} {K : PySem.W.Frag} {mg : Str → Option Value} {base : Heap} {x : Str} {st : Stmt} {N ps : List Str} {k : Nat} {sp : Sp} {c : Addr} (D : DefC K mg x st ps c) (S : FnScope N ps (defScope st)) (len : ∀ vs H Q E, sp vs H Q E → vs.length = ps.length)
    (hbody : ∀ (f : Addr) (A : Around) (outer : List Env) (s : Shared) (H : Hp) (vs : List V) (Q : VK) (E : XK), Room k (A.deeper (envOfC x (defScope st) s.heap.objs.size f (.ref c))) → sp vs H Q E →
      ∃ t, PSs (cxOf CX0 P w K mg base N x (defScope st) f (.ref c) A outer s H E).nox (defBody st) t ∧ t { nx := fun _ H' => Q .non H', rt := Q } (start N vs) H) : Ok P w K mg base (k + 1) x ps sp := by
  obtain ⟨f, oc, od, kV, doc, pm, an, ct, osl, lk, hcd, hk, hm, hb⟩ := D
  refine ⟨f, _, fn_of lk hcd S len fun A outer s H vs Q E hr h => ?_, hm, hk, hb⟩
  obtain ⟨t, h1, h2⟩ := hbody f A outer s H vs Q E hr h
  exact ⟨t, h1.nox, h2⟩
/-! ### tuple(xs) whose object is known, dict() of it -/
section
variable {X : Cx}
def rTupF (K : PySem.W.Frag) : List V → Hp → VK → Prop := fun xs H Q => ∃ p ys, xs = [.ref p] ∧ ((SqL K H p ys ∧ ∀ l o, H l = none → o.dict = none → Q (.ref l) (upd H l (.frz o (.tup ys)))) ∨ (SqT K H p ys ∧ Q (.ref p) H))
theorem call_tupF (K : PySem.W.Frag) (hK : X.K = K) : CallR X (.type "tuple") (rTupF K) := by
  subst hK
  intro pins s σ H xs us Q I r h
  obtain ⟨p, ys, rfl, h⟩ := h
  obtain ⟨u, rfl, rx⟩ := vals1 r
  cases rx
  rcases h with ⟨hq, q⟩ | ⟨hq, q⟩
  · obtain ⟨its, r', pl, hz⟩ := I.list hq
    have hlen := r'.length
    refine call_tuple_list pl.isList (fun h' kp => ?_) (by simp only [List.size_toArray] <;> omega)
    have I1 : Inv X pins σ H { s with heap := h' } := I.kept (t' := s.toks) kp
    have I2 : Inv X pins σ (upd H h'.objs.size (.frz { cls := .type "tuple", data := .seq its.toArray } (.tup ys))) { s with heap := h'.push { cls := .type "tuple", data := .seq its.toArray } } :=
      I1.laid (t' := s.toks) (fun b o e => Heap.get?_push_of_some _ e) (Nat.le_refl _) (show ObjOk X.prog X.w _ _ _ (.frz _ (.tup ys)) from ⟨Heap.get?_push_size _ rfl, hz, its, r', IsTup.new _ _⟩)
    exact ⟨.ref h'.objs.size, _, I2, rfl, q _ _ (I1.hok.fresh (Nat.le_refl _)) rfl⟩
  · obtain ⟨its, r', pl, hz⟩ := I.tuple hq
    exact call_tuple_same pl ⟨.ref p, H, I, rfl, q⟩
end
/-! ### data without lists -/
def SqP (H : Hp) (a : Addr) (xs : List V) : Prop := Rd H a (.tup xs)
mutual
inductive Im (H : Hp) : V → PyData → Prop
  | non : Im H .non .none
  | int (i : Int) : Im H (.int i) (.int i)
  | str (x : Str) (h : PyData.strOk x = true) : Im H (.str x) (.str x)
  | tup {a : Addr} {xs : List V} {ds : List PyData} : H a = some (.tup xs) → ImAll H xs ds → Im H (.ref a) (.tuple ds)
  | tupF {a : Addr} {xs : List V} {ds : List PyData} {o : Obj} : H a = some (.frz o (.tup xs)) → (∀ d ∈ ds, ∃ es, d = .tuple es) → ImAll H xs ds → Im H (.ref a) (.tuple ds)
inductive ImAll (H : Hp) : List V → List PyData → Prop
  | nil : ImAll H [] []
  | cons {v : V} {vs : List V} {d : PyData} {ds : List PyData} : Im H v d → ImAll H vs ds → ImAll H (v :: vs) (d :: ds)
end
theorem SqP.of {H : Hp} {a : Addr} {xs : List V} (h : H a = some (.tup xs)) : SqP H a xs := .inl h
theorem SqP.sq {K : PySem.W.Frag} {H : Hp} {a : Addr} {xs : List V} (h : SqP H a xs) : SqT K H a xs := .inl h
theorem Im.tup' {H : Hp} {v : V} {ds : List PyData} (h : Im H v (.tuple ds)) : ∃ a xs, v = .ref a ∧ SqP H a xs ∧ ImAll H xs ds := by
  cases h with
  | tup h1 h2 => exact ⟨_, _, rfl, .inl h1, h2⟩
  | tupF h1 _ h2 => exact ⟨_, _, rfl, .inr ⟨_, h1⟩, h2⟩
mutual
theorem Im.dp {K : PySem.W.Frag} {H : Hp} : ∀ (d : PyData) (v : V), Im H v d → Dp K H v d
  | .none, _, h => by cases h; exact .non
  | .bool b, _, h => by cases h
  | .int i, _, h => by cases h; exact .int i
  | .str x, _, h => by cases h; exact .str x
  | .list _, _, h => by cases h
  | .dict _, _, h => by cases h
  | .tuple ds, _, h => by
    obtain ⟨a, xs, rfl, h1, h2⟩ := h.tup'
    exact .tup h1.sq (ImAll.dp ds _ h2)
theorem ImAll.dp {K : PySem.W.Frag} {H : Hp} : ∀ (ds : List PyData) (vs : List V), ImAll H vs ds → DpAll K H vs ds
  | [], _, h => by cases h; exact .nil
  | d :: ds, _, h => by
    cases h with
    | cons h1 h2 => exact .cons (Im.dp d _ h1) (ImAll.dp ds _ h2)
end
/-- all the objects that may change are lists -/
def Lsts (H : Hp) (ms : List Addr) : Prop := ∀ b ∈ ms, ∃ xs, H b = some (.lst xs)
theorem tup.ext {T : List (Addr × Str)} {ms : List Addr} {H H' : Hp} {a : Addr} {xs : List V} (h : H a = some (.tup xs)) (e : Ext T ms H H') (hm : Lsts H ms) : H' a = some (.tup xs) := by
  have hn : ∀ o, H a = some o → (∀ xs, o ≠ .lst xs) → a ∉ ms := fun o ho hl hb => by
    obtain ⟨ys, hy⟩ := hm a hb
    rw [ho] at hy
    exact hl ys (Option.some.inj hy)
  exact e.keep a _ (hn _ h fun _ z => by cases z) (fun _ z => by cases z) h
theorem frz.ext {T : List (Addr × Str)} {ms : List Addr} {H H' : Hp} {a : Addr} {o : Obj} {u : HO} (h : H a = some (.frz o u)) (e : Ext T ms H H') (hm : Lsts H ms) : H' a = some (.frz o u) := by
  have hn : ∀ o, H a = some o → (∀ xs, o ≠ .lst xs) → a ∉ ms := fun o ho hl hb => by
    obtain ⟨ys, hy⟩ := hm a hb
    rw [ho] at hy
    exact hl ys (Option.some.inj hy)
  exact e.keep a _ (hn _ h fun _ z => by cases z) (fun _ z => by cases z) h
theorem SqP.ext {T : List (Addr × Str)} {ms : List Addr} {H H' : Hp} {a : Addr} {xs : List V} (h : SqP H a xs) (e : Ext T ms H H') (hm : Lsts H ms) : SqP H' a xs := by
  rcases h with h | ⟨o, h⟩
  · exact .inl (tup.ext h e hm)
  · exact .inr ⟨o, frz.ext h e hm⟩
theorem SqP.inj {H : Hp} {a : Addr} {xs ys : List V} (h : SqP H a xs) (q : SqP H a ys) : xs = ys := by
  rcases h with h | ⟨o, h⟩ <;> rcases q with q | ⟨o', q⟩ <;> rw [h] at q <;> cases q <;> rfl
mutual
theorem Im.ext {T : List (Addr × Str)} {ms : List Addr} {H H' : Hp} (e : Ext T ms H H') (hm : Lsts H ms) : ∀ (d : PyData) (v : V), Im H v d → Im H' v d
  | .none, _, h => by cases h; exact .non
  | .bool b, _, h => by cases h
  | .int i, _, h => by cases h; exact .int i
  | .str x, _, h => by
    cases h with
    | str _ q => exact .str x q
  | .list _, _, h => by cases h
  | .dict _, _, h => by cases h
  | .tuple ds, _, h => by
    cases h with
    | tup h1 h2 => exact .tup (tup.ext h1 e hm) (ImAll.ext e hm ds _ h2)
    | tupF h1 h3 h2 => exact .tupF (frz.ext h1 e hm) h3 (ImAll.ext e hm ds _ h2)
theorem ImAll.ext {T : List (Addr × Str)} {ms : List Addr} {H H' : Hp} (e : Ext T ms H H') (hm : Lsts H ms) : ∀ (ds : List PyData) (vs : List V), ImAll H vs ds → ImAll H' vs ds
  | [], _, h => by cases h; exact .nil
  | d :: ds, _, h => by
    cases h with
    | cons h1 h2 => exact .cons (Im.ext e hm d _ h1) (ImAll.ext e hm ds _ h2)
end
theorem ImAll.len {H : Hp} : ∀ {vs : List V} {ds : List PyData}, ImAll H vs ds → vs.length = ds.length
  | _, _, .nil => rfl
  | _, _, .cons _ t => by rw [List.length_cons, List.length_cons, t.len]
theorem ImAll.get {H : Hp} : ∀ {vs : List V} {ds : List PyData} {i : Nat} {d : PyData}, ImAll H vs ds → ds[i]? = some d → ∃ v, vs[i]? = some v ∧ Im H v d
  | _, _, 0, d, .cons h t, e => ⟨_, rfl, by rw [← Option.some.inj (show some _ = some d from e)]; exact h⟩
  | _, _, i + 1, d, .cons h t, e => t.get (i := i) e
theorem ImAll.get' {H : Hp} : ∀ {vs : List V} {ds : List PyData} {i : Nat} {v : V}, ImAll H vs ds → vs[i]? = some v → ∃ d, ds[i]? = some d ∧ Im H v d
  | _, _, 0, d, .cons h t, e => ⟨_, rfl, by rw [← Option.some.inj (show some _ = some d from e)]; exact h⟩
  | _, _, i + 1, d, .cons h t, e => t.get' (i := i) e
theorem ImAll.app {H : Hp} : ∀ {vs ws : List V} {ds es : List PyData}, ImAll H vs ds → ImAll H ws es → ImAll H (vs ++ ws) (ds ++ es)
  | _, _, _, _, .nil, h => h
  | _, _, _, _, .cons a t, h => .cons a (t.app h)
theorem ImAll.snoc {H : Hp} {vs : List V} {ds : List PyData} {v : V} {d : PyData} (h : ImAll H vs ds) (x : Im H v d) : ImAll H (vs ++ [v]) (ds ++ [d]) := h.app (.cons x .nil)
theorem ImAll.drop {H : Hp} : ∀ {vs : List V} {ds : List PyData} (n : Nat), ImAll H vs ds → ImAll H (vs.drop n) (ds.drop n)
  | _, _, 0, h => h
  | _, _, n + 1, .nil => .nil
  | _, _, n + 1, .cons _ t => t.drop n
theorem ImAll.take {H : Hp} : ∀ {vs : List V} {ds : List PyData} (n : Nat), ImAll H vs ds → ImAll H (vs.take n) (ds.take n)
  | _, _, 0, h => .nil
  | _, _, n + 1, .nil => .nil
  | _, _, n + 1, .cons h t => .cons h (t.take n)
theorem ImAll.strs {H : Hp} : ∀ {zs : List Str}, (∀ z ∈ zs, PyData.strOk z = true) → ImAll H (zs.map V.str) (zs.map PyData.str)
  | [], _ => .nil
  | z :: zs, h => .cons (.str z (h z List.mem_cons_self)) (ImAll.strs fun y hy => h y (List.mem_cons_of_mem _ hy))
mutual
theorem Im.lay {H : Hp} : ∀ (d : PyData) (v : V), Im H v d → d.canLay0 = true
  | .none, _, h => rfl
  | .bool b, _, h => by cases h
  | .int i, _, h => rfl
  | .str x, _, h => by
    cases h with
    | str _ q => exact q
  | .list _, _, h => by cases h
  | .dict _, _, h => by cases h
  | .tuple ds, _, h => by
    obtain ⟨a, xs, rfl, h1, h2⟩ := h.tup'
    exact ImAll.lay ds _ h2
theorem ImAll.lay {H : Hp} : ∀ (ds : List PyData) (vs : List V), ImAll H vs ds → PyData.canLayAll0 ds = true
  | [], _, h => rfl
  | d :: ds, _, h => by
    cases h with
    | cons h1 h2 =>
      show (d.canLay0 && PyData.canLayAll0 ds) = true
      rw [Im.lay d _ h1, ImAll.lay ds _ h2]
      rfl
end
theorem Im.shaped {H : Hp} {d : PyData} {v : V} (h : Im H v d) (hd : d.depth ≤ 64) : SeqAt.shaped d = true := by
  unfold SeqAt.shaped
  rw [Im.lay d v h, decide_eq_true hd]
  rfl
theorem ImAll.strs' {H : Hp} : ∀ {zs : List Str} {vs : List V}, ImAll H vs (zs.map PyData.str) → vs = zs.map V.str
  | [], _, h => by cases h; rfl
  | z :: zs, _, h => by
    cases h with
    | cons a t =>
      cases a
      rw [List.map_cons, ImAll.strs' t]
theorem Im.str' {H : Hp} {v : V} {z : Str} (h : Im H v (.str z)) : v = .str z := by cases h; rfl
theorem Im.int' {H : Hp} {v : V} {z : Int} (h : Im H v (.int z)) : v = .int z := by cases h; rfl
theorem Im.pair' {H : Hp} {v : V} {d1 d2 : PyData} (h : Im H v (.tuple [d1, d2])) : ∃ a x y, v = .ref a ∧ SqP H a [x, y] ∧ Im H x d1 ∧ Im H y d2 := by
  obtain ⟨a, xs, rfl, h1, h2⟩ := h.tup'
  cases h2 with
  | cons a1 t =>
    cases t with
    | cons a2 t =>
      cases t
      exact ⟨a, _, _, rfl, h1, a1, a2⟩
theorem Im.new2 {H : Hp} {a : Addr} {v1 v2 : V} {d1 d2 : PyData} (h1 : Im H v1 d1) (h2 : Im H v2 d2) (ha : H a = some (.tup [v1, v2])) : Im H (.ref a) (.tuple [d1, d2]) := .tup ha (.cons h1 (.cons h2 .nil))
theorem Im.new3 {H : Hp} {a : Addr} {v1 v2 v3 : V} {d1 d2 d3 : PyData} (h1 : Im H v1 d1) (h2 : Im H v2 d2) (h3 : Im H v3 d3) (ha : H a = some (.tup [v1, v2, v3])) : Im H (.ref a) (.tuple [d1, d2, d3]) := .tup ha (.cons h1 (.cons h2 (.cons h3 .nil)))
/-- a list of such data -/
def Ls (H : Hp) (a : Addr) (ds : List PyData) : Prop := ∃ xs, H a = some (.lst xs) ∧ ImAll H xs ds
theorem Ls.ext {T : List (Addr × Str)} {ms : List Addr} {H H' : Hp} {a : Addr} {ds : List PyData} (h : Ls H a ds) (e : Ext T ms H H') (ha : a ∉ ms) (hm : Lsts H ms) : Ls H' a ds := by
  obtain ⟨xs, h1, h2⟩ := h
  exact ⟨xs, e.lst ha h1, ImAll.ext e hm _ _ h2⟩
theorem Lsts.nil {H : Hp} : Lsts H [] := fun b hb => by cases hb
theorem Tape.lsts {H : Hp} {l t : Addr} (h : Tape l H t) : Lsts H [t] := fun b hb => by
  rw [List.mem_singleton.mp hb]
  obtain ⟨ns, pos, rest, st, bud, h1, _⟩ := h
  exact ⟨_, h1⟩
theorem no_iff {p : Prop} {q : Prop} (h1 : ¬ p) (h2 : ¬ q) : p ↔ q := ⟨fun h => absurd h h1, fun h => absurd h h2⟩
mutual
theorem Im.eqv {H G : Hp} : ∀ (d e : PyData) (v u : V), Im H v d → Im G u e → (PyData.eqv d e = true ↔ d = e)
  | .none, e, v, u, _, h2 => by
    cases h2 with
    | non => exact ⟨fun _ => rfl, fun _ => rfl⟩
    | int i => exact no_iff (fun h => by cases h) (fun h => by cases h)
    | str i _ => exact no_iff (fun h => by cases h) (fun h => by cases h)
    | tup a b => exact no_iff (fun h => by cases h) (fun h => by cases h)
    | tupF a c b => exact no_iff (fun h => by cases h) (fun h => by cases h)
  | .bool _, e, v, u, h1, h2 => by cases h1
  | .list _, e, v, u, h1, h2 => by cases h1
  | .dict _, e, v, u, h1, h2 => by cases h1
  | .int i, e, v, u, _, h2 => by
    cases h2 with
    | non => exact no_iff (fun h => by cases h) (fun h => by cases h)
    | int j =>
      show ((i == j) = true) ↔ _
      rw [beq_iff_eq]
      exact ⟨fun h => by rw [h], fun h => by injection h⟩
    | str i _ => exact no_iff (fun h => by cases h) (fun h => by cases h)
    | tup a b => exact no_iff (fun h => by cases h) (fun h => by cases h)
    | tupF a c b => exact no_iff (fun h => by cases h) (fun h => by cases h)
  | .str x, e, v, u, _, h2 => by
    cases h2 with
    | non => exact no_iff (fun h => by cases h) (fun h => by cases h)
    | int i => exact no_iff (fun h => by cases h) (fun h => by cases h)
    | str y _ =>
      show ((x == y) = true) ↔ _
      rw [beq_iff_eq]
      exact ⟨fun h => by rw [h], fun h => by injection h⟩
    | tup a b => exact no_iff (fun h => by cases h) (fun h => by cases h)
    | tupF a c b => exact no_iff (fun h => by cases h) (fun h => by cases h)
  | .tuple ds, e, v, u, h0, h2 => by
    obtain ⟨_, _, _, _, h1⟩ := h0.tup'
    cases h2 with
    | non => exact no_iff (fun h => by cases h) (fun h => by cases h)
    | int i => exact no_iff (fun h => by cases h) (fun h => by cases h)
    | str i _ => exact no_iff (fun h => by cases h) (fun h => by cases h)
    | tup _ h3 =>
      have key := ImAll.eqv ds _ _ _ h1 h3
      exact ⟨fun h => by rw [key.mp h], fun h => key.mpr (by injection h)⟩
    | tupF _ _ h3 =>
      have key := ImAll.eqv ds _ _ _ h1 h3
      exact ⟨fun h => by rw [key.mp h], fun h => key.mpr (by injection h)⟩
theorem ImAll.eqv {H G : Hp} : ∀ (ds es : List PyData) (vs us : List V), ImAll H vs ds → ImAll G us es → (PyData.eqvAll ds es = true ↔ ds = es)
  | [], es, vs, us, h1, h2 => by
    cases h2 with
    | nil => exact ⟨fun _ => rfl, fun _ => rfl⟩
    | cons a b => exact no_iff (fun h => by cases h) (fun h => by cases h)
  | d :: ds, es, vs, us, h1, h2 => by
    cases h1 with
    | cons h3 h4 =>
      cases h2 with
      | nil => exact no_iff (fun h => by cases h) (fun h => by cases h)
      | cons h5 h6 =>
        have k1 := Im.eqv d _ _ _ h3 h5
        have k2 := ImAll.eqv ds _ _ _ h4 h6
        show ((PyData.eqv _ _ && PyData.eqvAll _ _) = true) ↔ _
        rw [Bool.and_eq_true, k1, k2]
        exact ⟨fun h => by rw [h.1, h.2], fun h => (by injection h with a b; exact ⟨a, b⟩)⟩
end
theorem any_eqv {H : Hp} {v : V} {d : PyData} (h : Im H v d) : ∀ {ds : List PyData} {vs : List V}, ImAll H vs ds → ((ds.any fun z => PyData.eqv z d) = true ↔ d ∈ ds)
  | [], _, _ => by simp
  | e :: ds, _, .cons h1 h2 => by
    rw [List.any_cons, Bool.or_eq_true, Im.eqv _ _ _ _ h1 h, any_eqv h h2, List.mem_cons]
    exact ⟨fun h => h.imp Eq.symm id, fun h => h.imp Eq.symm id⟩
theorem bool_of {a b : Bool} (h : a = true ↔ b = true) : a = b := by
  cases a <;> cases b <;> simp_all
/-! ### reading such data -/
section
variable {K : PySem.W.Frag} {σ : L2.St} {H : Hp} {Q : VK}
theorem SqP.t {a : Addr} {xs : List V} (h : SqP H a xs) : SqT K H a xs := h.sq
theorem rd_ixI {v : V} {ds : List PyData} {i : Int} {d : PyData} (h : Im H v (.tuple ds)) (a : atI ds i = some d) (q : ∀ u, Im H u d → Q u H) : rIx K v (.int i) H Q := by
  obtain ⟨p, xs, rfl, h1, h2⟩ := h.tup'
  have key : ∃ u, atI xs i = some u ∧ Im H u d := by
    unfold atI at a ⊢
    cases e : ixN ds.length i with
    | none =>
      rw [e] at a
      cases a
    | some k =>
      rw [e] at a
      obtain ⟨u, e1, e2⟩ := h2.get (i := k) (by simpa using a)
      exact ⟨u, by rw [h2.len, e]; simpa using e1, e2⟩
  obtain ⟨u, h3, h4⟩ := key
  exact rd_ixT (SqP.t h1) h3 (q u h4)
end
open PySem.W (EachIs AllAlike Sortable dataLe)
/-! ### signs over data -/
section
variable {X : Cx}
def rInDT (K : PySem.W.Frag) : R2 := fun x y H Q => ∃ d ds, Dp K H x d ∧ Dp K H y (.tuple ds) ∧ SeqAt.shaped d = true ∧ SeqAt.shaped (.tuple ds) = true ∧ Q (.bl (ds.any fun z => PyData.eqv z d)) H
def rNinDT (K : PySem.W.Frag) : R2 := fun x y H Q => ∃ d ds, Dp K H x d ∧ Dp K H y (.tuple ds) ∧ SeqAt.shaped d = true ∧ SeqAt.shaped (.tuple ds) = true ∧ Q (.bl (!ds.any fun z => PyData.eqv z d)) H
theorem canLay_shapedT {xs : List PyData} (h : SeqAt.shaped (.tuple xs) = true) : PyData.canLayAll0 xs = true := (Bool.and_eq_true _ _ ▸ h : _ ∧ _).1
theorem room_in_shapedT {a : Nat} {d : PyData} {xs : List PyData} (h : SeqAt.shaped d = true) (hu : a + 65 < cLine) : a + 1 + min (PyData.depthAll xs) d.depth < cLine := by
  have h1 : d.depth ≤ 64 := of_decide_eq_true (Bool.and_eq_true _ _ ▸ h : _ ∧ _).2
  have h2 : min (PyData.depthAll xs) d.depth ≤ d.depth := Nat.min_le_right _ _
  omega
theorem op_inDT (hu : X.A.units + 65 < cLine) : OpR X (compareOp .In) (rInDT X.K) := by
  intro pins s σ H x y v u Q I rx ry h
  obtain ⟨d, ds, hd, he, sd, se, q⟩ := h
  obtain ⟨as, r1⟩ := Dp.reads I d x v hd rx
  obtain ⟨bs, r2⟩ := Dp.reads I (.tuple ds) y u he ry
  exact SeqAt.in_tuple_reads r2 r1 (canLay_shapedT se) (SeqAt.canLay_of_shaped sd) (room_in_shapedT sd hu) ⟨.bl _, H, I, rfl, q⟩
theorem op_ninDT (hu : X.A.units + 65 < cLine) : OpR X (compareOp .NotIn) (rNinDT X.K) := by
  intro pins s σ H x y v u Q I rx ry h
  obtain ⟨d, ds, hd, he, sd, se, q⟩ := h
  obtain ⟨as, r1⟩ := Dp.reads I d x v hd rx
  obtain ⟨bs, r2⟩ := Dp.reads I (.tuple ds) y u he ry
  exact SeqAt.notIn_tuple_reads r2 r1 (canLay_shapedT se) (SeqAt.canLay_of_shaped sd) (room_in_shapedT sd hu) ⟨.bl _, H, I, rfl, q⟩
def rInW (K : PySem.W.Frag) : R2 := fun x y H Q => rInU K x y H Q ∨ (rInD K x y H Q ∨ rInDT K x y H Q)
def rNinW (K : PySem.W.Frag) : R2 := fun x y H Q => rNinU K x y H Q ∨ (rNotInD K x y H Q ∨ rNinDT K x y H Q)
theorem Room.units65 {k : Nat} {A : Around} (r : Room k A) : A.units + 65 < cLine := by have := r.un; omega
theorem op_inW (K : PySem.W.Frag) (hK : X.K = K) (hu : X.A.units + 65 < cLine) : OpR X (compareOp .In) (rInW K) := by
  have h := op_inU (X := X) K hK
  subst hK
  exact h.or ((op_inD hu).or (op_inDT hu))
theorem op_ninW (K : PySem.W.Frag) (hK : X.K = K) (hu : X.A.units + 65 < cLine) : OpR X (compareOp .NotIn) (rNinW K) := by
  have h := op_ninU (X := X) K hK
  subst hK
  exact h.or ((op_notInD hu).or (op_ninDT hu))
/-- unpacking a tuple or a list -/
def gTupU (K : PySem.W.Frag) (n : Nat) (t : TGs) : TG := fun v σ H Q => gTup K n t v σ H Q ∨ gUnl K n t v σ H Q
theorem pg_tupU (K : PySem.W.Frag) (hK : X.K = K) {es : List Expr} {k : Nat} {t : TGs} {n : Nat} {pos : Pos} (hc : X.calm = true) (h : PGs X es t)
    (hn : (assignEach es X.env).length = n := by rfl) (hst : (assignEach es X.env).findIdx? (·.1) = none := by rfl) : PG X (.Tuple es k pos) (gTupU K n t) := by
  subst hK
  refine ⟨fun pins s σ H v u Q I r hw => ?_⟩
  rcases hw with hw | hw
  · exact (pg_tup hc h hn hst).run pins s σ H v u Q I r hw
  · exact (pg_unl hc h hn hst).run pins s σ H v u Q I r hw
end
section
variable {X : Cx}
theorem pa_starU (K : PySem.W.Frag) (hK : X.K = K) {e : Expr} {es : List Expr} {te : TE} {t : TA} {p : Pos} (he : PE X e te) (ht : PA X es t)
    (hs : starEach (e.Starred p :: es) X.env = (true, eval e X.env) :: starEach es X.env := by rfl) : PA X (e.Starred p :: es) (StX.tStar K te t) := by
  subst hK
  exact StX.pa_star he ht hs
end
/-! ### reading -/
section
variable {K : PySem.W.Frag} {σ : L2.St} {H : Hp} {Q : VK}
theorem rd_star {te : TE} {t : TA} {Q : List V → Hp → Prop} (q : te σ H fun x H1 => ∃ p xs, x = V.ref p ∧ (SqT K H1 p xs ∨ SqL K H1 p xs) ∧ t σ H1 fun ys H2 => Q (xs ++ ys) H2) : StX.tStar K te t σ H Q := q
theorem rd_gtup {n : Nat} {t : TGs} {a : Addr} {xs : List V} {Q : L2.St → Hp → Prop} (h : SqT K H a xs) (hl : xs.length = n) (q : t xs σ H Q) : gTupU K n t (.ref a) σ H Q := .inl ⟨a, xs, rfl, h, hl, q⟩
theorem rd_glst {n : Nat} {t : TGs} {a : Addr} {xs : List V} {Q : L2.St → Hp → Prop} (h : SqL K H a xs) (hl : xs.length = n) (q : t xs σ H Q) : gTupU K n t (.ref a) σ H Q := .inr ⟨a, xs, rfl, h, hl, q⟩
theorem rd_gcons {t : TG} {u : TGs} {v : V} {r : List V} {Q : L2.St → Hp → Prop} (q : t v σ H fun σ' H' => u r σ' H' Q) : gCons t u (v :: r) σ H Q := ⟨v, r, rfl, q⟩
theorem rd_gnil {Q : L2.St → Hp → Prop} (q : Q σ H) : gNil [] σ H Q := ⟨rfl, q⟩
theorem rd_gpair {i j : Nat} {v : V} {d1 d2 : PyData} {Q : L2.St → Hp → Prop} (h : Im H v (.tuple [d1, d2])) (q : ∀ v1 v2, Im H v1 d1 → Im H v2 d2 → Q ((σ.set i (some v1)).set j (some v2)) H) : gTupU K 2 (gCons (gName i) (gCons (gName j) gNil)) v σ H Q := by
  obtain ⟨a, x, y, rfl, h1, h2, h3⟩ := h.pair'
  exact rd_gtup (SqP.t h1) rfl (rd_gcons (rd_name (rd_gcons (rd_name (rd_gnil (q x y h2 h3))))))
theorem rd_inWs {o : Str} {a : Addr} {zs : List Str} (ha : H a = some (.lst (zs.map V.str))) (q : Q (.bl (decide (o ∈ zs))) H) : rInW K (.str o) (.ref a) H Q := by
  refine .inl (.inl ⟨a, _, rfl, .inl (.inl (.inl ha)), rfl, ?_, ?_⟩)
  · rw [List.all_map]
    exact List.all_eq_true.mpr fun _ _ => rfl
  · have e : inV (.str o) (zs.map V.str) = decide (o ∈ zs) := by
      induction zs with
      | nil => rfl
      | cons z zs ih =>
        have h2 : inV (.str o) ((z :: zs).map V.str) = ((z == o) || inV (.str o) (zs.map V.str)) := rfl
        rw [h2]
        have ih2 : inV (.str o) (zs.map V.str) = decide (o ∈ zs) := by
          clear h2 ha q ih
          induction zs with
          | nil => rfl
          | cons y ys ih =>
            show ((y == o) || inV (.str o) (ys.map V.str)) = _
            rw [ih]
            by_cases h : y = o
            · subst h
              simp
            · have h2 : ¬ o = y := fun e => h e.symm
              simp [h, h2]
        rw [ih2]
        by_cases h : z = o
        · subst h
          simp
        · have h2 : ¬ o = z := fun e => h e.symm
          simp [h, h2]
    rw [show (if false = true then (!inV (.str o) (zs.map V.str)) else inV (.str o) (zs.map V.str)) = inV (.str o) (zs.map V.str) from rfl, e]
    exact q
theorem inV_strs0 (o : Str) : ∀ zs : List Str, inV (.str o) (zs.map V.str) = decide (o ∈ zs)
  | [] => rfl
  | z :: zs => by
    show ((z == o) || inV (.str o) (zs.map V.str)) = _
    rw [inV_strs0 o zs]
    by_cases h : z = o
    · subst h
      simp
    · have h2 : ¬ o = z := fun e => h e.symm
      simp [h, h2]
theorem rd_ninWs {o : Str} {a : Addr} {zs : List Str} (ha : H a = some (.lst (zs.map V.str))) (q : Q (.bl (!decide (o ∈ zs))) H) : rNinW K (.str o) (.ref a) H Q := by
  refine .inl (.inl ⟨a, _, rfl, .inl (.inl (.inl ha)), rfl, ?_, ?_⟩)
  · rw [List.all_map]
    exact List.all_eq_true.mpr fun _ _ => rfl
  · rw [if_pos rfl, inV_strs0]
    exact q
/-- a text in a tuple of texts -/
theorem rd_inWt {o : Str} {a : Addr} {zs : List Str} (ha : SqT K H a (zs.map V.str)) (q : Q (.bl (decide (o ∈ zs))) H) : rInW K (.str o) (.ref a) H Q := by
  refine .inl (.inl ⟨a, _, rfl, .inr ha, rfl, ?_, ?_⟩)
  · rw [List.all_map]
    exact List.all_eq_true.mpr fun _ _ => rfl
  · rw [if_neg (by decide), inV_strs0]
    exact q
theorem rd_eqI {v u : V} {d e : PyData} (h1 : Im H v d) (h2 : Im H u e) (s1 : d.depth ≤ 64) (s2 : e.depth ≤ 64) {b : Bool} (hb : d = e ↔ b = true) (q : Q (.bl b) H) : rEqU K v u H Q := .inr ⟨_, _, h1.dp, h2.dp, h1.shaped s1, h2.shaped s2, by rw [bool_of ((Im.eqv _ _ _ _ h1 h2).trans hb)]; exact q⟩
theorem rd_neI {v u : V} {d e : PyData} (h1 : Im H v d) (h2 : Im H u e) (s1 : d.depth ≤ 64) (s2 : e.depth ≤ 64) {b : Bool} (hb : d = e ↔ b = true) (q : Q (.bl (!b)) H) : rNeU K v u H Q := .inr ⟨_, _, h1.dp, h2.dp, h1.shaped s1, h2.shaped s2, by rw [bool_of ((Im.eqv _ _ _ _ h1 h2).trans hb)]; exact q⟩
theorem rd_inWI {v u : V} {d : PyData} {ds : List PyData} (h1 : Im H v d) (h2 : Im H u (.tuple ds)) (s1 : d.depth ≤ 64) (s2 : PyData.depth (.tuple ds) ≤ 64) {b : Bool} (hb : d ∈ ds ↔ b = true) (q : Q (.bl b) H) : rInW K v u H Q := .inr (.inr ⟨d, ds, h1.dp, h2.dp, h1.shaped s1, h2.shaped s2, by
  obtain ⟨a, xs, _, _, h3⟩ := h2.tup'
  rw [bool_of ((any_eqv h1 h3).trans hb)]
  exact q⟩)
theorem Ls.dp {a : Addr} {ds : List PyData} (h : Ls H a ds) : Dp K H (.ref a) (.list ds) := by
  obtain ⟨xs, h1, h2⟩ := h
  exact .lst (SqL.of h1) h2.dp
theorem rd_ninWL {v : V} {a : Addr} {d : PyData} {ds : List PyData} (h1 : Im H v d) (h2 : Ls H a ds) (s1 : d.depth ≤ 64) (s2 : PyData.depth (.list ds) ≤ 64) {b : Bool} (hb : d ∈ ds ↔ b = true) (q : Q (.bl (!b)) H) : rNinW K v (.ref a) H Q := .inr (.inl ⟨d, ds, h1.dp, h2.dp, h1.shaped s1, by
  obtain ⟨xs, e1, e2⟩ := h2
  unfold SeqAt.shaped
  rw [show PyData.canLay0 (.list ds) = true from ImAll.lay ds _ e2, decide_eq_true s2]
  rfl, by
  obtain ⟨xs, e1, e2⟩ := h2
  rw [bool_of ((any_eqv h1 e2).trans hb)]
  exact q⟩)
theorem each_im {H : Hp} {xs : List V} {ds : List PyData} (h : ImAll H xs ds) : ∀ {ys : List V} {es : List PyData}, EachIs (fun y d => (y, d) ∈ xs.zip ds) ys es → ImAll H ys es
  | _, _, .nil => .nil
  | _, _, .cons a t => by
    refine .cons ?_ (each_im h t)
    clear t
    have key : ∀ {xs : List V} {ds : List PyData} {v : V} {d : PyData}, ImAll H xs ds → (v, d) ∈ xs.zip ds → Im H v d := by
      intro xs ds v d h
      induction xs generalizing ds with
      | nil => intro a; simp at a
      | cons x xs ih =>
        cases h with
        | cons h1 h2 =>
          intro a
          rw [List.zip_cons_cons] at a
          rcases List.mem_cons.mp a with a | a
          · cases a
            exact h1
          · exact ih h2 a
    exact key h a
/-- sorted of a list of data -/
def srtD (ds : List PyData) : List PyData := ds.mergeSort (dataLe false id)
theorem rd_sortI {a : Addr} {ds : List PyData} (h : Ls H a ds) (h1 : AllAlike ds) (h2 : Sortable ds) (h3 : ∀ d ∈ ds, d.depth ≤ 60) (q : ∀ p ys, H p = none → ImAll H ys (srtD ds) → Q (.ref p) (upd H p (.lst ys))) : rSortD K [.ref a] H Q := by
  obtain ⟨xs, e1, e2⟩ := h
  exact ⟨a, xs, ds, rfl, SqL.of e1, e2.dp, h1, h2, h3, fun ys p hs hp => q p ys hp (each_im e2 hs)⟩
theorem rd_tupF {p : Addr} {ys : List V} (h : SqL K H p ys) (q : ∀ l o, H l = none → o.dict = none → Q (.ref l) (upd H l (.frz o (.tup ys)))) : rTupF K [.ref p] H Q := ⟨p, ys, rfl, .inl ⟨h, q⟩⟩
theorem rd_listT {p : Addr} {ys : List V} (h : SqT K H p ys) (q : ∀ l, H l = none → Q (.ref l) (upd H l (.lst ys))) : rListOf K [.ref p] H Q := ⟨p, ys, rfl, .inr h, q⟩
theorem rd_lenT {p : Addr} {ys : List V} (h : SqT K H p ys) (q : Q (.int ys.length) H) : rLenU K [.ref p] H Q := .inr ⟨p, ys, rfl, .inr h, q⟩
theorem rd_slT {a : Addr} {xs : List V} {lo hi : Option Int} (h : SqT K H a xs) (hw : ¬ (HT.sIx xs.length 0 lo = 0 ∧ HT.sIx xs.length xs.length hi = xs.length)) (q : ∀ p, H p = none → Q (.ref p) (upd H p (.tup (cutV xs lo hi)))) : rSlU K (.ref a) lo hi H Q := .inr (.inr ⟨a, xs, rfl, h, hw, q⟩)
theorem rd_catT {a b : Addr} {xs ys : List V} (h1 : SqT K H a xs) (h2 : SqT K H b ys) (n1 : xs ≠ []) (n2 : ys ≠ []) (c : xs.length + ys.length ≤ sizeLine) (q : ∀ p, H p = none → Q (.ref p) (upd H p (.tup (xs ++ ys)))) : rPlus K (.ref a) (.ref b) H Q := .inr (.inr (.inr (.inl ⟨a, b, xs, ys, rfl, rfl, h1, h2, n1, c, fun e => absurd e n2, fun _ => q⟩)))
theorem rd_catT0 {a b : Addr} {ys : List V} (h1 : SqT K H a []) (h2 : SqT K H b ys) (q : Q (.ref b) H) : rPlus K (.ref a) (.ref b) H Q := .inr (.inr (.inr (.inr ⟨a, b, ys, rfl, rfl, h1, h2, q⟩)))
/-! ### comprehensions over data -/
theorem lcg_im (T : List (Addr × Str)) (ms : List Addr) {J : It} {n : Nat} {G : Hp → Prop} {Y : Nat → Hp → V → Hp → Prop} {g : TG} {tt : TT} {te : TE} {vs : List Nat} (w : Walk J n G Y) (xs : List V) (hn : n = xs.length) (hY : ∀ i H x H', Y i H x H' → H' = H ∧ xs[i]? = some x)
    (Iv : Hp → Prop) (h0 : Iv H) (hI0 : ∀ D o, H D = none → Iv (upd H D o)) (hI : ∀ D H', Nw H D → Iv H' → ∀ ys u, H' D = some (.lst ys) → Iv (upd H' D u)) (hL : ∀ H', Iv H' → Lsts H' ms) (hG : ∀ H', Ext T ms H H' → Iv H' → G H') (hl : xs.length < sizeLine)
    (p : V → Bool) (Rel : PyData → V → Prop)
    (step : ∀ (i : Nat) (x : V), xs[i]? = some x → ∀ H', Ext T ms H H' → Iv H' → ∀ (R : V → Hp → Prop) (S : Hp → Prop), (p x = true → ∀ v d H2, Ext T ms H' H2 → Iv H2 → Im H2 v d → Rel d x → R v H2) → (p x = false → ∀ H2, Ext T ms H' H2 → Iv H2 → S H2) →
      g x (wipe σ vs) H' fun σ2 H2 => wipe σ2 vs = wipe σ vs ∧ tt σ2 H2 fun b H3 => if b = true then te σ2 H3 R else S H3)
    (q : ∀ D H2 ds, Nw H D → Ext T ms H H2 → Iv H2 → Ls H2 D ds → EachIs Rel ds (xs.filter p) → Q (.ref D) H2) : LcG J g tt te vs σ H Q := fun D hD => by
  have hDm : D ∉ ms := fun hm => by
    obtain ⟨ys, e⟩ := hL H h0 D hm
    rw [hD] at e
    cases e
  refine lc_it w (fun i H2 => Ext T ms H H2 ∧ Iv H2 ∧ ∃ ds, Ls H2 D ds ∧ EachIs Rel ds ((xs.take i).filter p)) ⟨.new hD, hI0 D _ hD, [], ⟨[], upd_same, .nil⟩, .nil⟩ (fun i H2 _ h => hG H2 h.1 h.2.1) (fun i x H1 H' hi h y => ?_) (fun H1 h => ?_)
  · obtain ⟨e1, e2⟩ := hY i H1 x H' y
    subst e1
    obtain ⟨h1, h2, ds, h3, h4⟩ := h
    have et : xs.take (i + 1) = xs.take i ++ [x] := by rw [List.take_add_one, e2]; rfl
    refine step i x e2 H' h1 h2 _ _ (fun hp v d H2 e i2 hv hr => ?_) (fun hp H2 e i2 => ?_)
    · have h3' := h3.ext e hDm (hL H' h2)
      obtain ⟨acc, h5, h6⟩ := h3'
      refine ⟨acc, h5, ?_, (h1.trans e).own (.of hD) h5, hI D H2 (.of hD) i2 acc _ h5, ds ++ [d], ⟨acc ++ [v], upd_same, ?_⟩, ?_⟩
      · refine Nat.lt_of_le_of_lt ?_ hl
        rw [h6.len, h4.length]
        exact Nat.le_trans (List.length_filter_le _ _) (by rw [List.length_take]; exact Nat.min_le_right _ _)
      · have eD : Ext T [D] H2 (upd H2 D (.lst (acc ++ [v]))) := Ext.mut (by simp) h5
        have hLD : Lsts H2 [D] := fun b hb => ⟨acc, by rw [List.mem_singleton.mp hb]; exact h5⟩
        exact (ImAll.ext eD hLD _ _ h6).snoc (Im.ext eD hLD _ _ hv)
      · rw [et, List.filter_append, List.filter_cons_of_pos hp]
        exact PySem.W.each_snoc hr h4
    · refine ⟨h1.trans e, i2, ds, h3.ext e hDm (hL H' h2), ?_⟩
      rw [et, List.filter_append, List.filter_cons_of_neg (by rw [hp]; decide), List.filter_nil, List.append_nil]
      exact h4
  · obtain ⟨h1, h2, ds, h3, h4⟩ := h
    rw [hn, List.take_length] at h4
    exact q D H1 ds (.of hD) h1 h2 h3 h4
end
/-! ### names are plain texts -/
theorem spl_cover : ∀ (l acc : List Nat) (c : Nat), c ∈ l → c = 46 ∨ ∃ p ∈ TL.spl [46] 0 acc l, c ∈ p
  | [], _, _, h => by cases h
  | d :: r, acc, c, h => by
    by_cases hd : d = 46
    · subst hd
      have e : TL.spl [46] 0 acc (46 :: r) = acc :: TL.spl [46] 0 [] r := by
        rw [TL.spl, if_pos (by rfl)]
        rfl
      rcases List.mem_cons.mp h with h | h
      · exact .inl h
      · rcases spl_cover r [] c h with h2 | ⟨p, h2, h3⟩
        · exact .inl h2
        · exact .inr ⟨p, by rw [e]; exact List.mem_cons_of_mem _ h2, h3⟩
    · have e : TL.spl [46] 0 acc (d :: r) = TL.spl [46] 0 (acc ++ [d]) r := by
        rw [TL.spl, if_neg]
        show ¬ (TL.pre [46] (d :: r) = true)
        unfold TL.pre
        simpa using hd
      rw [e]
      rcases List.mem_cons.mp h with h | h
      · refine .inr ?_
        subst h
        have key : ∀ (l acc : List Nat), c ∈ acc → ∃ p ∈ TL.spl [46] 0 acc l, c ∈ p := by
          intro l
          induction l with
          | nil => exact fun acc h => ⟨acc, List.mem_singleton.mpr rfl, h⟩
          | cons d r ih =>
            intro acc h
            by_cases hd : d = 46
            · subst hd
              have e : TL.spl [46] 0 acc (46 :: r) = acc :: TL.spl [46] 0 [] r := by
                rw [TL.spl, if_pos (by rfl)]
                rfl
              exact ⟨acc, by rw [e]; exact List.mem_cons_self, h⟩
            · have e : TL.spl [46] 0 acc (d :: r) = TL.spl [46] 0 (acc ++ [d]) r := by
                rw [TL.spl, if_neg]
                show ¬ (TL.pre [46] (d :: r) = true)
                unfold TL.pre
                simpa using hd
              rw [e]
              exact ih _ (List.mem_append_left _ h)
        exact key r _ (by simp)
      · exact spl_cover r _ c h
theorem label_mem {y : Str} (h : labelB y = true) {c : Nat} (hc : c ∈ sg y) : c ∈ sg lettersS := by
  unfold labelB wordB at h
  rw [Bool.and_eq_true, Bool.and_eq_true] at h
  exact of_decide_eq_true (List.all_eq_true.mp h.2.2 c hc)
theorem label_len {y : Str} (h : labelB y = true) : y.length ≤ 8 := by
  unfold labelB wordB at h
  rw [Bool.and_eq_true, Bool.and_eq_true] at h
  have := of_decide_eq_true h.2.1
  omega
theorem letters_lt : ∀ c ∈ sg lettersS, c < 128 := by decide +kernel
theorem name_parts {z : Str} (h : nameB z = true) : z = dotS ∨ ((partsL z).length ≤ 4 ∧ ∀ p ∈ partsL z, labelB p = true) := by
  unfold nameB at h
  rw [Bool.or_eq_true, Bool.and_eq_true] at h
  rcases h with h | ⟨h1, h2⟩
  · exact .inl (of_decide_eq_true h)
  · have := of_decide_eq_true h1
    exact .inr ⟨by omega, List.all_eq_true.mp h2⟩
theorem name_plain {z : Str} (h : nameB z = true) : ∀ c ∈ sg z, c < 128 := fun c hc => by
  rcases name_parts h with e | ⟨_, h2⟩
  · rw [e, sg_dot] at hc
    rw [List.mem_singleton.mp hc]
    decide
  · rcases spl_cover (sg z) [] c hc with e | ⟨p, hp, hcp⟩
    · rw [e]
      decide
    · rw [← parts_sg] at hp
      obtain ⟨y, hy, rfl⟩ := List.mem_map.mp hp
      exact letters_lt c (label_mem (h2 y hy) hcp)
/-! ### texts that may stand in data -/
theorem plain_ok {z : Str} (h : ∀ c ∈ sg z, c < 128) : PyData.strOk z = true := by
  unfold PyData.strOk
  rw [← Array.all_toList, List.all_eq_true]
  intro c hc
  have := h c hc
  exact decide_eq_true (by omega)
theorem id_plain {y : Str} (h : idB y = true) : ∀ c ∈ sg y, c < 128 := fun c hc => by
  unfold idB wordB at h
  rw [Bool.and_eq_true, Bool.and_eq_true] at h
  exact letters_lt c (of_decide_eq_true (List.all_eq_true.mp h.2.2 c hc))
theorem id_ok {y : Str} (h : idB y = true) : PyData.strOk y = true := plain_ok (id_plain h)
theorem id_len {y : Str} (h : idB y = true) : y.length ≤ 4 := by
  unfold idB wordB at h
  rw [Bool.and_eq_true, Bool.and_eq_true] at h
  have := of_decide_eq_true h.2.1
  omega
theorem name_ok {y : Str} (h : nameB y = true) : PyData.strOk y = true := plain_ok (name_plain h)
theorem app_len (a b : Str) : (a ++ b).length = a.length + b.length := by rw [← sg_len, sg_app, List.length_append, sg_len, sg_len]
theorem dotS_len : dotS.length = 1 := by decide +kernel
/-- a word made of two -/
theorem word_app {a b : Str} {n m k : Int} (ha : wordB a lettersS n = true) (hb : wordB b lettersS m = true) (hk : n + m ≤ k) : wordB (a ++ b) lettersS k = true := by
  unfold wordB at ha hb ⊢
  rw [Bool.and_eq_true, Bool.and_eq_true] at ha hb ⊢
  have h1 := of_decide_eq_true ha.1
  have h2 := of_decide_eq_true ha.2.1
  have h3 := of_decide_eq_true hb.2.1
  rw [app_len, sg_app, List.all_append, Bool.and_eq_true]
  refine ⟨decide_eq_true ?_, decide_eq_true ?_, ha.2.2, hb.2.2⟩
  · have := of_decide_eq_true hb.1
    omega
  · omega
theorem word_mono {a : Str} {n k : Int} (ha : wordB a lettersS n = true) (hk : n ≤ k) : wordB a lettersS k = true := by
  unfold wordB at ha ⊢
  rw [Bool.and_eq_true, Bool.and_eq_true] at ha ⊢
  have h2 := of_decide_eq_true ha.2.1
  exact ⟨ha.1, decide_eq_true (by omega), ha.2.2⟩
/-! ### names joined of labels -/
theorem join_sg (ys : List Str) : sg (joinS ys) = TL.joinL [46] (ys.map sg) := by
  show sg (Txt.join dotS ys) = _
  rw [TL.join_eq, ← sg_dot]
  exact TL.tl_join dotS ys
theorem join_one (y : Str) : joinS [y] = y := sg_inj (by rw [join_sg]; rfl)
theorem join_cons (y : Str) {ys : List Str} (h : ys ≠ []) : joinS (y :: ys) = y ++ (dotS ++ joinS ys) := by
  refine sg_inj ?_
  rw [sg_app, sg_app, join_sg, join_sg, sg_dot]
  cases ys with
  | nil => exact absurd rfl h
  | cons z r => rfl
theorem str_assoc (a b c : Str) : (a ++ b) ++ c = a ++ (b ++ c) := sg_inj (by rw [sg_app, sg_app, sg_app, sg_app, List.append_assoc])
/-- a zone below the root -/
def zoneB (z : Str) : Prop := ∃ ys : List Str, z = joinS ys ∧ ys ≠ [] ∧ ys.length ≤ 3 ∧ ∀ y ∈ ys, labelB y = true
theorem zone_name {z : Str} (h : zoneB z) : nameB z = true := by
  obtain ⟨ys, rfl, h1, h2, h3⟩ := h
  exact name_join h1 (by omega) h3
theorem dot_name : nameB dotS = true := by decide +kernel
theorem zone_ne {z : Str} (h : zoneB z) : z ≠ dotS := fun e => by
  obtain ⟨ys, rfl, h1, h2, h3⟩ := h
  have e2 := parts_join h1 fun y hy => label_nodot (h3 y hy)
  rw [e] at e2
  have e3 : partsL dotS = [⟨#[]⟩, ⟨#[]⟩] := by decide +kernel
  rw [e3] at e2
  have := h3 ⟨#[]⟩ (by rw [← e2]; simp)
  exact absurd this (by decide +kernel)
theorem join_inj {ys zs : List Str} (h1 : ys ≠ []) (h2 : zs ≠ []) (h3 : ∀ y ∈ ys, labelB y = true) (h4 : ∀ y ∈ zs, labelB y = true) (e : joinS ys = joinS zs) : ys = zs := by
  have e1 := parts_join h1 fun y hy => label_nodot (h3 y hy)
  have e2 := parts_join h2 fun y hy => label_nodot (h4 y hy)
  rw [← e1, ← e2, e]
/-- a label put ahead of a zone, or alone -/
theorem name_cons {a z : Str} (ha : labelB a = true) (h : zoneB z) : nameB (a ++ (dotS ++ z)) = true := by
  obtain ⟨ys, rfl, h1, h2, h3⟩ := h
  rw [← join_cons a h1]
  refine name_join (by simp) (by rw [List.length_cons]; omega) fun y hy => ?_
  rcases List.mem_cons.mp hy with e | hy
  · rw [e]
    exact ha
  · exact h3 y hy
theorem label_name {a : Str} (ha : labelB a = true) : nameB a = true := by
  rw [← join_one a]
  exact name_join (by simp) (by simp) fun y hy => by rw [List.mem_singleton.mp hy]; exact ha
theorem name_len {z : Str} (h : nameB z = true) : z.length ≤ 40 := by
  rcases name_parts h with e | ⟨h1, h2⟩
  · rw [e, dotS_len]
    omega
  · have key : ∀ (l acc : List Nat) (B : Nat), (∀ p ∈ TL.spl [46] 0 acc l, p.length ≤ B) → acc.length + l.length ≤ (TL.spl [46] 0 acc l).length * (B + 1) - 1 ∧ 0 < (TL.spl [46] 0 acc l).length := by
      intro l
      induction l with
      | nil =>
        intro acc B h
        have := h acc (List.mem_singleton.mpr rfl)
        exact ⟨by show acc.length + 0 ≤ 1 * (B + 1) - 1; omega, Nat.one_pos⟩
      | cons c r ih =>
        intro acc B h
        by_cases hc : c = 46
        · subst hc
          have e : TL.spl [46] 0 acc (46 :: r) = acc :: TL.spl [46] 0 [] r := by
            rw [TL.spl, if_pos (by rfl)]
            rfl
          rw [e] at h ⊢
          have h1 := h acc List.mem_cons_self
          obtain ⟨h2, h3⟩ := ih [] B fun p hp => h p (List.mem_cons_of_mem _ hp)
          have h5 := Nat.mul_pos h3 (show 0 < B + 1 by omega)
          simp only [List.length_cons, List.length_nil] at h2 ⊢
          rw [Nat.succ_mul]
          omega
        · have e : TL.spl [46] 0 acc (c :: r) = TL.spl [46] 0 (acc ++ [c]) r := by
            rw [TL.spl, if_neg]
            show ¬ (TL.pre [46] (c :: r) = true)
            unfold TL.pre
            simpa using hc
          rw [e] at h ⊢
          obtain ⟨h2, h3⟩ := ih (acc ++ [c]) B h
          have h5 := Nat.mul_pos h3 (show 0 < B + 1 by omega)
          simp only [List.length_cons, List.length_append, List.length_nil] at h2 ⊢
          omega
    have hp : ∀ p ∈ TL.spl [46] 0 [] (sg z), p.length ≤ 8 := fun p hp => by
      rw [← parts_sg] at hp
      obtain ⟨y, hy, rfl⟩ := List.mem_map.mp hp
      rw [sg_len]
      exact label_len (h2 y hy)
    obtain ⟨h3, _⟩ := key (sg z) [] 8 hp
    have h4 : (TL.spl [46] 0 [] (sg z)).length ≤ 4 := by rw [← parts_sg, List.length_map]; exact h1
    rw [sg_len] at h3
    simp only [List.length_nil] at h3
    omega
open PySem.W (sort_maps dataLe_eq dataLt_pair dataLt_int dataLt_str)
/-! ### the data of a realm, a state, a plan -/
def siD (p : Str × Int) : PyData := .tuple [.str p.1, .int p.2]
def ssD (p : Str × Str) : PyData := .tuple [.str p.1, .str p.2]
inductive Sl where
  | k (z : Str) | l (z : Str) | h (z : Str) | s (n k : Str)
  deriving DecidableEq
def slD : Sl → PyData
  | .k z => .tuple [.str "keys", .str z]
  | .l z => .tuple [.str "link", .str z]
  | .h z => .tuple [.str "hosts", .str z]
  | .s n k => .tuple [.str "set", .str n, .str k]
structure Itm where
  c : List Str
  li : Int
  g : List Str
  a : Int
  b : Int
def itD (i : Itm) : PyData := .tuple [.tuple (i.c.map .str), .int i.li, .tuple (i.g.map .str), .int i.a, .int i.b]
structure Rm where
  zs : List (Str × Int)
  an : List Str
  ss : List (Str × Str)
def rmD (r : Rm) : PyData := .tuple [.tuple (r.zs.map siD), .tuple (r.an.map .str), .tuple (r.ss.map ssD)]
def rowD2 (r : Sl × Itm) : PyData := .tuple [slD r.1, itD r.2]
structure Sta where
  its : List (Sl × Itm)
  on : List (Str × Str)
def stD (s : Sta) : PyData := .tuple [.tuple (s.its.map rowD2), .tuple (s.on.map ssD)]
inductive Dd where
  | put (s : Sl) (i : Itm) | on (x z : Str) | off (x z : Str)
def ddD : Dd → PyData
  | .put s i => .tuple [.str "put", slD s, itD i]
  | .on x z => .tuple [.str "on", .str x, .str z]
  | .off x z => .tuple [.str "off", .str x, .str z]
theorem ssD_inj {a b : Str × Str} (h : ssD a = ssD b) : a = b := by
  obtain ⟨a1, a2⟩ := a
  obtain ⟨b1, b2⟩ := b
  unfold ssD at h
  injection h with h
  injection h with h1 h
  injection h with h2 _
  injection h1 with h1
  injection h2 with h2
  have h1 : a1 = b1 := h1
  have h2 : a2 = b2 := h2
  rw [h1, h2]
theorem slD_inj {a b : Sl} (h : slD a = slD b) : a = b := by
  have two : ∀ {u v x y : Str}, PyData.tuple [.str u, .str x] = PyData.tuple [.str v, .str y] → u = v ∧ x = y := by
    intro u v x y h
    injection h with h
    injection h with h1 h
    injection h with h2 _
    injection h1 with h1
    injection h2 with h2
    exact ⟨h1, h2⟩
  cases a <;> cases b <;> unfold slD at h <;> first
    | (cases (two h).2; rfl)
    | (exact absurd (two h).1 (by decide +kernel))
    | (injection h with h; injection h with _ h; injection h with h1 h; injection h with h2 _; injection h1 with h1; injection h2 with h2; rw [h1, h2])
    | (injection h with h; injection h with _ h; injection h with _ h; cases h)
theorem map_inj {α β : Type} {f : α → β} (hf : ∀ a b, f a = f b → a = b) : ∀ {xs ys : List α}, xs.map f = ys.map f → xs = ys
  | [], [], _ => rfl
  | [], _ :: _, h => by cases h
  | _ :: _, [], h => by cases h
  | x :: xs, y :: ys, h => by
    rw [List.map_cons, List.map_cons] at h
    injection h with h1 h2
    rw [hf _ _ h1, map_inj hf h2]
theorem strs_inj {xs ys : List Str} (h : xs.map PyData.str = ys.map PyData.str) : xs = ys := map_inj (fun _ _ e => by injection e) h
theorem itD_inj {a b : Itm} (h : itD a = itD b) : a = b := by
  obtain ⟨a1, a2, a3, a4, a5⟩ := a
  obtain ⟨b1, b2, b3, b4, b5⟩ := b
  unfold itD at h
  injection h with h
  injection h with h1 h
  injection h with h2 h
  injection h with h3 h
  injection h with h4 h
  injection h with h5 h
  injection h1 with h1
  injection h2 with h2
  injection h3 with h3
  injection h4 with h4
  injection h5 with h5
  have h1 : a1 = b1 := strs_inj h1
  have h2 : a2 = b2 := h2
  have h3 : a3 = b3 := strs_inj h3
  have h4 : a4 = b4 := h4
  have h5 : a5 = b5 := h5
  rw [h1, h2, h3, h4, h5]
theorem dep_strs0 : ∀ zs : List Str, PyData.depthAll (zs.map PyData.str) = 0
  | [] => rfl
  | z :: zs => by
    show max (PyData.depth (.str z)) (PyData.depthAll (zs.map PyData.str)) = 0
    rw [dep_strs0 zs]
    rfl
theorem dep_map {α : Type} {f : α → PyData} {n : Nat} (hf : ∀ a, (f a).depth ≤ n) : ∀ xs : List α, PyData.depthAll (xs.map f) ≤ n
  | [] => Nat.zero_le _
  | x :: xs => Nat.max_le.mpr ⟨hf x, dep_map hf xs⟩
theorem dep_ss (p : Str × Str) : (ssD p).depth ≤ 1 := by show 0 + 1 ≤ 1; omega
theorem dep_sl (s : Sl) : (slD s).depth ≤ 1 := by cases s <;> (show 0 + 1 ≤ 1; omega)
theorem dep_it (i : Itm) : (itD i).depth ≤ 2 := by
  show max (PyData.depthAll (i.c.map .str) + 1) (max 0 (max (PyData.depthAll (i.g.map .str) + 1) (max 0 (max 0 0)))) + 1 ≤ 2
  rw [dep_strs0, dep_strs0]
  decide
/-! ### deeds done -/
def srtSS (l : List (Str × Str)) : List (Str × Str) := l.mergeSort fun a b => dataLe false id (ssD a) (ssD b)
theorem srtSS_eq (l : List (Str × Str)) : srtD (l.map ssD) = (srtSS l).map ssD := (sort_maps ssD fun _ _ _ _ => rfl).symm
def srtS (l : List Str) : List Str := l.mergeSort fun a b => dataLe false id (.str a) (.str b)
theorem srtS_eq (l : List Str) : srtD (l.map .str) = (srtS l).map .str := (sort_maps PyData.str fun _ _ _ _ => rfl).symm
theorem srtS_perm (l : List Str) : (srtS l).Perm l := List.mergeSort_perm _ _
theorem srtSS_perm (l : List (Str × Str)) : (srtSS l).Perm l := List.mergeSort_perm _ _
theorem alike_ss (l : List (Str × Str)) : AllAlike (l.map ssD) := fun d hd e he => by
  obtain ⟨y, _, rfl⟩ := List.mem_map.mp hd
  obtain ⟨z, _, rfl⟩ := List.mem_map.mp he
  rfl
theorem sortable_ss (l : List (Str × Str)) : Sortable (l.map ssD) := .inl fun d hd => by
  obtain ⟨y, _, rfl⟩ := List.mem_map.mp hd
  exact ⟨_, _, rfl⟩
theorem depth_ss (l : List (Str × Str)) : ∀ d ∈ l.map ssD, d.depth ≤ 60 := fun d hd => by
  obtain ⟨y, _, rfl⟩ := List.mem_map.mp hd
  exact Nat.le_trans (dep_ss y) (by decide)
theorem alike_s (l : List Str) : AllAlike (l.map PyData.str) := fun d hd e he => by
  obtain ⟨y, _, rfl⟩ := List.mem_map.mp hd
  obtain ⟨z, _, rfl⟩ := List.mem_map.mp he
  rfl
theorem sortable_s (l : List Str) : Sortable (l.map PyData.str) := .inr fun d hd => by
  obtain ⟨y, _, rfl⟩ := List.mem_map.mp hd
  exact ⟨fun h => (by cases h), fun _ h => (by cases h)⟩
theorem depth_s (l : List Str) : ∀ d ∈ l.map PyData.str, d.depth ≤ 60 := fun d hd => by
  obtain ⟨y, _, rfl⟩ := List.mem_map.mp hd
  show 0 ≤ 60
  decide
def aft (s : Sta) : Dd → Sta
  | .put sl i => ⟨s.its.map fun r => (r.1, if r.1 = sl then i else r.2), s.on⟩
  | .on x z => ⟨s.its, srtSS (s.on ++ [(x, z)])⟩
  | .off x z => ⟨s.its, s.on.filter fun p => !decide (p = (x, z))⟩
theorem aft_keys (s : Sta) (d : Dd) : (aft s d).its.map (·.1) = s.its.map (·.1) := by
  cases d with
  | put sl i =>
    show (s.its.map _).map _ = _
    rw [List.map_map]
    rfl
  | on x z => rfl
  | off x z => rfl
/-! ### what the drawing functions give -/
theorem nodup_len {α : Type} [DecidableEq α] : ∀ {l ys : List α}, l.Nodup → (∀ x ∈ l, x ∈ ys) → l.length ≤ ys.length
  | [], ys, _, _ => Nat.zero_le _
  | x :: l, ys, hn, h => by
    have hx := h x List.mem_cons_self
    have h1 := List.nodup_cons.mp hn
    have h2 := nodup_len (ys := ys.erase x) h1.2 fun y hy => (List.mem_erase_of_ne (fun e => h1.1 (by rw [← e]; exact hy))).mpr (h y (List.mem_cons_of_mem _ hy))
    rw [List.length_erase_of_mem hx] at h2
    have := List.length_pos_of_mem hx
    rw [List.length_cons]
    omega
theorem nodup_snoc {α : Type} {l : List α} {x : α} (h : l.Nodup) (hx : x ∉ l) : (l ++ [x]).Nodup := by
  rw [List.nodup_append]
  refine ⟨h, by simp, fun a ha b hb e => ?_⟩
  rw [List.mem_singleton.mp hb] at e
  rw [e] at ha
  exact hx ha
section
variable (T : List (Addr × Str))
def spId : Sp := fun vs H Q _ => ∃ (l t : Addr), vs = [.ref t] ∧ Tape l H t ∧ ∀ z H', idB z = true → Ext T [t] H H' → Tape l H' t → Q (.str z) H'
def spIds : Sp := fun vs H Q _ => ∃ (l t : Addr) (m : Int), vs = [.ref t, .int m] ∧ 0 ≤ m ∧ m ≤ 5 ∧ Tape l H t ∧
  ∀ (p : Addr) (ys : List Str) (H' : Hp), Nw H p → (ys.length : Int) = m → ys.Nodup → (∀ y ∈ ys, idB y = true) → H' p = some (.lst (ys.map V.str)) → Ext T [t] H H' → Tape l H' t → Q (.ref p) H'
def spLabel : Sp := fun vs H Q _ => ∃ (l t : Addr), vs = [.ref t] ∧ Tape l H t ∧ ∀ z H', labelB z = true → Ext T [t] H H' → Tape l H' t → Q (.str z) H'
def spLabels : Sp := fun vs H Q _ => ∃ (l t : Addr), vs = [.ref t] ∧ Tape l H t ∧
  ∀ (p : Addr) (ys : List Str) (a b c : Str) (H' : Hp), Nw H p → a ≠ b → a ≠ c → b ≠ c → (∀ y ∈ (a :: b :: c :: ys), labelB y = true) → ys.length ≤ 10 → H' p = some (.lst ((a :: b :: c :: ys).map V.str)) → Ext T [t] H H' → Tape l H' t → Q (.ref p) H'
/-- a number of a range drawn -/
def spInt (lo hi : Int) : Sp := fun vs H Q _ => ∃ (l t : Addr), vs = [.ref t] ∧ Tape l H t ∧ ∀ z H', lo ≤ z → z ≤ hi → Ext T [t] H H' → Tape l H' t → Q (.int z) H'
end
def qsL : List Str := ["q1", "q2", "q3", "q4", "q5"]
theorem qs_ok : ∀ y ∈ qsL, idB y = true := by decide +kernel
theorem qs_nodup : qsL.Nodup := by decide +kernel
/-! ### three labels -/
def ksL : List Str := ["k1", "k22", "k333", "k4"]
theorem ks_ok : ∀ y ∈ ksL, labelB y = true := by decide +kernel
/-- the text ends with this sign and a w -/
def EndW (c : Nat) (y : Str) : Prop := ∃ a, sg y = a ++ [c, 119]
theorem endW_inj {c d : Nat} {y : Str} (h1 : EndW c y) (h2 : EndW d y) : c = d := by
  obtain ⟨a, e1⟩ := h1
  obtain ⟨b, e2⟩ := h2
  rw [e1] at e2
  have e3 := congrArg List.reverse e2
  simp only [List.reverse_append, List.reverse_cons, List.reverse_nil, List.nil_append, List.cons_append] at e3
  injection e3 with _ e3
  injection e3 with e3 _
theorem endW_last {c : Nat} {y : Str} (h : EndW c y) : (sg y).getLast? = some 119 := by
  obtain ⟨a, e⟩ := h
  rw [e]
  simp
theorem k1_last : (sg "k1").getLast? = some 49 := by decide +kernel
theorem labels_shape {F fs : List Str} (hn : F.Nodup) (hl : ∀ y ∈ F, labelB y = true) (h4 : F.length + fs.length = 4) (hf : fs.Nodup) (hs : ∀ y ∈ fs, y ∈ F ∧ ∃ c, EndW c y) :
    ∃ a b c r, F ++ ksL = a :: b :: c :: r ∧ a ≠ b ∧ a ≠ c ∧ b ≠ c ∧ (∀ y ∈ (a :: b :: c :: r), labelB y = true) ∧ r.length ≤ 10 := by
  have hall : ∀ y ∈ F ++ ksL, labelB y = true := fun y hy => (List.mem_append.mp hy).elim (hl y) (ks_ok y)
  have hle := nodup_len hf fun y hy => (hs y hy).1
  match F, hn, hl, h4, hs, hle, hall with
  | [], _, _, h4, _, hle, _ => simp only [List.length_nil] at h4 hle; omega
  | [a], _, _, h4, _, hle, _ => simp only [List.length_cons, List.length_nil] at h4 hle; omega
  | [a, b], hn, _, h4, hs, _, hall =>
    have e2 : fs.length = 2 := by simp only [List.length_cons, List.length_nil] at h4; omega
    have hab : a ≠ b := fun e => by simp [e] at hn
    have hsub : ∀ y ∈ [a, b], y ∈ fs := by
      intro y hy
      refine Classical.byContradiction fun hno => ?_
      have h5 := nodup_len (ys := [a, b].erase y) hf fun z hz => (List.mem_erase_of_ne (fun e => hno (by rw [← e]; exact hz))).mpr (hs z hz).1
      rw [List.length_erase_of_mem hy, e2] at h5
      simp at h5
    have nk : ∀ y ∈ [a, b], y ≠ "k1" := fun y hy e => by
      obtain ⟨c, hc⟩ := (hs y (hsub y hy)).2
      have h6 := endW_last hc
      rw [e, k1_last] at h6
      cases h6
    exact ⟨a, b, "k1", ["k22", "k333", "k4"], rfl, hab, nk a (by simp), nk b (by simp), hall, by decide⟩
  | a :: b :: c :: r, hn, _, h4, _, _, hall =>
    refine ⟨a, b, c, r ++ ksL, rfl, fun e => ?_, fun e => ?_, fun e => ?_, hall, ?_⟩
    · simp [e] at hn
    · simp [e] at hn
    · simp [e] at hn
    · rw [List.length_append]
      simp only [List.length_cons] at h4
      show r.length + 4 ≤ 10
      omega
/-- the last eight signs of a word with two more -/
theorem cut8 (z : Str) (hz : 1 ≤ z.length) (hc : ∀ c ∈ sg z, c ∈ sg lettersS) : labelB (cutS z (some (-8)) none) = true ∧ (∀ c, EndW c z → EndW c (cutS z (some (-8)) none)) := by
  have e : sg (cutS z (some (-8)) none) = (sg z).drop (z.length - 8) := by
    unfold cutS
    have h : HT.sIx z.length 0 (some (-8)) = z.length - 8 := by
      unfold HT.sIx
      simp only []
      split <;> omega
    rw [h, HT.sIx_none]
    show (List.toArray _).toList = _
    rw [List.take_of_length_le]
    rw [List.length_drop, show z.cps.toList.length = z.length from sg_len z]
    omega
  have hl : (cutS z (some (-8)) none).length = z.length - (z.length - 8) := by
    rw [← sg_len, e, List.length_drop, sg_len]
  constructor
  · unfold labelB wordB
    rw [decide_eq_true (show (1 : Int) ≤ ((cutS z (some (-8)) none).length : Int) by omega), decide_eq_true (show ((cutS z (some (-8)) none).length : Int) ≤ 8 by omega), e]
    rw [List.all_eq_true.mpr fun c h => decide_eq_true (hc c (List.mem_of_mem_drop h))]
    rfl
  · rintro c ⟨a, ea⟩
    refine ⟨a.drop (z.length - 8), ?_⟩
    have h9 : z.length = a.length + 2 := by
      rw [← sg_len, ea, List.length_append]
      rfl
    rw [e, ea, List.drop_append_of_le_length (by omega)]
def xyzL : List Str := ["", "x", "y", "z"]
def xyzC : List Nat := [0, 120, 121, 122]
theorem xyz_len : ∀ y ∈ xyzL, y.length ≤ 1 := by decide +kernel
theorem xyz_let : ∀ y ∈ xyzL, ∀ c ∈ sg y, c ∈ sg lettersS := by decide +kernel
theorem w_let : ∀ c ∈ sg (Str.ofString "w"), c ∈ sg lettersS := by decide +kernel
theorem w_len : (Str.ofString "w").length = 1 := by decide +kernel
theorem w_sg : sg (Str.ofString "w") = [119] := by decide +kernel
theorem xyz_end {i : Nat} {y : Str} (h0 : i ≠ 0) (h : xyzL[i]? = some y) : ∃ c, xyzC[i]? = some c ∧ sg y = [c] := by
  match i, h0, h with
  | 0, h0, _ => exact absurd rfl h0
  | 1, _, h => exact ⟨120, rfl, by rw [← Option.some.inj h]; decide +kernel⟩
  | 2, _, h => exact ⟨121, rfl, by rw [← Option.some.inj h]; decide +kernel⟩
  | 3, _, h => exact ⟨122, rfl, by rw [← Option.some.inj h]; decide +kernel⟩
  | n + 4, _, h => cases h
theorem xyz_ne {i j c d : Nat} (h : j < i) (h1 : xyzC[j]? = some c) (h2 : xyzC[i]? = some d) : c ≠ d := fun e => by
  subst e
  have hn : xyzC.Nodup := by decide
  have e := (List.getElem?_inj (List.getElem?_eq_some_iff.mp h1).1 hn).mp (h1.trans h2.symm)
  omega
section
variable (T : List (Addr × Str))
def spZones : Sp := fun vs H Q _ => ∃ (l t : Addr) (m : Int), vs = [.ref t, .int m] ∧ 0 ≤ m ∧ m ≤ 5 ∧ Tape l H t ∧
  ∀ (p : Addr) (lag : Int) (rest : List (Str × Int)) (ns : List Str) (H' : Hp), Nw H p → rest.map (·.1) = srtS ns → ns.Nodup → (ns.length : Int) ≤ m → (∀ z ∈ ns, zoneB z) → (∀ r ∈ (dotS, lag) :: rest, 0 ≤ r.2 ∧ r.2 ≤ 100) → Ls H' p (((dotS, lag) :: rest).map siD) → Ext T [t] H H' → Tape l H' t → Q (.ref p) H'
end
/-- what a row of a zone is made of -/
def ZRel (d : PyData) (x : V) : Prop := ∃ (z : Str) (n : Int), x = .str z ∧ d = siD (z, n) ∧ 0 ≤ n ∧ n ≤ 100
theorem zrel_all : ∀ {ds : List PyData} {zs : List Str}, PySem.W.EachIs ZRel ds (zs.map V.str) → ∃ rest : List (Str × Int), ds = rest.map siD ∧ rest.map (·.1) = zs ∧ ∀ r ∈ rest, 0 ≤ r.2 ∧ r.2 ≤ 100
  | _, [], .nil => ⟨[], rfl, rfl, by simp⟩
  | _, z :: zs, .cons h t => by
    obtain ⟨rest, e1, e2, h3⟩ := zrel_all t
    obtain ⟨z', n, e3, e4, h4⟩ := h
    injection e3 with e3
    subst e3
    refine ⟨(z, n) :: rest, by rw [e4, e1]; rfl, by rw [List.map_cons, e2], fun r hr => ?_⟩
    rcases List.mem_cons.mp hr with e | hr
    · rw [e]
      exact h4
    · exact h3 r hr
/-- the six names that zones may have -/
def poolL (a b c : Str) : List Str := [a, b ++ dotS ++ a, c ++ dotS ++ b ++ dotS ++ a, b, c, c ++ dotS ++ a]
theorem pool_eq (a b c : Str) : poolL a b c = [joinS [a], joinS [b, a], joinS [c, b, a], joinS [b], joinS [c], joinS [c, a]] := by
  unfold poolL
  rw [join_cons c (ys := [b, a]) (by simp), join_cons b (ys := [a]) (by simp), join_cons c (ys := [a]) (by simp), join_one, join_one, join_one, str_assoc, str_assoc, str_assoc, str_assoc, str_assoc]
theorem pool_zone {a b c : Str} (h : ∀ y ∈ [a, b, c], labelB y = true) : ∀ z ∈ poolL a b c, zoneB z := by
  rw [pool_eq]
  have ha := h a (by simp)
  have hb := h b (by simp)
  have hc := h c (by simp)
  intro z hz
  simp only [List.mem_cons, List.not_mem_nil, or_false] at hz
  rcases hz with rfl | rfl | rfl | rfl | rfl | rfl
  all_goals refine ⟨_, rfl, by simp, by simp, ?_⟩
  all_goals
    intro y hy
    simp only [List.mem_cons, List.not_mem_nil, or_false] at hy
    first
      | (subst hy; assumption)
      | (rcases hy with rfl | rfl <;> assumption)
      | (rcases hy with rfl | rfl | rfl <;> assumption)
theorem pool_nodup {a b c : Str} (h : ∀ y ∈ [a, b, c], labelB y = true) (h1 : a ≠ b) (h2 : a ≠ c) (h3 : b ≠ c) : (poolL a b c).Nodup := by
  rw [pool_eq]
  have ha := h a (by simp)
  have hb := h b (by simp)
  have hc := h c (by simp)
  have hl : ∀ ys ∈ [[a], [b, a], [c, b, a], [b], [c], [c, a]], ys ≠ [] ∧ ∀ y ∈ ys, labelB y = true := by
    intro ys hy
    simp only [List.mem_cons, List.not_mem_nil, or_false] at hy
    rcases hy with rfl | rfl | rfl | rfl | rfl | rfl <;> simp [ha, hb, hc]
  have hn : [[a], [b, a], [c, b, a], [b], [c], [c, a]].Nodup := by
    simp [h1, h2, h3, h1.symm, h2.symm, h3.symm]
  have key : ∀ {L : List (List Str)}, (∀ ys ∈ L, ys ≠ [] ∧ ∀ y ∈ ys, labelB y = true) → L.Nodup → (L.map joinS).Nodup := by
    intro L
    induction L with
    | nil => intro _ _; simp
    | cons x L ih =>
      intro hL hn
      rw [List.map_cons, List.nodup_cons]
      have h4 := List.nodup_cons.mp hn
      refine ⟨fun hm => ?_, ih (fun ys hy => hL ys (List.mem_cons_of_mem _ hy)) h4.2⟩
      obtain ⟨y, hy, e⟩ := List.mem_map.mp hm
      have hx := hL x List.mem_cons_self
      have hy2 := hL y (List.mem_cons_of_mem _ hy)
      have := join_inj hy2.1 hx.1 hy2.2 hx.2 e
      rw [this] at hy
      exact h4.1 hy
  exact key hl hn
/-- a member of a list in place of what an index gives -/
theorem at_inV {xs : List V} {i : Int} (h0 : 0 ≤ i) (h : i < xs.length) : ∃ c, atI xs i = some c ∧ xs[i.toNat]? = some c := by
  obtain ⟨c, h1, h2, _⟩ := at_in h0 h
  exact ⟨c, h1, h2⟩
/-! ### a realm drawn -/
structure RmOk (R : Rm) (m : Int) : Prop where
  zs : ∃ (lag : Int) (rest : List (Str × Int)) (ns : List Str), R.zs = (dotS, lag) :: rest ∧ rest.map (·.1) = srtS ns ∧ ns.Nodup ∧ (ns.length : Int) ≤ m ∧ ∀ z ∈ ns, zoneB z
  lags : ∀ r ∈ R.zs, 0 ≤ r.2 ∧ r.2 ≤ 100
  ss : ∃ l, R.ss.Sublist (srtSS l)
  ssn : R.ss.Nodup
  ssok : ∀ p ∈ R.ss, nameB p.1 = true ∧ idB p.2 = true
  used : ∀ z ∈ R.zs, ∃ p ∈ R.ss, endsB p.1 z.1 = true
  slen : (R.ss.length : Int) ≤ m + 2
  an : ∃ ys, R.an = srtS ys ∧ ys.Nodup ∧ (∀ y ∈ ys, idB y = true) ∧ 1 ≤ ys.length ∧ ys.length ≤ 3
/-- a realm whose tuple of zones is a plain one: dict of it -/
def RmF (H : Hp) (v : V) (R : Rm) : Prop := ∃ (a za : Addr) (x y : V) (xs : List V) (o : Obj), v = .ref a ∧ H a = some (.tup [.ref za, x, y]) ∧ H za = some (.frz o (.tup xs)) ∧ o.dict = none ∧ ImAll H xs (R.zs.map siD)
theorem RmF.ext {T : List (Addr × Str)} {ms : List Addr} {H H' : Hp} {v : V} {R : Rm} (h : RmF H v R) (e : Ext T ms H H') (hm : Lsts H ms) : RmF H' v R := by
  obtain ⟨a, za, x, y, xs, o, e1, e2, e3, e4, e5⟩ := h
  exact ⟨a, za, x, y, xs, o, e1, tup.ext e2 e hm, frz.ext e3 e hm, e4, ImAll.ext e hm _ _ e5⟩
theorem RmF.x {T : List (Addr × Str)} {H H' : Hp} {v : V} {R : Rm} (h : RmF H v R) (e : Ext T [] H H') : RmF H' v R := h.ext e Lsts.nil
theorem RmF.y {T : List (Addr × Str)} {H H' : Hp} {l t : Addr} {v : V} {R : Rm} (h : RmF H v R) (e : Ext T [t] H H') (hT : Tape l H t) : RmF H' v R := h.ext e hT.lsts
theorem siD_tups (zs : List (Str × Int)) : ∀ d ∈ zs.map siD, ∃ es, d = .tuple es := fun d hd => by
  obtain ⟨z, _, rfl⟩ := List.mem_map.mp hd
  exact ⟨_, rfl⟩
section
variable (T : List (Addr × Str))
def spRealm : Sp := fun vs H Q _ => ∃ (l t : Addr) (m : Int), vs = [.ref t, .int m] ∧ 0 ≤ m ∧ m ≤ 5 ∧ Tape l H t ∧ ∀ (v : V) (R : Rm) (H' : Hp), RmOk R m → RmF H' v R → Im H' v (rmD R) → Ext T [t] H H' → Tape l H' t → Q v H'
end
theorem rd_appLs {H : Hp} {Q : VK} {p : Addr} {ds : List PyData} {v : V} {d : PyData} (h : Ls H p ds) (hv : Im H v d) (c : ds.length < sizeLine) (q : ∀ xs, H p = some (.lst xs) → Ls (upd H p (.lst (xs ++ [v]))) p (ds ++ [d]) → Q .non (upd H p (.lst (xs ++ [v])))) : rAppend (.ref p) [v] H Q := by
  obtain ⟨xs, h1, h2⟩ := h
  refine rd_app h1 (by rw [h2.len]; exact c) (q xs h1 ⟨_, upd_same, ?_⟩)
  have e : Ext [] [p] H (upd H p (.lst (xs ++ [v]))) := Ext.mut (by simp) h1
  have hl : Lsts H [p] := fun b hb => ⟨xs, by rw [List.mem_singleton.mp hb]; exact h1⟩
  exact (ImAll.ext e hl _ _ h2).snoc (Im.ext e hl _ _ hv)
theorem Ls.list {H : Hp} {p : Addr} {ds : List PyData} (h : Ls H p ds) : ∃ xs, H p = some (.lst xs) ∧ ImAll H xs ds := h
theorem lsts_one {H : Hp} {p : Addr} {xs : List V} (h : H p = some (.lst xs)) : Lsts H [p] := fun b hb => ⟨xs, by rw [List.mem_singleton.mp hb]; exact h⟩
theorem Ls.new {H : Hp} {p q : Addr} {o : HO} {ds : List PyData} (h : Ls H p ds) (hq : H q = none) : Ls (upd H q o) p ds := h.ext (T := []) (ms := []) (.new hq) (by simp) Lsts.nil
theorem Im.new {H : Hp} {q : Addr} {o : HO} {v : V} {d : PyData} (h : Im H v d) (hq : H q = none) : Im (upd H q o) v d := Im.ext (T := []) (ms := []) (.new hq) Lsts.nil _ _ h
theorem SqP.new {H : Hp} {q a : Addr} {o : HO} {xs : List V} (h : SqP H a xs) (hq : H q = none) : SqP (upd H q o) a xs := SqP.ext (T := []) (ms := []) h (.new hq) Lsts.nil
theorem ImAll.new {H : Hp} {q : Addr} {o : HO} {vs : List V} {ds : List PyData} (h : ImAll H vs ds) (hq : H q = none) : ImAll (upd H q o) vs ds := ImAll.ext (T := []) (ms := []) (.new hq) Lsts.nil _ _ h
theorem Ls.ne {H : Hp} {p q : Addr} {ds : List PyData} (h : Ls H p ds) (hq : H q = none) : p ≠ q := by
  obtain ⟨xs, h1, _⟩ := h
  exact (Nw.of hq).lst h1
theorem ends_self (n : Str) : endsB n n = true := by
  unfold endsB
  rw [decide_eq_true (show n = n from rfl)]
  simp
theorem ends_dot (n : Str) : endsB n dotS = true := by
  unfold endsB
  rw [decide_eq_true (show dotS = dotS from rfl)]
  rfl
theorem ends_app (a z : Str) : endsB (a ++ (dotS ++ z)) z = true := by
  unfold endsB
  rw [(endswith_iff _ _).mpr ⟨sg a, (sg_app a (dotS ++ z)).symm⟩]
  simp
theorem mem_ssD {r : Str × Str} {l : List (Str × Str)} : ssD r ∈ l.map ssD ↔ r ∈ l := by
  constructor
  · intro h
    obtain ⟨x, hx, e⟩ := List.mem_map.mp h
    rw [← ssD_inj e]
    exact hx
  · exact fun h => List.mem_map_of_mem h
theorem rd_ixLs {K : PySem.W.Frag} {H : Hp} {Q : VK} {p : Addr} {ds : List PyData} {i : Int} {d : PyData} (h : Ls H p ds) (a : atI ds i = some d) (q : ∀ u, Im H u d → Q u H) : rIx K (.ref p) (.int i) H Q := by
  obtain ⟨xs, h1, h2⟩ := h
  have key : ∃ u, atI xs i = some u ∧ Im H u d := by
    unfold atI at a ⊢
    cases e : ixN ds.length i with
    | none =>
      rw [e] at a
      cases a
    | some k =>
      rw [e] at a
      obtain ⟨u, e1, e2⟩ := h2.get (i := k) (by simpa using a)
      exact ⟨u, by rw [h2.len, e]; simpa using e1, e2⟩
  obtain ⟨u, h3, h4⟩ := key
  exact rd_ixL (SqL.of h1) h3 (q u h4)
theorem rd_ixSs {K : PySem.W.Frag} {H : Hp} {Q : VK} {v : V} {ds : List PyData} {i : Int} {z : Str} (h : Im H v (.tuple ds)) (a : atI ds i = some (.str z)) (q : Q (.str z) H) : rIx K v (.int i) H Q := rd_ixI h a fun u hu => by
  rw [hu.str']
  exact q
theorem last_map {α β : Type} {f : α → β} {l : List α} {x : α} (h : l.getLast? = some x) : atI (l.map f) (-1) = some (f x) := at_last (by rw [List.getLast?_map, h]; rfl)
theorem last_some {α : Type} {l : List α} (h : l ≠ []) : ∃ x, l.getLast? = some x ∧ x ∈ l := ⟨l.getLast h, List.getLast?_eq_some_getLast h, List.getLast_mem h⟩
mutual
theorem Im.inj {H : Hp} : ∀ (d e : PyData) (v : V), Im H v d → Im H v e → d = e
  | .none, e, v, h1, h2 => by
    cases h1
    cases h2
    rfl
  | .bool _, e, v, h1, h2 => by cases h1
  | .list _, e, v, h1, h2 => by cases h1
  | .dict _, e, v, h1, h2 => by cases h1
  | .int i, e, v, h1, h2 => by
    cases h1
    cases h2
    rfl
  | .str x, e, v, h1, h2 => by
    cases h1
    cases h2
    rfl
  | .tuple ds, e, v, h1, h2 => by
    obtain ⟨a, xs, rfl, a1, b⟩ := h1.tup'
    cases h2 with
    | tup c d =>
      have e1 := a1.inj (.inl c)
      subst e1
      rw [ImAll.inj ds _ _ b d]
    | tupF c _ d =>
      have e1 := a1.inj (.inr ⟨_, c⟩)
      subst e1
      rw [ImAll.inj ds _ _ b d]
theorem ImAll.inj {H : Hp} : ∀ (ds es : List PyData) (vs : List V), ImAll H vs ds → ImAll H vs es → ds = es
  | [], es, vs, h1, h2 => by
    cases h1
    cases h2
    rfl
  | d :: ds, es, vs, h1, h2 => by
    cases h1 with
    | cons a b =>
      cases h2 with
      | cons c d =>
        rw [Im.inj _ _ _ a c, ImAll.inj _ _ _ b d]
end
/-- a comprehension whose items are told by a relation that no heap changes -/
theorem lcg_rel (T : List (Addr × Str)) (ms : List Addr) {σ : L2.St} {H : Hp} {Q : VK} {J : It} {n : Nat} {G : Hp → Prop} {Y : Nat → Hp → V → Hp → Prop} {g : TG} {tt : TT} {te : TE} {vs : List Nat} (w : Walk J n G Y) (xs : List V) (hn : n = xs.length) (hY : ∀ i H x H', Y i H x H' → H' = H ∧ xs[i]? = some x)
    (hDm : ∀ D, H D = none → D ∉ ms) (hG : ∀ H', Ext T ms H H' → G H') (hl : xs.length < sizeLine) (p : V → Bool) (Rel : V → V → Prop)
    (step : ∀ (i : Nat) (x : V), xs[i]? = some x → ∀ H', Ext T ms H H' → ∀ (R : V → Hp → Prop) (S : Hp → Prop), (p x = true → ∀ v H2, Ext T ms H' H2 → Rel v x → R v H2) → (p x = false → ∀ H2, Ext T ms H' H2 → S H2) →
      g x (wipe σ vs) H' fun σ2 H2 => wipe σ2 vs = wipe σ vs ∧ tt σ2 H2 fun b H3 => if b = true then te σ2 H3 R else S H3)
    (q : ∀ D H2 ys, Nw H D → Ext T ms H H2 → H2 D = some (.lst ys) → EachIs Rel ys (xs.filter p) → Q (.ref D) H2) : LcG J g tt te vs σ H Q := fun D hD => by
  refine lc_it w (fun i H2 => Ext T ms H H2 ∧ ∃ ys, H2 D = some (.lst ys) ∧ EachIs Rel ys ((xs.take i).filter p)) ⟨.new hD, [], upd_same, .nil⟩ (fun i H2 _ h => hG H2 h.1) (fun i x H1 H' hi h y => ?_) (fun H1 h => ?_)
  · obtain ⟨e1, e2⟩ := hY i H1 x H' y
    subst e1
    obtain ⟨h1, ys, h3, h4⟩ := h
    have et : xs.take (i + 1) = xs.take i ++ [x] := by rw [List.take_add_one, e2]; rfl
    refine step i x e2 H' h1 _ _ (fun hp v H2 e hr => ?_) (fun hp H2 e => ?_)
    · have h5 := e.lst (hDm D hD) h3
      refine ⟨ys, h5, ?_, (h1.trans e).own (.of hD) h5, ys ++ [v], upd_same, ?_⟩
      · refine Nat.lt_of_le_of_lt ?_ hl
        rw [h4.length]
        exact Nat.le_trans (List.length_filter_le _ _) (by rw [List.length_take]; exact Nat.min_le_right _ _)
      · rw [et, List.filter_append, List.filter_cons_of_pos hp]
        exact PySem.W.each_snoc hr h4
    · refine ⟨h1.trans e, ys, e.lst (hDm D hD) h3, ?_⟩
      rw [et, List.filter_append, List.filter_cons_of_neg (by rw [hp]; decide), List.filter_nil, List.append_nil]
      exact h4
  · obtain ⟨h1, ys, h3, h4⟩ := h
    rw [hn, List.take_length] at h4
    exact q D H1 ys (.of hD) h1 h3 h4
/-! ### the law's chain, slots, home -/
def isD (p : Int × Str) : PyData := .tuple [.int p.1, .str p.2]
def onZ (n : Str) (z : Str × Int) : Bool := !decide (z.1 = dotS) && endsB n z.1
def chF (R : Rm) (n : Str) : List (Int × Str) := (0, dotS) :: ((R.zs.filter (onZ n)).map fun z => ((z.1.length : Int), z.1))
def srtIS (l : List (Int × Str)) : List (Int × Str) := l.mergeSort fun a b => dataLe false id (isD a) (isD b)
theorem srtIS_eq (l : List (Int × Str)) : srtD (l.map isD) = (srtIS l).map isD := (sort_maps isD fun _ _ _ _ => rfl).symm
theorem srtIS_perm (l : List (Int × Str)) : (srtIS l).Perm l := List.mergeSort_perm _ _
theorem alike_is (l : List (Int × Str)) : AllAlike (l.map isD) := fun d hd e he => by
  obtain ⟨y, _, rfl⟩ := List.mem_map.mp hd
  obtain ⟨z, _, rfl⟩ := List.mem_map.mp he
  rfl
theorem sortable_is (l : List (Int × Str)) : Sortable (l.map isD) := .inl fun d hd => by
  obtain ⟨y, _, rfl⟩ := List.mem_map.mp hd
  exact ⟨_, _, rfl⟩
theorem depth_is (l : List (Int × Str)) : ∀ d ∈ l.map isD, d.depth ≤ 60 := fun d hd => by
  obtain ⟨y, _, rfl⟩ := List.mem_map.mp hd
  show 0 + 1 ≤ 60
  omega
def chL (R : Rm) (n : Str) : List Str := (srtIS (chF R n)).map (·.2)
theorem chL_mem {R : Rm} {n z : Str} : z ∈ chL R n ↔ z = dotS ∨ ∃ y ∈ R.zs, onZ n y = true ∧ y.1 = z := by
  unfold chL
  rw [((srtIS_perm (chF R n)).map _).mem_iff]
  unfold chF
  simp only [List.map_cons, List.mem_cons, List.map_map, List.mem_map, List.mem_filter, Function.comp_apply]
  constructor
  · rintro (h | ⟨y, ⟨h1, h2⟩, h3⟩)
    · exact .inl h
    · exact .inr ⟨y, h1, h2, h3⟩
  · rintro (h | ⟨y, h1, h2, h3⟩)
    · exact .inl h
    · exact .inr ⟨y, ⟨h1, h2⟩, h3⟩
theorem chL_len (R : Rm) (n : Str) : (chL R n).length = 1 + (R.zs.filter (onZ n)).length := by
  unfold chL
  rw [List.length_map, (srtIS_perm (chF R n)).length_eq]
  unfold chF
  rw [List.length_cons, List.length_map]
  omega
def slotsR (R : Rm) : List Sl := (.k dotS :: R.zs.tail.flatMap fun z => [.k z.1, .l z.1, .h z.1]) ++ R.ss.map fun p => .s p.1 p.2
def homeR (R : Rm) : Sl → Str
  | .k z => z
  | .s n _ => (chL R n).getLast?.getD dotS
  | .l z => (chL R z).dropLast.getLast?.getD dotS
  | .h z => (chL R z).dropLast.getLast?.getD dotS
theorem at_last2 {α : Type} {l : List α} {v : α} (h : l.dropLast.getLast? = some v) : atI l (-2) = some v := by
  obtain ⟨r, e⟩ := List.getLast?_eq_some_iff.mp h
  have hl : l ≠ [] := fun z => by rw [z] at h; cases h
  have e2 := List.dropLast_concat_getLast hl
  rw [e] at e2
  obtain ⟨x, e3⟩ : ∃ x, l = r ++ [v, x] := ⟨l.getLast hl, by rw [List.append_assoc] at e2; exact e2.symm⟩
  rw [e3]
  unfold atI
  have h1 : ixN (r ++ [v, x]).length (-2) = some r.length := by
    unfold ixN
    rw [List.length_append]
    simp only [List.length_cons, List.length_nil]
    rw [if_neg (by decide), if_pos (by omega)]
    congr 1
    omega
  rw [h1]
  simp
theorem cutV_from {α : Type} (l : List V) {i : Int} (h0 : 0 ≤ i) : cutV l (some i) none = l.drop i.toNat := by
  unfold cutV
  rw [HT.sIx_none]
  have e : HT.sIx l.length 0 (some i) = min i.toNat l.length := by
    obtain ⟨k, rfl⟩ := Int.eq_ofNat_of_zero_le h0
    exact HT.sIx_nat l.length 0 k
  rw [e, List.take_of_length_le (by rw [List.length_drop]; omega)]
  by_cases h : i.toNat ≤ l.length
  · rw [Nat.min_eq_left h]
  · rw [Nat.min_eq_right (by omega), List.drop_length, List.drop_eq_nil_of_le (by omega)]
theorem cutV_to (l : List V) {i : Int} (h0 : 0 ≤ i) : cutV l none (some i) = l.take i.toNat := by
  unfold cutV
  have e0 : HT.sIx l.length 0 none = 0 := HT.sIx_none ..
  have e : HT.sIx l.length l.length (some i) = min i.toNat l.length := by
    obtain ⟨k, rfl⟩ := Int.eq_ofNat_of_zero_le h0
    exact HT.sIx_nat l.length l.length k
  rw [e0, e]
  show (l.drop 0).take (min i.toNat l.length - 0) = _
  rw [List.drop_zero, Nat.sub_zero]
  by_cases h : i.toNat ≤ l.length
  · rw [Nat.min_eq_left h]
  · rw [Nat.min_eq_right (by omega), List.take_length, List.take_of_length_le (by omega)]
/-- a realm as the drawing functions read it -/
structure RmIn (R : Rm) : Prop where
  ne : ∃ lag rest, R.zs = (dotS, lag) :: rest ∧ ∀ r ∈ rest, r.1 ≠ dotS
  len : R.zs.length ≤ 6
  nm : ∀ z ∈ R.zs, nameB z.1 = true
  nd : (R.zs.map (·.1)).Nodup
  sok : ∀ p ∈ R.ss, nameB p.1 = true ∧ idB p.2 = true
  sn : R.ss.Nodup
  slen : R.ss.length ≤ 7
  an : ∃ a r, R.an = a :: r ∧ idB a = true
section
variable (T : List (Addr × Str))
def spChainL : Sp := fun vs H Q _ => ∃ (v : V) (R : Rm) (n : Str), vs = [v, .str n] ∧ Im H v (rmD R) ∧ RmIn R ∧ nameB n = true ∧ ∀ (p : Addr) (H' : Hp), Nw H p → Ext T [] H H' → H' p = some (.lst ((chL R n).map V.str)) → Q (.ref p) H'
def spSlots : Sp := fun vs H Q _ => ∃ (v : V) (R : Rm), vs = [v] ∧ Im H v (rmD R) ∧ RmIn R ∧ ∀ (p : Addr) (H' : Hp), Nw H p → Ext T [] H H' → Ls H' p ((slotsR R).map slD) → Q (.ref p) H'
def spHome : Sp := fun vs H Q _ => ∃ (v u : V) (R : Rm) (s : Sl), vs = [v, u] ∧ Im H v (rmD R) ∧ Im H u (slD s) ∧ RmIn R ∧ s ∈ slotsR R ∧ ∀ (H' : Hp), Ext T [] H H' → homeR R s ∈ R.zs.map (·.1) → Q (.str (homeR R s)) H'
end
theorem RmOk.rin {R : Rm} {m : Int} (h : RmOk R m) (hm : m ≤ 5) : RmIn R := by
  obtain ⟨lag, rest, ns, e1, e2, e3, e4, e5⟩ := h.zs
  have hmem : ∀ z, z ∈ rest.map (·.1) ↔ z ∈ ns := fun z => by rw [e2]; exact (srtS_perm ns).mem_iff
  have hr : ∀ r ∈ rest, zoneB r.1 := fun r hr => e5 _ ((hmem _).mp (List.mem_map_of_mem hr))
  have hlen : rest.length = ns.length := by
    have := congrArg List.length e2
    rw [List.length_map, (srtS_perm ns).length_eq] at this
    exact this
  refine ⟨⟨lag, rest, e1, fun r hr' => zone_ne (hr r hr')⟩, ?_, fun z hz => ?_, ?_, h.ssok, h.ssn, ?_, ?_⟩
  · rw [e1, List.length_cons]
    omega
  · rw [e1] at hz
    rcases List.mem_cons.mp hz with e | hz
    · rw [e]
      exact dot_name
    · exact zone_name (hr z hz)
  · rw [e1, List.map_cons, List.nodup_cons, e2]
    refine ⟨fun hd => ?_, (srtS_perm ns).nodup_iff.mpr e3⟩
    exact zone_ne (e5 _ ((srtS_perm ns).mem_iff.mp hd)) rfl
  · have := h.slen
    omega
  · obtain ⟨ys, h1, h2, h3, h4, h5⟩ := h.an
    cases e : srtS ys with
    | nil =>
      have := (srtS_perm ys).length_eq
      rw [e] at this
      simp only [List.length_nil] at this
      omega
    | cons a r =>
      exact ⟨a, r, by rw [h1, e], h3 a ((srtS_perm ys).mem_iff.mp (by rw [e]; simp))⟩
/-! ### the keys of the zones: a list of pairs whose seconds are lists -/
def PoolRow (H : Hp) (ms : List Addr) (v : V) (r : Str × List Str) : Prop := ∃ ta pa, v = .ref ta ∧ H ta = some (.tup [.str r.1, .ref pa]) ∧ H pa = some (.lst (r.2.map V.str)) ∧ pa ∉ ms
def Pools (H : Hp) (t a : Addr) (ps : List (Str × List Str)) : Prop := ∃ xs, H a = some (.lst xs) ∧ a ≠ t ∧ EachIs (PoolRow H [t]) xs ps
theorem PoolRow.ext {T : List (Addr × Str)} {ms ms' : List Addr} {H H' : Hp} {v : V} {r : Str × List Str} (h : PoolRow H ms v r) (e : Ext T ms' H H') (hs : ∀ b ∈ ms', b ∈ ms) (hl : Lsts H ms') : PoolRow H' ms v r := by
  obtain ⟨ta, pa, e1, e2, e3, e4⟩ := h
  exact ⟨ta, pa, e1, tup.ext (xs := [.str r.1, .ref pa]) e2 e hl, e.lst (fun hb => e4 (hs _ hb)) e3, e4⟩
theorem rows_ext {T : List (Addr × Str)} {ms ms' : List Addr} {H H' : Hp} {xs : List V} {ps : List (Str × List Str)} (h : EachIs (PoolRow H ms) xs ps) (e : Ext T ms' H H') (hs : ∀ b ∈ ms', b ∈ ms) (hl : Lsts H ms') : EachIs (PoolRow H' ms) xs ps := h.mono fun _ _ x => x.ext e hs hl
theorem rows_weak {ms ms' : List Addr} {H : Hp} {xs : List V} {ps : List (Str × List Str)} (h : EachIs (PoolRow H ms) xs ps) (hs : ∀ b ∈ ms', b ∈ ms) : EachIs (PoolRow H ms') xs ps := h.mono fun _ _ ⟨ta, pa, e1, e2, e3, e4⟩ => ⟨ta, pa, e1, e2, e3, fun hb => e4 (hs _ hb)⟩
theorem Pools.ext {T : List (Addr × Str)} {H H' : Hp} {l t a : Addr} {ps : List (Str × List Str)} (h : Pools H t a ps) (e : Ext T [t] H H') (hT : Tape l H t) : Pools H' t a ps := by
  obtain ⟨xs, h1, h2, h3⟩ := h
  exact ⟨xs, e.lst (by simpa using h2) h1, h2, rows_ext h3 e (fun _ h => h) hT.lsts⟩
theorem Pools.new {H : Hp} {t a q : Addr} {o : HO} {ps : List (Str × List Str)} (h : Pools H t a ps) (hq : H q = none) : Pools (upd H q o) t a ps := by
  obtain ⟨xs, h1, h2, h3⟩ := h
  have e : Ext [] [] H (upd H q o) := .new hq
  exact ⟨xs, e.lst (by simp) h1, h2, rows_ext h3 e (by simp) Lsts.nil⟩
theorem Pools.ext0 {T : List (Addr × Str)} {H H' : Hp} {t a : Addr} {ps : List (Str × List Str)} (h : Pools H t a ps) (e : Ext T [] H H') : Pools H' t a ps := by
  obtain ⟨xs, h1, h2, h3⟩ := h
  exact ⟨xs, e.lst (by simp) h1, h2, rows_ext h3 e (by simp) Lsts.nil⟩
structure PsOk (R : Rm) (ps : List (Str × List Str)) : Prop where
  nm : ps.map (·.1) = R.zs.map (·.1)
  nd : ∀ p ∈ ps, p.2.Nodup
  ok : ∀ p ∈ ps, ∀ y ∈ p.2, idB y = true
  len : ∀ p ∈ ps, p.2.length = 3
structure ItmOk (s : Sl) (i : Itm) : Prop where
  c : ∃ cs : List Str, i.c = srtS cs ∧ cs.Nodup ∧ (∀ y ∈ cs, idB y = true) ∧ cs.length ≤ 4
  g : ∃ gs : List Str, i.g = srtS gs ∧ gs.Nodup ∧ (∀ y ∈ gs, idB y = true) ∧ gs.length ≤ 3
  li : 1 ≤ i.li ∧ i.li ≤ 1000
  ab : 0 ≤ i.a ∧ i.a ≤ i.b ∧ i.b ≤ 10000
  h : ∀ z, s = .h z → i.g = [] ∧ i.a = 0 ∧ i.b = 10000
  kc : ∀ z, s = .k z → i.c ≠ []
/-- the first of the servers that an item names, s1 where it names none -/
def Itm.hd (i : Itm) : Str := i.c.headD "s1"
/-- one signer, and it is one of the keys -/
def Seal (i : Itm) : Prop := ∃ x, i.g = [x] ∧ x ∈ i.c
section
variable (T : List (Addr × Str))
def spPools : Sp := fun vs H Q _ => ∃ (l t : Addr) (v : V) (R : Rm), vs = [.ref t, v] ∧ Tape l H t ∧ Im H v (rmD R) ∧ RmIn R ∧ ∀ (a : Addr) (ps : List (Str × List Str)) (H' : Hp), Nw H a → Pools H' t a ps → PsOk R ps → Ext T [t] H H' → Tape l H' t → Q (.ref a) H'
def spPool : Sp := fun vs H Q _ => ∃ (t a : Addr) (ps : List (Str × List Str)) (z : Str) (ks : List Str), vs = [.ref a, .str z] ∧ Pools H t a ps ∧ ps.length ≤ 6 ∧ (ps.map (·.1)).Nodup ∧ (z, ks) ∈ ps ∧
  ∀ (pa : Addr) (H' : Hp), pa ≠ t → H pa = some (.lst (ks.map V.str)) → Ext T [] H H' → Q (.ref pa) H'
def spItem : Sp := fun vs H Q _ => ∃ (ca sa : Addr) (cs gs : List Str) (li : Int), vs = [.ref ca, .int li, .ref sa] ∧ H ca = some (.lst (cs.map V.str)) ∧ H sa = some (.lst (gs.map V.str)) ∧ (∀ y ∈ cs, idB y = true) ∧ (∀ y ∈ gs, idB y = true) ∧
  ∀ (v : V) (H' : Hp), Ext T [] H H' → Im H' v (itD ⟨srtS cs, li, srtS gs, 0, 10000⟩) → Q v H'
def spFirst : Sp := fun vs H Q _ => ∃ (l t pa : Addr) (v u : V) (R : Rm) (ps : List (Str × List Str)) (s : Sl), vs = [.ref t, v, .ref pa, u] ∧ Tape l H t ∧ Im H v (rmD R) ∧ RmIn R ∧ Pools H t pa ps ∧ PsOk R ps ∧ Im H u (slD s) ∧ s ∈ slotsR R ∧
  ∀ (x : V) (i : Itm) (H' : Hp), ItmOk s i → (∀ z, s = .k z → Seal i) → (∀ z, s = .h z → i.hd = "s1" ∧ i.c.length ≤ 3) → Im H' x (itD i) → Ext T [t] H H' → Tape l H' t → Q x H'
end
theorem filter_key {ps : List (Str × List Str)} {z : Str} {ks : List Str} (hn : (ps.map (·.1)).Nodup) (hm : (z, ks) ∈ ps) : ps.filter (fun p => decide (p.1 = z)) = [(z, ks)] := by
  induction ps with
  | nil => cases hm
  | cons p ps ih =>
    rw [List.map_cons, List.nodup_cons] at hn
    rcases List.mem_cons.mp hm with e | hm
    · subst e
      rw [List.filter_cons_of_pos (by simp), List.filter_eq_nil_iff.mpr]
      intro y hy h
      have h2 : y.1 = z := of_decide_eq_true h
      exact hn.1 (List.mem_map.mpr ⟨y, hy, h2⟩)
    · rw [List.filter_cons_of_neg, ih hn.2 hm]
      intro h
      have h2 : p.1 = z := of_decide_eq_true h
      exact hn.1 (List.mem_map.mpr ⟨_, hm, h2.symm⟩)
theorem filter_others {ks : List Str} {a : Str} (hn : ks.Nodup) : ks.length ≤ (ks.filter fun k => !decide (k = a)).length + 1 := by
  induction ks with
  | nil => simp
  | cons k ks ih =>
    rw [List.nodup_cons] at hn
    by_cases h : k = a
    · rw [List.filter_cons_of_neg (by simp [h])]
      have : ks.filter (fun k => !decide (k = a)) = ks := List.filter_eq_self.mpr fun x hx => by
        simp only [Bool.not_eq_true', decide_eq_false_iff_not]
        intro e
        rw [← h] at e
        rw [e] at hx
        exact hn.1 hx
      rw [this]
      simp
    · rw [List.filter_cons_of_pos (by simp [h])]
      have := ih hn.2
      simp only [List.length_cons]
      omega
theorem srtS_ne {cs : List Str} (h : cs ≠ []) : srtS cs ≠ [] := fun e => h (by
  have := (srtS_perm cs).length_eq
  rw [e] at this
  exact List.eq_nil_of_length_eq_zero this.symm)
theorem srtS_oneL (z : Str) : srtS [z] = [z] := List.mergeSort_singleton _
theorem seal_srt {cs gs : List Str} {li a b : Int} (h : ∃ x, gs = [x] ∧ x ∈ cs) : Seal ⟨srtS cs, li, srtS gs, a, b⟩ := by
  obtain ⟨x, rfl, hx⟩ := h
  exact ⟨x, srtS_oneL x, (srtS_perm cs).mem_iff.mpr hx⟩
/-! ### what is made new, the heap told by what it keeps -/
section
variable {T : List (Addr × Str)} {H H' : Hp}
theorem Im.x {v : V} {d : PyData} (h : Im H v d) (e : Ext T [] H H') : Im H' v d := Im.ext e Lsts.nil _ _ h
theorem ImAll.x {vs : List V} {ds : List PyData} (h : ImAll H vs ds) (e : Ext T [] H H') : ImAll H' vs ds := ImAll.ext e Lsts.nil _ _ h
theorem Ls.x {a : Addr} {ds : List PyData} (h : Ls H a ds) (e : Ext T [] H H') : Ls H' a ds := h.ext e (by simp) Lsts.nil
theorem tup.x {a : Addr} {xs : List V} (h : H a = some (.tup xs)) (e : Ext T [] H H') : H' a = some (.tup xs) := e.tup (by simp) h
theorem tup.y {l t a : Addr} {xs : List V} (h : H a = some (.tup xs)) (e : Ext T [t] H H') (hT : Tape l H t) : H' a = some (.tup xs) := tup.ext h e hT.lsts
theorem SqP.x {a : Addr} {xs : List V} (h : SqP H a xs) (e : Ext T [] H H') : SqP H' a xs := SqP.ext h e Lsts.nil
theorem lst.x {a : Addr} {xs : List V} (h : H a = some (.lst xs)) (e : Ext T [] H H') : H' a = some (.lst xs) := e.lst (by simp) h
theorem Im.y {l t : Addr} {v : V} {d : PyData} (h : Im H v d) (e : Ext T [t] H H') (hT : Tape l H t) : Im H' v d := Im.ext e hT.lsts _ _ h
theorem ImAll.y {l t : Addr} {vs : List V} {ds : List PyData} (h : ImAll H vs ds) (e : Ext T [t] H H') (hT : Tape l H t) : ImAll H' vs ds := ImAll.ext e hT.lsts _ _ h
theorem Ls.y {l t a : Addr} {ds : List PyData} (h : Ls H a ds) (e : Ext T [t] H H') (ha : a ≠ t) (hT : Tape l H t) : Ls H' a ds := h.ext e (by simpa using ha) hT.lsts
theorem lst.y {t a : Addr} {xs : List V} (h : H a = some (.lst xs)) (e : Ext T [t] H H') (ha : a ≠ t) : H' a = some (.lst xs) := e.lst (by simpa using ha) h
end
section
variable (T : List (Addr × Str)) {K : PySem.W.Frag} {H : Hp} {Q : VK}
theorem rd_takeS {a : Addr} {zs : List Str} {i : Int} (h : H a = some (.lst (zs.map V.str))) (h0 : 0 ≤ i) (q : ∀ p H', Nw H p → Ext T [] H H' → H' p = some (.lst ((zs.take i.toNat).map V.str)) → Q (.ref p) H') : rSlU K (.ref a) none (some i) H Q :=
  rd_slL (SqL.of h) fun p hp => q p _ (.of hp) (.new hp) (by rw [cutV_to _ h0, ← List.map_take]; exact upd_same)
theorem rd_tupA {p : Addr} {ys : List V} (h : H p = some (.lst ys)) (q : ∀ l H', Nw H l → Ext T [] H H' → H' l = some (.tup ys) → Q (.ref l) H') : rTupOf K [.ref p] H Q := rd_tupL (SqL.of h) fun l hl => q l _ (.of hl) (.new hl) upd_same
theorem rd_tupFA {p : Addr} {ys : List V} (h : H p = some (.lst ys)) (q : ∀ l H' o, Nw H l → Ext T [] H H' → o.dict = none → H' l = some (.frz o (.tup ys)) → Q (.ref l) H') : rTupF K [.ref p] H Q := rd_tupF (SqL.of h) fun l o hl ho => q l _ o (.of hl) (.new hl) ho upd_same
theorem rd_listA {p : Addr} {ys : List V} (h : SqT K H p ys) (q : ∀ l H', Nw H l → Ext T [] H H' → H' l = some (.lst ys) → Q (.ref l) H') : rListOf K [.ref p] H Q := rd_listT h fun l hl => q l _ (.of hl) (.new hl) upd_same
theorem rd_catA {a b : Addr} {xs ys : List V} (h1 : H a = some (.lst xs)) (h2 : H b = some (.lst ys)) (c : xs.length + ys.length ≤ 1000) (q : ∀ p H', Nw H p → Ext T [] H H' → H' p = some (.lst (xs ++ ys)) → Q (.ref p) H') : rPlus K (.ref a) (.ref b) H Q :=
  rd_cat h1 h2 (Nat.le_trans c (by decide)) fun p hp => q p _ (.of hp) (.new hp) upd_same
theorem rd_sortA {a : Addr} {ds : List PyData} (h : Ls H a ds) (h1 : PySem.W.AllAlike ds) (h2 : PySem.W.Sortable ds) (h3 : ∀ d ∈ ds, d.depth ≤ 60) (q : ∀ p H' ys, Nw H p → Ext T [] H H' → H' p = some (.lst ys) → ImAll H' ys (srtD ds) → Q (.ref p) H') : rSortD K [.ref a] H Q :=
  rd_sortI h h1 h2 h3 fun p ys hp hy => q p _ ys (.of hp) (.new hp) upd_same (hy.new hp)
end
/-! ### a state: its items' tuple is a plain one -/
def StAt (H : Hp) (v : V) (s : Sta) : Prop := ∃ (a ia : Addr) (oa : V) (xs : List V) (o : Obj), v = .ref a ∧ H a = some (.tup [.ref ia, oa]) ∧ H ia = some (.frz o (.tup xs)) ∧ o.dict = none ∧ ImAll H xs (s.its.map rowD2) ∧ Im H oa (.tuple (s.on.map ssD))
theorem StAt.ext {T : List (Addr × Str)} {ms : List Addr} {H H' : Hp} {v : V} {s : Sta} (h : StAt H v s) (e : Ext T ms H H') (hm : Lsts H ms) : StAt H' v s := by
  obtain ⟨a, ia, oa, xs, o, e1, e2, e3, e4, e5, e6⟩ := h
  refine ⟨a, ia, oa, xs, o, e1, tup.ext (xs := [.ref ia, oa]) e2 e hm, e.keep ia _ (fun hb => ?_) (fun _ z => by cases z) e3, e4, ImAll.ext e hm _ _ e5, Im.ext e hm _ _ e6⟩
  obtain ⟨ys, hy⟩ := hm ia hb
  rw [e3] at hy
  cases hy
theorem StAt.x {T : List (Addr × Str)} {H H' : Hp} {v : V} {s : Sta} (h : StAt H v s) (e : Ext T [] H H') : StAt H' v s := h.ext e Lsts.nil
theorem StAt.y {T : List (Addr × Str)} {H H' : Hp} {l t : Addr} {v : V} {s : Sta} (h : StAt H v s) (e : Ext T [t] H H') (hT : Tape l H t) : StAt H' v s := h.ext e hT.lsts
structure StaOk (R : Rm) (s : Sta) : Prop where
  nm : s.its.map (·.1) = slotsR R
  ok : ∀ r ∈ s.its, ItmOk r.1 r.2
  on : s.on.length ≤ 100
/-- the item of the root's keys seals itself -/
def SealR (s : Sta) : Prop := ∀ i, (Sl.k dotS, i) ∈ s.its → Seal i
/-- deeds of servers that are allowed -/
def okD (s : Sta) : Dd → Prop
  | .put _ _ => True
  | .on x z => (x, z) ∉ s.on
  | .off x z => (x, z) ∈ s.on
def OnOk : Sta → List Dd → Prop
  | _, [] => True
  | s, d :: r => okD s d ∧ OnOk (aft s d) r
theorem onOk_snoc {d : Dd} : ∀ {ds : List Dd} {s : Sta}, OnOk s ds → okD (ds.foldl aft s) d → OnOk s (ds ++ [d])
  | [], _, _, h => ⟨h, trivial⟩
  | _ :: _, _, h, g => ⟨h.1, onOk_snoc h.2 g⟩
def isPut : Dd → Prop
  | .put _ _ => True
  | .on _ _ => False
  | .off _ _ => False
theorem onOk_puts : ∀ {ds : List Dd} {s : Sta}, (∀ d ∈ ds, isPut d) → OnOk s ds
  | [], _, _ => trivial
  | d :: ds, s, h => by
    refine ⟨?_, onOk_puts fun e he => h e (List.mem_cons_of_mem _ he)⟩
    have h1 := h d List.mem_cons_self
    cases d with
    | put sl i => trivial
    | on x z => exact h1.elim
    | off x z => exact h1.elim
/-- the start's servers: s1 is on, s3 is not, and items name s1 or s3 first -/
structure SrvOk (R : Rm) (s : Sta) : Prop where
  s1 : ∀ z ∈ R.zs.tail.map (·.1), (("s1", z) : Str × Str) ∈ s.on
  s3 : ∀ z : Str, (("s3", z) : Str × Str) ∉ s.on
  h : ∀ z it, (Sl.h z, it) ∈ s.its → (it.hd = "s1" ∨ it.hd = "s3") ∧ it.c.length ≤ 3
theorem srt_two : srtS ["s1", "s2"] = (["s1", "s2"] : List Str) := List.mergeSort_of_pairwise (by decide +kernel)
theorem srt_two' : srtS ["s1", "t9"] = (["s1", "t9"] : List Str) := List.mergeSort_of_pairwise (by decide +kernel)
section
variable (T : List (Addr × Str))
def spAt : Sp := fun vs H Q _ => ∃ (v u : V) (s : Sta) (sl : Sl) (i : Itm), vs = [v, u] ∧ StAt H v s ∧ Im H u (slD sl) ∧ (sl, i) ∈ s.its ∧ (s.its.map (·.1)).Nodup ∧ s.its.length ≤ 100 ∧ ∀ (x : V) (H' : Hp), Ext T [] H H' → Im H' x (itD i) → Q x H'
def spAfter : Sp := fun vs H Q _ => ∃ (v u : V) (s : Sta) (d : Dd), vs = [v, u] ∧ StAt H v s ∧ Im H u (ddD d) ∧ s.its.length ≤ 100 ∧ s.on.length ≤ 500 ∧ ∀ (x : V) (H' : Hp), Ext T [] H H' → StAt H' x (aft s d) → Q x H'
end
theorem nodup_mapI {α β : Type} {f : α → β} (hf : ∀ a b, f a = f b → a = b) : ∀ {l : List α}, l.Nodup → (l.map f).Nodup
  | [], _ => by simp
  | x :: l, h => by
    rw [List.nodup_cons] at h
    rw [List.map_cons, List.nodup_cons]
    refine ⟨fun hm => ?_, nodup_mapI hf h.2⟩
    obtain ⟨y, hy, e⟩ := List.mem_map.mp hm
    rw [hf _ _ e] at hy
    exact h.1 hy
theorem slots_nodup {R : Rm} (h : RmIn R) : (slotsR R).Nodup := by
  unfold slotsR
  obtain ⟨lag, rest, e, hr⟩ := h.ne
  have hnd := h.nd
  rw [e, List.map_cons, List.nodup_cons] at hnd
  have ht : R.zs.tail = rest := by rw [e]; rfl
  rw [ht, List.nodup_append]
  refine ⟨?_, ?_, ?_⟩
  · rw [List.nodup_cons]
    refine ⟨fun hm => ?_, ?_⟩
    · obtain ⟨y, hy, h2⟩ := List.mem_flatMap.mp hm
      simp only [List.mem_cons, List.not_mem_nil, or_false, Sl.k.injEq, reduceCtorEq] at h2
      exact hr y hy h2.symm
    · have key : ∀ {rest : List (Str × Int)}, (rest.map (·.1)).Nodup → (rest.flatMap fun z => [Sl.k z.1, .l z.1, .h z.1]).Nodup := by
        intro rest
        induction rest with
        | nil => intro _; simp
        | cons z rest ih =>
          intro hn
          rw [List.map_cons, List.nodup_cons] at hn
          rw [List.flatMap_cons, List.nodup_append]
          refine ⟨by simp, ih hn.2, fun a ha b hb e => ?_⟩
          subst e
          obtain ⟨y, hy, h2⟩ := List.mem_flatMap.mp hb
          have : z.1 = y.1 := by
            simp only [List.mem_cons, List.not_mem_nil, or_false] at ha h2
            rcases ha with rfl | rfl | rfl <;> simp at h2 <;> exact h2
          exact hn.1 (by rw [this]; exact List.mem_map_of_mem hy)
      exact key hnd.2
  · exact nodup_mapI (fun a b h => by
      injection h with h1 h2
      exact Prod.ext h1 h2) h.sn
  · intro a ha b hb e
    subst e
    obtain ⟨p, _, rfl⟩ := List.mem_map.mp hb
    rcases List.mem_cons.mp ha with h2 | h2
    · cases h2
    · obtain ⟨y, _, h3⟩ := List.mem_flatMap.mp h2
      simp at h3
/-- an object made at p: what the new heap keeps -/
theorem alL {T : List (Addr × Str)} {H : Hp} {p : Addr} (h : H p = none) (xs : List V) : Nw H p ∧ Ext T [] H (upd H p (.lst xs)) ∧ (upd H p (.lst xs)) p = some (.lst xs) := ⟨.of h, .new h, upd_same⟩
theorem alT {T : List (Addr × Str)} {H : Hp} {p : Addr} (h : H p = none) (xs : List V) : Nw H p ∧ Ext T [] H (upd H p (.tup xs)) ∧ (upd H p (.tup xs)) p = some (.tup xs) := ⟨.of h, .new h, upd_same⟩
/-! ### the start's servers, told in full -/
def s9L : List Str := [Str.ofString "s1", Str.ofString "s2", Str.ofString "t9"]
def OnR (R : Rm) (s : Sta) : Prop := ∃ on, s.on = srtSS on ∧ on.Nodup ∧ ∀ p ∈ on, p.1 ∈ s9L ∧ p.2 ∈ R.zs.tail.map (·.1)
section
variable (T : List (Addr × Str))
def spStartF : Sp := fun vs H Q _ => ∃ (l t pa : Addr) (v : V) (R : Rm) (ps : List (Str × List Str)), vs = [.ref t, v, .ref pa] ∧ Tape l H t ∧ Im H v (rmD R) ∧ RmIn R ∧ Pools H t pa ps ∧ PsOk R ps ∧
  ∀ (x : V) (s : Sta) (H' : Hp), StaOk R s → SealR s → SrvOk R s → OnR R s → s.on.length ≤ 20 → StAt H' x s → Ext T [t] H H' → Tape l H' t → Q x H'
end
/-! ### items of data that pass a test -/
open Classical in
noncomputable def pIm (H : Hp) {α : Type} (f : α → PyData) (c : α → Bool) (x : V) : Bool := decide (∃ a, Im H x (f a) ∧ c a = true)
theorem pIm_eq {H : Hp} {α : Type} {f : α → PyData} {c : α → Bool} {x : V} {a : α} (hf : ∀ a b, f a = f b → a = b) (h : Im H x (f a)) : pIm H f c x = c a := by
  unfold pIm
  cases hc : c a with
  | true => exact @decide_eq_true _ (Classical.propDecidable _) ⟨a, h, hc⟩
  | false =>
    refine @decide_eq_false _ (Classical.propDecidable _) fun ⟨b, h1, h2⟩ => ?_
    have := hf _ _ (Im.inj _ _ _ h h1)
    rw [← this, hc] at h2
    cases h2
theorem each_filter {H : Hp} {α : Type} {f : α → PyData} {c : α → Bool} (hf : ∀ a b, f a = f b → a = b) : ∀ {xs : List V} {as : List α}, ImAll H xs (as.map f) → EachIs (fun x a => Im H x (f a)) (xs.filter (pIm H f c)) (as.filter c)
  | xs, [], h => by
    cases h
    exact .nil
  | xs, a :: as, h => by
    cases h with
    | cons h1 h2 =>
      have e := pIm_eq (c := c) hf h1
      cases hc : c a with
      | true =>
        rw [List.filter_cons_of_pos (by rw [e, hc]), List.filter_cons_of_pos hc]
        exact .cons h1 (each_filter hf h2)
      | false =>
        rw [List.filter_cons_of_neg (by rw [e, hc]; decide), List.filter_cons_of_neg (by rw [hc]; decide)]
        exact each_filter hf h2
theorem each_comp {α β γ : Type} {R : α → β → Prop} {S : β → γ → Prop} : ∀ {as : List α} {bs : List β} {cs : List γ}, EachIs R as bs → EachIs S bs cs → EachIs (fun a c => ∃ b, R a b ∧ S b c) as cs
  | _, _, _, .nil, .nil => .nil
  | _, _, _, .cons a s, .cons b t => .cons ⟨_, a, b⟩ (each_comp s t)
theorem rowD2_inj {a b : Sl × Itm} (h : rowD2 a = rowD2 b) : a = b := by
  unfold rowD2 at h
  injection h with h
  injection h with h1 h
  injection h with h2 _
  exact Prod.ext (slD_inj h1) (itD_inj h2)
theorem filter_fst {its : List (Sl × Itm)} {sl : Sl} {i : Itm} (hn : (its.map (·.1)).Nodup) (hm : (sl, i) ∈ its) : its.filter (fun r => decide (r.1 = sl)) = [(sl, i)] := by
  induction its with
  | nil => cases hm
  | cons p ps ih =>
    rw [List.map_cons, List.nodup_cons] at hn
    rcases List.mem_cons.mp hm with e | hm
    · subst e
      rw [List.filter_cons_of_pos (by simp), List.filter_eq_nil_iff.mpr]
      intro y hy h
      have h2 : y.1 = sl := of_decide_eq_true h
      exact hn.1 (List.mem_map.mpr ⟨y, hy, h2⟩)
    · rw [List.filter_cons_of_neg, ih hn.2 hm]
      intro h
      have h2 : p.1 = sl := of_decide_eq_true h
      exact hn.1 (List.mem_map.mpr ⟨_, hm, h2.symm⟩)
theorem SqF {K : PySem.W.Frag} {H : Hp} {a : Addr} {o : Obj} {xs : List V} (h : H a = some (.frz o (.tup xs))) : SqT K H a xs := .inl (.inr ⟨o, h⟩)
theorem frz.x {T : List (Addr × Str)} {H H' : Hp} {a : Addr} {o : Obj} {u : HO} (h : H a = some (.frz o u)) (e : Ext T [] H H') : H' a = some (.frz o u) := e.keep a _ (by simp) (fun _ z => by cases z) h
/-! ### deeds drawn -/
def DdOk (R : Rm) : Dd → Prop
  | .put s i => s ∈ slotsR R ∧ ItmOk s i
  | .on x z => idB x = true ∧ z ∈ R.zs.tail.map (·.1)
  | .off x z => idB x = true ∧ z ∈ R.zs.tail.map (·.1)
theorem aft_on (s : Sta) (d : Dd) : (aft s d).on.length ≤ s.on.length + 1 := by
  cases d with
  | put sl i => exact Nat.le_succ _
  | on x z =>
    show (srtSS _).length ≤ _
    rw [(srtSS_perm _).length_eq, List.length_append]
    exact Nat.le_refl _
  | off x z => exact Nat.le_succ_of_le (List.length_filter_le _ _)
theorem aft_ok {R : Rm} {s : Sta} {d : Dd} (h : StaOk R s) (hd : DdOk R d) (hl : s.on.length + 1 ≤ 100) : StaOk R (aft s d) := by
  refine ⟨(aft_keys s d).trans h.nm, ?_, Nat.le_trans (aft_on s d) hl⟩
  cases d with
  | put sl i =>
    intro r hr
    obtain ⟨y, hy, e⟩ := List.mem_map.mp (show r ∈ s.its.map (fun r => (r.1, if r.1 = sl then i else r.2)) from hr)
    rw [← e]
    by_cases h2 : y.1 = sl
    · show ItmOk y.1 (if y.1 = sl then i else y.2)
      rw [if_pos h2, h2]
      exact hd.2
    · show ItmOk y.1 (if y.1 = sl then i else y.2)
      rw [if_neg h2]
      exact h.ok y hy
  | on x z => exact h.ok
  | off x z => exact h.ok
theorem sta_len {R : Rm} {s : Sta} (hR : RmIn R) (h : StaOk R s) (hl : (slotsR R).length ≤ 30) : s.its.length ≤ 100 := by
  have := congrArg List.length h.nm
  rw [List.length_map] at this
  omega
theorem sta_nodup {R : Rm} {s : Sta} (hR : RmIn R) (h : StaOk R s) : (s.its.map (·.1)).Nodup := by
  rw [h.nm]
  exact slots_nodup hR
theorem sta_find {R : Rm} {s : Sta} {sl : Sl} (h : StaOk R s) (hs : sl ∈ slotsR R) : ∃ i, (sl, i) ∈ s.its := by
  rw [← h.nm] at hs
  obtain ⟨r, hr, e⟩ := List.mem_map.mp hs
  exact ⟨r.2, by rw [← e]; exact hr⟩
section
variable (T : List (Addr × Str))
def spServer : Sp := fun vs H Q _ => ∃ (l t : Addr) (v u : V) (R : Rm) (s : Sta), vs = [.ref t, v, u] ∧ Tape l H t ∧ Im H v (rmD R) ∧ RmIn R ∧ 1 < R.zs.length ∧ StAt H u s ∧ s.on.length ≤ 100 ∧
  ∀ (x : V) (d : Dd) (H' : Hp), DdOk R d → okD s d → Im H' x (ddD d) → Ext T [t] H H' → Tape l H' t → Q x H'
def spMixed : Sp := fun vs H Q _ => ∃ (l t pa : Addr) (v u x : V) (R : Rm) (ps : List (Str × List Str)) (s : Sl) (i : Itm), vs = [.ref t, v, .ref pa, u, x] ∧ Tape l H t ∧ Im H v (rmD R) ∧ RmIn R ∧ Pools H t pa ps ∧ PsOk R ps ∧ Im H u (slD s) ∧ s ∈ slotsR R ∧ (∀ z, s ≠ .h z) ∧ Im H x (itD i) ∧ ItmOk s i ∧
  ∀ (y : V) (j : Itm) (H' : Hp), ItmOk s j → Im H' y (itD j) → Ext T [t] H H' → Tape l H' t → Q y H'
def spDeed : Sp := fun vs H Q _ => ∃ (l t pa : Addr) (v u : V) (R : Rm) (ps : List (Str × List Str)) (s : Sta), vs = [.ref t, v, .ref pa, u] ∧ Tape l H t ∧ Im H v (rmD R) ∧ RmIn R ∧ Pools H t pa ps ∧ PsOk R ps ∧ StAt H u s ∧ StaOk R s ∧
  ∀ (x : V) (d : Dd) (H' : Hp), DdOk R d → okD s d → Im H' x (ddD d) → Ext T [t] H H' → Tape l H' t → Q x H'
def spDeeds : Sp := fun vs H Q _ => ∃ (l t pa : Addr) (v u : V) (R : Rm) (ps : List (Str × List Str)) (s : Sta) (m : Int), vs = [.ref t, v, .ref pa, u, .int m] ∧ Tape l H t ∧ Im H v (rmD R) ∧ RmIn R ∧ Pools H t pa ps ∧ PsOk R ps ∧ StAt H u s ∧ StaOk R s ∧ s.on.length ≤ 50 ∧ 0 ≤ m ∧ m ≤ 20 ∧
  ∀ (x : V) (ds : List Dd) (H' : Hp), (∀ d ∈ ds, DdOk R d) → OnOk s ds → (ds.length : Int) = m → Im H' x (.tuple (ds.map ddD)) → Ext T [t] H H' → Tape l H' t → Q x H'
end
def s4L : List Str := ["s1", "s2", "s3", "t9"]
theorem s4_ok : ∀ y ∈ s4L, idB y = true := by decide +kernel
def hostL : List (List Str) := [["s1"], ["s2"], ["s1", "s3"], ["s3"], ["s2", "t9"]]
theorem host_ok : ∀ c ∈ hostL, c.Nodup ∧ (∀ y ∈ c, idB y = true) ∧ c.length ≤ 4 := by decide +kernel
theorem zin {R : Rm} (h : RmIn R) {z : Str} (hz : z ∈ R.zs.tail.map (·.1)) : nameB z = true ∧ Sl.h z ∈ slotsR R := by
  obtain ⟨y, hy, rfl⟩ := List.mem_map.mp hz
  refine ⟨h.nm y (List.mem_of_mem_tail hy), ?_⟩
  unfold slotsR
  refine List.mem_append_left _ (List.mem_cons_of_mem _ (List.mem_flatMap.mpr ⟨y, hy, by simp⟩))
/-! ### lists of ids -/
structure CL (H : Hp) (t a : Addr) (n : Nat) (cs : List Str) : Prop where
  at_ : H a = some (.lst (cs.map V.str))
  ne : a ≠ t
  nd : cs.Nodup
  ok : ∀ y ∈ cs, idB y = true
  len : cs.length ≤ n
section
variable {T : List (Addr × Str)} {K : PySem.W.Frag} {H H' : Hp} {Q : VK} {l t a : Addr} {n : Nat} {cs : List Str}
theorem CL.x (h : CL H t a n cs) (e : Ext T [] H H') : CL H' t a n cs := ⟨lst.x h.at_ e, h.ne, h.nd, h.ok, h.len⟩
theorem CL.y (h : CL H t a n cs) (e : Ext T [t] H H') : CL H' t a n cs := ⟨lst.y h.at_ e h.ne, h.ne, h.nd, h.ok, h.len⟩
theorem CL.sub {ds : List Str} (h : CL H t a n cs) (hs : ds.Sublist cs) (p : Addr) (hp : H' p = some (.lst (ds.map V.str))) (hn : p ≠ t) : CL H' t p n ds := ⟨hp, hn, h.nd.sublist hs, fun y hy => h.ok y (hs.subset hy), Nat.le_trans hs.length_le h.len⟩
theorem CL.wide {m : Nat} (h : CL H t a n cs) (hm : n ≤ m) : CL H t a m cs := ⟨h.at_, h.ne, h.nd, h.ok, Nat.le_trans h.len hm⟩
theorem cutV_mid (xs : List V) {i j : Int} (h0 : 0 ≤ i) (h1 : 0 ≤ j) : cutV xs (some i) (some j) = (xs.take j.toNat).drop i.toNat := by
  unfold cutV
  have e0 : HT.sIx xs.length 0 (some i) = min i.toNat xs.length := by
    obtain ⟨k, rfl⟩ := Int.eq_ofNat_of_zero_le h0
    exact HT.sIx_nat xs.length 0 k
  have e1 : HT.sIx xs.length xs.length (some j) = min j.toNat xs.length := by
    obtain ⟨k, rfl⟩ := Int.eq_ofNat_of_zero_le h1
    exact HT.sIx_nat xs.length xs.length k
  rw [e0, e1]
  generalize i.toNat = a
  generalize j.toNat = b
  rw [List.drop_take]
  by_cases ha : a ≤ xs.length
  · rw [Nat.min_eq_left ha]
    by_cases hb : b ≤ xs.length
    · rw [Nat.min_eq_left hb]
    · rw [Nat.min_eq_right (by omega), List.take_of_length_le (by rw [List.length_drop]; omega), List.take_of_length_le (by rw [List.length_drop]; omega)]
  · have e3 : min a xs.length = xs.length := by omega
    rw [e3, List.drop_length, List.drop_eq_nil_of_le (by omega), List.take_nil, List.take_nil]
theorem CL.take {i : Int} (h : CL H t a n cs) (hT : Tape l H t) (h0 : 0 ≤ i) (q : ∀ p H', Nw H p → Ext T [] H H' → CL H' t p n (cs.take i.toNat) → Q (.ref p) H') : rSlU K (.ref a) none (some i) H Q :=
  rd_takeS T h.at_ h0 fun p H' np e hp => q p H' np e (h.sub (List.take_sublist _ _) p hp (hT.ne np).1)
theorem CL.mid {i j : Int} (h : CL H t a n cs) (hT : Tape l H t) (h0 : 0 ≤ i) (h1 : 0 ≤ j) (q : ∀ p H', Nw H p → Ext T [] H H' → CL H' t p n ((cs.take j.toNat).drop i.toNat) → Q (.ref p) H') : rSlU K (.ref a) (some i) (some j) H Q :=
  rd_slL (SqL.of h.at_) fun p hp => q p _ (.of hp) (.new hp) (h.sub ((List.drop_sublist _ _).trans (List.take_sublist _ _)) p (by rw [cutV_mid _ h0 h1, ← List.map_take, ← List.map_drop]; exact upd_same) (hT.ne (.of hp)).1)
end
theorem srt_nd {cs : List Str} (h : cs.Nodup) : (srtS cs).Nodup := (srtS_perm cs).nodup_iff.mpr h
theorem itm_c {s : Sl} {i : Itm} (h : ItmOk s i) : i.c.Nodup ∧ (∀ y ∈ i.c, idB y = true) ∧ i.c.length ≤ 4 := by
  obtain ⟨cs, e, h1, h2, h3⟩ := h.c
  rw [e]
  exact ⟨srt_nd h1, fun y hy => h2 y ((srtS_perm cs).mem_iff.mp hy), by rw [(srtS_perm cs).length_eq]; exact h3⟩
theorem itm_g {s : Sl} {i : Itm} (h : ItmOk s i) : i.g.Nodup ∧ (∀ y ∈ i.g, idB y = true) ∧ i.g.length ≤ 3 := by
  obtain ⟨cs, e, h1, h2, h3⟩ := h.g
  rw [e]
  exact ⟨srt_nd h1, fun y hy => h2 y ((srtS_perm cs).mem_iff.mp hy), by rw [(srtS_perm cs).length_eq]; exact h3⟩
/-- the word and the name of a slot -/
theorem sl_word (s : Sl) : ∃ (kw z : Str) (r : List PyData), slD s = .tuple (.str kw :: .str z :: r) ∧ ((kw = Str.ofString "link") ↔ ∃ z, s = .l z) ∧ ((kw = Str.ofString "set") ↔ ∃ n k, s = .s n k) ∧ (∀ y, s = .l y → z = y) := by
  cases s with
  | k z => exact ⟨"keys", z, [], rfl, no_iff (by decide +kernel) (fun ⟨_, h⟩ => by cases h), no_iff (by decide +kernel) (fun ⟨_, _, h⟩ => by cases h), fun y h => by cases h⟩
  | l z => exact ⟨"link", z, [], rfl, ⟨fun _ => ⟨z, rfl⟩, fun _ => rfl⟩, no_iff (by decide +kernel) (fun ⟨_, _, h⟩ => by cases h), fun y h => by injection h⟩
  | h z => exact ⟨"hosts", z, [], rfl, no_iff (by decide +kernel) (fun ⟨_, h⟩ => by cases h), no_iff (by decide +kernel) (fun ⟨_, _, h⟩ => by cases h), fun y h => by cases h⟩
  | s n k => exact ⟨"set", n, [.str k], rfl, no_iff (by decide +kernel) (fun ⟨_, h⟩ => by cases h), ⟨fun _ => ⟨n, k, rfl⟩, fun _ => rfl⟩, fun y h => by cases h⟩
theorem pick_cl {H : Hp} {t : Addr} {n : Nat} {as : List Addr} (h : ∀ a ∈ as, ∃ gs, CL H t a n gs) {i : Int} (h0 : 0 ≤ i) (h1 : i < as.length) : ∃ a gs, atI (as.map V.ref) i = some (.ref a) ∧ CL H t a n gs := by
  obtain ⟨c, hc1, hc2, hc3⟩ := at_in (l := as.map V.ref) h0 (by rw [List.length_map]; exact h1)
  obtain ⟨a, ha, rfl⟩ := List.mem_map.mp hc3
  obtain ⟨gs, hg⟩ := h a ha
  exact ⟨a, gs, hc1, hg⟩
theorem pick_clP {p : List Str → Prop} {H : Hp} {t : Addr} {n : Nat} {as : List Addr} (h : ∀ a ∈ as, ∃ gs, CL H t a n gs ∧ p gs) {i : Int} (h0 : 0 ≤ i) (h1 : i < as.length) : ∃ a gs, atI (as.map V.ref) i = some (.ref a) ∧ CL H t a n gs ∧ p gs := by
  obtain ⟨c, hc1, hc2, hc3⟩ := at_in (l := as.map V.ref) h0 (by rw [List.length_map]; exact h1)
  obtain ⟨a, ha, rfl⟩ := List.mem_map.mp hc3
  obtain ⟨gs, hg⟩ := h a ha
  exact ⟨a, gs, hc1, hg⟩
/-! ### what a new heap keeps, on demand -/
theorem al_of {T : List (Addr × Str)} {H G : Hp} {p : Addr} {o : HO} (np : H p = none) (hG : upd H p o = G) : Nw H p ∧ Ext T [] H G ∧ G p = some o := by
  subst hG
  exact ⟨.of np, .new np, upd_same⟩
section
variable {T : List (Addr × Str)} {H H' H1 : Hp}
theorem SqP.y {l t a : Addr} {xs : List V} (h : SqP H a xs) (e : Ext T [t] H H') (hT : Tape l H t) : SqP H' a xs := SqP.ext h e hT.lsts
theorem frz.y {l t a : Addr} {o : Obj} {u : HO} (h : H a = some (.frz o u)) (e : Ext T [t] H H') (hT : Tape l H t) : H' a = some (.frz o u) := e.keep a _ (fun hb => by
  obtain ⟨ys, hy⟩ := hT.lsts a hb
  rw [h] at hy
  cases hy) (fun _ z => by cases z) h
theorem Tape.ne1 {l t q : Addr} (p : Tape l H t) (h : Nw H q) : q ≠ t := (p.ne h).1
theorem Ext.back1 {p t : Addr} (e : Ext T [t] H H1) (hp : p ≠ t) (f : Nw H1 p) : Nw H p := e.back (by simpa using hp) f
theorem Ext.back0 {p : Addr} (e : Ext T [] H H1) (f : Nw H1 p) : Nw H p := e.back (by simp) f
end
section
variable (T : List (Addr × Str))
def spBent : Sp := fun vs H Q _ => ∃ (l t pa : Addr) (v u : V) (R : Rm) (ps : List (Str × List Str)) (s : Sta), vs = [.ref t, v, .ref pa, u] ∧ Tape l H t ∧ Im H v (rmD R) ∧ RmIn R ∧ Pools H t pa ps ∧ PsOk R ps ∧ StAt H u s ∧ StaOk R s ∧ s.on.length ≤ 50 ∧
  ∀ (x : V) (s' : Sta) (H' : Hp), StaOk R s' → (SealR s → SealR s') → (SrvOk R s → SrvOk R s') → s'.on = s.on → StAt H' x s' → Ext T [t] H H' → Tape l H' t → Q x H'
end
def bentL : List (List Str) := [[], ["s3"], ["s1", "t9"]]
theorem bent_ok : ∀ c ∈ bentL, c.Nodup ∧ (∀ y ∈ c, idB y = true) ∧ c.length ≤ 4 := by decide +kernel
/-! ### rows of deeds drawn -/
theorem mapSet {α β : Type} {f : α → β} (l : List α) (k : Nat) (v : α) : (l.map f).set k (f v) = (l.set k v).map f := by rw [List.map_set]
theorem zn_key {H : Hp} : ∀ {us ys : List V} {rs : List (Str × Int)}, ImAll H ys (rs.map siD) → EachIs (fun v x => ∃ r, Im H x (siD r) ∧ v = .str r.1) us ys → us = (rs.map (·.1)).map V.str := by
  intro us ys rs
  induction rs generalizing us ys with
  | nil =>
    intro h1 h2
    cases h1
    cases h2
    rfl
  | cons r rs ih =>
    intro h1 h2
    cases h1 with
    | cons a b =>
      cases h2 with
      | cons c d =>
        obtain ⟨r', c1, c2⟩ := c
        have e := Im.inj _ _ _ a c1
        injection e with e
        injection e with e _
        injection e with e
        rw [ih b d, c2, List.map_cons, List.map_cons, e]
theorem alike_sl (l : List Sl) : AllAlike (l.map slD) := fun d hd e he => by
  obtain ⟨y, _, rfl⟩ := List.mem_map.mp hd
  obtain ⟨z, _, rfl⟩ := List.mem_map.mp he
  cases y <;> cases z <;> rfl
theorem sortable_sl (l : List Sl) : Sortable (l.map slD) := .inl fun d hd => by
  obtain ⟨y, _, rfl⟩ := List.mem_map.mp hd
  cases y <;> exact ⟨_, _, rfl⟩
theorem depth_sl (l : List Sl) : ∀ d ∈ l.map slD, d.depth ≤ 60 := fun d hd => by
  obtain ⟨y, _, rfl⟩ := List.mem_map.mp hd
  exact Nat.le_trans (dep_sl y) (by decide)
def srtSl (l : List Sl) : List Sl := l.mergeSort fun a b => dataLe false id (slD a) (slD b)
theorem srtSl_eq (l : List Sl) : srtD (l.map slD) = (srtSl l).map slD := (sort_maps slD fun _ _ _ _ => rfl).symm
theorem srtSl_perm (l : List Sl) : (srtSl l).Perm l := List.mergeSort_perm _ _
theorem srtS_one (z : Str) : srtS [z] = [z] := List.mergeSort_singleton _
/-- a deed out of a list of deeds -/
theorem imall_erase {H : Hp} : ∀ {xs : List V} {ds : List PyData} (k : Nat), ImAll H xs ds → ImAll H (xs.eraseIdx k) (ds.eraseIdx k)
  | _, _, _, .nil => by simp only [List.eraseIdx_nil]; exact .nil
  | _, _, 0, .cons _ t => t
  | _, _, k + 1, .cons h t => .cons h (imall_erase k t)
theorem imall_set {H : Hp} : ∀ {xs : List V} {ds : List PyData} (k : Nat) {v : V} {d : PyData}, ImAll H xs ds → Im H v d → ImAll H (xs.set k v) (ds.set k d)
  | _, _, _, _, _, .nil, _ => .nil
  | _, _, 0, _, _, .cons _ t, h => .cons h t
  | _, _, k + 1, _, _, .cons a t, h => .cons a (imall_set k t h)
section
variable {K : PySem.W.Frag} {H : Hp} {Q : VK}
theorem rd_popLs {p : Addr} {ds : List PyData} {i : Int} (h : Ls H p ds) (h0 : 0 ≤ i) (h1 : i < ds.length) (hl : ds.length ≤ 1000) (q : ∀ y xs, H p = some (.lst xs) → Ls (upd H p (.lst (xs.eraseIdx i.toNat))) p (ds.eraseIdx i.toNat) → Q y (upd H p (.lst (xs.eraseIdx i.toNat)))) : rPopAt (.ref p) [.int i] H Q := by
  obtain ⟨xs, e, hx⟩ := h
  have hk : i.toNat < xs.length := by rw [hx.len]; omega
  have hi : seqIndex? i xs.length = some i.toNat := by
    have h2 : ixN xs.length i = some i.toNat := by
      unfold ixN
      rw [if_pos h0, if_pos (by omega)]
    exact (ixN_seq h2).1
  refine ⟨p, xs, i, i.toNat, xs[i.toNat], rfl, rfl, e, Int.le_trans (by decide) h0, Int.lt_of_lt_of_le h1 (by omega), hi, List.getElem?_eq_getElem hk, q _ xs e ⟨_, upd_same, ?_⟩⟩
  have eL : Ext [] [p] H (upd H p (.lst (xs.eraseIdx i.toNat))) := Ext.mut (by simp) e
  exact ImAll.ext eL (lsts_one e) _ _ (imall_erase _ hx)
end
theorem mem_erase {α : Type} {l : List α} {k : Nat} {x : α} (h : x ∈ l.eraseIdx k) : x ∈ l := List.mem_of_mem_eraseIdx h
/-- an item whose content may be of six ids: a move adds a server -/
structure ItmW (s : Sl) (i : Itm) : Prop where
  c : ∃ cs : List Str, i.c = srtS cs ∧ cs.Nodup ∧ (∀ y ∈ cs, idB y = true) ∧ cs.length ≤ 6
  g : ∃ gs : List Str, i.g = srtS gs ∧ gs.Nodup ∧ (∀ y ∈ gs, idB y = true) ∧ gs.length ≤ 3
  li : 1 ≤ i.li ∧ i.li ≤ 1000
  ab : 0 ≤ i.a ∧ i.a ≤ i.b ∧ i.b ≤ 10000
  h : ∀ z, s = .h z → i.g = [] ∧ i.a = 0 ∧ i.b = 10000
  kc : ∀ z, s = .k z → i.c ≠ []
theorem ItmOk.w {s : Sl} {i : Itm} (h : ItmOk s i) : ItmW s i := by
  obtain ⟨cs, h1, h2, h3, h4⟩ := h.c
  exact ⟨⟨cs, h1, h2, h3, by omega⟩, h.g, h.li, h.ab, h.h, h.kc⟩
def DdW (R : Rm) : Dd → Prop
  | .put s i => s ∈ slotsR R ∧ ItmW s i
  | .on x z => idB x = true ∧ z ∈ R.zs.tail.map (·.1)
  | .off x z => idB x = true ∧ z ∈ R.zs.tail.map (·.1)
/-- a put that is as it should be -/
def DdP (R : Rm) (d : Dd) : Prop := isPut d ∧ DdOk R d
theorem DdOk.w {R : Rm} {d : Dd} (h : DdOk R d) : DdW R d := by
  cases d with
  | put s i => exact ⟨h.1, h.2.w⟩
  | on x z => exact h
  | off x z => exact h
def MoveOk (s : Sta) (l : List Dd) : Prop := OnOk s l ∧ ∀ k, 1 ≤ k → k < 4 → OnOk s (l.eraseIdx k)
theorem move_ok {s : Sta} {z y : Str} {a b : Sl} {i j : Itm} (h3 : (("s3", z) : Str × Str) ∉ s.on) (hy : y = "s3" ∨ (y, z) ∈ s.on) : MoveOk s [.on "s3" z, .put a i, .put b j, .off y z] := by
  have hm : (y, z) ∈ srtSS (s.on ++ [((("s3" : Str), z) : Str × Str)]) := (srtSS_perm _).mem_iff.mpr (by
    rcases hy with rfl | h
    · simp
    · exact List.mem_append_left _ h)
  refine ⟨⟨h3, trivial, trivial, hm, trivial⟩, fun k h1 h2 => ?_⟩
  match k, h1, h2 with
  | 1, _, _ => exact ⟨h3, trivial, hm, trivial⟩
  | 2, _, _ => exact ⟨h3, trivial, hm, trivial⟩
  | 3, _, _ => exact ⟨h3, trivial, trivial, trivial⟩
/-- a row of deeds is of one to six -/
def LenR (ds : List Dd) : Prop := 1 ≤ ds.length ∧ ds.length ≤ 6
section
variable (T : List (Addr × Str))
def spRow : Sp := fun vs H Q _ => ∃ (l t pa : Addr) (v u : V) (R : Rm) (ps : List (Str × List Str)) (s : Sta), vs = [.ref t, v, .ref pa, u] ∧ Tape l H t ∧ Im H v (rmD R) ∧ RmIn R ∧ Pools H t pa ps ∧ PsOk R ps ∧ StAt H u s ∧ StaOk R s ∧ SrvOk R s ∧ s.on.length ≤ 50 ∧
  ∀ (x : V) (ds : List Dd) (H' : Hp), (∀ d ∈ ds, DdOk R d) → OnOk s ds → LenR ds → Im H' x (.tuple (ds.map ddD)) → Ext T [t] H H' → Tape l H' t → Q x H'
def spMove : Sp := fun vs H Q _ => ∃ (l t : Addr) (v u : V) (R : Rm) (s : Sta), vs = [.ref t, v, u] ∧ Tape l H t ∧ Im H v (rmD R) ∧ RmIn R ∧ 1 < R.zs.length ∧ StAt H u s ∧ StaOk R s ∧ SrvOk R s ∧ s.on.length ≤ 50 ∧
  ∀ (x : V) (ds : List Dd) (H' : Hp), (∀ d ∈ ds, DdOk R d) → OnOk s ds → LenR ds → Im H' x (.tuple (ds.map ddD)) → Ext T [t] H H' → Tape l H' t → Q x H'
end
theorem tail_mem {R : Rm} (h : RmIn R) {z : Str} (hz : z ∈ R.zs.map (·.1)) : z = dotS ∨ z ∈ R.zs.tail.map (·.1) := by
  obtain ⟨lag, rest, e, _⟩ := h.ne
  rw [e] at hz ⊢
  rcases List.mem_cons.mp hz with h | h
  · exact .inl h
  · exact .inr h
theorem kl_mem {R : Rm} {z : Str} (hz : z ∈ R.zs.tail.map (·.1)) : Sl.k z ∈ slotsR R ∧ Sl.l z ∈ slotsR R := by
  obtain ⟨y, hy, rfl⟩ := List.mem_map.mp hz
  unfold slotsR
  exact ⟨List.mem_append_left _ (List.mem_cons_of_mem _ (List.mem_flatMap.mpr ⟨y, hy, by simp⟩)), List.mem_append_left _ (List.mem_cons_of_mem _ (List.mem_flatMap.mpr ⟨y, hy, by simp⟩))⟩
theorem k_mem {R : Rm} (h : RmIn R) {z : Str} (hz : z ∈ R.zs.map (·.1)) : Sl.k z ∈ slotsR R := by
  rcases tail_mem h hz with e | hz
  · rw [e]
    unfold slotsR
    exact List.mem_append_left _ List.mem_cons_self
  · exact (kl_mem hz).1
def slw (s : Sl) : Bool := match s with
  | .k _ => false
  | .l _ => true
  | .h _ => false
  | .s _ _ => true
theorem slw_eq (s : Sl) : ∃ (kw z : Str) (r : List PyData), slD s = .tuple (.str kw :: .str z :: r) ∧ (kw ∈ [Str.ofString "set", Str.ofString "link"] ↔ slw s = true) := by
  cases s with
  | k z => exact ⟨"keys", z, [], rfl, ⟨fun h => absurd h (by decide +kernel), fun h => by cases h⟩⟩
  | l z => exact ⟨"link", z, [], rfl, ⟨fun _ => rfl, fun _ => by decide +kernel⟩⟩
  | h z => exact ⟨"hosts", z, [], rfl, ⟨fun h => absurd h (by decide +kernel), fun h => by cases h⟩⟩
  | s n k => exact ⟨"set", n, [.str k], rfl, ⟨fun _ => rfl, fun _ => by decide +kernel⟩⟩
theorem im_filter {H : Hp} {α : Type} {f : α → PyData} {c : α → Bool} (hf : ∀ a b, f a = f b → a = b) {xs us : List V} {as : List α} (hx : ImAll H xs (as.map f)) (hu : EachIs (fun v x => v = x) us (xs.filter (pIm H f c))) : ImAll H us ((as.filter c).map f) := by
  have h1 : us = xs.filter (pIm H f c) := by
    have key : ∀ {us vs : List V}, EachIs (fun v x => v = x) us vs → us = vs := by
      intro us vs h
      induction h with
      | nil => rfl
      | cons a b ih => rw [a, ih]
    exact key hu
  rw [h1]
  have key : ∀ {xs : List V} {as : List α}, EachIs (fun x a => Im H x (f a)) xs as → ImAll H xs (as.map f) := by
    intro xs as h
    induction h with
    | nil => exact .nil
    | cons a b ih => exact .cons a ih
  exact key (each_filter (c := c) hf hx)
/-! ### a list of one's own that grows -/
section
variable {T : List (Addr × Str)} {H H' : Hp}
theorem Im.z {p : Addr} {v : V} {d : PyData} (h : Im H v d) (e : Ext T [p] H H') (hm : Lsts H [p]) : Im H' v d := Im.ext e hm _ _ h
theorem ImAll.z {p : Addr} {vs : List V} {ds : List PyData} (h : ImAll H vs ds) (e : Ext T [p] H H') (hm : Lsts H [p]) : ImAll H' vs ds := ImAll.ext e hm _ _ h
theorem StAt.z {p : Addr} {v : V} {s : Sta} (h : StAt H v s) (e : Ext T [p] H H') (hm : Lsts H [p]) : StAt H' v s := h.ext e hm
theorem SqP.z {p a : Addr} {xs : List V} (h : SqP H a xs) (e : Ext T [p] H H') (hm : Lsts H [p]) : SqP H' a xs := SqP.ext h e hm
theorem tup.z {p a : Addr} {xs : List V} (h : H a = some (.tup xs)) (e : Ext T [p] H H') (hm : Lsts H [p]) : H' a = some (.tup xs) := tup.ext h e hm
theorem Ls.z {p a : Addr} {ds : List PyData} (h : Ls H a ds) (e : Ext T [p] H H') (hm : Lsts H [p]) (ha : a ≠ p) : Ls H' a ds := h.ext e (by simpa using ha) hm
theorem lst.z {p a : Addr} {xs : List V} (h : H a = some (.lst xs)) (e : Ext T [p] H H') (ha : a ≠ p) : H' a = some (.lst xs) := e.lst (by simpa using ha) h
theorem CL.z {p a t : Addr} {n : Nat} {cs : List Str} (h : CL H t a n cs) (e : Ext T [p] H H') (ha : a ≠ p) : CL H' t a n cs := ⟨lst.z h.at_ e ha, h.ne, h.nd, h.ok, h.len⟩
end
section
variable {T : List (Addr × Str)} {K : PySem.W.Frag} {Hb H : Hp} {Q : VK} {l t dp : Addr} {ds : List PyData}
theorem push_step {v : V} {d : PyData} (hb : Ext T [t] Hb H) (hn : Nw Hb dp) (hTb : Tape l Hb t) (hT : Tape l H t) (hds : Ls H dp ds) (hv : Im H v d) (hl : ds.length < 1000)
    (q : ∀ H', Ext T [t] Hb H' → Tape l H' t → Ext T [dp] H H' → Lsts H [dp] → Ls H' dp (ds ++ [d]) → Q .non H') : rAppend (.ref dp) [v] H Q :=
  rd_appLs hds hv (Nat.lt_of_lt_of_le hl (by decide)) fun ys hy h => q _ (hb.own hn hy) (hT.own (hTb.ne hn).1 (hTb.ne hn).2) (Ext.mut (by simp) hy) (lsts_one hy) h
theorem pop_step {i : Int} (hb : Ext T [t] Hb H) (hn : Nw Hb dp) (hTb : Tape l Hb t) (hT : Tape l H t) (hds : Ls H dp ds) (h0 : 0 ≤ i) (h1 : i < ds.length) (hl : ds.length ≤ 1000)
    (q : ∀ y H', Ext T [t] Hb H' → Tape l H' t → Ext T [dp] H H' → Lsts H [dp] → Ls H' dp (ds.eraseIdx i.toNat) → Q y H') : rPopAt (.ref dp) [.int i] H Q :=
  rd_popLs hds h0 h1 hl fun y xs e h => q y _ (hb.own hn e) (hT.own (hTb.ne hn).1 (hTb.ne hn).2) (Ext.mut (by simp) e) (lsts_one e) h
theorem set_step {i : Int} {v : V} {d : PyData} {Q : Hp → Prop} (hb : Ext T [t] Hb H) (hn : Nw Hb dp) (hTb : Tape l Hb t) (hT : Tape l H t) (hds : Ls H dp ds) (hv : Im H v d) (h0 : 0 ≤ i) (h1 : i < ds.length)
    (q : ∀ H', Ext T [t] Hb H' → Tape l H' t → Ext T [dp] H H' → Lsts H [dp] → Ls H' dp (ds.set i.toNat d) → Q H') : rSetL (.ref dp) (.int i) v H Q := by
  obtain ⟨xs, e, hx⟩ := hds
  refine rd_set (j := i.toNat) e (by unfold ixN; rw [if_pos h0, if_pos (by rw [hx.len]; exact h1)]) ?_
  have eL : Ext T [dp] H (upd H dp (.lst (xs.set i.toNat v))) := Ext.mut (by simp) e
  exact q _ (hb.own hn e) (hT.own (hTb.ne hn).1 (hTb.ne hn).2) eL (lsts_one e) ⟨_, upd_same, imall_set _ (ImAll.ext eL (lsts_one e) _ _ hx) (Im.ext eL (lsts_one e) _ _ hv)⟩
end
/-! ### the program's chain is the law's chain -/
def lk (z : Str) : Int := if z = dotS then 0 else (z.length : Int)
/-! ### dict of a plain tuple of pairs whose keys are texts or numbers -/
theorem Im.trip' {H : Hp} {v : V} {d1 d2 d3 : PyData} (h : Im H v (.tuple [d1, d2, d3])) : ∃ a x y z, v = .ref a ∧ SqP H a [x, y, z] ∧ Im H x d1 ∧ Im H y d2 ∧ Im H z d3 := by
  obtain ⟨a, xs, rfl, h1, h2⟩ := h.tup'
  cases h2 with
  | cons a1 t =>
    cases t with
    | cons a2 t =>
      cases t with
      | cons a3 t =>
        cases t
        exact ⟨a, _, _, _, rfl, h1, a1, a2, a3⟩
/-! ### spans, item by item -/
/-! ### how deep the data are -/
theorem dep_row2 (r : Sl × Itm) : (rowD2 r).depth ≤ 3 := by
  show max (slD r.1).depth (max (itD r.2).depth 0) + 1 ≤ 3
  have h1 := dep_sl r.1
  have h2 := dep_it r.2
  omega
theorem dep_st (s : Sta) : (stD s).depth ≤ 64 := by
  show max (PyData.depthAll (s.its.map rowD2) + 1) (max (PyData.depthAll (s.on.map ssD) + 1) 0) + 1 ≤ 64
  have h1 := dep_map dep_row2 s.its
  have h2 := dep_map dep_ss s.on
  omega
section
variable {K : PySem.W.Frag}
theorem StAt.dp {H : Hp} {v : V} {s : Sta} (h : StAt H v s) : Dp K H v (stD s) ∧ SeqAt.shaped (stD s) = true ∧ PyData.eqv (stD s) (stD s) = true := by
  obtain ⟨a, ia, oa, xs, o, rfl, ha, hia, hod, hxi, hoa⟩ := h
  refine ⟨.tup (SqT.of ha) (.cons (.tup (SqF hia) hxi.dp) (.cons hoa.dp .nil)), ?_, ?_⟩
  · unfold SeqAt.shaped
    rw [show PyData.canLay0 (stD s) = true from ?_, decide_eq_true (dep_st s)]
    · rfl
    · show (PyData.canLay0 (.tuple (s.its.map rowD2)) && (PyData.canLay0 (.tuple (s.on.map ssD)) && true)) = true
      rw [show PyData.canLay0 (.tuple (s.its.map rowD2)) = true from ImAll.lay _ _ hxi, show PyData.canLay0 (.tuple (s.on.map ssD)) = true from Im.lay _ _ hoa]
      rfl
  · show (PyData.eqvAll (s.its.map rowD2) (s.its.map rowD2) && (PyData.eqv (.tuple (s.on.map ssD)) (.tuple (s.on.map ssD)) && true)) = true
    rw [(ImAll.eqv _ _ _ _ hxi hxi).mpr rfl, (Im.eqv _ _ _ _ hoa hoa).mpr rfl]
    rfl
end
/-! ### a tuple of texts that the module has made: read, compared, a key of a dict -/
def TupK (K : PySem.W.Frag) (a : Addr) (xs : List V) : Prop := ∃ (o : Obj) (its : Array Value) (n : Nat), K.lookup a = some o ∧ o.cls = .type "tuple" ∧ o.data = .seq its n ∧ its.size ≤ sizeLine ∧ Vals xs its.toList
theorem TupK.sq {K : PySem.W.Frag} {H : Hp} {a : Addr} {xs : List V} (h : TupK K a xs) : SqT K H a xs := .inr h
/-- ('put', ROOT) and ROOT itself as data -/
def rootD : PyData := slD (.k dotS)
section
variable {K : PySem.W.Frag} {H : Hp} {Q : VK}
/-- what lies at the module's ROOT -/
def RootK (K : PySem.W.Frag) (ra : Addr) : Prop := TupK K ra [.str "keys", .str dotS]
theorem RootK.dp {ra : Addr} (h : RootK K ra) : Dp K H (.ref ra) rootD := .tup h.sq (.cons (.str _) (.cons (.str _) .nil))
end
theorem wipe_setG {σ : L2.St} {k : Nat} {x : Option V} : ∀ vs : List Nat, wipe (σ.set k x) vs = if k ∈ vs then wipe σ vs else (wipe σ vs).set k x
  | [] => rfl
  | v :: vs => by
    show (wipe (σ.set k x) vs).set v none = _
    rw [wipe_setG vs]
    by_cases h : k ∈ vs
    · rw [if_pos h, if_pos (List.mem_cons_of_mem _ h)]
      rfl
    · rw [if_neg h]
      by_cases e : k = v
      · subst e
        rw [if_pos List.mem_cons_self, List.set_set]
        rfl
      · rw [if_neg (by rw [List.mem_cons]; exact fun z => z.elim e h), List.set_comm _ _ e]
        rfl
theorem wipe_set {σ : L2.St} {k : Nat} {x : Option V} {vs : List Nat} (h : k ∈ vs) : wipe (σ.set k x) vs = wipe σ vs := by rw [wipe_setG, if_pos h]
theorem wipe_wipeG {σ : L2.St} {vs : List Nat} : ∀ us : List Nat, (∀ u ∈ us, u ∈ vs) → wipe (wipe σ us) vs = wipe σ vs
  | [], _ => rfl
  | u :: us, h => by
    show wipe ((wipe σ us).set u none) vs = _
    rw [wipe_set (h u List.mem_cons_self), wipe_wipeG us fun u hu => h u (List.mem_cons_of_mem _ hu)]
theorem wipe_wipe {σ : L2.St} {vs : List Nat} : wipe (wipe σ vs) vs = wipe σ vs := wipe_wipeG vs fun _ h => h
/-- a comprehension over data, told item by item; its elements are data -/
theorem lcg_fm (T : List (Addr × Str)) {α : Type} (f g : α → PyData) (c : α → Bool) {σ : L2.St} {H : Hp} {Q : VK} {J : It} {n : Nat} {G : Hp → Prop} {Y : Nat → Hp → V → Hp → Prop} {gT : TG} {tt : TT} {te : TE} {vs : List Nat} (w : Walk J n G Y) {xs : List V} {as : List α} (hx : ImAll H xs (as.map f)) (hn : n = xs.length)
    (hY : ∀ i H x H', Y i H x H' → H' = H ∧ xs[i]? = some x) (hG : ∀ H', Ext T [] H H' → G H') (hl : as.length ≤ 100000)
    (step : ∀ (i : Nat) (a : α) (x : V), as[i]? = some a → ∀ H', Ext T [] H H' → Im H' x (f a) → ∀ (R : V → Hp → Prop) (S : Hp → Prop), (c a = true → ∀ v H2, Ext T [] H' H2 → Im H2 v (g a) → R v H2) → (c a = false → ∀ H2, Ext T [] H' H2 → S H2) →
      gT x (wipe σ vs) H' fun σ2 H2 => wipe σ2 vs = wipe σ vs ∧ tt σ2 H2 fun b H3 => if b = true then te σ2 H3 R else S H3)
    (q : ∀ D H2, Nw H D → Ext T [] H H2 → Ls H2 D ((as.filter c).map g) → Q (.ref D) H2) : LcG J gT tt te vs σ H Q := fun D hD => by
  have hxl : xs.length = as.length := by rw [hx.len, List.length_map]
  refine lc_it w (fun i H2 => Ext T [] H H2 ∧ Ls H2 D (((as.take i).filter c).map g)) ⟨.new hD, ⟨[], upd_same, .nil⟩⟩ (fun i H2 _ h => hG H2 h.1) (fun i x H1 H' hi h y => ?_) (fun H1 h => ?_)
  · obtain ⟨e1, e2⟩ := hY i H1 x H' y
    subst e1
    obtain ⟨h1, h3⟩ := h
    obtain ⟨d, hd, hxd⟩ := hx.get' e2
    rw [List.getElem?_map] at hd
    obtain ⟨a, ha, rfl⟩ := Option.map_eq_some_iff.mp hd
    have et : as.take (i + 1) = as.take i ++ [a] := by rw [List.take_add_one, ha]; rfl
    have hD0 : D ∉ ([] : List Addr) := by simp
    refine step i a x ha H' h1 (Im.ext h1 Lsts.nil _ _ hxd) _ _ (fun hp v H2 e hv => ?_) (fun hp H2 e => ?_)
    · obtain ⟨acc, h5, h6⟩ := h3.ext e hD0 Lsts.nil
      refine ⟨acc, h5, ?_, (h1.trans e).own (.of hD) h5, ?_⟩
      · refine Nat.lt_of_le_of_lt ?_ (Nat.lt_of_le_of_lt hl (show (100000 : Nat) < sizeLine by decide))
        rw [h6.len, List.length_map]
        exact Nat.le_trans (List.length_filter_le _ _) (by rw [List.length_take]; exact Nat.min_le_right _ _)
      · have eD : Ext T [D] H2 (upd H2 D (.lst (acc ++ [v]))) := Ext.mut (by simp) h5
        have hLD : Lsts H2 [D] := fun b hb => ⟨acc, by rw [List.mem_singleton.mp hb]; exact h5⟩
        refine ⟨acc ++ [v], upd_same, ?_⟩
        rw [et, List.filter_append, List.filter_cons_of_pos hp, List.map_append]
        exact (ImAll.ext eD hLD _ _ h6).snoc (Im.ext eD hLD _ _ hv)
    · refine ⟨h1.trans e, ?_⟩
      rw [et, List.filter_append, List.filter_cons_of_neg (by rw [hp]; decide), List.filter_nil, List.append_nil]
      exact h3.ext e hD0 Lsts.nil
  · obtain ⟨h1, h3⟩ := h
    rw [hn, hxl, List.take_length] at h3
    exact q D H1 (.of hD) h1 h3
/-! an own exception whose __init__ says super().__init__(f"..") and keeps its one argument -/
section
open PySem.W PySem.Calls PySem.HandSPX
def supA (fld : Str) (p1 p2 : Pos) : Arguments := { posonlyargs := [], args := [{ arg := "self", annotation := none, pos := p1 }, { arg := fld, annotation := none, pos := p2 }], vararg := none, kwonlyargs := [], kw_defaults := [], kwarg := none, defaults := [] }
def supB (fld : Str) (parts : List Expr) (ps : List Pos) (q1 q2 q3 q4 : Pos) : List Stmt :=
  [.Expr (.Call (.Attribute (.Call (.Name "super" (ps.getD 0 ⟨0, 0, 0, 0⟩)) [] [] (ps.getD 1 ⟨0, 0, 0, 0⟩)) "__init__" (ps.getD 2 ⟨0, 0, 0, 0⟩)) [.JoinedStr parts (ps.getD 3 ⟨0, 0, 0, 0⟩)] [] (ps.getD 4 ⟨0, 0, 0, 0⟩)) (ps.getD 5 ⟨0, 0, 0, 0⟩),
   .Assign [.Attribute (.Name "self" q1) fld q2] (.Name fld q3) q4]
def supS (fld : Str) : Scope := { kind := .function, names := [(PySem.Str.ofString "self", .local), (fld, .local), (PySem.Str.ofString "__class__", .free), (PySem.Str.ofString "super", .globalImplicit)], isGenerator := false, isCoroutine := false, more := [] }
/-- a word or a number that an f-string shows -/
def Showable (v : Value) : Prop := (∃ z t, v = .str z t ∧ z.length ≤ 1000) ∨ ∃ i t, v = .int i t ∧ i.natAbs.log2 < 1920
/-- the f-string gives some text -/
def PartsOk (fld : Str) (parts : List Expr) (jp : Pos) : Prop := ∀ (prog : Program) (w : World) (A : Around) (E : Value → Shared → Prop) (qual : Str) (L a cc : Addr) (cd : Value) (s : Shared) (m : Str → Option Value) (v : Value) (Q : Value → Shared → Prop),
  s.heap.Ns L m → m fld = some v → Showable v → (∀ z tk t', Q (.str z tk) { s with toks := t' }) → wpAny (model prog w) A (eval (.JoinedStr parts jp) (ksEnv qual (supS fld) L a cd cc)) Q E s
def pz (ps : List Pos) (i : Nat) : Pos := ps.getD i ⟨0, 0, 0, 0⟩
def CallOk (fld : Str) (parts : List Expr) (ps : List Pos) : Prop := ∀ (qual : Str) (L a cc : Addr) (cd : Value), ∃ pl : Sem Bool,
  eval (.Call (.Attribute (.Call (.Name "super" (pz ps 0)) [] [] (pz ps 1)) "__init__" (pz ps 2)) [.JoinedStr parts (pz ps 3)] [] (pz ps 4)) (ksEnv qual (supS fld) L a cd cc) = (do
      let ov ← attributeBase (.Call (.Name "super" (pz ps 0)) [] [] (pz ps 1)) "__init__" (ksEnv qual (supS fld) L a cd cc) (eval (.Call (.Name "super" (pz ps 0)) [] [] (pz ps 1)) (ksEnv qual (supS fld) L a cd cc))
      standAt (pz ps 2).atName
      let (f, first) ← holding [ov] (getMethod ov "__init__" pl)
      callWith (pz ps 4) f first (backTo (pz ps 4) (starEach [.JoinedStr parts (pz ps 3)] (ksEnv qual (supS fld) L a cd cc))) [])
structure SupTxt (P : Program) (K : Frag) (mg : Str → Option Value) (nm fld : Str) (C fI : Addr) : Prop where
  gC : mg nm = some (.ref C)
  cls : ∃ nm q N bs bm sn sub ab col dd k0 k1 k2 k3 k5, K.lookup C = some (excClassObj nm q C N bs bm true sn sub ab col dd k0 k1 k2 k3 k5 "ValueError.__new__") ∧ refsVE bm = true
  sa : findIn K (.ref C) "__setattr__" = some (some (.builtin "object.__setattr__"))
  ga : findIn K (.ref C) "__getattribute__" = some (some (.builtin "BaseException.__getattribute__"))
  gg : findIn K (.ref C) "__getattr__" = some none
  noN : findIn K (.ref C) fld = some none
  iC : findIn K (.ref C) "__init__" = some (some (.ref fI))
  tC : typeIn K (.ref fI) = some (.type "function")
  kC : keepIn K (.ref C) = true
  exC : subIn K (.ref C) (.type "BaseException") = some true
  tyC : typeIn K (.ref C) = some (.type "type")
  hdC : hasDictIn K C = true
  te : exmOne K (.ref C) (.ref C) = some true
  sup : ks_superIn K C C "__init__" = some (some (.builtin "ValueError.__init__"))
  subV : subIn K (.ref C) (.type "ValueError") = some true
  selfC : mroIn K C (.ref C) = some true
  gsup : nsIn K mainGlobals "super" = some none
  opq : nsIn K cStatics "thirdparty.any" = some none
  htop : (P.main.scope.names.lookup ("super" : Str)).isSome = false
  fn : ∃ (oc : Value) (od : Option Addr) (doc pm kV : Value) (an : Option Addr) (cda cc : Addr) (ct : Value) (osl : Array (Option Value)) (p1 p2 q1 q2 q3 q4 : Pos) (ps : List Pos) (parts : List Expr) (qual : Str),
    K.lookup fI = some ⟨oc, od, .func (ksFn "__init__" qual (supA fld p1 p2) (supB fld parts ps q1 q2 q3 q4) (supS fld) .none kV doc pm an (.ref cda) ct cc), osl⟩ ∧ codeIn K (.ref cda) qual = true ∧
    (∃ ccl cdd vs ccs file tf, K.lookup cda = some ⟨ccl, cdd, .fields vs, ccs⟩ ∧ vs[2]? = some (.str file tf) ∧ ((P.main.file : Str) == file) = true) ∧
    (∃ cl cld csl, K.lookup cc = some ⟨cl, cld, .cell (some (.ref C)), csl⟩) ∧ PartsOk fld parts (pz ps 3) ∧ CallOk fld parts ps
end
/-! ### rows of moments: the least moments, and what a round of raising does -/
abbrev Rw := Nat × Nat × Int
def rwD (r : Rw) : PyData := .tuple [.int (r.1 : Int), .int (r.2.1 : Int), .int r.2.2]
def RwIn (n : Nat) (rs : List Rw) : Prop := ∀ r ∈ rs, r.1 ≤ n ∧ r.2.1 ≤ n
def fn (m : List Int) (k : Nat) : Int := m.getD k 0
structure Feas (rs : List Rw) (m : Nat → Int) : Prop where
  zero : m 0 = 0
  nn : ∀ k, 0 ≤ m k
  rows : ∀ r ∈ rs, m r.2.1 + r.2.2 ≤ m r.1
def Least (rs : List Rw) (n : Nat) (t : List Int) : Prop := t.length = n ∧ Feas rs (fn (0 :: t)) ∧ ∀ m, Feas rs m → ∀ k, fn (0 :: t) k ≤ m k
def LM (rs : List Rw) (n : Nat) : Option (List Int) → Prop
  | some t => Least rs n t
  | none => ∀ m, ¬ Feas rs m
theorem nat_min {P : Nat → Prop} : ∀ (n : Nat), P n → ∃ m, P m ∧ ∀ k, P k → m ≤ k := by
  intro n
  induction n using Nat.strongRecOn with
  | _ n ih =>
    intro h
    by_cases e : ∃ k, k < n ∧ P k
    · obtain ⟨k, h1, h2⟩ := e
      exact ih k h1 h2
    · exact ⟨n, h, fun k hk => Nat.le_of_not_lt fun hl => e ⟨k, hl, hk⟩⟩
theorem least_of {rs : List Rw} {m0 : Nat → Int} (h : Feas rs m0) : ∃ M, Feas rs M ∧ ∀ m, Feas rs m → ∀ k, M k ≤ m k := by
  have key : ∀ k, ∃ v : Int, (∃ m, Feas rs m ∧ m k = v) ∧ ∀ m, Feas rs m → v ≤ m k := fun k => by
    obtain ⟨v, ⟨m, h1, h2⟩, h3⟩ := nat_min (P := fun v => ∃ m, Feas rs m ∧ m k = (v : Int)) (m0 k).toNat ⟨m0, h, by have := h.nn k; omega⟩
    refine ⟨v, ⟨m, h1, h2⟩, fun m' h' => ?_⟩
    have := h3 (m' k).toNat ⟨m', h', by have := h'.nn k; omega⟩
    have := h'.nn k
    omega
  refine ⟨fun k => (key k).choose, ⟨?_, fun k => ?_, fun r hr => ?_⟩, fun m hm k => (key k).choose_spec.2 m hm⟩
  · obtain ⟨m, h1, h2⟩ := (key 0).choose_spec.1
    rw [← h2]
    exact h1.zero
  · obtain ⟨m, h1, h2⟩ := (key k).choose_spec.1
    rw [← h2]
    exact h1.nn k
  · obtain ⟨m, h1, h2⟩ := (key r.1).choose_spec.1
    have h3 := (key r.2.1).choose_spec.2 m h1
    have h4 := h1.rows r hr
    show (key r.2.1).choose + r.2.2 ≤ (key r.1).choose
    rw [← h2]
    omega
/-- how many of the numbers up to n are not yet at their least -/
def offs (M m : Nat → Int) (n : Nat) : Nat := (List.range (n + 1)).countP fun k => decide (m k ≠ M k)
theorem countP_lt {α : Type} {p q : α → Bool} : ∀ {l : List α}, (∀ a ∈ l, q a = true → p a = true) → (∃ a ∈ l, p a = true ∧ q a = false) → l.countP q < l.countP p
  | [], _, h => by
    obtain ⟨a, h, _⟩ := h
    cases h
  | a :: r, h1, h2 => by
    have hle : r.countP q ≤ r.countP p := List.countP_mono_left fun b hb h => h1 b (List.mem_cons_of_mem _ hb) h
    obtain ⟨b, hb, e1, e2⟩ := h2
    rw [List.countP_cons, List.countP_cons]
    rcases List.mem_cons.mp hb with e | hb
    · subst e
      rw [e1, e2]
      simp
      omega
    · have := countP_lt (l := r) (fun b hb h => h1 b (List.mem_cons_of_mem _ hb) h) ⟨b, hb, e1, e2⟩
      cases hq : q a with
      | false => simp; omega
      | true =>
        rw [h1 a List.mem_cons_self hq]
        simp
        omega
/-- what a round does to moments -/
structure Round (rs : List Rw) (a b : Nat → Int) : Prop where
  up : ∀ k, a k ≤ b k
  rows : ∀ r ∈ rs, a r.2.1 + r.2.2 ≤ b r.1
theorem offs_step {rs : List Rw} {n : Nat} {M a b : Nat → Int} (hn : RwIn n rs) (hM : Feas rs M) (hl : ∀ m, Feas rs m → ∀ k, M k ≤ m k) (ha : ∀ k, 0 ≤ a k) (h0 : a 0 = 0) (hb : ∀ k, b k ≤ M k) (R : Round rs a b) : offs M b n ≤ offs M a n - 1 := by
  have hsub : ∀ k ∈ List.range (n + 1), decide (b k ≠ M k) = true → decide (a k ≠ M k) = true := fun k _ h => by
    have h := of_decide_eq_true h
    have h1 := R.up k
    have h2 := hb k
    exact decide_eq_true (by omega)
  by_cases hz : ∃ k, k ≤ n ∧ a k ≠ M k
  · have : offs M b n < offs M a n := by
      refine countP_lt hsub ?_
      refine Classical.byContradiction fun hno => ?_
      have hno : ∀ k, k ≤ n → a k ≠ M k → b k ≠ M k := fun k hk h1 h2 => hno ⟨k, List.mem_range.mpr (by omega), decide_eq_true h1, decide_eq_false (by simpa using h2)⟩
      have F : Feas rs fun k => if k ≤ n ∧ a k ≠ M k then M k - 1 else M k := by
        refine ⟨?_, fun k => ?_, fun r hr => ?_⟩
        · rw [if_neg (fun h => h.2 (by rw [h0, hM.zero]))]
          exact hM.zero
        · by_cases h : k ≤ n ∧ a k ≠ M k
          · rw [if_pos h]
            have h1 := R.up k
            have h2 := hb k
            have h3 := ha k
            have h4 := h.2
            omega
          · rw [if_neg h]
            exact hM.nn k
        · obtain ⟨h1, h2⟩ := hn r hr
          have h3 := hM.rows r hr
          by_cases hk : a r.1 ≠ M r.1
          · by_cases hj : a r.2.1 ≠ M r.2.1
            · rw [if_pos ⟨h2, hj⟩, if_pos ⟨h1, hk⟩]
              omega
            · rw [if_neg (fun h => hj h.2), if_pos ⟨h1, hk⟩]
              have h4 := R.rows r hr
              have h5 := hb r.1
              have h6 := hno r.1 h1 hk
              have h7 : a r.2.1 = M r.2.1 := Classical.byContradiction fun h => hj h
              omega
          · by_cases hj : a r.2.1 ≠ M r.2.1
            · rw [if_pos ⟨h2, hj⟩, if_neg (fun h => hk h.2)]
              omega
            · rw [if_neg (fun h => hj h.2), if_neg (fun h => hk h.2)]
              exact h3
      obtain ⟨k, h1, h2⟩ := hz
      have := hl _ F k
      rw [if_pos ⟨h1, h2⟩] at this
      omega
    omega
  · have e : offs M b n = 0 := by
      unfold offs
      rw [List.countP_eq_zero]
      intro k hk h
      have h2 := of_decide_eq_true (hsub k hk h)
      exact hz ⟨k, by have := List.mem_range.mp hk; omega, h2⟩
    omega
theorem offs_zero {M m : Nat → Int} {n : Nat} (h : offs M m n = 0) : ∀ k, k ≤ n → m k = M k := fun k hk => by
  unfold offs at h
  rw [List.countP_eq_zero] at h
  have h2 := h k (List.mem_range.mpr (by omega))
  exact Classical.byContradiction fun e => h2 (decide_eq_true e)
/-! ### a round over a list of moments -/
theorem fn_set {m : List Int} {k j : Nat} {v : Int} (hk : k < m.length) : fn (m.set k v) j = if j = k then v else fn m j := by
  unfold fn
  rw [List.getD_eq_getElem?_getD, List.getD_eq_getElem?_getD, List.getElem?_set]
  by_cases h : j = k
  · subst h
    rw [if_pos rfl, if_pos rfl, if_pos hk]
    rfl
  · rw [if_neg (fun e => h e.symm), if_neg h]
/-- the state of the moments within the law's own search: a is the state at the begin of the round -/
structure Mid (rs : List Rw) (n : Nat) (a m : List Int) (i : Nat) : Prop where
  len : m.length = n + 1
  up : ∀ k, fn a k ≤ fn m k
  le : ∀ M, Feas rs M → ∀ k, fn m k ≤ M k
  rows : ∀ r ∈ rs.take i, fn a r.2.1 + r.2.2 ≤ fn m r.1
theorem Mid.step {rs : List Rw} {n : Nat} {a m : List Int} {i : Nat} {r : Rw} (h : Mid rs n a m i) (hr : rs[i]? = some r) (hn : RwIn n rs) :
    (fn m r.1 < fn m r.2.1 + r.2.2 → Mid rs n a (m.set r.1 (fn m r.2.1 + r.2.2)) (i + 1)) ∧ (¬ fn m r.1 < fn m r.2.1 + r.2.2 → Mid rs n a m (i + 1)) := by
  have hm : r ∈ rs := List.mem_of_getElem? hr
  obtain ⟨h1, h2⟩ := hn r hm
  have et : rs.take (i + 1) = rs.take i ++ [r] := by rw [List.take_add_one, hr]; rfl
  have hk : r.1 < m.length := by rw [h.len]; omega
  refine ⟨fun c => ⟨by rw [List.length_set]; exact h.len, fun k => ?_, fun M hM k => ?_, fun s hs => ?_⟩, fun c => ⟨h.len, h.up, h.le, fun s hs => ?_⟩⟩
  · rw [fn_set hk]
    by_cases e : k = r.1
    · rw [if_pos e, e]
      have := h.up r.1
      omega
    · rw [if_neg e]
      exact h.up k
  · rw [fn_set hk]
    by_cases e : k = r.1
    · rw [if_pos e, e]
      have h3 := hM.rows r hm
      have h4 := h.le M hM r.2.1
      omega
    · rw [if_neg e]
      exact h.le M hM k
  · rw [fn_set hk]
    rw [et] at hs
    rcases List.mem_append.mp hs with hs | hs
    · have h3 := h.rows s hs
      by_cases e : s.1 = r.1
      · rw [if_pos e]
        rw [e] at h3
        omega
      · rw [if_neg e]
        exact h3
    · rw [List.mem_singleton.mp hs, if_pos rfl]
      have := h.up r.2.1
      omega
  · rw [et] at hs
    rcases List.mem_append.mp hs with hs | hs
    · exact h.rows s hs
    · rw [List.mem_singleton.mp hs]
      have := h.up r.2.1
      omega
/-! ### the program's search: moments, causes, and what was raised last -/
structure SS where
  m : List Int
  c : List (Option Rw)
  r : Option Nat
def SS.step (s : SS) (w : Rw) : SS := if fn s.m w.1 < fn s.m w.2.1 + w.2.2 then ⟨s.m.set w.1 (fn s.m w.2.1 + w.2.2), s.c.set w.1 (some w), some w.1⟩ else s
def SS.pass (ws : List Rw) (s : SS) : SS := ws.foldl SS.step ⟨s.m, s.c, none⟩
def allRows (rs : List Rw) (n : Nat) : List Rw := rs ++ (List.range (n + 1)).map fun k => (k, 0, 0)
def SS.zero (n : Nat) : SS := ⟨List.replicate (n + 1) 0, List.replicate (n + 1) none, none⟩
structure Fold (ws : List Rw) (n : Nat) (s t : SS) : Prop where
  len : t.m.length = s.m.length
  clen : t.c.length = s.c.length
  up : ∀ k, fn s.m k ≤ fn t.m k
  rows : ∀ r ∈ ws, fn s.m r.2.1 + r.2.2 ≤ fn t.m r.1
  le : ∀ M : Nat → Int, (∀ r ∈ ws, M r.2.1 + r.2.2 ≤ M r.1) → (∀ k, fn s.m k ≤ M k) → ∀ k, fn t.m k ≤ M k
  stay : t.r = none → t.m = s.m ∧ s.r = none
  rin : ∀ k, t.r = some k → (s.r = some k ∨ k ≤ n)
theorem fold_ok {n : Nat} : ∀ {ws : List Rw} {s : SS}, RwIn n ws → s.m.length = n + 1 → Fold ws n s (ws.foldl SS.step s)
  | [], s, _, _ => ⟨rfl, rfl, fun _ => Int.le_refl _, (fun r hr => by cases hr), fun _ _ h => h, fun h => ⟨rfl, h⟩, fun k h => .inl h⟩
  | w :: ws, s, hn, hl => by
    obtain ⟨h1, h2⟩ := hn w List.mem_cons_self
    have hk : w.1 < s.m.length := by omega
    by_cases c : fn s.m w.1 < fn s.m w.2.1 + w.2.2
    · have e : s.step w = ⟨s.m.set w.1 (fn s.m w.2.1 + w.2.2), s.c.set w.1 (some w), some w.1⟩ := if_pos c
      have ih := fold_ok (ws := ws) (s := s.step w) (fun r hr => hn r (List.mem_cons_of_mem _ hr)) (by rw [e]; show (s.m.set _ _).length = _; rw [List.length_set]; exact hl)
      have up1 : ∀ k, fn s.m k ≤ fn (s.step w).m k := fun k => by
        rw [e]
        show _ ≤ fn (s.m.set _ _) k
        rw [fn_set hk]
        by_cases h : k = w.1
        · rw [if_pos h, h]
          omega
        · rw [if_neg h]
          exact Int.le_refl _
      have wv : fn (s.step w).m w.1 = fn s.m w.2.1 + w.2.2 := by
        rw [e]
        show fn (s.m.set _ _) _ = _
        rw [fn_set hk, if_pos rfl]
      refine ⟨?_, ?_, fun k => Int.le_trans (up1 k) (ih.up k), fun r hr => ?_, fun M hM hs k => ih.le M (fun r hr => hM r (List.mem_cons_of_mem _ hr)) (fun k => ?_) k, fun h => ?_, fun k h => ?_⟩
      · show (ws.foldl SS.step (s.step w)).m.length = _
        rw [ih.len, e]
        exact List.length_set
      · show (ws.foldl SS.step (s.step w)).c.length = _
        rw [ih.clen, e]
        exact List.length_set
      · rcases List.mem_cons.mp hr with hr | hr
        · rw [hr]
          have := ih.up w.1
          rw [wv] at this
          exact this
        · have h3 := ih.rows r hr
          have h4 := up1 r.2.1
          show _ ≤ fn (ws.foldl SS.step (s.step w)).m r.1
          omega
      · by_cases h : k = w.1
        · rw [h, wv]
          have h3 := hM w List.mem_cons_self
          have h4 := hs w.2.1
          omega
        · rw [e]
          show fn (s.m.set _ _) k ≤ _
          rw [fn_set hk, if_neg h]
          exact hs k
      · have h3 := (ih.stay h).2
        rw [e] at h3
        cases h3
      · rcases ih.rin k h with h | h
        · rw [e] at h
          injection h with h
          exact .inr (by omega)
        · exact .inr h
    · have e : s.step w = s := if_neg c
      have ih := fold_ok (ws := ws) (s := s) (fun r hr => hn r (List.mem_cons_of_mem _ hr)) hl
      have e2 : (w :: ws).foldl SS.step s = ws.foldl SS.step s := by rw [List.foldl_cons, e]
      rw [e2]
      refine ⟨ih.len, ih.clen, ih.up, fun r hr => ?_, fun M hM => ih.le M fun r hr => hM r (List.mem_cons_of_mem _ hr), ih.stay, ih.rin⟩
      rcases List.mem_cons.mp hr with hr | hr
      · rw [hr]
        have := ih.up w.1
        omega
      · exact ih.rows r hr
theorem allRows_in {rs : List Rw} {n : Nat} (h : RwIn n rs) : RwIn n (allRows rs n) := fun r hr => by
  rcases List.mem_append.mp hr with hr | hr
  · exact h r hr
  · obtain ⟨k, hk, rfl⟩ := List.mem_map.mp hr
    have := List.mem_range.mp hk
    exact ⟨by show k ≤ n; omega, Nat.zero_le _⟩
theorem Feas.all {rs : List Rw} {n : Nat} {M : Nat → Int} (h : Feas rs M) : ∀ r ∈ allRows rs n, M r.2.1 + r.2.2 ≤ M r.1 := fun r hr => by
  rcases List.mem_append.mp hr with hr | hr
  · exact h.rows r hr
  · obtain ⟨k, hk, rfl⟩ := List.mem_map.mp hr
    show M 0 + 0 ≤ M k
    have := h.zero
    have := h.nn k
    omega
structure Search (rs : List Rw) (n i : Nat) (s : SS) : Prop where
  len : s.m.length = n + 1
  clen : s.c.length = n + 1
  nn : ∀ k, 0 ≤ fn s.m k
  le : ∀ M, Feas rs M → ∀ k, fn s.m k ≤ M k
  off : ∀ M, Feas rs M → (∀ m, Feas rs m → ∀ k, M k ≤ m k) → offs M (fn s.m) n ≤ n - i
theorem Search.next {rs : List Rw} {n i : Nat} {s : SS} (h : Search rs n i s) (hn : RwIn n rs) : Fold (allRows rs n) n ⟨s.m, s.c, none⟩ (s.pass (allRows rs n)) ∧ Search rs n (i + 1) (s.pass (allRows rs n)) := by
  have F := fold_ok (s := ⟨s.m, s.c, none⟩) (allRows_in hn) h.len
  refine ⟨F, F.len.trans h.len, F.clen.trans h.clen, fun k => Int.le_trans (h.nn k) (F.up k), fun M hM => F.le M hM.all (h.le M hM), fun M hM hl => ?_⟩
  have h1 := offs_step (a := fn s.m) (b := fn (s.pass (allRows rs n)).m) hn hM hl h.nn (Int.le_antisymm (by have := h.le M hM 0; rw [hM.zero] at this; exact this) (h.nn 0)) (F.le M hM.all (h.le M hM)) ⟨F.up, fun r hr => F.rows r (List.mem_append_left _ hr)⟩
  have h2 := h.off M hM hl
  omega
theorem Search.done {rs : List Rw} {n i : Nat} {s : SS} (h : Search rs n i s) (hn : RwIn n rs) (hr : (s.pass (allRows rs n)).r = none) : LM rs n (some ((s.pass (allRows rs n)).m.drop 1)) := by
  obtain ⟨F, S⟩ := h.next hn
  have em : (s.pass (allRows rs n)).m = s.m := (F.stay hr).1
  have hrows : ∀ r ∈ allRows rs n, fn s.m r.2.1 + r.2.2 ≤ fn s.m r.1 := fun r hr => by
    have := F.rows r hr
    rw [em] at this
    exact this
  have hz : ∀ k, k ≤ n → fn s.m 0 ≤ fn s.m k := fun k hk => by
    have := hrows (k, 0, 0) (List.mem_append_right _ (List.mem_map.mpr ⟨k, List.mem_range.mpr (by omega), rfl⟩))
    have : fn s.m 0 + 0 ≤ fn s.m k := this
    omega
  have F0 : Feas rs fun k => if k ≤ n then fn s.m k - fn s.m 0 else 0 := by
    refine ⟨?_, fun k => ?_, fun r hr => ?_⟩
    · rw [if_pos (Nat.zero_le _)]
      omega
    · by_cases hk : k ≤ n
      · rw [if_pos hk]
        have := hz k hk
        omega
      · rw [if_neg hk]
        exact Int.le_refl _
    · obtain ⟨h1, h2⟩ := hn r hr
      rw [if_pos h2, if_pos h1]
      have := hrows r (List.mem_append_left _ hr)
      omega
  have h0 : fn s.m 0 = 0 := by
    have h1 := h.le _ F0 0
    rw [if_pos (Nat.zero_le _)] at h1
    have := h.nn 0
    omega
  obtain ⟨v, t, ht⟩ : ∃ v t, s.m = v :: t := by
    cases e : s.m with
    | nil =>
      have := h.len
      rw [e] at this
      cases this
    | cons v t => exact ⟨v, t, rfl⟩
  have hv : v = 0 := by
    rw [ht] at h0
    exact h0
  subst hv
  rw [em, ht]
  show Least rs n t
  have hl := h.len
  rw [ht, List.length_cons] at hl
  refine ⟨by omega, ⟨rfl, fun k => ?_, fun r hr => ?_⟩, fun m hm k => ?_⟩
  · rw [← ht]
    exact h.nn k
  · rw [← ht]
    exact hrows r (List.mem_append_left _ hr)
  · rw [← ht]
    exact h.le m hm k
theorem Search.never {rs : List Rw} {n i : Nat} {s : SS} (h : Search rs n i s) (hn : RwIn n rs) (hi : n ≤ i) (hr : (s.pass (allRows rs n)).r ≠ none) : LM rs n none := fun m0 h0 => by
  obtain ⟨M, hM, hl⟩ := least_of h0
  have hz := offs_zero (Nat.le_zero.mp (Nat.le_trans (h.off M hM hl) (by omega)))
  -- nothing is raised where all are at their least
  have key : ∀ ws : List Rw, (∀ r ∈ ws, r ∈ allRows rs n) → (ws.foldl SS.step ⟨s.m, s.c, none⟩) = ⟨s.m, s.c, none⟩ := by
    intro ws
    induction ws with
    | nil => intro _; rfl
    | cons w ws ih =>
      intro hw
      have h1 := hw w List.mem_cons_self
      have h2 := hM.all w h1
      obtain ⟨h3, h4⟩ := allRows_in hn w h1
      have e : SS.step ⟨s.m, s.c, none⟩ w = ⟨s.m, s.c, none⟩ := if_neg (by
        show ¬ fn s.m w.1 < fn s.m w.2.1 + w.2.2
        rw [hz _ h3, hz _ h4]
        omega)
      rw [List.foldl_cons, e]
      exact ih fun r hr => hw r (List.mem_cons_of_mem _ hr)
  refine hr ?_
  show ((allRows rs n).foldl SS.step ⟨s.m, s.c, none⟩).r = none
  rw [key _ fun _ h => h]
/-! ### the law's own search -/
structure Slow (rs : List Rw) (n i : Nat) (m : List Int) : Prop where
  len : m.length = n + 1
  zero : fn m 0 = 0
  nn : ∀ k, 0 ≤ fn m k
  le : ∀ M, Feas rs M → ∀ k, fn m k ≤ M k
  off : ∀ M, Feas rs M → (∀ m, Feas rs m → ∀ k, M k ≤ m k) → offs M (fn m) n ≤ n - i
  keep : n + 3 ≤ i → ∀ r ∈ rs, fn m r.2.1 + r.2.2 ≤ fn m r.1
theorem Slow.mid {rs : List Rw} {n i : Nat} {a : List Int} (h : Slow rs n i a) : Mid rs n a a 0 := ⟨h.len, fun _ => Int.le_refl _, h.le, fun r hr => by
  rw [List.take_zero] at hr
  cases hr⟩
theorem Slow.next {rs : List Rw} {n i : Nat} {a m : List Int} (hn : RwIn n rs) (h : Slow rs n i a) (M : Mid rs n a m rs.length) (h0 : fn m 0 = 0) (hs : n + 2 ≤ i → m = a) : Slow rs n (i + 1) m := by
  refine ⟨M.len, h0, fun k => Int.le_trans (h.nn k) (M.up k), M.le, fun W hW hl => ?_, fun hi r hr => ?_⟩
  · have h1 := offs_step (a := fn a) (b := fn m) hn hW hl h.nn h.zero (M.le W hW) ⟨M.up, fun r hr => M.rows r (by rw [List.take_length]; exact hr)⟩
    have h2 := h.off W hW hl
    omega
  · have e := hs (by omega)
    have h1 := M.rows r (by rw [List.take_length]; exact hr)
    rw [e] at h1 ⊢
    exact h1
theorem Slow.done {rs : List Rw} {n i : Nat} {m : List Int} (h : Slow rs n i m) (hi : n + 3 ≤ i) : LM rs n (some (m.drop 1)) := by
  obtain ⟨v, t, ht⟩ : ∃ v t, m = v :: t := by
    cases e : m with
    | nil =>
      have := h.len
      rw [e] at this
      cases this
    | cons v t => exact ⟨v, t, rfl⟩
  have hv : v = 0 := by
    have h0 := h.zero
    rw [ht] at h0
    exact h0
  subst hv
  have hl := h.len
  rw [ht, List.length_cons] at hl
  have h1 := h.nn
  have h2 := h.le
  have h3 := h.keep hi
  rw [ht] at h1 h2 h3 ⊢
  exact ⟨by show t.length = n; omega, ⟨rfl, h1, h3⟩, h2⟩
/-! ### a list or a tuple, by one word -/
def SqK (K : PySem.W.Frag) (kd : Bool) (H : Hp) (a : Addr) (xs : List V) : Prop := if kd = true then SqL K H a xs else SqT K H a xs
theorem SqK.l {K : PySem.W.Frag} {H : Hp} {a : Addr} {xs : List V} (h : SqL K H a xs) : SqK K true H a xs := h
theorem SqK.t {K : PySem.W.Frag} {H : Hp} {a : Addr} {xs : List V} (h : SqT K H a xs) : SqK K false H a xs := h
theorem SqK.ext {K : PySem.W.Frag} {kd : Bool} {T : List (Addr × Str)} {ms : List Addr} {H H' : Hp} {a : Addr} {xs : List V} (h : SqK K kd H a xs) (e : Ext T ms H H') (ha : a ∉ ms) : SqK K kd H' a xs := by
  cases kd with
  | true => exact e.seqL ha h
  | false => exact e.seqT ha h
theorem SqK.x {K : PySem.W.Frag} {kd : Bool} {T : List (Addr × Str)} {H H' : Hp} {a : Addr} {xs : List V} (h : SqK K kd H a xs) (e : Ext T [] H H') : SqK K kd H' a xs := h.ext e (by simp)
theorem SqK.or {K : PySem.W.Frag} {kd : Bool} {H : Hp} {a : Addr} {xs : List V} (h : SqK K kd H a xs) : SqT K H a xs ∨ SqL K H a xs := by
  cases kd with
  | true => exact .inr h
  | false => exact .inl h
/-- what is made later may change -/
theorem SqK.own {K : PySem.W.Frag} {kd : Bool} {T : List (Addr × Str)} {H H' : Hp} {a p : Addr} {xs : List V} (h : SqK K kd H a xs) (np : Nw H p) (e : Ext T [p] H H') : SqK K kd H' a xs := by
  have key : ∀ o, (∀ ps, o ≠ .tbl ps) → H a = some o → H' a = some o := fun o ho h1 => e.keep a o (by
    intro hm
    have := np.ne h1 ho
    simp at hm
    exact this hm) ho h1
  cases kd with
  | true =>
    rcases h with (h | ⟨o, h⟩) | h
    · exact .inl (.inl (key _ (fun _ z => by cases z) h))
    · exact .inl (.inr ⟨o, key _ (fun _ z => by cases z) h⟩)
    · exact .inr h
  | false =>
    rcases h with (h | ⟨o, h⟩) | h
    · exact .inl (.inl (key _ (fun _ z => by cases z) h))
    · exact .inl (.inr ⟨o, key _ (fun _ z => by cases z) h⟩)
    · exact .inr h
/-- data in a list or a tuple -/
def DsK (K : PySem.W.Frag) (kd : Bool) (H : Hp) (a : Addr) (ds : List PyData) : Prop := ∃ xs, SqK K kd H a xs ∧ ImAll H xs ds
theorem DsK.x {K : PySem.W.Frag} {kd : Bool} {T : List (Addr × Str)} {H H' : Hp} {a : Addr} {ds : List PyData} (h : DsK K kd H a ds) (e : Ext T [] H H') : DsK K kd H' a ds := by
  obtain ⟨xs, h1, h2⟩ := h
  exact ⟨xs, h1.x e, h2.x e⟩
section
variable {K : PySem.W.Frag} {σ : L2.St} {H : Hp} {Q : VK} {te : TE}
theorem rd_isnBl {a b : Bool} (q : Q (.bl (!decide (a = b))) H) : rIsNU (.bl a) (.bl b) H Q := .inl ⟨a, b, rfl, rfl, q⟩
end
/-! ### walked, whichever of the two it is -/
/-- over a range, data without drawing -/
theorem lcg_rangeD (T : List (Addr × Str)) {σ : L2.St} {H : Hp} {Q : VK} {te : TE} {n k : Nat} (f : Nat → PyData) (hn : n < sizeLine)
    (step : ∀ (i : Nat) H', i < n → Ext T [] H H' → ∀ R : VK, (∀ v H2, Ext T [] H' H2 → Im H2 v (f i) → R v H2) → te ((wipe σ [k]).set k (some (.int (0 + (i : Int))))) H' R)
    (q : ∀ D H2, Nw H D → Ext T [] H H2 → Ls H2 D ((List.range n).map f) → Q (.ref D) H2) : LcG (Itr 0 n) (gName k) tYes te [k] σ H Q := fun D hD => by
  refine lc_it walk_range (fun i H2 => Ext T [] H H2 ∧ ∃ ys, H2 D = some (.lst ys) ∧ ys.length = i ∧ ImAll H2 ys ((List.range i).map f)) ⟨.new hD, [], upd_same, rfl, .nil⟩ (fun _ _ _ _ => True.intro) (fun i x H1 H' hi h y => ?_) (fun H1 h => ?_)
  · obtain ⟨e1, e2⟩ := y
    subst e1
    subst e2
    obtain ⟨h1, ys, h3, h4, h5⟩ := h
    refine ⟨wipe1, step i H' hi h1 _ fun v H2 e hv => ?_⟩
    have h3' := lst.x h3 e
    refine ⟨ys, h3', by omega, (h1.trans e).own (.of hD) h3', ys ++ [v], upd_same, by rw [List.length_append, h4]; rfl, ?_⟩
    have eD : Ext T [D] H2 (upd H2 D (.lst (ys ++ [v]))) := Ext.mut (by simp) h3'
    have hLD : Lsts H2 [D] := fun b hb => ⟨ys, by rw [List.mem_singleton.mp hb]; exact h3'⟩
    rw [List.range_succ, List.map_append]
    exact (ImAll.ext eD hLD _ _ (h5.x e)).snoc (Im.ext eD hLD _ _ hv)
  · obtain ⟨h1, ys, h3, h4, h5⟩ := h
    exact q D H1 (.of hD) h1 ⟨ys, h3, h5⟩
/-! ### rows of three numbers -/
theorem Im.rw' {H : Hp} {v : V} {r : Rw} (h : Im H v (rwD r)) : ∃ a, v = .ref a ∧ SqP H a [.int (r.1 : Int), .int (r.2.1 : Int), .int r.2.2] := by
  obtain ⟨a, xs, rfl, h1, h2⟩ := Im.tup' h
  cases h2 with
  | cons a1 h2 =>
    cases h2 with
    | cons a2 h2 =>
      cases h2 with
      | cons a3 h2 =>
        cases h2
        rw [a1.int', a2.int', a3.int'] at h1
        exact ⟨a, rfl, h1⟩
theorem rw_new {H : Hp} {a : Addr} {r : Rw} (h : H a = some (.tup [.int (r.1 : Int), .int (r.2.1 : Int), .int r.2.2])) : Im H (.ref a) (rwD r) := .new3 (.int _) (.int _) (.int _) h
theorem rw_get {H : Hp} {xs : List V} {rs : List Rw} {i : Nat} {x : V} (h : ImAll H xs (rs.map rwD)) (hx : xs[i]? = some x) : ∃ r, rs[i]? = some r ∧ Im H x (rwD r) := by
  obtain ⟨d, h1, h2⟩ := h.get' hx
  rw [List.getElem?_map] at h1
  obtain ⟨r, h3, rfl⟩ := Option.map_eq_some_iff.mp h1
  exact ⟨r, h3, h2⟩
theorem rd_grow {K : PySem.W.Frag} {σ : L2.St} {H : Hp} {i j l : Nat} {v : V} {r : Rw} {Q : L2.St → Hp → Prop} (h : Im H v (rwD r)) (q : Q (((σ.set i (some (.int (r.1 : Int)))).set j (some (.int (r.2.1 : Int)))).set l (some (.int r.2.2))) H) :
    gTupU K 3 (gCons (gName i) (gCons (gName j) (gCons (gName l) gNil))) v σ H Q := by
  obtain ⟨a, rfl, h1⟩ := h.rw'
  exact rd_gtup (SqP.t h1) rfl (rd_gcons (rd_name (rd_gcons (rd_name (rd_gcons (rd_name (rd_gnil q)))))))
theorem at_fn {m : List Int} {k : Nat} (h : k < m.length) : atI (m.map V.int) (k : Int) = some (.int (fn m k)) := by
  refine atI_nat ?_
  rw [List.getElem?_map, List.getElem?_eq_getElem h]
  unfold fn
  rw [List.getD_eq_getElem?_getD, List.getElem?_eq_getElem h]
  rfl
theorem map_set {α β : Type} {f : α → β} (l : List α) (k : Nat) (v : α) : (l.map f).set k (f v) = (l.set k v).map f := by rw [List.map_set]
/-- one of a list written there, drawn -/
theorem rd_pickL {K : PySem.W.Frag} {T : List (Addr × Str)} {σ : L2.St} {H : Hp} {Q : VK} {xs : List V} {l t : Addr} {i : Nat} {m : Int} (hσ : σ[i]? = some (some (.ref t))) (hT : Tape l H t) (hl : (xs.length : Int) = m) (h0 : 0 < m) (h1 : m ≤ 1000)
    (q : ∀ c ∈ xs, ∀ H', Ext T [t] H H' → Tape l H' t → Q c H') :
    xs.length ≤ sizeLine ∧ ∀ p, H p = none → tCall (spTake T) [] E0 (tCons (tVar i) (tCons (tC (.int m)) tNil)) σ (upd H p (.lst xs)) fun y H2 => rIx K (.ref p) y H2 Q := by
  refine ⟨Nat.le_trans (show _ ≤ 1000 by omega) (by decide), fun p np => ?_⟩
  have e1 : Ext T [] H (upd H p (.lst xs)) := .new np
  have T1 := hT.ext e1
  have h2 : (upd H p (.lst xs)) p = some (.lst xs) := upd_same
  have hpt : p ≠ t := (hT.ne (.of np)).1
  generalize upd H p _ = H1 at e1 T1 h2 ⊢
  refine ⟨_, hσ, l, t, m, rfl, h0, by omega, T1, fun d H2 hd0 hd1 e2 T2 => ?_⟩
  obtain ⟨c, hc1, _, hc2⟩ := at_in (l := xs) hd0 (by omega)
  exact rd_ixL (SqL.of (e2.lst (by simpa using hpt) h2)) hc1 (q c hc2 H2 (e1.any.trans e2) T2)
theorem Ls.app {T : List (Addr × Str)} {H : Hp} {a : Addr} {xs : List V} {ds : List PyData} {v : V} {d : PyData} (ha : H a = some (.lst xs)) (hi : ImAll H xs ds) (hv : Im H v d) : Ls (upd H a (.lst (xs ++ [v]))) a (ds ++ [d]) ∧ Ext T [a] H (upd H a (.lst (xs ++ [v]))) := by
  have eD : Ext T [a] H (upd H a (.lst (xs ++ [v]))) := Ext.mut (by simp) ha
  have hLD : Lsts H [a] := fun b hb => ⟨xs, by rw [List.mem_singleton.mp hb]; exact ha⟩
  exact ⟨⟨_, upd_same, (ImAll.ext eD hLD _ _ hi).snoc (Im.ext eD hLD _ _ hv)⟩, eD⟩
/-! ### causes: where they lead -/
def cz (c : List (Option Rw)) (k : Nat) : Option Rw := c.getD k none
theorem cz_set {c : List (Option Rw)} {k j : Nat} {v : Option Rw} (hk : k < c.length) : cz (c.set k v) j = if j = k then v else cz c j := by
  unfold cz
  rw [List.getD_eq_getElem?_getD, List.getD_eq_getElem?_getD, List.getElem?_set]
  by_cases h : j = k
  · subst h
    rw [if_pos rfl, if_pos rfl, if_pos hk]
    rfl
  · rw [if_neg (fun e => h e.symm), if_neg h]
inductive Path (c : List (Option Rw)) : Nat → Nat → Nat → Int → Prop
  | nil (k : Nat) : Path c k k 0 0
  | cons {k j p : Nat} {L : Int} {r : Rw} : cz c k = some r → Path c r.2.1 j p L → Path c k j (p + 1) (r.2.2 + L)
structure Caus (ws : List Rw) (m : List Int) (c : List (Option Rw)) : Prop where
  own : ∀ k r, cz c k = some r → r.1 = k ∧ r ∈ ws ∧ fn m k ≤ fn m r.2.1 + r.2.2
  pos : ∀ k p L, Path c k k (p + 1) L → 0 < L
theorem Caus.path {ws : List Rw} {m : List Int} {c : List (Option Rw)} (h : Caus ws m c) : ∀ {k j p : Nat} {L : Int}, Path c k j p L → fn m k ≤ fn m j + L
  | _, _, _, _, .nil k => by omega
  | _, _, _, _, .cons h1 t => by
    have h2 := (h.own _ _ h1).2.2
    have h3 := Caus.path h t
    omega
theorem Caus.step {ws : List Rw} {m : List Int} {c : List (Option Rw)} {w : Rw} (h : Caus ws m c) (hw : w ∈ ws) (hm : w.1 < m.length) (hc : w.1 < c.length) (hlt : fn m w.1 < fn m w.2.1 + w.2.2) :
    Caus ws (m.set w.1 (fn m w.2.1 + w.2.2)) (c.set w.1 (some w)) := by
  have up : ∀ k, fn m k ≤ fn (m.set w.1 (fn m w.2.1 + w.2.2)) k := fun k => by
    rw [fn_set hm]
    by_cases e : k = w.1
    · rw [if_pos e, e]
      omega
    · rw [if_neg e]
      exact Int.le_refl _
  have key : ∀ {a b p : Nat} {L : Int}, Path (c.set w.1 (some w)) a b p L → fn m a < fn m b + L ∨ Path c a b p L := by
    intro a b p L hp
    induction hp with
    | nil k => exact .inr (.nil k)
    | @cons k j p L r h1 t ih =>
      have hle : fn m r.2.1 ≤ fn m j + L := by
        rcases ih with ih | ih
        · omega
        · exact h.path ih
      rw [cz_set hc] at h1
      by_cases e : k = w.1
      · rw [if_pos e] at h1
        injection h1 with h1
        subst h1
        rw [e]
        exact .inl (by omega)
      · rw [if_neg e] at h1
        have h2 := (h.own _ _ h1).2.2
        rcases ih with ih | ih
        · exact .inl (by omega)
        · exact .inr (.cons h1 ih)
  refine ⟨fun k r hr => ?_, fun k p L hp => ?_⟩
  · rw [cz_set hc] at hr
    by_cases e : k = w.1
    · rw [if_pos e] at hr
      injection hr with hr
      subst hr
      refine ⟨e.symm, hw, ?_⟩
      have := up w.2.1
      rw [e, fn_set hm, if_pos rfl]
      omega
    · rw [if_neg e] at hr
      obtain ⟨h1, h2, h3⟩ := h.own k r hr
      refine ⟨h1, h2, ?_⟩
      have := up r.2.1
      rw [fn_set hm, if_neg e]
      omega
  · rcases key hp with hp | hp
    · omega
    · exact h.pos k p L hp
/-! ### the way along the causes -/
def cs (c : List (Option Rw)) (k : Nat) : Rw := (cz c k).getD (0, 0, 0)
/-! ### rings -/
/-! ### the least of a list of data: one of its elements -/
/-! ### a slice that is the whole tuple: the tuple itself -/
namespace HTW
open PySem.W PySem.Calls HT
section
variable {prog : Program} {w : World} {A : Around} {E : Value → Shared → Prop} {s : Shared}
theorem tupleIsExact_ {t : Addr} {items : Array Value} {Q : Bool → Shared → Prop} (ht : IsTup s.heap t items) (h : Q true s) : wpAny (model prog w) A (Builtin.Tuple.tupleIsExact (.ref t)) Q E s := by
  obtain ⟨o, ho, hc, n, hd⟩ := id ht
  unfold Builtin.Tuple.tupleIsExact
  refine wpAny_bind (wpAny_typeOf ht.typeIs ?_)
  exact wpAny_pure h
theorem getItem_tuple_whole {t sl : Addr} {items : Array Value} {vl vu : Value} {lo hi : Option Int} {Q : Value → Shared → Prop} (ht : IsTup s.heap t items) (hs : s.heap.IsSliceOf sl vl vu .none) (pl : IsPart vl lo) (pu : IsPart vu hi)
    (hw : sIx items.size 0 lo = 0 ∧ sIx items.size items.size hi = items.size)
    (h : Q (.ref t) s) : wpAny (model prog w) A (getItem (.ref t) (.ref sl)) Q E s := by
  obtain ⟨os, hos, hcs, hds⟩ := id hs
  have hTs : s.TypeIs (.ref sl) "slice" := ⟨os, hos, hcs⟩
  unfold getItem
  try with_reducible refine wpAny_holding ?_
  first | refine wpAny_bind (wpAny_pure ?_) | skip
  refine wpAny_bind (wpAny_sequenceKey ht.typeIs (by decide) ?_)
  refine wpAny_bind (wpAny_callSpecial?_slot (name := Str.ofString "__getitem__") ht.typeIs PyProof.Rows.slot_tuple_getitem
    (wpAny_call_entry PyProof.Rows.slot_tuple_getitem ht.typeIs entry_tuple_getitem ?_ (args_tuple_getitem _ _)))
  show wpAny _ _ (Builtin.Tuple.tupleItemsOf (.ref t) >>= _) _ _ s
  refine wpAny_bind (tupleItemsOf_ ht ?_)
  refine wpAny_bind (wpAny_typeOf hTs ?_)
  rw [if_pos (by decide)]
  refine wpAny_bind (sliceApplied_gen hs pl pu ?_)
  have hyes : (((sIx items.size 0 lo : Nat) : Int) == 0 && (1 : Int) == 1 && (sIx items.size items.size hi - sIx items.size 0 lo) == items.size) = true := by
    rw [hw.1, hw.2]
    simp
  show wpAny _ _ (if (((sIx items.size 0 lo : Nat) : Int) == 0 && (1 : Int) == 1 && (sIx items.size items.size hi - sIx items.size 0 lo) == items.size) = true then _ else _) _ _ s
  rw [if_pos hyes]
  refine wpAny_bind (tupleIsExact_ ht ?_)
  rw [if_pos rfl]
  first
    | exact wpAny_bind (wpAny_rule (wpAny_bind (wpAny_pure (wpAny_pure ⟨_, rfl, wpAny_pure h⟩))))
    | exact wpAny_bind (wpAny_rule (wpAny_pure ⟨_, rfl, wpAny_pure h⟩))
    | exact wpAny_bind (wpAny_rule (wpAny_bind (wpAny_pure ⟨_, rfl, wpAny_pure h⟩)))
end
end HTW
section
def rSlW (K : PySem.W.Frag) : V → Option Int → Option Int → Hp → VK → Prop := fun x lo hi H Q => ∃ a xs, x = .ref a ∧ SqT K H a xs ∧ HT.sIx xs.length 0 lo = 0 ∧ HT.sIx xs.length xs.length hi = xs.length ∧ Q (.ref a) H
theorem sl_tupW {X : Cx} : SlR X (rSlW X.K) := by
  intro pins s σ H x v vl vu lo hi sl Q I rx hs pl pu h
  obtain ⟨a, xs, rfl, hx, hw1, hw2, q⟩ := h
  cases rx
  obtain ⟨its, r, ht, hz⟩ := I.tuple hx
  have hlen : its.toArray.size = xs.length := by rw [List.size_toArray]; exact r.length.symm
  refine ⟨"tuple", _, PyProof.Rows.slot_tuple_getitem.lookup, ht.typeIs, ?_⟩
  exact HTW.getItem_tuple_whole ht hs pl pu (by rw [hlen]; exact ⟨hw1, hw2⟩) ⟨.ref a, H, I, rfl, q⟩
def rSlU2 (K : PySem.W.Frag) : V → Option Int → Option Int → Hp → VK → Prop := fun x lo hi H Q => rSlU K x lo hi H Q ∨ rSlW K x lo hi H Q
theorem sl_U2 {X : Cx} (K : PySem.W.Frag) (hK : X.K = K) : SlR X (rSlU2 K) := by
  have h := sl_U (X := X) K hK
  subst hK
  exact h.or sl_tupW
end
/-! a caught exception with its own dict: isinstance, fields; defs that may raise -/
section
/-- what is more to be seen of such a class -/
structure ExcT (P : Program) (K : PySem.W.Frag) (mg : Str → Option Value) (nm fld : Str) (C fI : Addr) : Prop extends SupTxt P K mg nm fld C fI where
  ec : ExcC K C
/-! ### a def that may raise, found by its name -/
def OkX (P : Program) (w : World) (K : PySem.W.Frag) (mg : Str → Option Value) (base : Heap) (k : Nat) (x : Str) (ps : List Str) (sp : Sp) : Prop :=
  ∃ (f : Addr) (fd : FuncData), FnOk P w K mg base (L2.CX P w) k f fd ps sp ∧ mg x = some (.ref f) ∧ PySem.W.keepIn K (.ref f) = true ∧ Binds K fd ps []
section
variable {P : Program} {w : World} {K : PySem.W.Frag} {mg : Str → Option Value} {base : Heap}
theorem OkX.mono {j k : Nat} {x : Str} {ps : List Str} {sp : Sp} (h : OkX P w K mg base j x ps sp) (hk : j ≤ k) : OkX P w K mg base k x ps sp := by
  obtain ⟨f, fd, F, r⟩ := h
  exact ⟨f, fd, F.mono hk, r⟩
end
end
/-! ### tables of waits: words, numbers, promises -/
section
variable {X : Cx}
theorem pi_zipAU (K : PySem.W.Frag) (hK : X.K = K) {e e2 : Expr} {ta : TA} {p pos tpos : Pos} {elts : List Expr} {kk : Nat} (hg : Gl X "zip") (hm : X.mg "zip" = none) (ha : PA X [e, e2] ta)
    (h1 : starEach [e, e2] X.env = (false, eval e X.env) :: starEach [e2] X.env := by rfl) (h2 : (backTo pos (starEach [e2] X.env)).any (·.1) = false := by rfl) : PI X (.Tuple elts kk tpos) (.Call (.Name "zip" p) [e, e2] [] pos) (RZ.iZipA K ta) := by
  subst hK
  exact RZ.pi_zipA hg hm ha h1 h2
end
section
variable {K : PySem.W.Frag} {σ : L2.St} {H : Hp} {Q : VK} {te : TE}
theorem rd_zipA {ta : TA} {R : It → Hp → Prop} (q : ta σ H fun vs H1 => ∃ a b xs ys, vs = [V.ref a, V.ref b] ∧ ((SqL K H1 a xs ∧ SqL K H1 b ys ∧ R (Itz K a b) H1) ∨ (SqT K H1 a xs ∧ SqT K H1 b ys ∧ R (RZ.ItzT K a b) H1))) : RZ.iZipA K ta σ H R := q
theorem rd_slW {a : Addr} {xs : List V} {lo hi : Option Int} (h : SqT K H a xs) (h1 : HT.sIx xs.length 0 lo = 0) (h2 : HT.sIx xs.length xs.length hi = xs.length) (q : Q (.ref a) H) : rSlU2 K (.ref a) lo hi H Q := .inr ⟨a, xs, rfl, h, h1, h2, q⟩
theorem rd_slT2 {a : Addr} {xs : List V} {lo hi : Option Int} (h : SqT K H a xs) (hw : ¬ (HT.sIx xs.length 0 lo = 0 ∧ HT.sIx xs.length xs.length hi = xs.length)) (q : ∀ p, H p = none → Q (.ref p) (upd H p (.tup (cutV xs lo hi)))) : rSlU2 K (.ref a) lo hi H Q := .inl (rd_slT h hw q)
end
abbrev Bd := Int × Int
def bdD (b : Bd) : PyData := .tuple [.int b.1, .int b.2]
def BdOk (bs : List Bd) : Prop := ∀ b ∈ bs, 0 ≤ b.1 ∧ b.1 ≤ b.2 ∧ b.2 ≤ 1000
def TbLt (tb : List Rw) : Prop := ∀ r ∈ tb, r.2.1 < r.1
def askStep (done : List Int) (m : Int) (r : Rw) : Int := if r.1 = done.length + 1 then (if fn (0 :: done) r.2.1 + r.2.2 > m then fn (0 :: done) r.2.1 + r.2.2 else m) else m
def askF (tb : List Rw) (done : List Int) : Int := tb.foldl (askStep done) (fn (0 :: done) done.length + 1)
def runF (tb : List Rw) : List Int → List Int → List Int → List Int × List Int
  | asked, done, [] => (asked, done)
  | asked, done, d :: ds => runF tb (asked ++ [askF tb done]) (done ++ [askF tb done + d]) ds
def areD (bs : List Bd) (ds : List Int) : Bool := decide (ds.length = bs.length) && (List.range ds.length).all fun i => decide ((bs.getD i (0, 0)).1 ≤ ds.getD i 0) && decide (ds.getD i 0 ≤ (bs.getD i (0, 0)).2)
def runD (r : List Int × List Int) : PyData := .tuple [.tuple (r.1.map .int), .tuple (r.2.map .int)]
section
variable (T : List (Addr × Str)) (K : PySem.W.Frag)
def spFirst57 : Sp := fun vs H Q _ => ∃ (va : V) (b : Addr) (kd : Bool) (tb : List Rw) (done : List Int), vs = [va, .int ((done.length : Int) + 1), .ref b] ∧ Im H va (.tuple (tb.map rwD)) ∧ SqK K kd H b (done.map V.int) ∧ TbLt tb ∧ tb.length ≤ 100 ∧ done.length ≤ 100 ∧
  ∀ H', Ext T [] H H' → Q (.int (askF tb done)) H'
def spLawRun : Sp := fun vs H Q _ => ∃ (va : V) (b : Addr) (kd : Bool) (tb : List Rw) (ds : List Int), vs = [va, .ref b] ∧ Im H va (.tuple (tb.map rwD)) ∧ SqK K kd H b (ds.map V.int) ∧ TbLt tb ∧ tb.length ≤ 100 ∧ ds.length ≤ 50 ∧
  ∀ v H', Ext T [] H H' → Im H' v (runD (runF tb [] [] ds)) → Q v H'
def spBounds : Sp := fun vs H Q _ => ∃ (l t : Addr) (n : Nat) (w : Int), vs = [.ref t, .int (n : Int), .int w] ∧ n ≤ 6 ∧ 0 ≤ w ∧ w < 3 ∧ Tape l H t ∧
  ∀ v bs H', BdOk bs → bs.length = n → Im H' v (.tuple (bs.map bdD)) → Ext T [t] H H' → Tape l H' t → Q v H'
def spDelays : Sp := fun vs H Q _ => ∃ (l t : Addr) (vb : V) (bs : List Bd), vs = [.ref t, vb] ∧ Im H vb (.tuple (bs.map bdD)) ∧ BdOk bs ∧ bs.length ≤ 6 ∧ Tape l H t ∧
  ∀ v ds H', ds.length = bs.length → areD bs ds = true → Im H' v (.tuple (ds.map .int)) → Ext T [t] H H' → Tape l H' t → Q v H'
end
theorem imAll_int {H : Hp} : ∀ t : List Int, ImAll H (t.map V.int) (t.map PyData.int)
  | [] => .nil
  | z :: t => .cons (.int z) (imAll_int t)
theorem im_intsT {H : Hp} {a : Addr} {ds : List Int} (h : H a = some (.tup (ds.map V.int))) : Im H (.ref a) (.tuple (ds.map .int)) := .tup h (imAll_int ds)
theorem walk_zipT {K : PySem.W.Frag} {a b : Addr} {xs ys : List V} {n : Nat} (hn : n = min xs.length ys.length) : Walk (RZ.ItzT K a b) n (fun H => SqT K H a xs ∧ SqT K H b ys) (YPair (fun i => xs[i]?) (fun i => ys[i]?)) := by
  subst hn
  refine ⟨fun i _ hi q => ?_, fun _ q => ⟨xs, ys, q.1, q.2, by omega⟩, fun i H v H' _ q y => ?_⟩
  · have h1 : i < xs.length := by omega
    have h2 : i < ys.length := by omega
    exact ⟨xs, ys, xs[i], ys[i], q.1, q.2, by simp [h1], by simp [h2]⟩
  · obtain ⟨T, x, z, h1, h2, h3, h4, h5⟩ := y
    exact ⟨T, x, z, h1, h2, h3, h4 xs q.1, h5 ys q.2⟩
theorem bd_get {H : Hp} {xs : List V} {bs : List Bd} {i : Nat} {x : V} (h : ImAll H xs (bs.map bdD)) (hx : xs[i]? = some x) : ∃ b a, bs[i]? = some b ∧ x = .ref a ∧ SqP H a [.int b.1, .int b.2] ∧ Im H x (bdD b) := by
  obtain ⟨d, h1, h2⟩ := h.get' hx
  rw [List.getElem?_map] at h1
  obtain ⟨b, h3, rfl⟩ := Option.map_eq_some_iff.mp h1
  obtain ⟨a, u, v, rfl, h4, h5, h6⟩ := Im.pair' h2
  refine ⟨b, a, h3, rfl, ?_, h2⟩
  rw [h5.int', h6.int'] at h4
  exact h4
theorem getD_of {α : Type} {l : List α} {i : Nat} {x d : α} (h : l[i]? = some x) : l.getD i d = x := by
  rw [List.getD_eq_getElem?_getD, h]
  rfl
def DIn (bs : List Bd) (ds : List Int) : Prop := ∀ j, j < ds.length → (bs.getD j (0, 0)).1 ≤ ds.getD j 0 ∧ ds.getD j 0 ≤ (bs.getD j (0, 0)).2
theorem areD_iff {bs : List Bd} {ds : List Int} : areD bs ds = true ↔ ds.length = bs.length ∧ DIn bs ds := by
  unfold areD DIn
  rw [Bool.and_eq_true, decide_eq_true_eq, List.all_eq_true]
  constructor
  · rintro ⟨h1, h2⟩
    refine ⟨h1, fun j hj => ?_⟩
    have := h2 j (List.mem_range.mpr hj)
    rw [Bool.and_eq_true, decide_eq_true_eq, decide_eq_true_eq] at this
    exact this
  · rintro ⟨h1, h2⟩
    refine ⟨h1, fun j hj => ?_⟩
    rw [Bool.and_eq_true, decide_eq_true_eq, decide_eq_true_eq]
    exact h2 j (List.mem_range.mp hj)
theorem getD_app_lt {α : Type} {l : List α} {x d : α} {j : Nat} (h : j < l.length) : (l ++ [x]).getD j d = l.getD j d := by
  rw [List.getD_eq_getElem?_getD, List.getD_eq_getElem?_getD, List.getElem?_append_left h]
theorem getD_app_eq {α : Type} {l : List α} {x d : α} : (l ++ [x]).getD l.length d = x := by
  rw [List.getD_eq_getElem?_getD, List.getElem?_append_right (Nat.le_refl _)]
  simp
theorem DIn.snoc {bs : List Bd} {ds : List Int} {d : Int} (h : DIn bs ds) (h1 : (bs.getD ds.length (0, 0)).1 ≤ d) (h2 : d ≤ (bs.getD ds.length (0, 0)).2) : DIn bs (ds ++ [d]) := by
  intro j hj
  rw [List.length_append] at hj
  by_cases c : j < ds.length
  · rw [getD_app_lt c]
    exact h j c
  · have e : j = ds.length := by
      have : [d].length = 1 := rfl
      omega
    rw [e, getD_app_eq]
    exact ⟨h1, h2⟩
theorem rd_listK2 {K : PySem.W.Frag} {kd : Bool} {H : Hp} {Q : VK} {p : Addr} {ys : List V} (h : SqK K kd H p ys) (q : ∀ l, H l = none → Q (.ref l) (upd H l (.lst ys))) : rListOf K [.ref p] H Q := by
  cases kd with
  | true => exact rd_listL h q
  | false => exact rd_listT h q
theorem rd_rng2 {σ : L2.St} {H : Hp} {ta : TA} {R : It → Hp → Prop} (q : ta σ H fun vs H1 => ∃ i j : Int, vs = [.int i, .int j] ∧ (-(2 ^ 62) ≤ i ∧ i < 2 ^ 62 ∧ -(2 ^ 62) ≤ j ∧ j < 2 ^ 62) ∧ R (Itr i (j - i).toNat) H1) : iRng2 ta σ H R := q
open PySem.W (dataLt)
/-! ### tables out of rows: the numbers -/
/-! ### the two lists of waits -/
/-! ### both in order -/
theorem dT.x {T : List (Addr × Str)} {H H' : Hp} {a : Addr} {kvs : List (List L2.Key × V)} (h : H a = some (.dT kvs)) (e : Ext T [] H H') : H' a = some (.dT kvs) := e.keep a _ (by simp) (fun _ z => by cases z) h
/-- a comprehension over data, told item by item; its elements are plain values -/
theorem lcg_fv (T : List (Addr × Str)) {α : Type} (f : α → PyData) (g : α → V) (c : α → Bool) {σ : L2.St} {H : Hp} {Q : VK} {J : It} {n : Nat} {G : Hp → Prop} {Y : Nat → Hp → V → Hp → Prop} {gT : TG} {tt : TT} {te : TE} {vs : List Nat} (w : Walk J n G Y) {xs : List V} {as : List α} (hx : ImAll H xs (as.map f)) (hn : n = xs.length)
    (hY : ∀ i H x H', Y i H x H' → H' = H ∧ xs[i]? = some x) (hG : ∀ H', Ext T [] H H' → G H') (hl : as.length ≤ 100000)
    (step : ∀ (i : Nat) (a : α) (x : V), as[i]? = some a → ∀ H', Ext T [] H H' → Im H' x (f a) → ∀ (R : V → Hp → Prop) (S : Hp → Prop), (c a = true → ∀ H2, Ext T [] H' H2 → R (g a) H2) → (c a = false → ∀ H2, Ext T [] H' H2 → S H2) →
      gT x (wipe σ vs) H' fun σ2 H2 => wipe σ2 vs = wipe σ vs ∧ tt σ2 H2 fun b H3 => if b = true then te σ2 H3 R else S H3)
    (q : ∀ D H2, Nw H D → Ext T [] H H2 → H2 D = some (.lst ((as.filter c).map g)) → Q (.ref D) H2) : LcG J gT tt te vs σ H Q := fun D hD => by
  have hxl : xs.length = as.length := by rw [hx.len, List.length_map]
  refine lc_it w (fun i H2 => Ext T [] H H2 ∧ H2 D = some (.lst (((as.take i).filter c).map g))) ⟨.new hD, upd_same⟩ (fun i H2 _ h => hG H2 h.1) (fun i x H1 H' hi h y => ?_) (fun H1 h => ?_)
  · obtain ⟨e1, e2⟩ := hY i H1 x H' y
    subst e1
    obtain ⟨h1, h3⟩ := h
    obtain ⟨d, hd, hxd⟩ := hx.get' e2
    rw [List.getElem?_map] at hd
    obtain ⟨a, ha, rfl⟩ := Option.map_eq_some_iff.mp hd
    have et : as.take (i + 1) = as.take i ++ [a] := by rw [List.take_add_one, ha]; rfl
    refine step i a x ha H' h1 (Im.ext h1 Lsts.nil _ _ hxd) _ _ (fun hp H2 e => ?_) (fun hp H2 e => ?_)
    · have h5 := lst.x h3 e
      refine ⟨_, h5, ?_, (h1.trans e).own (.of hD) h5, ?_⟩
      · refine Nat.lt_of_le_of_lt ?_ (Nat.lt_of_le_of_lt hl (show (100000 : Nat) < sizeLine by decide))
        rw [List.length_map]
        exact Nat.le_trans (List.length_filter_le _ _) (by rw [List.length_take]; exact Nat.min_le_right _ _)
      · rw [et, List.filter_append, List.filter_cons_of_pos hp, List.map_append]
        exact upd_same
    · refine ⟨h1.trans e, ?_⟩
      rw [et, List.filter_append, List.filter_cons_of_neg (by rw [hp]; decide), List.filter_nil, List.append_nil]
      exact lst.x h3 e
  · obtain ⟨h1, h3⟩ := h
    rw [hn, hxl, List.take_length] at h3
    exact q D H1 (.of hD) h1 h3
/-! own classes: methods that may raise, called under a try -/
/-! ### an own class: made, its fields, its methods -/
/-! own classes: made under a try; methods where nothing is raised -/
/-! match: patterns of lists of texts -/
/-! ### the cases -/
/-! enumerate(list, start=1) -/
abbrev S (l : List Nat) : Str := ⟨l.toArray⟩
/-! the text of a book: lines of entries -/
abbrev Ent := Str × Nat × Nat
def askedS : Str := "asked"
def doneS : Str := "done"
def lastM (es : List Ent) : Nat := match es.getLast? with | none => 0 | some e => e.2.2
def lastK (es : List Ent) : Nat := match es.getLast? with | none => 0 | some e => e.2.1
def isEntV (es : List Ent) (e : Ent) : Bool :=
  if es.length % 2 = 0 then decide (e.1 = askedS) && (decide (lastM es < e.2.2) && decide (e.2.1 = es.length / 2 + 1))
  else decide (e.1 = doneS) && (decide (lastM es ≤ e.2.2) && decide (e.2.1 = lastK es))
def lineP (e : Ent) : List (List Nat) := [sg e.1, TL.numL e.2.1, TL.numL e.2.2]
def lineL (e : Ent) : List Nat := TL.joinL [32] (lineP e)
/-! numbers -/
theorem num_free {n s : Nat} (h : s < 48 ∨ 57 < s) : s ∉ TL.numL n := TL.numL_free h
/-! an entry's line -/
def freeP (ps : List (List Nat)) : Prop := ∀ p ∈ ps, 32 ∉ p ∧ 10 ∉ p
theorem join_free : ∀ {ps : List (List Nat)}, freeP ps → 10 ∉ TL.joinL [32] ps
  | [], _ => by simp [TL.joinL]
  | [p], h => (h p List.mem_cons_self).2
  | p :: q :: r, h => by
    show 10 ∉ p ++ ([32] ++ TL.joinL [32] (q :: r))
    have ih := join_free (ps := q :: r) fun x hx => h x (List.mem_cons_of_mem _ hx)
    intro hx
    rcases List.mem_append.mp hx with hx | hx
    · exact (h p List.mem_cons_self).2 hx
    · rcases List.mem_append.mp hx with hx | hx
      · simp at hx
      · exact ih hx
def EntOk (e : Ent) : Prop := (e.1 = askedS ∨ e.1 = doneS) ∧ e.2.1 < 100000 ∧ e.2.2 < 100000
theorem word_free {a : Str} (h : a = askedS ∨ a = doneS) : 32 ∉ sg a ∧ 10 ∉ sg a := by
  rcases h with rfl | rfl <;> decide +kernel
theorem line_free {e : Ent} (h : EntOk e) : freeP (lineP e) := fun p hp => by
  rcases List.mem_cons.mp hp with rfl | hp
  · exact word_free h.1
  rcases List.mem_cons.mp hp with rfl | hp
  · exact ⟨num_free (.inl (by decide)), num_free (.inl (by decide))⟩
  rw [List.mem_singleton.mp hp]
  exact ⟨num_free (.inl (by decide)), num_free (.inl (by decide))⟩
/-- a history that a book may hold -/
def Good (es : List Ent) : Prop := ∀ i e, es[i]? = some e → EntOk e ∧ isEntV (es.take i) e = true
theorem Good.take {es : List Ent} (h : Good es) (n : Nat) : Good (es.take n) := fun i e hi => by
  have hl : i < (es.take n).length := (List.getElem?_eq_some_iff.mp hi).1
  rw [List.length_take] at hl
  rw [List.getElem?_take_of_lt (by omega)] at hi
  have := h i e hi
  rw [List.take_take, Nat.min_eq_left (by omega)]
  exact this
theorem Good.free {es : List Ent} (h : Good es) : ∀ l ∈ es.map lineL, 10 ∉ l := fun l hl => by
  obtain ⟨e, he, rfl⟩ := List.mem_map.mp hl
  obtain ⟨i, hi⟩ := List.getElem?_of_mem he
  exact join_free (line_free (h i e hi).1)
/-! lines that are no entry -/
/-! texts made of parts -/
/-! texts of words: numbers, lists of ids, slots, items, events -/
/-! ### slots, items, events -/
open PySem.W (alike)
/-! ### data of any form: of which type it is, which is less -/
section
variable {X : Cx}
def rLtD (K : PySem.W.Frag) : R2 := fun x y H Q => ∃ d e, Dp K H x d ∧ Dp K H y e ∧ alike d e = true ∧ d ≠ .none ∧ d.depth ≤ 64 ∧ Q (.bl (dataLt d e)) H
theorem op_ltD0 (hu : X.A.units + 65 < cLine) : OpR X (compareOp .Lt) (rLtD X.K) := by
  intro pins s σ H x y v u Q I rx ry h
  obtain ⟨d, e, hd, he, ha, hn, hl, q⟩ := h
  obtain ⟨as, r1⟩ := Dp.reads I d x v hd rx
  obtain ⟨bs, r2⟩ := Dp.reads I e y u he ry
  have h2 : min d.depth e.depth ≤ d.depth := Nat.min_le_left _ _
  exact PySem.W.lt_data r1 r2 ha hn (by omega) ⟨.bl _, H, I, rfl, q⟩
theorem op_ltD (K : PySem.W.Frag) (hK : X.K = K) (hu : X.A.units + 65 < cLine) : OpR X (compareOp .Lt) (rLtD K) := by
  subst hK
  exact op_ltD0 hu
end
section
variable {K : PySem.W.Frag} {H : Hp} {Q : VK}
theorem rd_ltD {v u : V} {d e : PyData} (h1 : Im H v d) (h2 : Im H u e) (ha : alike d e = true) (hn : d ≠ .none) (hl : d.depth ≤ 64) (q : Q (.bl (dataLt d e)) H) : rLtD K v u H Q := ⟨d, e, h1.dp, h2.dp, ha, hn, hl, q⟩
def tyN : PyData → String
  | .none => "NoneType"
  | .bool _ => "bool"
  | .int _ => "int"
  | .str _ => "str"
  | .list _ => "list"
  | .dict _ => "dict"
  | .tuple _ => "tuple"
theorem Im.ty {v : V} {d : PyData} (h : Im H v d) : TyX K H v (.type (tyN d)) := by
  cases h with
  | non => exact .base .non
  | int i => exact .base (.int i)
  | str x _ => exact .base (.str x)
  | tup h1 _ => exact .base (.tup h1)
  | tupF h1 _ _ => exact .fTuple h1
theorem Im.cases4 {v : V} {d : PyData} (h : Im H v d) : d = .none ∨ (∃ i, d = .int i) ∨ (∃ z, d = .str z) ∨ ∃ ds, d = .tuple ds := by
  cases h with
  | non => exact .inl rfl
  | int i => exact .inr (.inl ⟨i, rfl⟩)
  | str x _ => exact .inr (.inr (.inl ⟨x, rfl⟩))
  | tup h1 _ => exact .inr (.inr (.inr ⟨_, rfl⟩))
  | tupF h1 _ _ => exact .inr (.inr (.inr ⟨_, rfl⟩))
def isTup : PyData → Bool
  | .tuple _ => true
  | _ => false
def isInt : PyData → Bool
  | .int _ => true
  | _ => false
def isStr : PyData → Bool
  | .str _ => true
  | _ => false
theorem rd_isTupD {v : V} {d : PyData} (h : Im H v d) (q : Q (.bl (isTup d)) H) : rIsi K [v, .ty "tuple"] H Q := by
  refine ⟨_, _, _, _, isTup d, rfl, .ty _, h.ty, ?_, q⟩
  rcases h.cases4 with rfl | ⟨i, rfl⟩ | ⟨z, rfl⟩ | ⟨ds, rfl⟩
  · exact kit_ty (show kitB "NoneType" "tuple" = some false by decide +kernel)
  · exact kit_ty (show kitB "int" "tuple" = some false by decide +kernel)
  · exact kit_ty (show kitB "str" "tuple" = some false by decide +kernel)
  · exact kit_ty (show kitB "tuple" "tuple" = some true by decide +kernel)
theorem rd_isIntD {v : V} {d : PyData} (h : Im H v d) (q : Q (.bl (isInt d)) H) : rIsi K [v, .ty "int"] H Q := by
  refine ⟨_, _, _, _, isInt d, rfl, .ty _, h.ty, ?_, q⟩
  rcases h.cases4 with rfl | ⟨i, rfl⟩ | ⟨z, rfl⟩ | ⟨ds, rfl⟩
  · exact kit_ty (show kitB "NoneType" "int" = some false by decide +kernel)
  · exact kit_ty (show kitB "int" "int" = some true by decide +kernel)
  · exact kit_ty (show kitB "str" "int" = some false by decide +kernel)
  · exact kit_ty (show kitB "tuple" "int" = some false by decide +kernel)
theorem rd_isStrD {v : V} {d : PyData} (h : Im H v d) (q : Q (.bl (isStr d)) H) : rIsi K [v, .ty "str"] H Q := by
  refine ⟨_, _, _, _, isStr d, rfl, .ty _, h.ty, ?_, q⟩
  rcases h.cases4 with rfl | ⟨i, rfl⟩ | ⟨z, rfl⟩ | ⟨ds, rfl⟩
  · exact kit_ty (show kitB "NoneType" "str" = some false by decide +kernel)
  · exact kit_ty (show kitB "int" "str" = some false by decide +kernel)
  · exact kit_ty (show kitB "str" "str" = some true by decide +kernel)
  · exact kit_ty (show kitB "tuple" "str" = some false by decide +kernel)
theorem rd_isBlI {i : Int} (q : Q (.bl false) H) : rIsi K [.int i, .ty "bool"] H Q := ⟨_, _, _, _, false, rfl, .ty _, .base (.int i), kit_ty (by decide +kernel), q⟩
end
/-! ### the forms, as functions of data -/
mutual
/-- no text longer than a thousand signs, no tuple longer than a thousand -/
def Sm : PyData → Prop
  | .none => True
  | .bool _ => True
  | .int _ => True
  | .str z => z.length ≤ 1000
  | .list _ => True
  | .dict _ => True
  | .tuple ds => ds.length ≤ 1000 ∧ SmAll ds
def SmAll : List PyData → Prop
  | [] => True
  | d :: ds => Sm d ∧ SmAll ds
end
theorem smAll_iff : ∀ {ds : List PyData}, SmAll ds ↔ ∀ d ∈ ds, Sm d
  | [] => ⟨fun _ d h => (by cases h), fun _ => trivial⟩
  | e :: ds => by
    show Sm e ∧ SmAll ds ↔ _
    rw [smAll_iff (ds := ds)]
    exact ⟨fun h d hd => by
      rcases List.mem_cons.mp hd with e | hd
      · rw [e]; exact h.1
      · exact h.2 d hd, fun h => ⟨h e List.mem_cons_self, fun d hd => h d (List.mem_cons_of_mem _ hd)⟩⟩
theorem sm_tup {ds : List PyData} : Sm (.tuple ds) ↔ ds.length ≤ 1000 ∧ ∀ d ∈ ds, Sm d := by
  show ds.length ≤ 1000 ∧ SmAll ds ↔ _
  rw [smAll_iff]
def wordD (ls : Str) (m : Int) : PyData → Bool
  | .str z => wordB z ls m
  | _ => false
def idD : PyData → Bool
  | .str z => idB z
  | _ => false
def intB (lo hi : Int) : PyData → Bool
  | .int i => decide (lo ≤ i) && decide (i ≤ hi)
  | _ => false
def tupB (lo hi : Int) : PyData → Bool
  | .tuple ds => decide (lo ≤ (ds.length : Int)) && decide ((ds.length : Int) ≤ hi)
  | _ => false
theorem tupB_some {lo hi : Int} {d : PyData} (h : tupB lo hi d = true) : ∃ ds, d = .tuple ds ∧ lo ≤ (ds.length : Int) ∧ (ds.length : Int) ≤ hi := by
  cases d with
  | tuple ds =>
    have h : (decide (lo ≤ (ds.length : Int)) && decide ((ds.length : Int) ≤ hi)) = true := h
    rw [Bool.and_eq_true, decide_eq_true_eq, decide_eq_true_eq] at h
    exact ⟨ds, rfl, h.1, h.2⟩
  | none => cases h
  | bool _ => cases h
  | int _ => cases h
  | str _ => cases h
  | list _ => cases h
  | dict _ => cases h
/-- each is less than the next -/
def ascD : List PyData → Bool
  | [] => true
  | a :: r => match r with
    | [] => true
    | b :: _ => dataLt a b && ascD r
theorem ascD_cons (a b : PyData) (r : List PyData) : ascD (a :: b :: r) = (dataLt a b && ascD (b :: r)) := rfl
/-- the tests of neighbours, one by one -/
def ltAt (ds : List PyData) (i : Nat) : Bool := match ds[i]?, ds[i + 1]? with
  | some a, some b => dataLt a b
  | _, _ => true
theorem ascD_at : ∀ (ds : List PyData), ascD ds = (List.range (ds.length - 1)).all (ltAt ds)
  | [] => rfl
  | [a] => rfl
  | a :: b :: r => by
    have ih := ascD_at (b :: r)
    rw [ascD_cons, ih, show (a :: b :: r).length - 1 = ((b :: r).length - 1) + 1 by simp, List.range_succ_eq_map, List.all_cons, List.all_map]
    rfl
/-- data of one kind: texts, or pairs of texts -/
def Alike1 (ds : List PyData) : Prop := ∀ d ∈ ds, ∀ e ∈ ds, alike d e = true ∧ d ≠ .none ∧ d.depth ≤ 60
theorem alike_s1 (l : List Str) : Alike1 (l.map PyData.str) := fun d hd e he => by
  obtain ⟨y, _, rfl⟩ := List.mem_map.mp hd
  obtain ⟨z, _, rfl⟩ := List.mem_map.mp he
  exact ⟨rfl, (by intro h; cases h), show 0 ≤ 60 by decide⟩
theorem id_str {d : PyData} (h : idD d = true) : ∃ z, d = .str z ∧ idB z = true := by
  cases d with
  | str z => exact ⟨z, rfl, h⟩
  | none => cases h
  | bool _ => cases h
  | int _ => cases h
  | tuple _ => cases h
  | list _ => cases h
  | dict _ => cases h
theorem ids_strs : ∀ {ds : List PyData}, ds.all idD = true → ∃ zs : List Str, ds = zs.map .str ∧ ∀ z ∈ zs, idB z = true
  | [], _ => ⟨[], rfl, by simp⟩
  | d :: ds, h => by
    rw [List.all_cons, Bool.and_eq_true] at h
    obtain ⟨zs, e, h2⟩ := ids_strs h.2
    obtain ⟨z, rfl, hz⟩ := id_str h.1
    refine ⟨z :: zs, by rw [e]; rfl, fun y hy => ?_⟩
    rcases List.mem_cons.mp hy with e | hy
    · rw [e]; exact hz
    · exact h2 y hy
/-- over two lists or two tuples, the elements told by their places -/
theorem lcg_zipG (T : List (Addr × Str)) {J : It} {n : Nat} {G : Hp → Prop} {σ : L2.St} {H : Hp} {Q : VK} {g : TG} {te : TE} {vs : List Nat} {xs ys : List V} (w : Walk J n G (YPair (fun i => xs[i]?) (fun i => ys[i]?))) (hG : ∀ H', Ext T [] H H' → G H') (hs : n < sizeLine) (f : Nat → V)
    (step : ∀ (i : Nat) (x y : V) (t : Addr), xs[i]? = some x → ys[i]? = some y → ∀ H', Ext T [] H H' → H' t = some (.tup [x, y]) → ∀ R : VK, (∀ H2, Ext T [] H' H2 → R (f i) H2) → g (.ref t) (wipe σ vs) H' fun σ2 H2 => wipe σ2 vs = wipe σ vs ∧ tYes σ2 H2 fun b H3 => if b = true then te σ2 H3 R else True)
    (q : ∀ D H2, Nw H D → Ext T [] H H2 → H2 D = some (.lst ((List.range n).map f)) → Q (.ref D) H2) : LcG J g tYes te vs σ H Q := fun D hD => by
  refine lc_it w (fun i H2 => Ext T [] H H2 ∧ H2 D = some (.lst ((List.range i).map f))) ⟨.new hD, upd_same⟩ (fun i H2 _ h => hG H2 h.1) (fun i x H1 H' hi h y => ?_) (fun H1 h => ?_)
  · obtain ⟨t, u, v, rfl, nt, rfl, hu, hv⟩ := y
    obtain ⟨e1, e2⟩ := h
    obtain ⟨nt2, e3, ht⟩ := alT (T := T) nt [u, v]
    generalize upd H1 t _ = H' at e3 ht ⊢
    have h3 := step i u v t hu hv H' (e1.trans e3) ht
    have hD2 := lst.x e2 e3
    have h4 := h3 (fun y H4 => ∃ acc, H4 D = some (.lst acc) ∧ acc.length < sizeLine ∧ (Ext T [] H (upd H4 D (.lst (acc ++ [y]))) ∧ (upd H4 D (.lst (acc ++ [y]))) D = some (.lst ((List.range (i + 1)).map f)))) (fun H2 e4 => by
      have hD3 := lst.x hD2 e4
      refine ⟨_, hD3, ?_, ((e1.trans e3).trans e4).own (.of hD) hD3, ?_⟩
      · rw [List.length_map, List.length_range]
        omega
      · rw [upd_same, List.range_succ, List.map_append]
        rfl)
    exact h4
  · exact q D H1 (.of hD) h.1 h.2
/-! ### forms over data -/
def els : PyData → List PyData
  | .tuple ds => ds
  | _ => []
def idsD (lo hi : Int) (d : PyData) : Bool := tupB lo hi d && ((els d).all idD && ascD (els d))
theorem int_some {lo hi : Int} {d : PyData} (h : intB lo hi d = true) : ∃ i, d = .int i ∧ lo ≤ i ∧ i ≤ hi := by
  cases d with
  | int i =>
    have h : (decide (lo ≤ i) && decide (i ≤ hi)) = true := h
    rw [Bool.and_eq_true, decide_eq_true_eq, decide_eq_true_eq] at h
    exact ⟨i, rfl, h.1, h.2⟩
  | none => cases h
  | bool _ => cases h
  | str _ => cases h
  | tuple _ => cases h
  | list _ => cases h
  | dict _ => cases h
theorem all_some {α : Type} {f : PyData → Bool} {g : α → PyData} {p : α → Prop} (h : ∀ d, f d = true → ∃ r, d = g r ∧ p r) : ∀ {ds : List PyData}, ds.all f = true → ∃ l : List α, ds = l.map g ∧ ∀ r ∈ l, p r
  | [], _ => ⟨[], rfl, fun _ h => by cases h⟩
  | d :: ds, ha => by
    rw [List.all_cons, Bool.and_eq_true] at ha
    obtain ⟨r, e, hr⟩ := h d ha.1
    obtain ⟨l, e2, hl⟩ := all_some h ha.2
    exact ⟨r :: l, by rw [e, e2]; rfl, fun r' hr' => by
      rcases List.mem_cons.mp hr' with rfl | hr'
      · exact hr
      · exact hl r' hr'⟩
/-- an item, of a slot that is hosts' or not -/
def fromB : PyData → PyData → Bool
  | .int a, b => intB a 10000 b
  | _, _ => false
def bareB (g a b : PyData) : Bool := match g, a, b with
  | .tuple [], .int x, .int y => decide (x = 0) && decide (y = 10000)
  | _, _, _ => false
def itemD (hosts : Bool) : PyData → Bool
  | .tuple [c, l, g, a, b] => idsD 0 4 c && (intB 1 1000 l && (idsD 0 3 g && (intB 0 10000 a && (fromB a b && (!hosts || bareB g a b)))))
  | _ => false
theorem Im.sok {H : Hp} {v : V} {z : Str} (h : Im H v (.str z)) : PyData.strOk z = true := by
  cases h with
  | str _ q => exact q
/-! ### the stretches in which a server is off -/
/-! ### lost keys, items that were published, keys that are known -/
theorem fp2 {m : Int} {a : Int × Itm} {l : List (Int × Itm)} (h : a.1 ≤ m) : List.filter (fun r : Int × Itm => decide (r.1 ≤ m)) (a :: l) = a :: List.filter (fun r : Int × Itm => decide (r.1 ≤ m)) l := List.filter_cons_of_pos (decide_eq_true h)
/-! ### the form of lost keys -/
def two : PyData → PyData
  | .tuple (a :: b :: _) => .tuple [a, b]
  | d => d
/-! ### texts, pairs and triples in their order -/
abbrev sLt (x y : Str) : Prop := sg x < sg y
theorem sLt_tri {x y : Str} (h1 : ¬ sLt y x) (h2 : x ≠ y) : sLt x y := by
  rcases List.le_iff_lt_or_eq.mp (List.not_lt.mp h1) with h | h
  · exact h
  · exact absurd (sg_inj h) h2
theorem sLt_tri3 (x y : Str) : sLt x y ∨ x = y ∨ sLt y x := by
  by_cases h : sLt y x
  · exact .inr (.inr h)
  · by_cases e : x = y
    · exact .inr (.inl e)
    · exact .inl (sLt_tri h e)
theorem sLt_irr (x : Str) : ¬ sLt x x := List.lt_irrefl _
theorem sLt_tr {x y z : Str} (h1 : sLt x y) (h2 : sLt y z) : sLt x z := List.lt_trans h1 h2
theorem eqv_int (x y : Int) : PyData.eqv (.int x) (.int y) = decide (x = y) := by
  show (x == y) = _
  by_cases h : x = y
  · rw [h]
    simp
  · rw [decide_eq_false h]
    exact beq_false_of_ne h
theorem lt_s {x y : Str} : dataLt (.str x) (.str y) = true ↔ sLt x y := by
  rw [dataLt_str, decide_eq_true_eq]
/-- sorting by «not less the other way» -/
theorem sorted_of {α : Type} {f : α → PyData} {L : α → α → Prop} (hL : ∀ a b, dataLt (f a) (f b) = true ↔ L a b) (ir : ∀ a, ¬ L a a) (tr : ∀ a b c, L a b → L b c → L a c) (tri : ∀ a b, L a b ∨ a = b ∨ L b a) (l : List α) :
    (l.mergeSort fun a b => dataLe false id (f a) (f b)).Pairwise fun a b => ¬ L b a := by
  have hle : ∀ a b, dataLe false id (f a) (f b) = true ↔ ¬ L b a := fun a b => by
    rw [← hL b a, PySem.W.dataLe_eq]
    show (!dataLt (f b) (f a)) = true ↔ _
    cases dataLt (f b) (f a) <;> simp
  have h := List.pairwise_mergeSort (le := fun a b => dataLe false id (f a) (f b)) (fun a b c h1 h2 => by
    rw [hle] at *
    intro h3
    rcases tri a b with h | h | h
    · exact h2 (tr _ _ _ h3 h)
    · subst h
      exact h2 h3
    · exact h1 h) (fun a b => by
    rw [Bool.or_eq_true, hle, hle]
    by_cases h : L b a
    · exact .inr fun h2 => ir _ (tr _ _ _ h h2)
    · exact .inl h) l
  exact h.imp fun {a b} h => (hle a b).mp h
/-- a list told by its pairs in strict order ascends -/
theorem ascD_of {α : Type} {f : α → PyData} : ∀ {l : List α}, l.Pairwise (fun a b => dataLt (f a) (f b) = true) → ascD (l.map f) = true
  | [], _ => rfl
  | [a], _ => rfl
  | a :: b :: r, h => by
    have h1 := List.pairwise_cons.mp h
    show ascD (f a :: f b :: r.map f) = true
    rw [ascD_cons, h1.1 b List.mem_cons_self, Bool.true_and]
    exact ascD_of (l := b :: r) h1.2
/-! ### a drawn realm has the form -/
theorem pair_srtS {l : List Str} (hn : l.Nodup) : (srtS l).Pairwise fun a b => dataLt (.str a) (.str b) = true := by
  have h1 := sorted_of (f := PyData.str) (fun a b => lt_s) sLt_irr (fun _ _ _ => sLt_tr) sLt_tri3 l
  have h2 : (srtS l).Nodup := (srtS_perm l).nodup_iff.mpr hn
  refine (List.pairwise_and_iff.mpr ⟨h1, h2⟩).imp fun {a b} h => ?_
  rw [lt_s]
  rcases sLt_tri3 a b with g | g | g
  · exact g
  · exact absurd g h.2
  · exact absurd g h.1
theorem asc_srtS {l : List Str} (hn : l.Nodup) : ascD ((srtS l).map .str) = true := ascD_of (pair_srtS hn)
/-! ### a label that no name ends with -/
/-! ### realms out of form -/
/-! ### they are small -/
theorem sn_tup {ds : List PyData} {k : Nat} (hl : ds.length ≤ 1000) (hk : k + 1 ≤ 40) (h : ∀ d ∈ ds, Sm d ∧ d.depth ≤ k) : Sm (.tuple ds) ∧ PyData.depth (.tuple ds) ≤ k + 1 := by
  refine ⟨sm_tup.mpr ⟨hl, fun d hd => (h d hd).1⟩, ?_⟩
  show PyData.depthAll ds + 1 ≤ k + 1
  have key : ∀ ds : List PyData, (∀ d ∈ ds, d.depth ≤ k) → PyData.depthAll ds ≤ k := by
    intro ds
    induction ds with
    | nil => intro _; exact Nat.zero_le _
    | cons d ds ih => exact fun h => Nat.max_le.mpr ⟨h d List.mem_cons_self, ih fun e he => h e (List.mem_cons_of_mem _ he)⟩
  have := key ds fun d hd => (h d hd).2
  omega
abbrev SnK (k : Nat) (d : PyData) : Prop := Sm d ∧ d.depth ≤ k
theorem snk_up {j k : Nat} {d : PyData} (h : SnK j d) (hk : j ≤ k) : SnK k d := ⟨h.1, Nat.le_trans h.2 hk⟩
theorem snk_str {z : Str} (h : z.length ≤ 1000) : SnK 0 (.str z) := ⟨h, Nat.le_refl _⟩
theorem snk_int (i : Int) : SnK 0 (.int i) := ⟨trivial, Nat.le_refl _⟩
theorem snk2 {k : Nat} {a b : PyData} (ha : SnK k a) (hb : SnK k b) (hk : k + 1 ≤ 40) : SnK (k + 1) (.tuple [a, b]) := sn_tup (by show 2 ≤ 1000; decide) hk fun d hd => by
  rcases List.mem_cons.mp hd with rfl | hd
  · exact ha
  · rw [List.mem_singleton.mp hd]
    exact hb
theorem snk1 {k : Nat} {a : PyData} (ha : SnK k a) (hk : k + 1 ≤ 40) : SnK (k + 1) (.tuple [a]) := sn_tup (by show 1 ≤ 1000; decide) hk fun d hd => by
  rw [List.mem_singleton.mp hd]
  exact ha
theorem snk0 {k : Nat} (hk : k + 1 ≤ 40) : SnK (k + 1) (.tuple []) := sn_tup (by show 0 ≤ 1000; decide) hk fun d hd => by cases hd
theorem snk3 {k : Nat} {a b c : PyData} (ha : SnK k a) (hb : SnK k b) (hc : SnK k c) (hk : k + 1 ≤ 40) : SnK (k + 1) (.tuple [a, b, c]) := sn_tup (by show 3 ≤ 1000; decide) hk fun d hd => by
  rcases List.mem_cons.mp hd with rfl | hd
  · exact ha
  rcases List.mem_cons.mp hd with rfl | hd
  · exact hb
  · rw [List.mem_singleton.mp hd]
    exact hc
/-! ### items out of form -/
def cI (i : Itm) : PyData := .tuple (i.c.map .str)
def gI (i : Itm) : PyData := .tuple (i.g.map .str)
theorem sn_strs {zs : List Str} (hl : zs.length ≤ 1000) (h : ∀ z ∈ zs, z.length ≤ 1000) : SnK 1 (.tuple (zs.map .str)) := sn_tup (by rw [List.length_map]; exact hl) (by decide) fun d hd => by
  obtain ⟨z, hz, rfl⟩ := List.mem_map.mp hd
  exact snk_str (h z hz)
/-! ### a drawn item has the form -/
theorem ids_okN {lo hi : Nat} {an : List Str} (h : ∃ ys, an = srtS ys ∧ ys.Nodup ∧ (∀ y ∈ ys, idB y = true) ∧ ys.length ≤ hi) (hlo : lo = 0) : idsD lo hi (.tuple (an.map .str)) = true := by
  obtain ⟨ys, rfl, hn, hi', h2⟩ := h
  have hl := (srtS_perm ys).length_eq
  unfold idsD
  rw [Bool.and_eq_true, Bool.and_eq_true]
  refine ⟨?_, ?_, asc_srtS hn⟩
  · show (decide ((lo : Int) ≤ (((srtS ys).map PyData.str).length : Int)) && decide ((((srtS ys).map PyData.str).length : Int) ≤ (hi : Int))) = true
    rw [Bool.and_eq_true, decide_eq_true_eq, decide_eq_true_eq, List.length_map]
    omega
  · show ((srtS ys).map PyData.str).all idD = true
    rw [List.all_map, List.all_eq_true]
    exact fun y hy => hi' y ((srtS_perm ys).mem_iff.mp hy)
theorem int_yes {lo hi i : Int} (h : lo ≤ i ∧ i ≤ hi) : intB lo hi (.int i) = true := by
  show (decide (lo ≤ i) && decide (i ≤ hi)) = true
  rw [decide_eq_true h.1, decide_eq_true h.2]
  rfl
theorem item_okD {s : Sl} {i : Itm} (h : ItmOk s i) {hb : Bool} (hh : hb = true → i.g = [] ∧ i.a = 0 ∧ i.b = 10000) : itemD hb (itD i) = true := by
  show (idsD 0 4 (.tuple (i.c.map .str)) && (intB 1 1000 (.int i.li) && (idsD 0 3 (.tuple (i.g.map .str)) && (intB 0 10000 (.int i.a) && (intB i.a 10000 (.int i.b) && (!hb || bareB (.tuple (i.g.map .str)) (.int i.a) (.int i.b))))))) = true
  have hc : idsD 0 4 (.tuple (i.c.map .str)) = true := ids_okN (lo := 0) (hi := 4) h.c rfl
  have hg : idsD 0 3 (.tuple (i.g.map .str)) = true := ids_okN (lo := 0) (hi := 3) h.g rfl
  have hab := h.ab
  rw [hc, hg, int_yes h.li, int_yes ⟨hab.1, by omega⟩, int_yes hab.2, Bool.true_and, Bool.true_and, Bool.true_and, Bool.true_and, Bool.true_and]
  cases hb with
  | false => rfl
  | true =>
    obtain ⟨e1, e2, e3⟩ := hh rfl
    rw [e1, e2, e3]
    rfl
theorem itm_sn {s : Sl} {i : Itm} (h : ItmOk s i) : SnK 1 (cI i) ∧ SnK 1 (gI i) := by
  obtain ⟨cs, e1, n1, i1, l1⟩ := h.c
  obtain ⟨gs, e2, n2, i2, l2⟩ := h.g
  refine ⟨sn_strs ?_ fun z hz => ?_, sn_strs ?_ fun z hz => ?_⟩
  · rw [e1, (srtS_perm cs).length_eq]; omega
  · rw [e1] at hz
    have := id_len (i1 z ((srtS_perm cs).mem_iff.mp hz))
    omega
  · rw [e2, (srtS_perm gs).length_eq]; omega
  · rw [e2] at hz
    have := id_len (i2 z ((srtS_perm gs).mem_iff.mp hz))
    omega
/-! ### forms of states, deeds, plans over data -/
def strOf : PyData → Str
  | .str z => z
  | _ => ⟨#[]⟩
theorem map_strOf (zs : List Str) : (zs.map PyData.str).map strOf = zs := by
  rw [List.map_map]
  exact List.map_id zs
def decSl : PyData → Option Sl
  | .tuple [.str k, .str z] => if k = Str.ofString "keys" then some (.k z) else if k = Str.ofString "link" then some (.l z) else if k = Str.ofString "hosts" then some (.h z) else none
  | .tuple [.str k, .str n, .str i] => if k = Str.ofString "set" then some (.s n i) else none
  | _ => none
theorem kw_ne : Str.ofString "link" ≠ Str.ofString "keys" ∧ Str.ofString "hosts" ≠ Str.ofString "keys" ∧ Str.ofString "hosts" ≠ Str.ofString "link" := by decide +kernel
theorem decSl_sl (s : Sl) : decSl (slD s) = some s := by
  cases s with
  | k z =>
    show (if Str.ofString "keys" = Str.ofString "keys" then some (Sl.k z) else if Str.ofString "keys" = Str.ofString "link" then some (Sl.l z) else if Str.ofString "keys" = Str.ofString "hosts" then some (Sl.h z) else none) = _
    rw [if_pos rfl]
  | l z =>
    show (if Str.ofString "link" = Str.ofString "keys" then some (Sl.k z) else if Str.ofString "link" = Str.ofString "link" then some (Sl.l z) else if Str.ofString "link" = Str.ofString "hosts" then some (Sl.h z) else none) = _
    rw [if_neg kw_ne.1, if_pos rfl]
  | h z =>
    show (if Str.ofString "hosts" = Str.ofString "keys" then some (Sl.k z) else if Str.ofString "hosts" = Str.ofString "link" then some (Sl.l z) else if Str.ofString "hosts" = Str.ofString "hosts" then some (Sl.h z) else none) = _
    rw [if_neg kw_ne.2.1, if_neg kw_ne.2.2, if_pos rfl]
  | s n k =>
    show (if Str.ofString "set" = Str.ofString "set" then some (Sl.s n k) else none) = _
    rw [if_pos rfl]
theorem decSl_some {d : PyData} {s : Sl} (h : decSl d = some s) : d = slD s := by
  unfold decSl at h
  split at h
  · split at h
    · rename_i e
      injection h with h
      rw [← h, e]
      rfl
    · split at h
      · rename_i e
        injection h with h
        rw [← h, e]
        rfl
      · split at h
        · rename_i e
          injection h with h
          rw [← h, e]
          rfl
        · cases h
  · split at h
    · rename_i e
      injection h with h
      rw [← h, e]
      rfl
    · cases h
  · cases h
def slotB (R : Rm) (d : PyData) : Bool := match decSl d with
  | some s => decide (s ∈ slotsR R)
  | none => false
theorem slotB_iff {R : Rm} {d : PyData} : d ∈ (slotsR R).map slD ↔ slotB R d = true := by
  constructor
  · intro h
    obtain ⟨s, hs, rfl⟩ := List.mem_map.mp h
    unfold slotB
    rw [decSl_sl]
    exact decide_eq_true hs
  · intro h
    unfold slotB at h
    cases e : decSl d with
    | none =>
      rw [e] at h
      cases h
    | some s =>
      rw [e] at h
      rw [decSl_some e]
      exact List.mem_map_of_mem (of_decide_eq_true h)
theorem slotB_some {R : Rm} {d : PyData} (h : slotB R d = true) : ∃ s, s ∈ slotsR R ∧ d = slD s := by
  obtain ⟨s, hs, e⟩ := List.mem_map.mp (slotB_iff.mpr h)
  exact ⟨s, hs, e.symm⟩
def hostSl : Sl → Bool
  | .h _ => true
  | _ => false
def hostW (d : PyData) : Bool := match decSl d with
  | some s => hostSl s
  | none => false
theorem hostW_sl (s : Sl) : hostW (slD s) = hostSl s := by
  unfold hostW
  rw [decSl_sl]
def tlZ (R : Rm) : List Str := R.zs.tail.map (·.1)
def inZ (R : Rm) : PyData → Bool
  | .str y => decide (y ∈ tlZ R)
  | _ => false
theorem inZ_iff {R : Rm} {d : PyData} : d ∈ (tlZ R).map PyData.str ↔ inZ R d = true := by
  constructor
  · intro h
    obtain ⟨z, hz, rfl⟩ := List.mem_map.mp h
    exact decide_eq_true hz
  · intro h
    cases d with
    | str z => exact List.mem_map_of_mem (of_decide_eq_true h)
    | none => cases h
    | bool _ => cases h
    | int _ => cases h
    | tuple _ => cases h
    | list _ => cases h
    | dict _ => cases h
def srvD (R : Rm) : PyData → Bool
  | .tuple [a, z] => idD a && inZ R z
  | _ => false
theorem srvD_some {R : Rm} {d : PyData} (h : srvD R d = true) : ∃ p : Str × Str, d = ssD p ∧ idB p.1 = true ∧ p.2 ∈ tlZ R := by
  unfold srvD at h
  split at h
  · rename_i a z
    rw [Bool.and_eq_true] at h
    obtain ⟨x, rfl, hx⟩ := id_str h.1
    obtain ⟨y, hy, rfl⟩ := List.mem_map.mp (inZ_iff.mpr h.2)
    exact ⟨(x, y), rfl, hx, hy⟩
  · cases h
theorem srvD_ss {R : Rm} {p : Str × Str} (h1 : idB p.1 = true) (h2 : p.2 ∈ tlZ R) : srvD R (ssD p) = true := by
  show (idB p.1 && decide (p.2 ∈ tlZ R)) = true
  rw [h1, decide_eq_true h2]
  rfl
def isOnB (s : Sta) : PyData → PyData → Bool
  | .str a, .str b => decide ((a, b) ∈ s.on)
  | _, _ => false
theorem isOnB_iff {s : Sta} {p x : PyData} : PyData.tuple [p, x] ∈ s.on.map ssD ↔ isOnB s p x = true := by
  constructor
  · intro h
    obtain ⟨q, hq, e⟩ := List.mem_map.mp h
    have e : PyData.tuple [.str q.1, .str q.2] = .tuple [p, x] := e
    injection e with e
    injection e with e1 e
    injection e with e2 _
    rw [← e1, ← e2]
    exact decide_eq_true hq
  · intro h
    unfold isOnB at h
    split at h
    · exact List.mem_map.mpr ⟨_, of_decide_eq_true h, rfl⟩
    · cases h
def wB (w : Str) : PyData → Bool
  | .str z => decide (z = w)
  | _ => false
theorem wB_iff {w : Str} {d : PyData} : d = .str w ↔ wB w d = true := by
  constructor
  · rintro rfl
    exact decide_eq_true rfl
  · intro h
    cases d with
    | str z => rw [of_decide_eq_true (p := z = w) h]
    | none => cases h
    | bool _ => cases h
    | int _ => cases h
    | tuple _ => cases h
    | list _ => cases h
    | dict _ => cases h
def deedB (R : Rm) (s : Sta) : PyData → Bool
  | .tuple [w, p, x] => if wB "put" w = true then slotB R p && itemD (hostW p) x else if wB "on" w = true then srvD R (.tuple [p, x]) && !isOnB s p x else wB "off" w && isOnB s p x
  | _ => false
theorem pair_of {d : PyData} (h : tupB 2 2 d = true) : ∃ a b, d = .tuple [a, b] := by
  obtain ⟨ds, rfl, h1, h2⟩ := tupB_some h
  match ds, h1, h2 with
  | [a, b], _, _ => exact ⟨a, b, rfl⟩
  | [], h1, _ => exact absurd h1 (by decide)
  | [_], h1, _ => exact absurd h1 (by simp)
  | _ :: _ :: _ :: _, _, h2 => simp only [List.length_cons] at h2; omega
def sn1 : PyData → PyData
  | .tuple [_, b] => b
  | d => d
theorem deedB_no {R : Rm} {s : Sta} {d : PyData} (h : tupB 3 3 d = false) : deedB R s d = false := by
  unfold deedB
  split
  · cases h
  · rfl
theorem srvD_no {R : Rm} {d : PyData} (h : tupB 2 2 d = false) : srvD R d = false := by
  unfold srvD
  split
  · cases h
  · rfl
theorem trip_of {d : PyData} (h : tupB 3 3 d = true) : ∃ a b c, d = .tuple [a, b, c] := by
  obtain ⟨ds, rfl, h1, h2⟩ := tupB_some h
  match ds, h1, h2 with
  | [a, b, c], _, _ => exact ⟨a, b, c, rfl⟩
  | [], h1, _ => exact absurd h1 (by decide)
  | [_], h1, _ => exact absurd h1 (by simp)
  | [_, _], h1, _ => exact absurd h1 (by simp)
  | _ :: _ :: _ :: _ :: _, _, h2 => simp only [List.length_cons] at h2; omega
/-! ### deeds out of data -/
def itOf : PyData → Itm
  | .tuple [.tuple c, .int l, .tuple g, .int a, .int b] => ⟨c.map strOf, l, g.map strOf, a, b⟩
  | _ => ⟨[], 0, [], 0, 0⟩
theorem ids_some {lo hi : Int} {d : PyData} (h : idsD lo hi d = true) : ∃ zs : List Str, d = .tuple (zs.map .str) := by
  unfold idsD at h
  rw [Bool.and_eq_true, Bool.and_eq_true] at h
  obtain ⟨ds, rfl, _⟩ := tupB_some h.1
  obtain ⟨zs, e, _⟩ := ids_strs (ds := ds) h.2.1
  exact ⟨zs, by rw [e]⟩
theorem itOf_it {hb : Bool} {d : PyData} (h : itemD hb d = true) : itD (itOf d) = d := by
  unfold itemD at h
  split at h
  · rename_i c l g a b
    rw [Bool.and_eq_true, Bool.and_eq_true, Bool.and_eq_true, Bool.and_eq_true, Bool.and_eq_true] at h
    obtain ⟨h1, h2, h3, h4, h5, _⟩ := h
    obtain ⟨cs, rfl⟩ := ids_some h1
    obtain ⟨gs, rfl⟩ := ids_some h3
    obtain ⟨li, rfl, _⟩ := int_some h2
    obtain ⟨ai, rfl, _⟩ := int_some h4
    obtain ⟨bi, rfl, _⟩ := int_some (show intB ai 10000 b = true from h5)
    show itD ⟨(cs.map PyData.str).map strOf, li, (gs.map PyData.str).map strOf, ai, bi⟩ = _
    rw [map_strOf, map_strOf]
    rfl
  · cases h
def ddOf : PyData → Dd
  | .tuple [w, p, x] => if wB "put" w = true then .put ((decSl p).getD (.k dotS)) (itOf x) else if wB "on" w = true then .on (strOf p) (strOf x) else .off (strOf p) (strOf x)
  | _ => .off dotS dotS
theorem isOnB_some {s : Sta} {p x : PyData} (h : isOnB s p x = true) : p = .str (strOf p) ∧ x = .str (strOf x) := by
  unfold isOnB at h
  split at h
  · exact ⟨rfl, rfl⟩
  · cases h
theorem ddOf_dd {R : Rm} {s : Sta} {d : PyData} (h : deedB R s d = true) : ddD (ddOf d) = d := by
  unfold deedB at h
  split at h
  · rename_i w p x
    show ddD (if wB "put" w = true then .put ((decSl p).getD (.k dotS)) (itOf x) else if wB "on" w = true then .on (strOf p) (strOf x) else .off (strOf p) (strOf x)) = _
    by_cases h1 : wB "put" w = true
    · rw [if_pos h1] at h ⊢
      rw [Bool.and_eq_true] at h
      obtain ⟨sl, _, rfl⟩ := slotB_some h.1
      rw [decSl_sl, wB_iff.mpr h1]
      show PyData.tuple [.str "put", slD sl, itD (itOf x)] = _
      rw [itOf_it h.2]
    · rw [if_neg h1] at h ⊢
      by_cases h2 : wB "on" w = true
      · rw [if_pos h2] at h ⊢
        rw [Bool.and_eq_true] at h
        obtain ⟨q, e, _⟩ := srvD_some h.1
        have e : PyData.tuple [p, x] = .tuple [.str q.1, .str q.2] := e
        injection e with e
        injection e with e1 e
        injection e with e2 _
        rw [wB_iff.mpr h2, e1, e2]
        rfl
      · rw [if_neg h2] at h ⊢
        rw [Bool.and_eq_true] at h
        obtain ⟨e1, e2⟩ := isOnB_some h.2
        rw [wB_iff.mpr h.1]
        show PyData.tuple [.str "off", .str (strOf p), .str (strOf x)] = _
        rw [← e1, ← e2]
  · cases h
/-- deeds that are allowed -/
theorem wB_put : wB "on" (.str (Str.ofString "put")) = false ∧ wB "put" (.str (Str.ofString "on")) = false ∧ wB "put" (.str (Str.ofString "off")) = false ∧ wB "on" (.str (Str.ofString "off")) = false := by decide +kernel
theorem deedB_eq {R : Rm} {s : Sta} {w p x : PyData} : deedB R s (.tuple [w, p, x]) = if wB "put" w = true then slotB R p && itemD (hostW p) x else if wB "on" w = true then srvD R (.tuple [p, x]) && !isOnB s p x else wB "off" w && isOnB s p x := rfl
theorem deed_put {R : Rm} {s : Sta} {sl : Sl} {i : Itm} (h : sl ∈ slotsR R) (hi : ItmOk sl i) : deedB R s (ddD (.put sl i)) = true := by
  rw [show ddD (.put sl i) = .tuple [.str (Str.ofString "put"), slD sl, itD i] from rfl, deedB_eq, if_pos (wB_iff.mp rfl), slotB_iff.mp (List.mem_map_of_mem h), hostW_sl, item_okD hi fun hb => by
    cases sl with
    | h z => exact hi.h z rfl
    | k z => cases hb
    | l z => cases hb
    | s n k => cases hb]
  rfl
theorem deed_ok {R : Rm} {s : Sta} {d : Dd} (h : DdOk R d) (ho : okD s d) : deedB R s (ddD d) = true := by
  cases d with
  | put sl i => exact deed_put h.1 h.2
  | on x z =>
    rw [show ddD (.on x z) = .tuple [.str (Str.ofString "on"), .str x, .str z] from rfl, deedB_eq, if_neg (by rw [wB_put.2.1]; decide), if_pos (wB_iff.mp rfl), show srvD R (.tuple [.str x, .str z]) = true from srvD_ss (p := (x, z)) h.1 h.2, show isOnB s (.str x) (.str z) = false from decide_eq_false ho]
    rfl
  | off x z =>
    rw [show ddD (.off x z) = .tuple [.str (Str.ofString "off"), .str x, .str z] from rfl, deedB_eq, if_neg (by rw [wB_put.2.2.1]; decide), if_neg (by rw [wB_put.2.2.2]; decide), wB_iff.mp rfl, show isOnB s (.str x) (.str z) = true from decide_eq_true ho]
    rfl
/-! ### plans -/
def intOf : PyData → Int
  | .int i => i
  | _ => 0
theorem ddD_injG {a b : Dd} (h : ddD a = ddD b) : a = b := by
  have k : Str.ofString "put" ≠ Str.ofString "on" ∧ Str.ofString "put" ≠ Str.ofString "off" ∧ Str.ofString "on" ≠ Str.ofString "off" := by decide +kernel
  have t3 : ∀ {w1 p1 x1 w2 p2 x2 : PyData}, PyData.tuple [w1, p1, x1] = .tuple [w2, p2, x2] → w1 = w2 ∧ p1 = p2 ∧ x1 = x2 := by
    intro w1 p1 x1 w2 p2 x2 h
    injection h with h
    injection h with h1 h
    injection h with h2 h
    injection h with h3 _
    exact ⟨h1, h2, h3⟩
  have si : ∀ {x y : Str}, PyData.str x = .str y → x = y := fun h => by injection h
  cases a with
  | put s i =>
    cases b with
    | put s2 j =>
      obtain ⟨_, h2, h3⟩ := t3 h
      rw [slD_inj h2, itD_inj h3]
    | on x z => exact absurd (si (t3 h).1) k.1
    | off x z => exact absurd (si (t3 h).1) k.2.1
  | on x z =>
    cases b with
    | put s2 j => exact absurd (si (t3 h).1).symm k.1
    | on y v =>
      obtain ⟨_, h2, h3⟩ := t3 h
      rw [si h2, si h3]
    | off y v => exact absurd (si (t3 h).1) k.2.2
  | off x z =>
    cases b with
    | put s2 j => exact absurd (si (t3 h).1).symm k.2.1
    | on y v => exact absurd (si (t3 h).1).symm k.2.2
    | off y v =>
      obtain ⟨_, h2, h3⟩ := t3 h
      rw [si h2, si h3]
theorem ddOf_of {R : Rm} {s : Sta} {d : Dd} (h : deedB R s (ddD d) = true) : ddOf (ddD d) = d := ddD_injG (ddOf_dd h)
/-! ### states and deeds out of form -/
def I0 (s : Sta) : PyData := .tuple (s.its.map rowD2)
theorem tlZ_name {R : Rm} (hR : RmIn R) {z : Str} (h : z ∈ tlZ R) : nameB z = true ∧ z ≠ dotS := by
  obtain ⟨lag, rest, e, hn⟩ := hR.ne
  have h : z ∈ R.zs.tail.map (·.1) := h
  obtain ⟨y, hy, rfl⟩ := List.mem_map.mp h
  refine ⟨hR.nm y (List.mem_of_mem_tail hy), ?_⟩
  rw [e] at hy
  exact hn y hy
theorem inZ_dot {R : Rm} (hR : RmIn R) : inZ R (.str dotS) = false := decide_eq_false fun h => (tlZ_name hR h).2 rfl
theorem sl30 {R : Rm} (h : RmIn R) : (slotsR R).length ≤ 30 := by
  unfold slotsR
  rw [List.length_append, List.length_cons, List.length_map, List.length_flatMap]
  have h1 : ∀ l : List (Str × Int), ((l.map fun z => ([Sl.k z.1, .l z.1, .h z.1] : List Sl).length).sum) = 3 * l.length := by
    intro l
    induction l with
    | nil => rfl
    | cons z l ih => rw [List.map_cons, List.sum_cons, ih, List.length_cons]; simp only [List.length_cons, List.length_nil]; omega
  rw [h1, List.length_tail]
  have := h.len
  have := h.slen
  omega
section
variable {R : Rm} {s : Sta} (hR : RmIn R) (hs : StaOk R s) (ho : OnR R s)
include hs in
theorem its_len : s.its.length = (slotsR R).length := by
  have := congrArg List.length hs.nm
  rw [List.length_map] at this
  exact this
theorem its_pos : 1 ≤ (slotsR R).length := by
  unfold slotsR
  rw [List.length_append, List.length_cons]
  omega
/-! sizes -/
include hR in
theorem sl_sn {sl : Sl} (h : sl ∈ slotsR R) : SnK 1 (slD sl) := by
  have hk : ∀ z : Str, nameB z = true → SnK 0 (.str z) := fun z hz => snk_str (Nat.le_trans (name_len hz) (by decide))
  have kw : SnK 0 (.str (Str.ofString "keys")) ∧ SnK 0 (.str (Str.ofString "link")) ∧ SnK 0 (.str (Str.ofString "hosts")) ∧ SnK 0 (.str (Str.ofString "set")) := ⟨snk_str (by decide +kernel), snk_str (by decide +kernel), snk_str (by decide +kernel), snk_str (by decide +kernel)⟩
  have hdot : nameB dotS = true := dot_name
  have hin : ∀ z ∈ R.zs, SnK 0 (.str z.1) := fun z hz => hk _ (hR.nm z hz)
  unfold slotsR at h
  rcases List.mem_append.mp h with h | h
  · rcases List.mem_cons.mp h with rfl | h
    · exact snk2 kw.1 (hk _ hdot) (by decide)
    · obtain ⟨y, hy, h⟩ := List.mem_flatMap.mp h
      have hy := hin y (List.mem_of_mem_tail hy)
      simp only [List.mem_cons, List.not_mem_nil, or_false] at h
      rcases h with rfl | rfl | rfl
      · exact snk2 kw.1 hy (by decide)
      · exact snk2 kw.2.1 hy (by decide)
      · exact snk2 kw.2.2.1 hy (by decide)
  · obtain ⟨p, hp, rfl⟩ := List.mem_map.mp h
    have h2 := hR.sok p hp
    exact snk3 kw.2.2.2 (hk _ h2.1) (snk_str (by have := id_len h2.2; omega)) (by decide)
theorem it_sn {s : Sl} {i : Itm} (h : ItmOk s i) : SnK 2 (itD i) := by
  obtain ⟨h1, h2⟩ := itm_sn h
  refine sn_tup (by show 5 ≤ 1000; decide) (by decide) fun d hd => ?_
  have hd : d ∈ [cI i, .int i.li, gI i, .int i.a, .int i.b] := hd
  simp only [List.mem_cons, List.not_mem_nil, or_false] at hd
  rcases hd with rfl | rfl | rfl | rfl | rfl
  · exact h1
  · exact snk_up (snk_int _) (by decide)
  · exact h2
  · exact snk_up (snk_int _) (by decide)
  · exact snk_up (snk_int _) (by decide)
theorem sn_list {k : Nat} {ds : List PyData} (hl : ds.length ≤ 1000) (hk : k + 1 ≤ 40) (h : ∀ d ∈ ds, SnK k d) : SnK (k + 1) (.tuple ds) := sn_tup hl hk h
end
/-! a tuple's slices with the step -1: t[::-1] and t[:0:-1] -/
namespace HT
open _root_.HT
end HT
/-! ### the states known, plans out of form -/
/-! plans -/
/-! sizes -/
theorem dd_sn {R : Rm} (hR : RmIn R) {d : Dd} (h : DdOk R d) : SnK 3 (ddD d) := by
  have kw : SnK 0 (.str (Str.ofString "put")) ∧ SnK 0 (.str (Str.ofString "on")) ∧ SnK 0 (.str (Str.ofString "off")) := ⟨snk_str (by decide +kernel), snk_str (by decide +kernel), snk_str (by decide +kernel)⟩
  have zn : ∀ z ∈ R.zs.tail.map (·.1), SnK 0 (.str z) := fun z hz => snk_str (Nat.le_trans (name_len (tlZ_name hR hz).1) (by decide))
  cases d with
  | put sl i => exact snk3 (k := 2) (snk_up kw.1 (by decide)) (snk_up (sl_sn hR h.1) (by decide)) (it_sn h.2) (by decide)
  | on x z => exact snk_up (snk3 (k := 0) kw.2.1 (snk_str (by have := id_len h.1; omega)) (zn z h.2) (by decide)) (by decide)
  | off x z => exact snk_up (snk3 (k := 0) kw.2.2 (snk_str (by have := id_len h.1; omega)) (zn z h.2) (by decide)) (by decide)
/-! ### rows of deeds, bounds, tables over data -/
def allowB (R : Rm) : Sta → List PyData → Bool
  | _, [] => true
  | s, d :: r => deedB R s d && allowB R (aft s (ddOf d)) r
def rowDB (R : Rm) (s : Sta) (d : PyData) : Bool := tupB 1 6 d && allowB R s (els d)
theorem allow_ok {R : Rm} : ∀ {ds : List Dd} {s : Sta}, (∀ d ∈ ds, DdOk R d) → OnOk s ds → allowB R s (ds.map ddD) = true
  | [], _, _, _ => rfl
  | d :: ds, s, h, ho => by
    have hb := deed_ok (h d List.mem_cons_self) ho.1
    show (deedB R s (ddD d) && allowB R (aft s (ddOf (ddD d))) (ds.map ddD)) = true
    rw [hb, ddOf_of hb, allow_ok (fun e he => h e (List.mem_cons_of_mem _ he)) ho.2]
    rfl
/-- a deed that no state allows -/
def NoDeed (R : Rm) (d : PyData) : Prop := ∀ s : Sta, deedB R s d = false
theorem allow_no {R : Rm} {x : PyData} (h : NoDeed R x) : ∀ {ds : List PyData} {s : Sta}, x ∈ ds → allowB R s ds = false
  | d :: ds, s, hm => by
    show (deedB R s d && allowB R (aft s (ddOf d)) ds) = false
    rcases List.mem_cons.mp hm with rfl | hm
    · rw [h s]
      rfl
    · rw [allow_no h hm, Bool.and_false]
theorem rowD_no {R : Rm} {s : Sta} {x : PyData} {ds : List PyData} (h : NoDeed R x) (hm : x ∈ ds) : rowDB R s (.tuple ds) = false := by
  show (tupB 1 6 (.tuple ds) && allowB R s ds) = false
  rw [allow_no h hm, Bool.and_false]
theorem rowD_first {R : Rm} {s : Sta} {x : PyData} {ds : List PyData} (h : deedB R s x = false) : rowDB R s (.tuple (x :: ds)) = false := by
  show (tupB 1 6 (.tuple (x :: ds)) && (deedB R s x && allowB R (aft s (ddOf x)) ds)) = false
  rw [h, Bool.false_and, Bool.and_false]
theorem tup_len {lo hi : Int} {ds : List PyData} (h1 : lo ≤ ds.length) (h2 : (ds.length : Int) ≤ hi) : tupB lo hi (.tuple ds) = true := by
  show (decide (lo ≤ (ds.length : Int)) && decide ((ds.length : Int) ≤ hi)) = true
  rw [decide_eq_true h1, decide_eq_true h2]
  rfl
theorem tup_off {lo hi : Int} {ds : List PyData} (h : ¬ (lo ≤ ds.length ∧ (ds.length : Int) ≤ hi)) : tupB lo hi (.tuple ds) = false := by
  show (decide (lo ≤ (ds.length : Int)) && decide ((ds.length : Int) ≤ hi)) = false
  rw [Bool.and_eq_false_iff, decide_eq_false_iff_not, decide_eq_false_iff_not]
  by_cases c : lo ≤ ds.length
  · exact .inr fun h2 => h ⟨c, h2⟩
  · exact .inl c
theorem rowD_ok {R : Rm} {ds : List Dd} {s : Sta} (hd : ∀ d ∈ ds, DdOk R d) (ho : OnOk s ds) (h1 : 1 ≤ ds.length) (h2 : ds.length ≤ 6) : rowDB R s (.tuple (ds.map ddD)) = true := by
  show (tupB 1 6 (.tuple (ds.map ddD)) && allowB R s (ds.map ddD)) = true
  rw [tup_len (by rw [List.length_map]; omega) (by rw [List.length_map]; omega), allow_ok hd ho]
  rfl
def boundB : PyData → Bool
  | .tuple [a, b] => intB 0 1000 a && intB (intOf a) 1000 b
  | _ => false
def boundsB (n : Int) (d : PyData) : Bool := tupB n n d && (els d).all boundB
theorem boundB_no {d : PyData} (h : tupB 2 2 d = false) : boundB d = false := by
  unfold boundB
  split
  · cases h
  · rfl
theorem bound_ok {b : Bd} (h : 0 ≤ b.1 ∧ b.1 ≤ b.2 ∧ b.2 ≤ 1000) : boundB (bdD b) = true := by
  show (intB 0 1000 (.int b.1) && intB b.1 1000 (.int b.2)) = true
  rw [int_yes ⟨h.1, by omega⟩, int_yes ⟨h.2.1, h.2.2⟩]
  rfl
theorem bounds_ok {bs : List Bd} (h : BdOk bs) : boundsB bs.length (.tuple (bs.map bdD)) = true := by
  show (tupB bs.length bs.length (.tuple (bs.map bdD)) && (bs.map bdD).all boundB) = true
  rw [tup_len (by rw [List.length_map]; omega) (by rw [List.length_map]; omega), Bool.true_and, List.all_map, List.all_eq_true]
  exact fun b hb => bound_ok (h b hb)
theorem bounds_no {n : Int} {x : PyData} {ds : List PyData} (h : boundB x = false) (hm : x ∈ ds) : boundsB n (.tuple ds) = false := by
  show (tupB n n (.tuple ds) && ds.all boundB) = false
  cases e : ds.all boundB with
  | false => rw [Bool.and_false]
  | true =>
    have := List.all_eq_true.mp e x hm
    rw [h] at this
    cases this
theorem bounds_len {n : Int} {ds : List PyData} (h : (ds.length : Int) ≠ n) : boundsB n (.tuple ds) = false := by
  show (tupB n n (.tuple ds) && ds.all boundB) = false
  rw [tup_off (by omega), Bool.false_and]
def waitB (n : Int) : PyData → Bool
  | .tuple [k, j, w] => intB 1 n k && (intB 0 (intOf k - 1) j && intB 1 10000 w)
  | _ => false
def kjD : PyData → PyData
  | .tuple [k, j, _] => .tuple [k, j]
  | d => d
def tableB (n : Int) (d : PyData) : Bool := isTup d && ((els d).all (waitB n) && ascD ((els d).map kjD))
theorem waitB_no {n : Int} {d : PyData} (h : tupB 3 3 d = false) : waitB n d = false := by
  unfold waitB
  split
  · cases h
  · rfl
theorem waitB_some {n : Int} {d : PyData} (h : waitB n d = true) : ∃ r : Int × Int × Int, d = .tuple [.int r.1, .int r.2.1, .int r.2.2] ∧ True := by
  unfold waitB at h
  split at h
  · rename_i k j w
    rw [Bool.and_eq_true, Bool.and_eq_true] at h
    obtain ⟨a, rfl, _⟩ := int_some h.1
    obtain ⟨b, rfl, _⟩ := int_some h.2.1
    obtain ⟨c, rfl, _⟩ := int_some h.2.2
    exact ⟨(a, b, c), rfl, trivial⟩
  · cases h
def r3D (r : Int × Int × Int) : PyData := .tuple [.int r.1, .int r.2.1, .int r.2.2]
def r2D (r : Int × Int × Int) : PyData := .tuple [.int r.1, .int r.2.1]
theorem waits_rows {n : Int} {ds : List PyData} (h : ds.all (waitB n) = true) : ∃ l : List (Int × Int × Int), ds = l.map r3D := by
  obtain ⟨l, e, _⟩ := all_some (f := waitB n) (g := r3D) (p := fun _ => True) (fun d hd => waitB_some hd) h
  exact ⟨l, e⟩
theorem alike_r2 (l : List (Int × Int × Int)) : Alike1 (l.map r2D) := fun d hd e he => by
  obtain ⟨p, _, rfl⟩ := List.mem_map.mp hd
  obtain ⟨q, _, rfl⟩ := List.mem_map.mp he
  exact ⟨rfl, fun h => (by cases h), by show max 0 (max 0 0) + 1 ≤ 60; decide⟩
theorem lt_r2 {p q : Int × Int × Int} : dataLt (r2D p) (r2D q) = true ↔ (p.1 < q.1 ∨ (p.1 = q.1 ∧ p.2.1 < q.2.1)) := by
  unfold r2D
  rw [dataLt_pair rfl rfl, eqv_int, eqv_int]
  by_cases h : p.1 = q.1
  · rw [if_pos (decide_eq_true h), h]
    by_cases h2 : p.2.1 = q.2.1
    · rw [if_pos (decide_eq_true h2), h2]
      exact ⟨(fun h => by cases h), fun h => h.elim (fun h => absurd h (Int.lt_irrefl _)) fun h => absurd h.2 (Int.lt_irrefl _)⟩
    · rw [if_neg (by rw [decide_eq_false h2]; decide), dataLt_int, decide_eq_true_eq]
      exact ⟨fun h => .inr ⟨rfl, h⟩, fun h => h.elim (fun h => absurd h (Int.lt_irrefl _)) fun h => h.2⟩
  · rw [if_neg (by rw [decide_eq_false h]; decide), dataLt_int, decide_eq_true_eq]
    exact ⟨fun h => .inl h, fun hh => hh.elim id fun hh => absurd hh.1 h⟩
def rwLt (a b : Rw) : Prop := a.1 < b.1 ∨ (a.1 = b.1 ∧ a.2.1 < b.2.1)
def TbF (n : Nat) (tb : List Rw) : Prop := (∀ r ∈ tb, 1 ≤ r.1 ∧ r.2.1 < r.1 ∧ r.1 ≤ n ∧ 1 ≤ r.2.2 ∧ r.2.2 ≤ 1200) ∧ tb.Pairwise rwLt
theorem wait_ok {n : Nat} {r : Rw} (h : 1 ≤ r.1 ∧ r.2.1 < r.1 ∧ r.1 ≤ n ∧ 1 ≤ r.2.2 ∧ r.2.2 ≤ 10000) : waitB n (rwD r) = true := by
  show (intB 1 n (.int (r.1 : Int)) && (intB 0 ((r.1 : Int) - 1) (.int (r.2.1 : Int)) && intB 1 10000 (.int r.2.2))) = true
  rw [int_yes ⟨by omega, by omega⟩, int_yes ⟨by omega, by omega⟩, int_yes ⟨h.2.2.2.1, h.2.2.2.2⟩]
  rfl
theorem table_ok {n : Nat} {tb : List Rw} (h : TbF n tb) : tableB n (.tuple (tb.map rwD)) = true := by
  show (true && ((tb.map rwD).all (waitB n) && ascD ((tb.map rwD).map kjD))) = true
  have h1 : (tb.map rwD).all (waitB n) = true := by
    rw [List.all_map, List.all_eq_true]
    intro r hr
    have := h.1 r hr
    exact wait_ok ⟨this.1, this.2.1, this.2.2.1, this.2.2.2.1, by omega⟩
  have h2 : ascD ((tb.map rwD).map kjD) = true := by
    rw [List.map_map]
    refine ascD_of (f := kjD ∘ rwD) (h.2.imp fun {a b} hab => ?_)
    show dataLt (r2D ((a.1 : Int), (a.2.1 : Int), 0)) (r2D ((b.1 : Int), (b.2.1 : Int), 0)) = true
    rw [lt_r2]
    rcases hab with h | ⟨h, g⟩
    · exact .inl (by show (a.1 : Int) < (b.1 : Int); omega)
    · exact .inr ⟨by show (a.1 : Int) = (b.1 : Int); omega, by show (a.2.1 : Int) < (b.2.1 : Int); omega⟩
  rw [h1, h2]
  rfl
theorem table_no {n : Int} {x : PyData} {ds : List PyData} (h : waitB n x = false) (hm : x ∈ ds) : tableB n (.tuple ds) = false := by
  show (true && (ds.all (waitB n) && ascD (ds.map kjD))) = false
  cases e : ds.all (waitB n) with
  | false => rfl
  | true =>
    have := List.all_eq_true.mp e x hm
    rw [h] at this
    cases this
theorem table_asc {n : Int} {ds : List PyData} (h : ascD (ds.map kjD) = false) : tableB n (.tuple ds) = false := by
  show (true && (ds.all (waitB n) && ascD (ds.map kjD))) = false
  rw [h, Bool.and_false, Bool.and_false]
theorem wait_k {n k j w : Int} (h : ¬ (1 ≤ k ∧ k ≤ n)) : waitB n (.tuple [.int k, .int j, .int w]) = false := by
  show ((decide (1 ≤ k) && decide (k ≤ n)) && _) = false
  by_cases c : 1 ≤ k
  · rw [decide_eq_true c, decide_eq_false fun h2 => h ⟨c, h2⟩]
    rfl
  · rw [decide_eq_false c]
    rfl
theorem wait_j {n k j w : Int} (h : ¬ (0 ≤ j ∧ j ≤ k - 1)) : waitB n (.tuple [.int k, .int j, .int w]) = false := by
  show (_ && ((decide (0 ≤ j) && decide (j ≤ k - 1)) && _)) = false
  have e : (decide (0 ≤ j) && decide (j ≤ k - 1)) = false := by
    by_cases c : 0 ≤ j
    · rw [decide_eq_true c, decide_eq_false fun h2 => h ⟨c, h2⟩]
      rfl
    · rw [decide_eq_false c]
      rfl
  rw [e, Bool.false_and, Bool.and_false]
theorem wait_w {n k j w : Int} (h : ¬ (1 ≤ w ∧ w ≤ 10000)) : waitB n (.tuple [.int k, .int j, .int w]) = false := by
  show (_ && (_ && (decide (1 ≤ w) && decide (w ≤ 10000)))) = false
  have e : (decide (1 ≤ w) && decide (w ≤ 10000)) = false := by
    by_cases c : 1 ≤ w
    · rw [decide_eq_true c, decide_eq_false fun h2 => h ⟨c, h2⟩]
      rfl
    · rw [decide_eq_false c]
      rfl
  rw [e, Bool.and_false, Bool.and_false]
theorem bd_lo {a b : Int} (h : ¬ (0 ≤ a ∧ a ≤ 1000)) : boundB (.tuple [.int a, .int b]) = false := by
  show ((decide (0 ≤ a) && decide (a ≤ 1000)) && _) = false
  by_cases c : 0 ≤ a
  · rw [decide_eq_true c, decide_eq_false fun h2 => h ⟨c, h2⟩]
    rfl
  · rw [decide_eq_false c]
    rfl
theorem bd_hi {a b : Int} (h : ¬ (a ≤ b ∧ b ≤ 1000)) : boundB (.tuple [.int a, .int b]) = false := by
  show (_ && (decide (a ≤ b) && decide (b ≤ 1000))) = false
  have e : (decide (a ≤ b) && decide (b ≤ 1000)) = false := by
    by_cases c : a ≤ b
    · rw [decide_eq_true c, decide_eq_false fun h2 => h ⟨c, h2⟩]
      rfl
    · rw [decide_eq_false c]
      rfl
  rw [e, Bool.and_false]
namespace NKZ
/-! tuple(zip(a, b)) of two tuples -/
abbrev ZO (h : Heap) (z TI TO a : Addr) (f : Bool) : Prop :=
  h.get? z = some { cls := .type "zip", dict := none, data := .fields #[rawInt a, .bool f, .bool false, .ref TI, .ref TO], slots := #[] }
section
variable {prog : Program} {w : World} {A : Around} {E : Value → Shared → Prop} {s : Shared} {z TI TO i1 i2 a : Addr} {fp1 fp2 : List Addr} {n1 n2 i : Nat} {P1 P2 : Nat → Value → Prop} {St1 St2 : Nat → Heap → Prop} {a1 a2 : Value} {f : Bool} {oa : Obj}
theorem alive {a : Addr} {o : Obj} {Q : Option Obj → Shared → Prop} (ho : s.heap.get? a = some o) (h : Q (some o) s) : wpAny (model prog w) A (loadIfAlive a) Q E s := by
  have h' : Q (s.heap.get? a) s := by rw [ho]; exact h
  exact fun _ _ _ => h'
/-- the owned tuple is still held: it is not free -/
theorem notFree {Q : Bool → Shared → Prop} (hz : ZO s.heap z TI TO a f) (ha : s.heap.get? a = some oa)
    (h : ∀ h', ZO h' z TI TO a true → Heap.SameBut z s.heap h' → Q false { s with heap := h' }) : wpAny (model prog w) A (Builtin.SmallTypes.ownedTupleIsFree (.ref z)) Q E s := by
  unfold Builtin.SmallTypes.ownedTupleIsFree
  refine wpAny_bind (wpAny_field hz rfl (x := rawInt a) rfl ?_)
  show wpAny _ _ (loadIfAlive ((a : Int).toNat) >>= _) _ _ _
  rw [Int.toNat_natCast]
  refine wpAny_bind (alive ha ?_)
  simp only [Option.isNone_some, Bool.false_eq_true, if_false]
  refine wpAny_bind (wpAny_field hz rfl (x := .bool f) rfl ?_)
  cases f with
  | true =>
    rw [if_neg (show ¬ ((Value.bool true != Value.bool true) = true) from Bool.false_ne_true)]
    exact wpAny_pure (h s.heap hz (Heap.SameBut.refl _ _))
  | false =>
    rw [if_pos (show (Value.bool false != Value.bool true) = true from rfl)]
    refine wpAny_bind (wpAny_setField_rec hz (by simp) fun h₃ he₃ hs₃ => ?_)
    replace he₃ : ZO h₃ z TI TO a true := he₃
    exact wpAny_pure (h h₃ he₃ hs₃)
theorem zO_item {Q : Value → Shared → Prop} (S : ZipSep2 z TI TO i1 i2 fp1 fp2) (D1 : Draws prog w A i1 fp1 n1 P1 St1) (D2 : Draws prog w A i2 fp2 n2 P2 St2)
    (hz : ZO s.heap z TI TO a f) (ha : s.heap.get? a = some oa) (hTI : IsTupOf2 s.heap TI (.ref i1) (.ref i2)) (st1 : St1 i s.heap) (st2 : St2 i s.heap) (hlt1 : i < n1) (hlt2 : i < n2)
    (hQ : ∀ x1 x2 h' tk, P1 i x1 → P2 i x2 → ZO h' z TI TO a true → St1 (i + 1) h' → St2 (i + 1) h' → IsTupOf2 h' s.heap.objs.size x1 x2 → h'.objs.size = s.heap.objs.size + 1 →
      (∀ c o, c ≠ z → c ≠ i1 → c ≠ i2 → s.heap.get? c = some o → h'.get? c = some o) → Q (.ref s.heap.objs.size) { s with heap := h', toks := tk }) :
    wpAny (model prog w) A (Builtin.«zip.__next__» ⟨[.ref z], []⟩) (fun fin s' => ∃ v, fin = .done (.ret v) ∧ Q v s') E s := by
  obtain ⟨hp, g, d, tk0, os⟩ := s
  show wpAny _ _ (field (.ref z) 2 >>= _) _ _ _
  refine wpAny_bind (wpAny_field hz rfl (x := .bool false) rfl ?_)
  show wpAny _ _ (field (.ref z) 3 >>= _) _ _ _
  refine wpAny_bind (wpAny_field hz rfl (x := .ref TI) rfl ?_)
  refine wpAny_bind (wpAny_seqItems hTI rfl ?_)
  show wpAny _ _ (Builtin.SmallTypes.ownedTupleIsFree (.ref z) >>= _) _ _ _
  refine wpAny_bind (notFree hz ha fun g0 hz0 hs0 => ?_)
  replace hs0 : Heap.SameBut z hp g0 := hs0
  simp only [Bool.false_eq_true, if_false]
  refine wpAny_bind ?_
  rw [List.forIn_toArray]
  simp only [List.forIn_cons, List.forIn_nil]
  refine wpAny_bind (wpAny_bind (wpAny_holding ?_))
  show wpAny _ _ (Builtin.SmallTypes.nextOf (.ref i1) >>= _) _ _ ⟨g0, g, d, tk0, os⟩
  refine wpAny_bind (D1.item i _ _ _ hlt1 (D1.over st1 hs0 S.zf1) fun x1 p1 tk1 hx1 sn1 hp1 => wpAny_pure (wpAny_pure ?_))
  replace hp1 : Heap.SameBut i1 g0 p1 := hp1
  refine wpAny_bind (wpAny_bind (wpAny_holding ?_))
  show wpAny _ _ (Builtin.SmallTypes.nextOf (.ref i2) >>= _) _ _ ⟨p1, g, d, tk1, os⟩
  refine wpAny_bind (D2.item i _ _ _ hlt2 (D2.over (D2.over st2 hs0 S.zf2) hp1 S.sep1_2) fun x2 p2 tk2 hx2 sn2 hp2 => wpAny_pure (wpAny_pure (wpAny_pure ?_)))
  replace hp2 : Heap.SameBut i2 p1 p2 := hp2
  refine wpAny_bind (wpAny_newTuple ?_ (by show 2 ≤ sizeLine; decide))
  have hsz : p2.objs.size = hp.objs.size := by rw [hp2.1, hp1.1, hs0.1]
  have hzz : ZO p2 z TI TO a true := hp2.extBut _ _ S.zi2 (hp1.extBut _ _ S.zi1 hz0)
  have hkk : ∀ c o, c ≠ z → c ≠ i1 → c ≠ i2 → hp.get? c = some o → p2.get? c = some o := fun c o cz c1 c2 e => hp2.extBut _ _ c2 (hp1.extBut _ _ c1 (hs0.extBut _ _ cz e))
  refine wpAny_pure ⟨_, rfl, ?_⟩
  show Q (.ref p2.objs.size) ⟨p2.push { cls := .type "tuple", data := .seq #[x1, x2] }, g, d, tk2, os⟩
  rw [hsz]
  refine hQ x1 x2 _ tk2 hx1 hx2 (Heap.get?_push_of_some _ hzz) (D1.frame _ _ _ (D1.over sn1 hp2 S.sep2_1) fun b hb o e => Heap.get?_push_of_some _ e) (D2.frame _ _ _ sn2 fun b hb o e => Heap.get?_push_of_some _ e) ?_ ?_ fun c o cz c1 c2 e => Heap.get?_push_of_some _ (hkk c o cz c1 c2 e)
  · show IsTupOf2 _ hp.objs.size x1 x2
    rw [← hsz]
    exact Heap.get?_push_size _ rfl
  · show (p2.push _).objs.size = hp.objs.size + 1
    rw [Heap.size_push, hsz]
theorem zO_end {Q : Fin → Shared → Prop} (S : ZipSep2 z TI TO i1 i2 fp1 fp2) (D1 : Draws prog w A i1 fp1 n1 P1 St1) (D2 : Draws prog w A i2 fp2 n2 P2 St2)
    (hz : ZO s.heap z TI TO a f) (ha : s.heap.get? a = some oa) (hTI : IsTupOf2 s.heap TI (.ref i1) (.ref i2)) (st1 : St1 i s.heap) (st2 : St2 i s.heap) (hle1 : i ≤ n1) (hle2 : i ≤ n2) (hend : i = n1 ∨ i = n2)
    (hE : ∀ h' tk e, (∀ c o, c ≠ z → c ≠ i1 → c ≠ i2 → s.heap.get? c = some o → h'.get? c = some o) → (∃ o, h'.get? e = some o ∧ o.cls = .type "StopIteration") → E (.ref e) { s with heap := h', toks := tk }) :
    wpAny (model prog w) A (Builtin.«zip.__next__» ⟨[.ref z], []⟩) Q E s := by
  obtain ⟨hp, g, d, tk0, os⟩ := s
  show wpAny _ _ (field (.ref z) 2 >>= _) _ _ _
  refine wpAny_bind (wpAny_field hz rfl (x := .bool false) rfl ?_)
  show wpAny _ _ (field (.ref z) 3 >>= _) _ _ _
  refine wpAny_bind (wpAny_field hz rfl (x := .ref TI) rfl ?_)
  refine wpAny_bind (wpAny_seqItems hTI rfl ?_)
  show wpAny _ _ (Builtin.SmallTypes.ownedTupleIsFree (.ref z) >>= _) _ _ _
  refine wpAny_bind (notFree hz ha fun g0 hz0 hs0 => ?_)
  replace hs0 : Heap.SameBut z hp g0 := hs0
  simp only [Bool.false_eq_true, if_false]
  refine wpAny_bind ?_
  rw [List.forIn_toArray]
  simp only [List.forIn_cons, List.forIn_nil]
  refine wpAny_bind (wpAny_bind (wpAny_holding ?_))
  show wpAny _ _ (Builtin.SmallTypes.nextOf (.ref i1) >>= _) _ _ ⟨g0, g, d, tk0, os⟩
  by_cases hlt1 : i < n1
  · refine wpAny_bind (D1.item i _ _ _ hlt1 (D1.over st1 hs0 S.zf1) fun x1 p1 tk1 hx1 sn1 hp1 => wpAny_pure (wpAny_pure ?_))
    replace hp1 : Heap.SameBut i1 g0 p1 := hp1
    have hi2 : i = n2 := by omega
    refine wpAny_bind (wpAny_bind (wpAny_holding ?_))
    show wpAny _ _ (Builtin.SmallTypes.nextOf (.ref i2) >>= _) _ _ ⟨p1, g, d, tk1, os⟩
    refine wpAny_bind (D2.done ⟨p1, g, d, tk1, os⟩ _ _ (by rw [← hi2]; exact D2.over (D2.over st2 hs0 S.zf2) hp1 S.sep1_2) fun q e hq he => ?_)
    replace hq : Heap.ExtBut i2 p1 q := hq
    exact hE q tk1 e (fun c o cz c1 c2 x => hq _ _ c2 (hp1.extBut _ _ c1 (hs0.extBut _ _ cz x))) he
  · have hi1 : i = n1 := by omega
    refine wpAny_bind (D1.done ⟨g0, g, d, tk0, os⟩ _ _ (by rw [← hi1]; exact D1.over st1 hs0 S.zf1) fun q e hq he => ?_)
    replace hq : Heap.ExtBut i1 g0 q := hq
    exact hE q tk0 e (fun c o cz c1 c2 x => hq _ _ c1 (hs0.extBut _ _ cz x)) he
/-- what a zip is between two draws: fresh, or its first tuple is still held -/
def ZSt (h : Heap) (z TI TO i1 i2 S : Addr) (i : Nat) : Prop :=
  IsTupOf2 h TI (.ref i1) (.ref i2) ∧ ((i = 0 ∧ IsZip h z TI TO .none ∧ ∃ a1 a2, IsTupOf2 h TO a1 a2) ∨ ∃ a f oa, ZO h z TI TO a f ∧ h.get? a = some oa ∧ a ≠ z ∧ a ≠ S ∧ a ≠ i1 ∧ a ≠ i2)
theorem z_item {S0 : Addr} {Q : Option Value → Shared → Prop} (S : ZipSep2 z TI TO i1 i2 fp1 fp2) (D1 : Draws prog w A.in1 i1 fp1 n1 P1 St1) (D2 : Draws prog w A.in1 i2 fp2 n2 P2 St2)
    (hst : ZSt s.heap z TI TO i1 i2 S0 i) (hS : S0 < s.heap.objs.size) (st1 : St1 i s.heap) (st2 : St2 i s.heap) (hlt1 : i < n1) (hlt2 : i < n2)
    (hQ : ∀ x1 x2 h' tk, P1 i x1 → P2 i x2 → ZSt h' z TI TO i1 i2 S0 (i + 1) → St1 (i + 1) h' → St2 (i + 1) h' → IsTupOf2 h' s.heap.objs.size x1 x2 → h'.objs.size = s.heap.objs.size + 1 →
      (∀ c o, c ≠ z → c ≠ TO → c ≠ i1 → c ≠ i2 → s.heap.get? c = some o → h'.get? c = some o) → Q (some (.ref s.heap.objs.size)) { s with heap := h', toks := tk }) :
    wpAny (model prog w) A (pyNext (.ref z)) Q E s := by
  obtain ⟨hTI, ⟨rfl, hz, b1, b2, hTO⟩ | ⟨a, f, oa, hz, ha, az, aS, ai1, ai2⟩⟩ := hst
  · have lt : ∀ {c o}, s.heap.get? c = some o → s.heap.objs.size ≠ c := fun e => Nat.ne_of_gt (Heap.lt_size e)
    have l1 : s.heap.objs.size ≠ i1 := by obtain ⟨_, e⟩ := D1.live _ _ st1; exact lt e
    have l2 : s.heap.objs.size ≠ i2 := by obtain ⟨_, e⟩ := D2.live _ _ st2; exact lt e
    refine wpAny_pyNext_zipD2_item S D1 D2 hz hTI hTO st1 st2 hlt1 hlt2 fun x1 x2 h' tk y1 y2 c1 c2 d1 d2 c5 c6 c7 => ?_
    exact hQ x1 x2 h' tk y1 y2 ⟨c7 _ _ S.TIz S.TITO S.TIi1 S.TIi2 hTI, .inr ⟨_, false, _, c1, c5, lt hz, Nat.ne_of_gt hS, l1, l2⟩⟩ d1 d2 c5 c6 c7
  · have hT : s.TypeIs (.ref z) "zip" := ⟨_, hz, rfl⟩
    unfold pyNext
    exact wpAny_bind (wpAny_attempt (wpAny_callSpecial?_slot (name := Str.ofString "__next__") hT F.slot_zip_next
      (wpAny_call_entry F.slot_zip_next hT F.entry_zip_next
        (zO_item S D1 D2 hz ha hTI st1 st2 hlt1 hlt2 fun x1 x2 h' tk y1 y2 c1 d1 d2 c5 c6 c7 => wpAny_pure (hQ x1 x2 h' tk y1 y2 ⟨c7 _ _ S.TIz S.TIi1 S.TIi2 hTI, .inr ⟨a, true, oa, c1, c7 _ _ az ai1 ai2 ha, az, aS, ai1, ai2⟩⟩ d1 d2 c5 c6 fun c o e1 _ e3 e4 e => c7 c o e1 e3 e4 e)) (F.args_zip_next_1 _))))
theorem z_end {S0 : Addr} {Q : Option Value → Shared → Prop} (S : ZipSep2 z TI TO i1 i2 fp1 fp2) (D1 : Draws prog w A.in1 i1 fp1 n1 P1 St1) (D2 : Draws prog w A.in1 i2 fp2 n2 P2 St2)
    (hst : ZSt s.heap z TI TO i1 i2 S0 i) (st1 : St1 i s.heap) (st2 : St2 i s.heap) (hle1 : i ≤ n1) (hle2 : i ≤ n2) (hend : i = n1 ∨ i = n2)
    (hQ : ∀ h' tk, (∀ c o, c ≠ z → c ≠ TO → c ≠ i1 → c ≠ i2 → s.heap.get? c = some o → h'.get? c = some o) → Q none { s with heap := h', toks := tk }) : wpAny (model prog w) A (pyNext (.ref z)) Q E s := by
  obtain ⟨hTI, ⟨rfl, hz, b1, b2, hTO⟩ | ⟨a, f, oa, hz, ha, az, aS, ai1, ai2⟩⟩ := hst
  · exact wpAny_pyNext_zipD2_end S D1 D2 hz hTI hTO st1 st2 hle1 hle2 hend hQ
  · have hT : s.TypeIs (.ref z) "zip" := ⟨_, hz, rfl⟩
    unfold pyNext
    refine wpAny_bind (wpAny_attempt (wpAny_callSpecial?_slot (name := Str.ofString "__next__") hT F.slot_zip_next
      (wpAny_call_entry F.slot_zip_next hT F.entry_zip_next (zO_end S D1 D2 hz ha hTI st1 st2 hle1 hle2 hend fun h' tk e hk he => ?_) (F.args_zip_next_1 _))))
    obtain ⟨o, ho, hc⟩ := he
    refine wpAny_bind (wpAny_isInstance (T := "StopIteration") (b := true) ⟨o, ho, hc⟩ isSubtype_stop ?_)
    exact wpAny_pure (hQ _ _ fun c o e1 _ e3 e4 e => hk c o e1 e3 e4 e)
/-- what is collected: new tuples, one after the other -/
structure ZG (P1 P2 : Nat → Value → Prop) (lo : Addr) (h : Heap) (as : List Addr) : Prop where
  rise : as.Pairwise (· < ·)
  above : ∀ a ∈ as, lo < a
  pairs : ∀ (j : Nat) (a : Addr), as[j]? = some a → ∃ x y, P1 j x ∧ P2 j y ∧ h.get? a = some { cls := .type "tuple", data := .seq #[x, y] }
theorem ZG.there {lo : Addr} {h : Heap} {as : List Addr} (g : ZG P1 P2 lo h as) {a : Addr} (ha : a ∈ as) : a < h.objs.size := by
  obtain ⟨j, hj⟩ := List.mem_iff_getElem?.mp ha
  obtain ⟨_, _, _, _, e⟩ := g.pairs j a hj
  exact Heap.lt_size e
theorem ZSt.keep {h h' : Heap} {S0 : Addr} (x : ZSt h z TI TO i1 i2 S0 i) (hk : ∀ b o, b ≠ S0 → h.get? b = some o → h'.get? b = some o) (h1 : z ≠ S0) (h2 : TI ≠ S0) (h3 : TO ≠ S0) : ZSt h' z TI TO i1 i2 S0 i := by
  obtain ⟨hTI, ⟨e, hz, b1, b2, hTO⟩ | ⟨a, f, oa, hz, ha, az, aS, ai1, ai2⟩⟩ := x
  · exact ⟨hk _ _ h2 hTI, .inl ⟨e, hk _ _ h1 hz, b1, b2, hk _ _ h3 hTO⟩⟩
  · exact ⟨hk _ _ h2 hTI, .inr ⟨a, f, oa, hk _ _ h1 hz, hk _ _ aS ha, az, aS, ai1, ai2⟩⟩
theorem nolen_zip : typeLookup (.type "zip") "__len__" = pure none := by rw [typeLookup_type, builtinLookup_eq_fast]; kernel_rfl
theorem nohint_zip : typeLookup (.type "zip") "__length_hint__" = pure none := by rw [typeLookup_type, builtinLookup_eq_fast]; kernel_rfl
theorem z_loop {S0 : Addr} {n : Nat} {R : Result → Shared → Prop} (S : ZipSep2 z TI TO i1 i2 fp1 fp2) (D1 : Draws prog w A.in1.in1 i1 fp1 n1 P1 St1) (D2 : Draws prog w A.in1.in1 i2 fp2 n2 P2 St2)
    (hz0 : z < S0) (hTI0 : TI < S0) (hTO0 : TO < S0) (hi10 : i1 < S0) (hi20 : i2 < S0) (hf1 : S0 ∉ fp1) (hf2 : S0 ∉ fp2) (hn1 : n ≤ n1) (hn2 : n ≤ n2) (hnn : n = n1 ∨ n = n2) (hn : n ≤ sizeLine) (res : Value) {h₁ : Heap}
    (hR : ∀ h' tk acc c as, (∀ b o, b ≠ S0 → b ≠ z → b ≠ TO → b ≠ i1 → b ≠ i2 → h₁.get? b = some o → h'.get? b = some o) → h'.get? S0 = some { cls := .type "list", dict := none, data := .seq acc c, slots := #[] } → as.length = n → ZG P1 P2 S0 h' as →
      acc.toList = as.map Value.ref → R (.ok (.ret res)) { s with heap := h', toks := tk }) :
    ∀ (k i : Nat) (h : Heap) (tk c : Nat) (acc : Array Value) (as : List Addr), n - i = k → i ≤ n → ZSt h z TI TO i1 i2 S0 i → St1 i h → St2 i h → (∀ b o, b ≠ S0 → b ≠ z → b ≠ TO → b ≠ i1 → b ≠ i2 → h₁.get? b = some o → h.get? b = some o) →
      h.get? S0 = some { cls := .type "list", dict := none, data := .seq acc c, slots := #[] } → acc.toList = as.map Value.ref → as.length = i → ZG P1 P2 S0 h as →
      codeAny (model prog w) A (.builtin "list.extend.loop" ⟨[.ref S0, .ref z, res], []⟩) R { s with heap := h, toks := tk } := by
  have nz : S0 ≠ z := Nat.ne_of_gt hz0
  have nTI : S0 ≠ TI := Nat.ne_of_gt hTI0
  have nTO : S0 ≠ TO := Nat.ne_of_gt hTO0
  have n1' : S0 ≠ i1 := Nat.ne_of_gt hi10
  have n2' : S0 ≠ i2 := Nat.ne_of_gt hi20
  intro k
  induction k with
  | zero =>
    intro i h tk c acc as hk hi hst s1 s2 hkeep hS hacc hal hG
    have hin : i = n := by omega
    refine codeAny_builtin PySem.F.entry_extend_loop ?_
    rw [Around.under_plainId PySem.F.plain_extend_loop _]
    show wpAny _ A.in1 (pyNext (.ref z) >>= _) _ _ _
    refine wpAny_bind (z_end (s := { s with heap := h, toks := tk }) (A := A.in1) S D1 D2 hst s1 s2 (by omega) (by omega) (by omega) fun h' tk' he => ?_)
    refine wpAny_pure (hR h' tk' acc c as (fun b o h1 h2 h3 h4 h5 e => he b o h2 h3 h4 h5 (hkeep b o h1 h2 h3 h4 h5 e)) (he S0 _ nz nTO n1' n2' hS) (by omega) ⟨hG.rise, hG.above, fun j a hj => ?_⟩ hacc)
    obtain ⟨x, y, e1, e2, e3⟩ := hG.pairs j a hj
    have hb := hG.above a (List.mem_of_getElem? hj)
    exact ⟨x, y, e1, e2, he a _ (Nat.ne_of_gt (Nat.lt_trans hz0 hb)) (Nat.ne_of_gt (Nat.lt_trans hTO0 hb)) (Nat.ne_of_gt (Nat.lt_trans hi10 hb)) (Nat.ne_of_gt (Nat.lt_trans hi20 hb)) e3⟩
  | succ k ih =>
    intro i h tk c acc as hk hi hst s1 s2 hkeep hS hacc hal hG
    have hsz : acc.size = i := by rw [← Array.length_toList, hacc, List.length_map, hal]
    refine codeAny_builtin PySem.F.entry_extend_loop ?_
    rw [Around.under_plainId PySem.F.plain_extend_loop _]
    show wpAny _ A.in1 (pyNext (.ref z) >>= _) _ _ _
    refine wpAny_bind (z_item (s := { s with heap := h, toks := tk }) (S0 := S0) S D1 D2 hst (Heap.lt_size hS) s1 s2 (by omega) (by omega) fun x1 x2 h' tk' y1 y2 hst' s1' s2' ht hz hkp => ?_)
    dsimp only at ht hz hkp ⊢
    have hS' := hkp S0 _ nz nTO n1' n2' hS
    have up : ∀ b o, b ≠ S0 → h'.get? b = some o → (h'.update S0 (Obj.mapSeq (·.push (Value.ref h.objs.size)))).get? b = some o := fun b o hb e => (Heap.get?_update_other _ _ (Ne.symm hb)).trans e
    have hSl : S0 < h.objs.size := Heap.lt_size hS
    show wpAny _ A.in1 (updateSeq S0 (·.push (Value.ref h.objs.size)) >>= _) _ _ _
    refine wpAny_bind ?_
    refine wpAny_updateSeq hS' rfl (wpAny_pure ⟨plainId_quiet PySem.F.plain_extend_loop _, ih (i + 1) _ tk' _ (acc.push (Value.ref h.objs.size)) (as ++ [h.objs.size]) (by omega) (by omega) (hst'.keep up nz.symm nTI.symm nTO.symm)
      (D1.frame _ _ _ s1' fun b hb o e => up b o (fun q => hf1 (q ▸ hb)) e) (D2.frame _ _ _ s2' fun b hb o e => up b o (fun q => hf2 (q ▸ hb)) e)
      (fun b o h1 h2 h3 h4 h5 e => up b o h1 (hkp b o h2 h3 h4 h5 (hkeep b o h1 h2 h3 h4 h5 e))) (Heap.get?_update_self _ hS' rfl) (by rw [Array.toList_push, hacc, List.map_append]; rfl) (by rw [List.length_append, hal]; rfl) ⟨?_, ?_, ?_⟩⟩) (by rw [hsz]; omega) (by show (acc.push (Value.ref h.objs.size)).size ≤ sizeLine + 1; rw [Array.size_push, hsz]; omega)
    · refine List.pairwise_append.mpr ⟨hG.rise, List.pairwise_singleton _ _, fun a ha b hb => ?_⟩
      rw [List.mem_singleton.mp hb]
      exact hG.there ha
    · intro a ha
      rcases List.mem_append.mp ha with ha | ha
      · exact hG.above a ha
      · rw [List.mem_singleton.mp ha]; exact hSl
    · intro j b hj
      rcases Nat.lt_trichotomy j as.length with h1 | h1 | h1
      · rw [List.getElem?_append_left h1] at hj
        obtain ⟨x', y', e1, e2, e3⟩ := hG.pairs j b hj
        have hb := hG.above b (List.mem_of_getElem? hj)
        exact ⟨x', y', e1, e2, up b _ (Nat.ne_of_gt hb) (hkp b _ (Nat.ne_of_gt (Nat.lt_trans hz0 hb)) (Nat.ne_of_gt (Nat.lt_trans hTO0 hb)) (Nat.ne_of_gt (Nat.lt_trans hi10 hb)) (Nat.ne_of_gt (Nat.lt_trans hi20 hb)) e3)⟩
      · subst h1
        have hb : h.objs.size = b := by simpa using hj
        subst hb
        exact ⟨x1, x2, by rw [hal]; exact y1, by rw [hal]; exact y2, up _ _ (Nat.ne_of_gt hSl) ht⟩
      · have hnone : (as ++ [h.objs.size])[j]? = none := List.getElem?_eq_none (by rw [List.length_append, List.length_singleton]; omega)
        rw [hnone] at hj; cases hj
theorem z_collect {n : Nat} {R : List Value → Shared → Prop} (S : ZipSep2 z TI TO i1 i2 fp1 fp2) (D1 : Draws prog w A.in1.in1 i1 fp1 n1 P1 St1) (D2 : Draws prog w A.in1.in1 i2 fp2 n2 P2 St2)
    (hz : IsZip s.heap z TI TO .none) (hTI : IsTupOf2 s.heap TI (.ref i1) (.ref i2)) (hTO : IsTupOf2 s.heap TO a1 a2) (st1 : St1 0 s.heap) (st2 : St2 0 s.heap) (hfp1 : ∀ b ∈ fp1, b < s.heap.objs.size) (hfp2 : ∀ b ∈ fp2, b < s.heap.objs.size)
    (hn1 : n ≤ n1) (hn2 : n ≤ n2) (hnn : n = n1 ∨ n = n2)
    (hR : ∀ h' tk as, (∀ b o, b ≠ z → b ≠ TO → b ≠ i1 → b ≠ i2 → s.heap.get? b = some o → h'.get? b = some o) → as.length = n → ZG P1 P2 s.heap.objs.size h' as → R (as.map Value.ref) { s with heap := h', toks := tk })
    (hn : n ≤ sizeLine) : wpAny (model prog w) A (collect (.ref z)) R E s := by
  have lz : z < s.heap.objs.size := Heap.lt_size hz
  have lTI : TI < s.heap.objs.size := Heap.lt_size hTI
  have lTO : TO < s.heap.objs.size := Heap.lt_size hTO
  have l1 : i1 < s.heap.objs.size := hfp1 _ S.mem1
  have l2 : i2 < s.heap.objs.size := hfp2 _ S.mem2
  have hT : ∀ h' : Heap, (∀ b o, b ≠ s.heap.objs.size → s.heap.get? b = some o → h'.get? b = some o) → ∀ tk, Shared.TypeIs { s with heap := h', toks := tk } (.ref z) "zip" := fun h' k tk => ⟨_, k _ _ (Nat.ne_of_lt lz) hz, rfl⟩
  have hSz : s.heap.objs.size ≠ z := Nat.ne_of_gt lz
  unfold collect
  refine wpAny_bind (wpAny_runValue (codeAny_builtin PySem.F.entry_proto_collect ?_))
  rw [Around.under_plainId PySem.F.plain_proto_collect _]
  show wpAny _ A.in1 (newList [] >>= fun l => again (.builtin "list.__iadd__" ⟨[l, .ref z], []⟩)) _ _ s
  refine wpAny_bind (wpAny_newObj_type ?_)
  refine wpAny_pure ⟨plainId_quiet PySem.F.plain_list_iadd _, codeAny_builtin PySem.F.entry_list_iadd ?_⟩
  rw [Around.under_plainId PySem.F.plain_list_iadd _]
  have oth0 : ∀ b o, b ≠ s.heap.objs.size → s.heap.get? b = some o → (s.heap.push { cls := .type "list", data := .seq ([] : List Value).toArray }).get? b = some o := fun b o _ e => Heap.get?_push_of_some _ e
  show wpAny _ A.in1 (Builtin.List.listExtendWith (.ref s.heap.objs.size) (.ref z) (.ref s.heap.objs.size)) _ _ _
  unfold Builtin.List.listExtendWith
  refine wpAny_bind (wpAny_typeOf (hT _ oth0 s.toks) ?_)
  have h1 : Builtin.List.listSameRef (.ref s.heap.objs.size) (.ref z) = false := by simp [Builtin.List.listSameRef, hSz]
  have h2 : (Value.type "zip" == Value.type "list") = false := by decide
  have h3 : (Value.type "zip" == Value.type "tuple") = false := by decide
  simp only [h1, h2, h3, Bool.or_false, Bool.false_eq_true, if_false]
  refine wpAny_bind (wpAny_pyIter_zip (show IsZip (s.heap.push _) z TI TO .none from oth0 _ _ (Nat.ne_of_lt lz) hz) ?_)
  refine wpAny_bind (wpAny_holding ?_)
  unfold Builtin.List.listLengthHint
  refine wpAny_bind (wpAny_specialOf (hT _ oth0 s.toks) nolen_zip ?_)
  show wpAny _ A.in1 (specialOf (Value.ref z) (Str.ofString "__length_hint__") >>= _) _ _ _
  refine wpAny_bind (wpAny_specialOf (hT _ oth0 s.toks) nohint_zip ?_)
  refine wpAny_pure ?_
  show wpAny _ A.in1 (rule "list.extend.makes-room" >>= fun _ => Builtin.List.listTouch (.ref s.heap.objs.size) >>= fun _ =>
    again (.builtin "list.extend.loop" ⟨[.ref s.heap.objs.size, .ref z, .ref s.heap.objs.size], []⟩)) _ _ _
  refine wpAny_bind (wpAny_rule ?_)
  have hS₁ : (s.heap.push { cls := .type "list", data := .seq ([] : List Value).toArray }).get? s.heap.objs.size = some { cls := .type "list", data := .seq ([] : List Value).toArray } := Heap.get?_push_size _ rfl
  refine wpAny_bind ?_
  show wpAny _ A.in1 (updateSeq s.heap.objs.size (·.push .none) >>= fun _ => updateSeq s.heap.objs.size (·.pop)) _ _ _
  refine wpAny_bind (wpAny_updateSeq hS₁ rfl ?_)
  have hS₂ := Heap.get?_update_self (Obj.mapSeq (·.push Value.none)) hS₁ rfl
  refine wpAny_updateSeq hS₂ rfl ?_
  have hS₃ := Heap.get?_update_self (Obj.mapSeq (·.pop)) hS₂ rfl
  have oth : ∀ b o, b ≠ s.heap.objs.size → s.heap.get? b = some o →
      (((s.heap.push { cls := .type "list", data := .seq ([] : List Value).toArray }).update s.heap.objs.size (Obj.mapSeq (·.push Value.none))).update s.heap.objs.size (Obj.mapSeq (·.pop))).get? b = some o :=
    fun b o hb e => (Heap.get?_update_other _ _ (Ne.symm hb)).trans ((Heap.get?_update_other _ _ (Ne.symm hb)).trans (oth0 b o hb e))
  refine wpAny_pure ⟨plainId_quiet PySem.F.plain_extend_loop _, z_loop (A := A) (s := s) (n := n) (P1 := P1) (P2 := P2) (St1 := St1) (St2 := St2) (h₁ := s.heap) S D1 D2 lz lTI lTO l1 l2 (fun q => Nat.lt_irrefl _ (hfp1 _ q)) (fun q => Nat.lt_irrefl _ (hfp2 _ q)) hn1 hn2 hnn hn (.ref s.heap.objs.size)
    (fun h' tk acc c as hk hS' hl hG hacc => ?_) n 0 _ s.toks _ #[] [] (Nat.sub_zero _) (Nat.zero_le _) ⟨oth _ _ (Nat.ne_of_lt lTI) hTI, .inl ⟨rfl, oth _ _ (Nat.ne_of_lt lz) hz, a1, a2, oth _ _ (Nat.ne_of_lt lTO) hTO⟩⟩
    (D1.frame _ _ _ st1 fun b hb o e => oth b o (Nat.ne_of_lt (hfp1 b hb)) e) (D2.frame _ _ _ st2 fun b hb o e => oth b o (Nat.ne_of_lt (hfp2 b hb)) e) (fun b o hb _ _ _ _ e => oth b o hb e) hS₃ rfl rfl ⟨List.Pairwise.nil, (fun _ ha => nomatch ha), (fun j a hj => by simp at hj)⟩⟩
  show wpAny _ A (load s.heap.objs.size >>= _) _ _ _
  refine wpAny_bind (wpAny_load hS' ?_)
  refine wpAny_pure ?_
  show R acc.toList _
  rw [hacc]
  exact hR h' tk as (fun b o c1 c2 c3 c4 e => hk b o (Nat.ne_of_lt (Heap.lt_size e)) c1 c2 c3 c4 e) hl hG
theorem code_tuple_zip {n : Nat} {Q₁ : Value → Shared → Prop} (S : ZipSep2 z TI TO i1 i2 fp1 fp2) (D1 : Draws prog w A.in1.in1.in1 i1 fp1 n1 P1 St1) (D2 : Draws prog w A.in1.in1.in1 i2 fp2 n2 P2 St2)
    (hz : IsZip s.heap z TI TO .none) (hTI : IsTupOf2 s.heap TI (.ref i1) (.ref i2)) (hTO : IsTupOf2 s.heap TO a1 a2) (st1 : St1 0 s.heap) (st2 : St2 0 s.heap) (hfp1 : ∀ b ∈ fp1, b < s.heap.objs.size) (hfp2 : ∀ b ∈ fp2, b < s.heap.objs.size)
    (hn1 : n ≤ n1) (hn2 : n ≤ n2) (hnn : n = n1 ∨ n = n2) (hn : n ≤ sizeLine)
    (h : ∀ h' tk as, (∀ b o, b ≠ z → b ≠ TO → b ≠ i1 → b ≠ i2 → s.heap.get? b = some o → h'.get? b = some o) → as.length = n → ZG P1 P2 s.heap.objs.size h' as →
      Q₁ (.ref h'.objs.size) { s with heap := h'.push { cls := .type "tuple", data := .seq (as.map Value.ref).toArray }, toks := tk }) :
    codeAny (model prog w) A (.call (.builtin "tuple.__new__") ⟨[.type "tuple", .ref z], []⟩) (wants Q₁ E) s := by
  refine codeAny_of_tree ?_
  show wpAny _ A.in1 (do checkBuiltinCall "tuple.__new__" ⟨[.type "tuple", .ref z], []⟩; again (.builtin "tuple.__new__" ⟨[.type "tuple", .ref z], []⟩)) _ _ s
  refine wpAny_bind (wpAny_of_eq (PySem.F.newCall_tuple_1 _) (wpAny_pure ⟨plainId_quiet PySem.F.plain_tuple_new _, codeAny_builtin PySem.F.entry_tuple_new ?_⟩))
  rw [Around.under_plainId PySem.F.plain_tuple_new _]
  have hsub := sub_tuple_self
  have hinit := init_tuple_lookup
  have hmh := madeHere_tuple
  have hTI0 : s.TypeIs (.ref z) "zip" := ⟨_, hz, rfl⟩
  wp_walk using wpAny_typeOf hTI0, z_collect (A := A.in1) (hn := hn) S D1 D2 hz hTI hTO st1 st2 hfp1 hfp2 hn1 hn2 hnn
  intro h' tk as hk hl hG
  show wpAny _ _ (Builtin.Tuple.tupleExact (as.map Value.ref).toArray >>= fun v => ret v) _ _ _
  unfold Builtin.Tuple.tupleExact
  refine wpAny_bind (wpAny_newObj_type ?_ (by show (as.map Value.ref).toArray.size ≤ sizeLine; rw [List.size_toArray, List.length_map, hl]; exact hn))
  exact wpAny_pure (h h' tk as hk hl hG)
theorem call_tuple_zip {n : Nat} {Q : Value → Shared → Prop} (S : ZipSep2 z TI TO i1 i2 fp1 fp2) (D1 : Draws prog w A.in1.in1.in1.in1 i1 fp1 n1 P1 St1) (D2 : Draws prog w A.in1.in1.in1.in1 i2 fp2 n2 P2 St2)
    (hz : IsZip s.heap z TI TO .none) (hTI : IsTupOf2 s.heap TI (.ref i1) (.ref i2)) (hTO : IsTupOf2 s.heap TO a1 a2) (st1 : St1 0 s.heap) (st2 : St2 0 s.heap) (hfp1 : ∀ b ∈ fp1, b < s.heap.objs.size) (hfp2 : ∀ b ∈ fp2, b < s.heap.objs.size)
    (hn1 : n ≤ n1) (hn2 : n ≤ n2) (hnn : n = n1 ∨ n = n2) (hn : n ≤ sizeLine)
    (hQ : ∀ h' tk as, (∀ b o, b ≠ z → b ≠ TO → b ≠ i1 → b ≠ i2 → s.heap.get? b = some o → h'.get? b = some o) → as.length = n → ZG P1 P2 s.heap.objs.size h' as →
      Q (.ref h'.objs.size) { s with heap := h'.push { cls := .type "tuple", data := .seq (as.map Value.ref).toArray }, toks := tk }) :
    wpAny (model prog w) A (call (.type "tuple") [.ref z]) Q E s := by
  refine callType_codes (Q₁ := fun obj s₁ => s₁.TypeIs obj "tuple" ∧ Q obj s₁) PySem.F.called_tuple (PySem.F.typeCall_tuple_1 _) PySem.F.entry_object_init
    (code_tuple_zip (A := A.in1) S D1 D2 hz hTI hTO st1 st2 hfp1 hfp2 hn1 hn2 hnn hn fun h' tk as hk hl hG => ⟨⟨_, Heap.get?_push_size _ rfl, rfl⟩, hQ h' tk as hk hl hG⟩) fun obj s₁ h₁ => ?_
  exact ⟨h₁.1, PySem.F.args_object_init_2 obj _, object_init_meets PySem.F.called_tuple.init.lookup PySem.F.called_tuple.made (by decide) prog w A.in1 _ s₁ ⟨h₁.1, rfl, h₁.2⟩⟩
end
end NKZ
namespace NKZ
/-! tuple(zip(e, e2)) of two tuples of one length, in the hand layer -/
def layZ : Hp → List Addr → List V → List V → Hp
  | H, a :: as, x :: xs, y :: ys => upd (layZ H as xs ys) a (.tup [x, y])
  | H, _, _, _ => H
theorem layZ_ne {H : Hp} : ∀ {as : List Addr} {xs ys : List V} {b : Addr}, b ∉ as → layZ H as xs ys b = H b
  | [], _, _, _, _ => rfl
  | _ :: _, [], _, _, _ => rfl
  | _ :: _, _ :: _, [], _, _ => rfl
  | a :: as, x :: xs, y :: ys, b, h => by
    show upd (layZ H as xs ys) a (.tup [x, y]) b = H b
    rw [upd_ne (fun (e : b = a) => h (by rw [e]; exact List.mem_cons_self ..))]
    exact layZ_ne fun q => h (List.mem_cons_of_mem _ q)
theorem layZ_get {H : Hp} : ∀ {as : List Addr} {xs ys : List V} {i : Nat} {a : Addr} {x y : V}, as.Nodup → as[i]? = some a → xs[i]? = some x → ys[i]? = some y → layZ H as xs ys a = some (.tup [x, y])
  | [], _, _, _, _, _, _, _, h, _, _ => by simp at h
  | _ :: _, [], _, _, _, _, _, _, _, h, _ => by simp at h
  | _ :: _, _ :: _, [], _, _, _, _, _, _, _, h => by simp at h
  | a :: as, x :: xs, y :: ys, i, a', x', y', hnd, ha, hx, hy => by
    show upd (layZ H as xs ys) a (.tup [x, y]) a' = _
    cases i with
    | zero =>
      simp only [List.getElem?_cons_zero, Option.some.injEq] at ha hx hy
      subst ha hx hy
      exact upd_same
    | succ i =>
      simp only [List.getElem?_cons_succ] at ha hx hy
      have hm : a' ∈ as := List.mem_of_getElem? ha
      have hne : a' ≠ a := fun e => (List.nodup_cons.mp hnd).1 (e ▸ hm)
      rw [upd_ne hne]
      exact layZ_get (List.nodup_cons.mp hnd).2 ha hx hy
section
variable {fs ex : List Addr} {H H' : Hp} {h h' : Heap} {as : List Addr}
theorem Un.laids (k : ∀ b u, h.get? b = some u → h'.get? b = some u) (hp : ∀ a ∈ as, h.get? a = none) (hn : ∀ a ∈ as, H a = none) (same : ∀ b, b ∉ as → H' b = H b) : Un fs ex H H' h h' where
  keep := fun b u q _ _ _ => k b u q
  slot := fun b u q _ _ _ => ⟨u.slots, k b u q⟩
  free := fun b u q n _ => by rw [same b fun z => by rw [hp b z] at q; cases q]; exact n
  there := fun b u q _ => ⟨u, k b u q⟩
  tups := fun b xs q => by rw [same b fun z => by rw [hn b z] at q; cases q]; exact q
  frzs := fun b u xs q => by rw [same b fun z => by rw [hn b z] at q; cases q]; exact q
  tbls := fun b ps q => ⟨#[], by rw [same b (fun z => by rw [hn b z] at q; cases q), q]; simp⟩
theorem HOk.laids {P : Program} {w : World} (x : HOk P w H h) (k : ∀ b u, h.get? b = some u → h'.get? b = some u) (hn : ∀ a ∈ as, H a = none) (same : ∀ b, b ∉ as → H' b = H b)
    (new : ∀ a ∈ as, ∀ o, H' a = some o → ObjOk P w H' h' a o) : HOk P w H' h' := fun b u e => by
  by_cases hb : b ∈ as
  · exact new b hb u e
  · rw [same b hb] at e
    have up : ∀ c o, H c = some o → H' c = some o := fun c o q => by rw [same c fun z => by rw [hn c z] at q; cases q]; exact q
    exact (x b u e).stay (fun c v _ q => k c v q) (fun c q => up _ _ q) fun c xs q => up _ _ q
end
section
variable {X : Cx} {pins : List (Addr × Obj)} {σ : L2.St} {H H' : Hp} {s : Shared}
theorem Inv.laids {h' : Heap} {as : List Addr} {t' : Nat} (I : Inv X pins σ H s) (k : ∀ b u, s.heap.get? b = some u → h'.get? b = some u) (hp : ∀ a ∈ as, s.heap.get? a = none) (hn : ∀ a ∈ as, H a = none) (same : ∀ b, b ∉ as → H' b = H b)
    (new : ∀ a ∈ as, ∀ o, H' a = some o → ObjOk X.prog X.w H' h' a o) : Inv X pins σ H' { s with heap := h', toks := t' } := I.un (Un.laids k hp hn same) (HOk.laids I.hok k hn same new)
end
/-- tuple(zip(a, b)): new pairs, in a new tuple -/
def tTzip (K : PySem.W.Frag) (ta : TA) : TE := fun σ H Q => ta σ H fun vs H1 => ∃ a b xs ys, vs = [.ref a, .ref b] ∧ SqT K H1 a xs ∧ SqT K H1 b ys ∧ xs.length = ys.length ∧
  ∀ (H2 : Hp) (as : List Addr), as.length = xs.length → as.Nodup → (∀ c ∈ as, H1 c = none) → (∀ c, c ∉ as → H2 c = H1 c) →
    (∀ (i : Nat) (c : Addr) (x y : V), as[i]? = some c → xs[i]? = some x → ys[i]? = some y → H2 c = some (.tup [x, y])) → ∀ q, H2 q = none → Q (.ref q) (upd H2 q (.tup (as.map V.ref)))
theorem vals_refs : ∀ (as : List Addr), Vals (as.map V.ref) (as.map Value.ref)
  | [] => .nil
  | _ :: as => .cons rfl (vals_refs as)
theorem pe_tzip {X : Cx} {e e2 : Expr} {ta : TA} {p p2 pos pos2 : Pos} (hg : Gl X "tuple") (hm : X.mg "tuple" = none) (hg2 : Gl X "zip") (hm2 : X.mg "zip" = none) (ha : PA X [e, e2] ta) (hc : X.calm = true := by rfl)
    (na : starEach [.Call (.Name "zip" p2) [e, e2] [] pos2] X.env = (false, eval (.Call (.Name "zip" p2) [e, e2] [] pos2) X.env) :: starEach [] X.env := by rfl)
    (hs : starEach [e, e2] X.env = (false, eval e X.env) :: starEach [e2] X.env := by rfl) (hpl : (backTo pos2 (starEach [e2] X.env)).any (·.1) = false := by rfl) :
    PE X (.Call (.Name "tuple" p) [.Call (.Name "zip" p2) [e, e2] [] pos2] [] pos) (tTzip X.K ta) := by
  refine ⟨fun pins s σ H Q I h => ?_⟩
  refine Call_ (ld_blt I hg hm boot_tuple (PyProof.Rows.callWith_type1 (PyProof.Rows.args_cons ?_ na) na))
  refine Call_ (ld_blt I hg2 hm2 PyProof.Rows.boot_zip (PyProof.Rows.callWith_type1 (thn (ha.run pos2 pins s σ H _ I h) fun us s1 ⟨vs, H1, I1, r1, q1⟩ => ?_) hs hpl))
  obtain ⟨a, b, xs, ys, ex, hqx, hqy, hlen, q1⟩ := q1
  subst ex
  cases r1 with
  | cons r rr =>
    cases rr with
    | cons r' rr =>
      cases rr
      cases r
      cases r'
      obtain ⟨its, rv, p1, hz1⟩ := I1.tuple hqx
      obtain ⟨its2, rv2, p2', hz2⟩ := I1.tuple hqy
      have l1 := rv.length
      have l2 := rv2.length
      obtain ⟨o1, ho1, hd1⟩ := id p1
      obtain ⟨o2, ho2, hd2⟩ := id p2'
      have lt1 : a < s1.heap.objs.size := Heap.lt_size ho1
      have lt2 : b < s1.heap.objs.size := Heap.lt_size ho2
      refine RZ.call_zipT (show s1.heap.IsTuple a its.toArray from p1) (show s1.heap.IsTuple b its2.toArray from p2') fun h' hz hTI hTO h1 h2 hsz hk => ?_
      refine PyProof.Rows.args_nil ?_
      have hh : X.A.handled = none := I1.ok.hd hc
      have S := PySem.zip_sep2 (N := s1.heap.objs.size) (fp1 := [a]) (fp2 := [b]) (by simpa using lt1) (by simpa using lt2)
      have na1 : a ≠ s1.heap.objs.size := Nat.ne_of_lt lt1
      have nb1 : b ≠ s1.heap.objs.size + 1 := Nat.ne_of_lt (Nat.lt_succ_of_lt lt2)
      have D1 := Draws.tuple (prog := X.prog) (w := X.w) (A := X.A.in1.in1.in1.in1) hh s1.heap.objs.size a na1 its.toArray
      have D2 := Draws.tuple (prog := X.prog) (w := X.w) (A := X.A.in1.in1.in1.in1) hh (s1.heap.objs.size + 1) b nb1 its2.toArray
      refine call_tuple_zip (n := xs.length) (s := { s1 with heap := h' }) S D1 D2 hz hTI hTO ⟨h1, hk _ _ ho1 |> fun e => ⟨o1, e, hd1⟩⟩ ⟨h2, ⟨o2, hk _ _ ho2, hd2⟩⟩ ?_ ?_ ?_ ?_ ?_ ?_ fun h'' tk as hk2 hal hG => ?_
      · intro c hcm
        have e' : c = s1.heap.objs.size ∨ c = a := by simpa using hcm
        show c < h'.objs.size
        rw [hsz]
        rcases e' with rfl | rfl
        · exact Nat.lt_add_of_pos_right (by decide)
        · exact Nat.lt_of_lt_of_le lt1 (Nat.le_add_right _ _)
      · intro c hcm
        have e' : c = s1.heap.objs.size + 1 ∨ c = b := by simpa using hcm
        show c < h'.objs.size
        rw [hsz]
        rcases e' with rfl | rfl
        · exact Nat.add_lt_add_left (by decide) _
        · exact Nat.lt_of_lt_of_le lt2 (Nat.le_add_right _ _)
      · rw [List.size_toArray]; omega
      · rw [List.size_toArray]; omega
      · left; rw [List.size_toArray]; omega
      · exact hz1
      have hkk : ∀ c o, s1.heap.get? c = some o → h''.get? c = some o := fun c o q => by
        have hl := Heap.lt_size q
        have n4 : ∀ j, c ≠ s1.heap.objs.size + j := fun j => Nat.ne_of_lt (Nat.lt_of_lt_of_le hl (Nat.le_add_right _ _))
        exact hk2 c o (n4 4) (n4 3) (n4 0) (n4 1) (hk c o q)
      have above : ∀ c ∈ as, s1.heap.objs.size ≤ c := fun c q => by
        have := hG.above c q
        change h'.objs.size < c at this
        rw [hsz] at this
        exact Nat.le_trans (Nat.le_add_right _ _) (Nat.le_of_lt this)
      have hnd : as.Nodup := hG.rise.imp fun q => Nat.ne_of_lt q
      have hp0 : ∀ c ∈ as, s1.heap.get? c = none := fun c q => by
        cases e : s1.heap.get? c with
        | none => rfl
        | some o => exact absurd (Heap.lt_size e) (Nat.not_lt.mpr (above c q))
      have hn0 : ∀ c ∈ as, H1 c = none := fun c q => I1.hok.fresh (above c q)
      have same : ∀ c, c ∉ as → layZ H1 as xs ys c = H1 c := fun c q => layZ_ne q
      have got : ∀ (i : Nat) (c : Addr) (x y : V), as[i]? = some c → xs[i]? = some x → ys[i]? = some y → layZ H1 as xs ys c = some (.tup [x, y]) := fun i c x y e1 e2 e3 => layZ_get hnd e1 e2 e3
      have I2 : Inv X pins σ (layZ H1 as xs ys) { s1 with heap := h'', toks := tk } := by
        refine Inv.laids I1 hkk hp0 hn0 same fun c hcm o ho => ?_
        obtain ⟨i, hi⟩ := List.mem_iff_getElem?.mp hcm
        obtain ⟨u, u2, e1, e2, e3⟩ := hG.pairs i c hi
        have hil : i < xs.length := by rw [← hal]; exact (List.getElem?_eq_some_iff.mp hi).1
        have hx : xs[i]? = some xs[i] := List.getElem?_eq_getElem hil
        have hil2 : i < ys.length := by omega
        have hy : ys[i]? = some ys[i] := List.getElem?_eq_getElem hil2
        rw [got i c _ _ hi hx hy] at ho
        cases ho
        obtain ⟨v, hv, rx⟩ := rv.get hx
        obtain ⟨v2, hv2, ry⟩ := rv2.get hy
        rw [List.getElem?_toArray] at e1 e2
        rw [hv] at e1; cases e1
        rw [hv2] at e2; cases e2
        exact ⟨by show 2 ≤ sizeLine; decide, [u, u2], .cons rx (.cons ry .nil), ⟨_, e3, rfl, _, rfl⟩⟩
      have hqn : layZ H1 as xs ys h''.objs.size = none := I2.hok.fresh (Nat.le_refl _)
      have I3 : Inv X pins σ (upd (layZ H1 as xs ys) h''.objs.size (.tup (as.map V.ref))) { s1 with heap := h''.push { cls := .type "tuple", data := .seq (as.map Value.ref).toArray }, toks := tk } :=
        I2.laid (t' := tk) (fun b o e => Heap.get?_push_of_some _ e) (Nat.le_refl _) (show ObjOk X.prog X.w _ _ _ (.tup _) from ⟨by rw [List.length_map, hal, l1]; exact (l1 ▸ hz1), _, vals_refs as, IsTup.new _ _⟩)
      exact ⟨.ref h''.objs.size, _, I3, rfl, q1 _ as hal hnd hn0 same got _ hqn⟩
end NKZ
theorem pe_tzipU {X : Cx} (K : PySem.W.Frag) (hK : X.K = K) {e e2 : Expr} {ta : TA} {p p2 pos pos2 : Pos} (hg : Gl X "tuple") (hm : X.mg "tuple" = none) (hg2 : Gl X "zip") (hm2 : X.mg "zip" = none) (ha : PA X [e, e2] ta) (hc : X.calm = true)
    (na : starEach [.Call (.Name "zip" p2) [e, e2] [] pos2] X.env = (false, eval (.Call (.Name "zip" p2) [e, e2] [] pos2) X.env) :: starEach [] X.env := by rfl)
    (hs : starEach [e, e2] X.env = (false, eval e X.env) :: starEach [e2] X.env := by rfl) (hpl : (backTo pos2 (starEach [e2] X.env)).any (·.1) = false := by rfl) :
    PE X (.Call (.Name "tuple" p) [.Call (.Name "zip" p2) [e, e2] [] pos2] [] pos) (NKZ.tTzip K ta) := by
  subst hK
  exact NKZ.pe_tzip hg hm hg2 hm2 ha hc na hs hpl
theorem rd_tzip {K : PySem.W.Frag} {σ : L2.St} {H : Hp} {Q : VK} {ta : TA} (q : ta σ H fun vs H1 => ∃ a b xs ys, vs = [.ref a, .ref b] ∧ SqT K H1 a xs ∧ SqT K H1 b ys ∧ xs.length = ys.length ∧
  ∀ (H2 : Hp) (as : List Addr), as.length = xs.length → as.Nodup → (∀ c ∈ as, H1 c = none) → (∀ c, c ∉ as → H2 c = H1 c) →
    (∀ (i : Nat) (c : Addr) (x y : V), as[i]? = some c → xs[i]? = some x → ys[i]? = some y → H2 c = some (.tup [x, y])) → ∀ q, H2 q = none → Q (.ref q) (upd H2 q (.tup (as.map V.ref)))) : NKZ.tTzip K ta σ H Q := q
namespace NKZ
theorem tuple_mul1 (l : Addr) (items : Array Value) (n : Nat) (dd : Option Addr) (sl : Array (Option Value)) (u : Tok) :
    Meets (Builtin.«tuple.__mul__» ⟨[.ref l, .int 1 u], []⟩) (fun _ R s => s.heap.get? l = some { cls := .type "tuple", dict := dd, data := .seq items n, slots := sl } ∧
      R (.ok (.ret (Value.ref l))) s) :=
  .of_wp fun prog w A R s h => by
    obtain ⟨hp, g, d, tk, os⟩ := s
    obtain ⟨hl, h⟩ := h
    have f1 := AutoSeq1.idx_int
    have hT : Shared.TypeIs ⟨hp, g, d, tk, os⟩ (.ref l) "tuple" := ⟨_, hl, rfl⟩
    have c0 : (decide ((1 : Int) < -(2 ^ 63)) || decide ((1 : Int) ≥ 2 ^ 63)) = false := by decide
    have c1 : (items.isEmpty || (1 : Int) == 1) = true := by rw [show ((1 : Int) == 1) = true from rfl, Bool.or_true]
    wp_walk using wpAny_loadPart' hl, wpAny_typeOf hT
    repeat (first
      | (refine wpAny_ite_false (decide_eq_false (by rw [c0]; exact Bool.false_ne_true)) ?_; wp_walk using wpAny_loadPart' hl, wpAny_typeOf hT)
      | (refine wpAny_ite_true (decide_eq_true (by rw [c1])) ?_; wp_walk using wpAny_loadPart' hl, wpAny_typeOf hT))
    exact ⟨_, rfl, h⟩
section
variable {X : Cx}
def rRep1 (K : PySem.W.Frag) : R2 := fun x y H Q => ∃ l xs, x = .ref l ∧ y = .int 1 ∧ SqT K H l xs ∧ Q (.ref l) H
theorem op_rep1 : OpR X (binaryOp .Mult) (rRep1 X.K) := by
  intro pins s σ H x y v u Q I rx ry h
  obtain ⟨l, xs, rfl, rfl, hT, q⟩ := h
  cases rx
  obtain ⟨t, rfl⟩ := ry
  obtain ⟨its, r, ⟨⟨cls, dd, data, sl⟩, ho, hc, n, hd⟩, hs⟩ := I.tuple hT
  simp only at hc hd
  subst hc hd
  refine wpAny_binaryOp_repeat_ref (T := "tuple") (U := "int") (by decide) ⟨_, ho, rfl⟩ (fun s' => typeIs_int s' 1 t) noFill_tuple_mul F.fills_int_mul F.slot_int_rmul repeat_tuple F.slot_int_index.lookup
    (call_meets F.slot_int_rmul (typeIs_int s 1 t) F.entry_int_rmul (F.args_int_rmul_2 _ _) (int_rmul_tuple 1 t l its.toArray n dd sl)
      ⟨ho, rfl, ⟨_, ho, rfl⟩, call_meets F.slot_tuple_mul ⟨_, ho, rfl⟩ F.entry_tuple_mul (F.args_tuple_mul_2 _ _) (tuple_mul1 l its.toArray n dd sl t) ⟨ho, ?_⟩⟩)
  exact ⟨.ref l, H, I, rfl, q⟩
def rRepU (K : PySem.W.Frag) : R2 := fun x y H Q => rRepT K x y H Q ∨ rRep1 K x y H Q
theorem op_repTU (K : PySem.W.Frag) (hK : X.K = K) : OpR X (binaryOp .Mult) (rRepU K) := by
  subst hK
  exact op_repT.or op_rep1
end
end NKZ
theorem imall_rep {H : Hp} {x : V} {d : PyData} (h : Im H x d) : ∀ n, ImAll H (List.replicate n x) (List.replicate n d)
  | 0 => .nil
  | n + 1 => .cons h (imall_rep h n)
theorem flat_rep {α : Type} (x : α) : ∀ n, (List.replicate n [x]).flatten = List.replicate n x
  | 0 => rfl
  | n + 1 => by rw [List.replicate_succ, List.flatten_cons, flat_rep x n]; rfl
/-- (x,) * n for n from 1 on -/
theorem rd_repT {T : List (Addr × Str)} {K : PySem.W.Frag} {H : Hp} {Q : VK} {u : V} {d : PyData} {n : Nat} (h : Im H u (.tuple [d])) (h1 : 1 ≤ n) (h2 : n ≤ 1000) (q : ∀ y H', Ext T [] H H' → Im H' y (.tuple (List.replicate n d)) → Q y H') : NKZ.rRepU K u (.int (n : Int)) H Q := by
  have h' := h
  obtain ⟨a, xs, rfl, ha, hi⟩ := h.tup'
  cases hi with
  | cons hx hn =>
    cases hn
    by_cases c : n = 1
    · subst c
      exact .inr ⟨a, _, rfl, rfl, SqP.sq ha, q _ H .refl h'⟩
    · refine .inl ⟨a, n, _, rfl, rfl, SqP.sq ha, by simp, by omega, by omega, by simp, fun p np => ?_⟩
      rename_i x
      have e : Ext T [] H (upd H p (.tup (List.replicate (n : Int).toNat [x]).flatten)) := .new np
      have hp : (upd H p (.tup (List.replicate (n : Int).toNat [x]).flatten)) p = some (.tup (List.replicate (n : Int).toNat [x]).flatten) := upd_same
      generalize upd H p _ = H' at e hp ⊢
      rw [Int.toNat_natCast, flat_rep] at hp
      exact q _ H' e (.tup hp (imall_rep (hx.x e) n))
def topS (i : Nat) : Stmt := PySem.Challenge.pw_neverdark_k56_forms_of_tables.main.body.getD i (.Pass ⟨0, 0, 0, 0⟩)
abbrev s_is_integer_in : Stmt := topS 1
theorem sc_is_integer_in : FnScope ["value", "least", "most"] ["value", "least", "most"] (defScope s_is_integer_in) := ⟨rfl, rfl, rfl, by decide +kernel, rfl, by decide +kernel, by decide +kernel⟩
abbrev s_is_tuple_of : Stmt := topS 2
theorem sc_is_tuple_of : FnScope ["value", "least", "most"] ["value", "least", "most"] (defScope s_is_tuple_of) := ⟨rfl, rfl, rfl, by decide +kernel, rfl, by decide +kernel, by decide +kernel⟩
abbrev s_is_ascending : Stmt := topS 3
abbrev N_is_ascending : List Str := ["values", "low", "high"]
theorem sc_is_ascending : FnScope ["values", "low", "high"] ["values"] (defScope s_is_ascending) := ⟨rfl, rfl, rfl, by decide +kernel, rfl, by decide +kernel, by decide +kernel⟩
abbrev s_is_word : Stmt := topS 7
abbrev N_is_word : List Str := ["text", "letters", "most", "letter"]
theorem sc_is_word : FnScope ["text", "letters", "most", "letter"] ["text", "letters", "most"] (defScope s_is_word) := ⟨rfl, rfl, rfl, by decide +kernel, rfl, by decide +kernel, by decide +kernel⟩
abbrev s_is_id : Stmt := topS 8
theorem sc_is_id : FnScope ["text"] ["text"] (defScope s_is_id) := ⟨rfl, rfl, rfl, by decide +kernel, rfl, by decide +kernel, by decide +kernel⟩
abbrev s_are_ids : Stmt := topS 14
abbrev N_are_ids : List Str := ["value", "least", "most", "part"]
theorem sc_are_ids : FnScope ["value", "least", "most", "part"] ["value", "least", "most"] (defScope s_are_ids) := ⟨rfl, rfl, rfl, by decide +kernel, rfl, by decide +kernel, by decide +kernel⟩
abbrev s_zone_names : Stmt := topS 15
abbrev N_zone_names : List Str := ["realm", "zone", "_"]
theorem sc_zone_names : FnScope ["realm", "zone", "_"] ["realm"] (defScope s_zone_names) := ⟨rfl, rfl, rfl, by decide +kernel, rfl, by decide +kernel, by decide +kernel⟩
abbrev s_slots : Stmt := topS 16
abbrev N_slots : List Str := ["realm", "found", "zone", "name", "kind"]
theorem sc_slots : FnScope ["realm", "found", "zone", "name", "kind"] ["realm"] (defScope s_slots) := ⟨rfl, rfl, rfl, by decide +kernel, rfl, by decide +kernel, by decide +kernel⟩
abbrev s_is_slot : Stmt := topS 17
theorem sc_is_slot : FnScope ["realm", "value"] ["realm", "value"] (defScope s_is_slot) := ⟨rfl, rfl, rfl, by decide +kernel, rfl, by decide +kernel, by decide +kernel⟩
abbrev s_is_item : Stmt := topS 18
theorem sc_is_item : FnScope ["slot", "value", "content", "life", "signers", "first", "last"] ["slot", "value"] (defScope s_is_item) := ⟨rfl, rfl, rfl, by decide +kernel, rfl, by decide +kernel, by decide +kernel⟩
abbrev s_is_server : Stmt := topS 19
theorem sc_is_server : FnScope ["realm", "value"] ["realm", "value"] (defScope s_is_server) := ⟨rfl, rfl, rfl, by decide +kernel, rfl, by decide +kernel, by decide +kernel⟩
abbrev s_is_on : Stmt := topS 20
theorem sc_is_on : FnScope ["state", "server", "zone"] ["state", "server", "zone"] (defScope s_is_on) := ⟨rfl, rfl, rfl, by decide +kernel, rfl, by decide +kernel, by decide +kernel⟩
abbrev s_is_deed : Stmt := topS 21
theorem sc_is_deed : FnScope ["realm", "state", "value", "word", "place", "worth"] ["realm", "state", "value"] (defScope s_is_deed) := ⟨rfl, rfl, rfl, by decide +kernel, rfl, by decide +kernel, by decide +kernel⟩
abbrev s_changed : Stmt := topS 22
abbrev N_changed : List Str := ["state", "deed", "items", "on", "word", "place", "worth", "pair", "slot", "item"]
theorem sc_changed : FnScope ["state", "deed", "items", "on", "word", "place", "worth", "pair", "slot", "item"] ["state", "deed"] (defScope s_changed) := ⟨rfl, rfl, rfl, by decide +kernel, rfl, by decide +kernel, by decide +kernel⟩
abbrev s_are_allowed : Stmt := topS 23
theorem sc_are_allowed : FnScope ["realm", "state", "deeds", "deed"] ["realm", "state", "deeds"] (defScope s_are_allowed) := ⟨rfl, rfl, rfl, by decide +kernel, rfl, by decide +kernel, by decide +kernel⟩
abbrev s_is_row_of_deeds : Stmt := topS 28
theorem sc_is_row_of_deeds : FnScope ["realm", "state", "value"] ["realm", "state", "value"] (defScope s_is_row_of_deeds) := ⟨rfl, rfl, rfl, by decide +kernel, rfl, by decide +kernel, by decide +kernel⟩
abbrev s_is_bound : Stmt := topS 29
theorem sc_is_bound : FnScope ["value"] ["value"] (defScope s_is_bound) := ⟨rfl, rfl, rfl, by decide +kernel, rfl, by decide +kernel, by decide +kernel⟩
abbrev s_is_bounds : Stmt := topS 30
abbrev N_is_bounds : List Str := ["count", "value", "part"]
theorem sc_is_bounds : FnScope ["count", "value", "part"] ["count", "value"] (defScope s_is_bounds) := ⟨rfl, rfl, rfl, by decide +kernel, rfl, by decide +kernel, by decide +kernel⟩
abbrev s_is_wait : Stmt := topS 31
theorem sc_is_wait : FnScope ["count", "value", "k", "j", "wait"] ["count", "value"] (defScope s_is_wait) := ⟨rfl, rfl, rfl, by decide +kernel, rfl, by decide +kernel, by decide +kernel⟩
abbrev s_is_table : Stmt := topS 32
abbrev N_is_table : List Str := ["count", "value", "k", "j", "_", "part"]
theorem sc_is_table : FnScope ["count", "value", "k", "j", "_", "part"] ["count", "value"] (defScope s_is_table) := ⟨rfl, rfl, rfl, by decide +kernel, rfl, by decide +kernel, by decide +kernel⟩
abbrev s_plan_of : Stmt := topS 33
theorem sc_plan_of : FnScope ["deeds", "done"] ["deeds", "done"] (defScope s_plan_of) := ⟨rfl, rfl, rfl, by decide +kernel, rfl, by decide +kernel, by decide +kernel⟩
abbrev s_law_mix : Stmt := topS 35
theorem sc_law_mix : FnScope ["number"] ["number"] (defScope s_law_mix) := ⟨rfl, rfl, rfl, by decide +kernel, rfl, by decide +kernel, by decide +kernel⟩
abbrev s_law_tape : Stmt := topS 36
theorem sc_law_tape : FnScope ["script", "budget"] ["script", "budget"] (defScope s_law_tape) := ⟨rfl, rfl, rfl, by decide +kernel, rfl, by decide +kernel, by decide +kernel⟩
abbrev s_law_take : Stmt := topS 37
theorem sc_law_take : FnScope ["tape", "many", "cell", "digit"] ["tape", "many"] (defScope s_law_take) := ⟨rfl, rfl, rfl, by decide +kernel, rfl, by decide +kernel, by decide +kernel⟩
abbrev s_law_id : Stmt := topS 38
theorem sc_law_id : FnScope ["tape", "signs", "word", "k"] ["tape"] (defScope s_law_id) := ⟨rfl, rfl, rfl, by decide +kernel, rfl, by decide +kernel, by decide +kernel⟩
abbrev s_law_ids : Stmt := topS 39
theorem sc_law_ids : FnScope ["tape", "many", "found", "turn", "word"] ["tape", "many"] (defScope s_law_ids) := ⟨rfl, rfl, rfl, by decide +kernel, rfl, by decide +kernel, by decide +kernel⟩
abbrev s_law_label : Stmt := topS 40
theorem sc_law_label : FnScope ["tape", "word"] ["tape"] (defScope s_law_label) := ⟨rfl, rfl, rfl, by decide +kernel, rfl, by decide +kernel, by decide +kernel⟩
abbrev s_law_labels : Stmt := topS 41
theorem sc_law_labels : FnScope ["tape", "found", "last", "word"] ["tape"] (defScope s_law_labels) := ⟨rfl, rfl, rfl, by decide +kernel, rfl, by decide +kernel, by decide +kernel⟩
abbrev s_law_lag : Stmt := topS 42
theorem sc_law_lag : FnScope ["tape"] ["tape"] (defScope s_law_lag) := ⟨rfl, rfl, rfl, by decide +kernel, rfl, by decide +kernel, by decide +kernel⟩
abbrev s_law_zones : Stmt := topS 43
abbrev N_law_zones : List Str := ["tape", "most", "one", "two", "three", "pool", "names", "k", "name"]
theorem sc_law_zones : FnScope ["tape", "most", "one", "two", "three", "pool", "names", "k", "name"] ["tape", "most"] (defScope s_law_zones) := ⟨rfl, rfl, rfl, by decide +kernel, rfl, by decide +kernel, by decide +kernel⟩
abbrev s_law_realm : Stmt := topS 44
theorem sc_law_realm : FnScope ["tape", "most", "zones", "sets", "zone", "lag", "name", "kept", "row", "anchors"] ["tape", "most"] (defScope s_law_realm) := ⟨rfl, rfl, rfl, by decide +kernel, rfl, by decide +kernel, by decide +kernel⟩
abbrev s_law_chain : Stmt := topS 45
abbrev N_law_chain : List Str := ["realm", "name", "found", "zone", "lag", "pair"]
theorem sc_law_chain : FnScope ["realm", "name", "found", "zone", "lag", "pair"] ["realm", "name"] (defScope s_law_chain) := ⟨rfl, rfl, rfl, by decide +kernel, rfl, by decide +kernel, by decide +kernel⟩
abbrev s_law_slots : Stmt := topS 46
abbrev N_law_slots : List Str := ["realm", "found", "zone", "lag", "name", "kind"]
theorem sc_law_slots : FnScope ["realm", "found", "zone", "lag", "name", "kind"] ["realm"] (defScope s_law_slots) := ⟨rfl, rfl, rfl, by decide +kernel, rfl, by decide +kernel, by decide +kernel⟩
abbrev s_law_home : Stmt := topS 47
theorem sc_law_home : FnScope ["realm", "slot", "chain"] ["realm", "slot"] (defScope s_law_home) := ⟨rfl, rfl, rfl, by decide +kernel, rfl, by decide +kernel, by decide +kernel⟩
abbrev s_law_life : Stmt := topS 49
theorem sc_law_life : FnScope ["tape"] ["tape"] (defScope s_law_life) := ⟨rfl, rfl, rfl, by decide +kernel, rfl, by decide +kernel, by decide +kernel⟩
abbrev s_law_pools : Stmt := topS 50
abbrev N_law_pools : List Str := ["tape", "realm", "pools", "zone", "lag", "pool", "key"]
theorem sc_law_pools : FnScope ["tape", "realm", "pools", "zone", "lag", "pool", "key"] ["tape", "realm"] (defScope s_law_pools) := ⟨rfl, rfl, rfl, by decide +kernel, rfl, by decide +kernel, by decide +kernel⟩
abbrev s_law_pool : Stmt := topS 51
abbrev N_law_pool : List Str := ["pools", "zone", "name", "pool"]
theorem sc_law_pool : FnScope ["pools", "zone", "name", "pool"] ["pools", "zone"] (defScope s_law_pool) := ⟨rfl, rfl, rfl, by decide +kernel, rfl, by decide +kernel, by decide +kernel⟩
abbrev s_law_item : Stmt := topS 52
theorem sc_law_item : FnScope ["content", "life", "signers"] ["content", "life", "signers"] (defScope s_law_item) := ⟨rfl, rfl, rfl, by decide +kernel, rfl, by decide +kernel, by decide +kernel⟩
abbrev s_law_first_item : Stmt := topS 53
theorem sc_law_first_item : FnScope ["tape", "realm", "pools", "slot", "life", "own", "content"] ["tape", "realm", "pools", "slot"] (defScope s_law_first_item) := ⟨rfl, rfl, rfl, by decide +kernel, rfl, by decide +kernel, by decide +kernel⟩
abbrev s_law_start : Stmt := topS 54
abbrev N_law_start : List Str := ["tape", "realm", "pools", "items", "on", "zone", "lag", "slot"]
theorem sc_law_start : FnScope ["tape", "realm", "pools", "items", "on", "zone", "lag", "slot"] ["tape", "realm", "pools"] (defScope s_law_start) := ⟨rfl, rfl, rfl, by decide +kernel, rfl, by decide +kernel, by decide +kernel⟩
abbrev s_law_at : Stmt := topS 55
abbrev N_law_at : List Str := ["state", "slot", "name", "item"]
theorem sc_law_at : FnScope ["state", "slot", "name", "item"] ["state", "slot"] (defScope s_law_at) := ⟨rfl, rfl, rfl, by decide +kernel, rfl, by decide +kernel, by decide +kernel⟩
abbrev s_law_after : Stmt := topS 56
abbrev N_law_after : List Str := ["state", "deed", "row", "other", "slot", "item"]
theorem sc_law_after : FnScope ["state", "deed", "row", "other", "slot", "item"] ["state", "deed"] (defScope s_law_after) := ⟨rfl, rfl, rfl, by decide +kernel, rfl, by decide +kernel, by decide +kernel⟩
abbrev s_law_server_deed : Stmt := topS 57
abbrev N_law_server_deed : List Str := ["tape", "realm", "state", "zone", "zones", "server", "word", "slot", "content", "lag"]
theorem sc_law_server_deed : FnScope ["tape", "realm", "state", "zone", "zones", "server", "word", "slot", "content", "lag"] ["tape", "realm", "state"] (defScope s_law_server_deed) := ⟨rfl, rfl, rfl, by decide +kernel, rfl, by decide +kernel, by decide +kernel⟩
abbrev s_law_mixed : Stmt := topS 58
theorem sc_law_mixed : FnScope ["tape", "realm", "pools", "slot", "item", "own", "keys", "content", "signers", "draw", "life"] ["tape", "realm", "pools", "slot", "item"] (defScope s_law_mixed) := ⟨rfl, rfl, rfl, by decide +kernel, rfl, by decide +kernel, by decide +kernel⟩
abbrev s_law_deed : Stmt := topS 59
theorem sc_law_deed : FnScope ["tape", "realm", "pools", "state", "places", "slot", "item", "first"] ["tape", "realm", "pools", "state"] (defScope s_law_deed) := ⟨rfl, rfl, rfl, by decide +kernel, rfl, by decide +kernel, by decide +kernel⟩
abbrev s_law_deeds : Stmt := topS 60
theorem sc_law_deeds : FnScope ["tape", "realm", "pools", "state", "many", "deeds", "k", "deed"] ["tape", "realm", "pools", "state", "many"] (defScope s_law_deeds) := ⟨rfl, rfl, rfl, by decide +kernel, rfl, by decide +kernel, by decide +kernel⟩
abbrev s_law_bent_start : Stmt := topS 61
theorem sc_law_bent_start : FnScope ["tape", "realm", "pools", "state", "places", "slot", "item", "first", "own"] ["tape", "realm", "pools", "state"] (defScope s_law_bent_start) := ⟨rfl, rfl, rfl, by decide +kernel, rfl, by decide +kernel, by decide +kernel⟩
abbrev s_law_change : Stmt := topS 62
abbrev N_law_change : List Str := ["tape", "realm", "pools", "state", "zone", "zones", "old", "new", "life", "anchors", "slot", "sealed", "signers", "deeds", "item", "link", "at", "lag"]
theorem sc_law_change : FnScope ["tape", "realm", "pools", "state", "zone", "zones", "old", "new", "life", "anchors", "slot", "sealed", "signers", "deeds", "item", "link", "at", "lag"] ["tape", "realm", "pools", "state"] (defScope s_law_change) := ⟨rfl, rfl, rfl, by decide +kernel, rfl, by decide +kernel, by decide +kernel⟩
abbrev s_law_move : Stmt := topS 63
abbrev N_law_move : List Str := ["tape", "realm", "state", "zone", "zones", "slot", "old", "deeds", "lag", "word"]
theorem sc_law_move : FnScope ["tape", "realm", "state", "zone", "zones", "slot", "old", "deeds", "lag", "word"] ["tape", "realm", "state"] (defScope s_law_move) := ⟨rfl, rfl, rfl, by decide +kernel, rfl, by decide +kernel, by decide +kernel⟩
abbrev s_law_row : Stmt := topS 64
theorem sc_law_row : FnScope ["tape", "realm", "pools", "state", "draw"] ["tape", "realm", "pools", "state"] (defScope s_law_row) := ⟨rfl, rfl, rfl, by decide +kernel, rfl, by decide +kernel, by decide +kernel⟩
abbrev s_law_case : Stmt := topS 66
theorem sc_law_case : FnScope ["tape", "most", "realm", "pools", "state"] ["tape", "most"] (defScope s_law_case) := ⟨rfl, rfl, rfl, by decide +kernel, rfl, by decide +kernel, by decide +kernel⟩
abbrev s_law_bounds : Stmt := topS 69
theorem sc_law_bounds : FnScope ["tape", "many", "wide", "rows", "k", "least", "most"] ["tape", "many", "wide"] (defScope s_law_bounds) := ⟨rfl, rfl, rfl, by decide +kernel, rfl, by decide +kernel, by decide +kernel⟩
abbrev s_law_delays : Stmt := topS 70
theorem sc_law_delays : FnScope ["tape", "bounds", "found", "least", "most"] ["tape", "bounds"] (defScope s_law_delays) := ⟨rfl, rfl, rfl, by decide +kernel, rfl, by decide +kernel, by decide +kernel⟩
abbrev s_law_first : Stmt := topS 71
theorem sc_law_first : FnScope ["table", "deed", "done", "seen", "moment", "k", "j", "wait"] ["table", "deed", "done"] (defScope s_law_first) := ⟨rfl, rfl, rfl, by decide +kernel, rfl, by decide +kernel, by decide +kernel⟩
abbrev s_law_run : Stmt := topS 72
theorem sc_law_run : FnScope ["table", "delays", "asked", "done", "k"] ["table", "delays"] (defScope s_law_run) := ⟨rfl, rfl, rfl, by decide +kernel, rfl, by decide +kernel, by decide +kernel⟩
abbrev s_law_table : Stmt := topS 73
theorem sc_law_table : FnScope ["tape", "many", "wide", "rows", "k", "j"] ["tape", "many", "wide"] (defScope s_law_table) := ⟨rfl, rfl, rfl, by decide +kernel, rfl, by decide +kernel, by decide +kernel⟩
abbrev s_law_bad_table : Stmt := topS 74
theorem sc_law_bad_table : FnScope ["tape", "many", "table", "n", "rows"] ["tape", "many", "table"] (defScope s_law_bad_table) := ⟨rfl, rfl, rfl, by decide +kernel, rfl, by decide +kernel, by decide +kernel⟩
abbrev s_law_bad_bounds : Stmt := topS 75
theorem sc_law_bad_bounds : FnScope ["tape", "bounds", "n"] ["tape", "bounds"] (defScope s_law_bad_bounds) := ⟨rfl, rfl, rfl, by decide +kernel, rfl, by decide +kernel, by decide +kernel⟩
abbrev s_law : Stmt := topS 76
abbrev N_law : List Str := ["script", "tape", "realm", "pools", "state", "deeds", "many", "slot", "item", "again", "bad", "bounds", "table", "asked", "done", "k"]
theorem sc_law : FnScope ["script", "tape", "realm", "pools", "state", "deeds", "many", "slot", "item", "again", "bad", "bounds", "table", "asked", "done", "k"] ["script"] (defScope s_law) := ⟨rfl, rfl, rfl, by decide +kernel, rfl, by decide +kernel, by decide +kernel⟩
local macro_rules | `(tactic| walk_at "szl_2") => `(tactic| first
  | assumption
  | exact Nat.lt_of_le_of_lt (by assumption) (by decide)
  | (refine Nat.lt_of_le_of_lt ?_ (show (100000 : Nat) < sizeLine by decide); (try simp only [List.length_map, List.length_cons, List.length_nil, List.length_append]); omega))
local macro_rules | `(tactic| walk_at "sz_2") => `(tactic| first
  | assumption
  | exact Nat.le_trans (by assumption) (by decide)
  | (show _ ≤ sizeLine; decide)
  | (refine Nat.le_trans ?_ (show (100000 : Nat) ≤ sizeLine by decide); (try simp only [List.length_map, List.length_cons, List.length_nil, List.length_append]); omega))
local macro_rules | `(tactic| walk_at "hp_2") => `(tactic| first
  | assumption
  | exact upd_same
  | (refine (upd_ne ?hne).trans ?_; (case hne => first | assumption | exact Ne.symm (by assumption)); walk_at "hp_2"))
local macro_rules | `(tactic| walk_at "pl_2") => `(tactic| (refine Nat.le_trans (?plx : _ ≤ 1000) (by decide); (case plx => (try simp only [app_len, dot_len, dotS_len, w_len]); omega)))
local macro_rules | `(tactic| walk_at "rd1_2") => `(tactic| first
  | with_reducible refine rd_seq ?_
  | with_reducible refine rd_asg ?_
  | with_reducible refine rd_ret ?_
  | with_reducible refine rd_if ?_
  | with_reducible refine rd_drop ?_
  | with_reducible refine rd_next ?_
  | with_reducible refine rd_B ?_
  | with_reducible refine rd_ifE ?_
  | with_reducible refine rd_T ?_
  | with_reducible refine rd_tnot ?_
  | with_reducible refine rd_tand ?_
  | with_reducible refine rd_tor ?_
  | with_reducible refine rd_chain ?_
  | with_reducible refine rd_op ?_
  | with_reducible refine rd_un ?_
  | with_reducible refine rd_call ?_
  | with_reducible refine rd_cons ?_
  | with_reducible refine rd_nil ?_
  | with_reducible refine rd_cb ?_
  | with_reducible refine rd_c ?_
  | with_reducible refine rd_not ?_
  | with_reducible refine rd_and ?_
  | with_reducible refine rd_or ?_
  | with_reducible refine rd_sub ?_
  | with_reducible refine rd_lc ?_
  | with_reducible refine rd_iStr ?_
  | with_reducible refine rd_exStr ?_
  | with_reducible refine rd_iSeq ?_
  | with_reducible refine rd_rng ?_
  | with_reducible refine rd_exRef ?_
  | with_reducible refine rd_exInt ?_
  | with_reducible refine rd_exInts ?_
  | ((with_reducible refine' rd_seqL (xs := ?rxs) ?rxh ?_); (case rxh => exact SqL.of (by walk_at "hp_2")))
  | with_reducible refine rd_tyes ?_
  | with_reducible refine rd_eqStr ?_
  | with_reducible refine rd_neStr ?_
  | with_reducible refine rd_eqInt ?_
  | with_reducible refine rd_neInt ?_
  | with_reducible refine rd_eqBl ?_
  | with_reducible refine rd_rev ?_
  | with_reducible refine rd_exA ?_
  | with_reducible refine rd_fs ?_
  | with_reducible refine rd_jc ?_
  | with_reducible refine rd_jn ?_
  | with_reducible refine rd_fmt ?_
  | with_reducible refine rd_for ?_
  | with_reducible refine rd_bm ?_
  | ((with_reducible refine' rd_tyL (xs := ?rxs) ?rxh ?_); (case rxh => walk_at "hp_2"))
  | ((with_reducible refine' rd_app (xs := ?rxs) ?rxh ?rxc ?_); (case rxh => walk_at "hp_2"); (case rxc => walk_at "szl_2"))
  | ((with_reducible refine rd_fmtS ?rdc ?_); (case rdc => walk_at "sz_2"))
  | with_reducible refine rd_isBool ?_
  | with_reducible refine rd_sl ?_
  | with_reducible refine rd_noP ?_
  | with_reducible refine rd_part ?_
  | ((with_reducible refine rd_slS ?rdc ?_); (case rdc => walk_at "sz_2"))
  | with_reducible refine rd_sortLam ?_
  | with_reducible refine iteT ?_
  | with_reducible refine rd_ntt ?_
  | with_reducible refine rd_nff ?_
  | with_reducible refine iteF ?_
  | with_reducible refine rd_m1 ?_
  | (with_reducible refine ⟨⟨_, rfl⟩, ?_⟩)
  | ((with_reducible refine rd_len ?rdc ?_); (case rdc => walk_at "sz_2"))
  | with_reducible refine rd_gcons ?_
  | ((with_reducible refine rd_plusS ?rdc ?_); (case rdc => walk_at "pl_2"))
  | with_reducible refine rd_gnil ?_
  | ((with_reducible refine' rd_inWs (zs := ?rxs) ?rxh ?_); (case rxh => walk_at "hp_2"))
  | ((with_reducible refine' rd_ninWs (zs := ?rxs) ?rxh ?_); (case rxh => walk_at "hp_2"))
  | with_reducible refine rd_ends ?_
  | with_reducible refine rd_inS ?_
  | with_reducible refine rd_ninS ?_
  | with_reducible refine rd_isStr ?_
  | with_reducible refine rd_lst ?_
  | with_reducible refine rd_tup ?_
  | with_reducible refine rd_name ?_
  | with_reducible refine rd_bl ?_
  | with_reducible refine rd_i0 ?_
  | with_reducible refine rd_uI ?_
  | with_reducible refine rd_plusI ?_
  | with_reducible refine rd_int1 ?_
  | ((with_reducible refine rd_i ?rdc ?_); (case rdc => first | decide | (constructor <;> decide) | (left; constructor <;> decide) | (right; constructor <;> decide) | omega | (left; constructor <;> omega) | (right; constructor <;> omega) | (constructor <;> omega)))
  | ((with_reducible refine' rd_ixL (v := ?rxv) (xs := ?rxs) ?rxh ?rxa ?_); (case rxh => exact SqL.of (by walk_at "hp_2")); (case rxa => rfl))
  | ((with_reducible refine' rd_lenL (ys := ?rxs) ?rxh ?_); (case rxh => exact SqL.of (by walk_at "hp_2")))
  | ((with_reducible refine' rd_set (xs := ?rxs) (j := ?rxj) ?rxh ?rxa ?_); (case rxh => walk_at "hp_2"); (case rxa => rfl))
  | ((with_reducible refine' rd_var (v := ?rdw) ?rdv ?_); (case rdv => rfl)))
local macro_rules | `(tactic| walk_at "rdn1_2") => `(tactic| first
  | with_reducible refine rd_asg ?_
  | with_reducible refine rd_ret ?_
  | with_reducible refine rd_if ?_
  | with_reducible refine rd_drop ?_
  | with_reducible refine rd_next ?_
  | with_reducible refine rd_B ?_
  | with_reducible refine rd_ifE ?_
  | with_reducible refine rd_T ?_
  | with_reducible refine rd_tnot ?_
  | with_reducible refine rd_tand ?_
  | with_reducible refine rd_tor ?_
  | with_reducible refine rd_chain ?_
  | with_reducible refine rd_op ?_
  | with_reducible refine rd_un ?_
  | with_reducible refine rd_call ?_
  | with_reducible refine rd_cons ?_
  | with_reducible refine rd_nil ?_
  | with_reducible refine rd_cb ?_
  | with_reducible refine rd_c ?_
  | with_reducible refine rd_not ?_
  | with_reducible refine rd_and ?_
  | with_reducible refine rd_or ?_
  | with_reducible refine rd_sub ?_
  | with_reducible refine rd_lc ?_
  | with_reducible refine rd_iStr ?_
  | with_reducible refine rd_exStr ?_
  | with_reducible refine rd_iSeq ?_
  | with_reducible refine rd_rng ?_
  | with_reducible refine rd_exRef ?_
  | with_reducible refine rd_exInt ?_
  | with_reducible refine rd_exInts ?_
  | ((with_reducible refine' rd_seqL (xs := ?rxs) ?rxh ?_); (case rxh => exact SqL.of (by walk_at "hp_2")))
  | with_reducible refine rd_tyes ?_
  | with_reducible refine rd_eqStr ?_
  | with_reducible refine rd_neStr ?_
  | with_reducible refine rd_eqInt ?_
  | with_reducible refine rd_neInt ?_
  | with_reducible refine rd_eqBl ?_
  | with_reducible refine rd_rev ?_
  | with_reducible refine rd_exA ?_
  | with_reducible refine rd_fs ?_
  | with_reducible refine rd_jc ?_
  | with_reducible refine rd_jn ?_
  | with_reducible refine rd_fmt ?_
  | with_reducible refine rd_for ?_
  | with_reducible refine rd_bm ?_
  | ((with_reducible refine' rd_tyL (xs := ?rxs) ?rxh ?_); (case rxh => walk_at "hp_2"))
  | ((with_reducible refine' rd_app (xs := ?rxs) ?rxh ?rxc ?_); (case rxh => walk_at "hp_2"); (case rxc => walk_at "szl_2"))
  | ((with_reducible refine rd_fmtS ?rdc ?_); (case rdc => walk_at "sz_2"))
  | with_reducible refine rd_isBool ?_
  | with_reducible refine rd_sl ?_
  | with_reducible refine rd_noP ?_
  | with_reducible refine rd_part ?_
  | ((with_reducible refine rd_slS ?rdc ?_); (case rdc => walk_at "sz_2"))
  | with_reducible refine rd_sortLam ?_
  | with_reducible refine iteT ?_
  | with_reducible refine rd_ntt ?_
  | with_reducible refine rd_nff ?_
  | with_reducible refine iteF ?_
  | with_reducible refine rd_m1 ?_
  | (with_reducible refine ⟨⟨_, rfl⟩, ?_⟩)
  | ((with_reducible refine rd_len ?rdc ?_); (case rdc => walk_at "sz_2"))
  | with_reducible refine rd_gcons ?_
  | ((with_reducible refine rd_plusS ?rdc ?_); (case rdc => walk_at "pl_2"))
  | with_reducible refine rd_gnil ?_
  | ((with_reducible refine' rd_inWs (zs := ?rxs) ?rxh ?_); (case rxh => walk_at "hp_2"))
  | ((with_reducible refine' rd_ninWs (zs := ?rxs) ?rxh ?_); (case rxh => walk_at "hp_2"))
  | with_reducible refine rd_ends ?_
  | with_reducible refine rd_inS ?_
  | with_reducible refine rd_ninS ?_
  | with_reducible refine rd_isStr ?_
  | with_reducible refine rd_lst ?_
  | with_reducible refine rd_tup ?_
  | with_reducible refine rd_name ?_
  | with_reducible refine rd_bl ?_
  | with_reducible refine rd_i0 ?_
  | with_reducible refine rd_uI ?_
  | with_reducible refine rd_plusI ?_
  | with_reducible refine rd_int1 ?_
  | ((with_reducible refine rd_i ?rdc ?_); (case rdc => first | decide | (constructor <;> decide) | (left; constructor <;> decide) | (right; constructor <;> decide) | omega | (left; constructor <;> omega) | (right; constructor <;> omega) | (constructor <;> omega)))
  | ((with_reducible refine' rd_ixL (v := ?rxv) (xs := ?rxs) ?rxh ?rxa ?_); (case rxh => exact SqL.of (by walk_at "hp_2")); (case rxa => rfl))
  | ((with_reducible refine' rd_lenL (ys := ?rxs) ?rxh ?_); (case rxh => exact SqL.of (by walk_at "hp_2")))
  | ((with_reducible refine' rd_set (xs := ?rxs) (j := ?rxj) ?rxh ?rxa ?_); (case rxh => walk_at "hp_2"); (case rxa => rfl))
  | ((with_reducible refine' rd_var (v := ?rdw) ?rdv ?_); (case rdv => rfl)))
local macro_rules | `(tactic| walk_at "rd_2") => `(tactic| repeat walk_at "rd1_2")
local macro_rules | `(tactic| walk_at "ext_2") => `(tactic| first
  | exact Ext.refl
  | assumption
  | (refine Ext.trans ?_ (Ext.mut (by simp) (by walk_at "hp_2")); walk_at "ext_2")
  | (refine Ext.trans ?_ (Ext.new (by assumption)); walk_at "ext_2"))
local macro_rules | `(tactic| walk_at "rdn_2") => `(tactic| repeat walk_at "rdn1_2")
section
variable {T : List (Addr × Str)} {P : Program} {w : World} {K : PySem.W.Frag} {mg : Str → Option Value} {base : Heap}
def bltns : List Str := ["isinstance", "str", "len", "all", "sorted", "range", "list", "tuple", "int", "bool", "dict", "any", "min", "max", "enumerate", "zip", "set", "reversed"]
theorem ok_law_id (D : Def K mg "_law_id" s_law_id ["tape"]) (mb : ∀ x ∈ bltns, mg x = none) (G_law_take : Ok P w K mg base 2 "_law_take" ["tape", "many"] (spTake T)) : Ok P w K mg base 3 "_law_id" ["tape"] (spId T) := by
  refine D.ok sc_law_id (fun vs H Q E h => ?_) (fun cdv f A outer s H vs Q E hr h => ?_)
  · obtain ⟨l, t, rfl, _⟩ := h
    rfl
  · obtain ⟨l, t, rfl, hT, q⟩ := h
    refine ⟨_, (pss_cons (ps_set (i := 1) sc_law_id.nd rfl (.inl rfl) pe_str)
   (pss_cons (ps_set (i := 2) sc_law_id.nd rfl (.inl rfl) pe_str)
   (pss_cons (ps_for PassesOwn.never rfl (pi_range1 (by rfl) (mb _ (by decide)) (pa_cons (pe_op (op_plus K rfl) pe_int (pe_callO G_law_take (hr.mono (by decide)) (by rfl) (pa_cons (pv 0) (pa_cons pe_int pa_nil)))) pa_nil)) (pg_name (i := 3) sc_law_id.nd rfl (.inl rfl)) (pss_one (ps_set (i := 2) sc_law_id.nd rfl (.inl rfl) (pe_op (op_plus K rfl) (pv 2) (pe_ix (ix_U K rfl) (pv 1) (pe_callO G_law_take (hr.mono (by decide)) (by rfl) (pa_cons (pv 0) (pa_cons pe_int pa_nil))) (fun _ _ => rfl))))))
   (pss_one (ps_ret (pv 2)))))), ?_⟩
    walk_at "rd_2"
    refine ⟨l, t, 4, rfl, by decide, by decide, hT, fun d H1 hd0 hd1 e1 T1 => ?_⟩
    walk_at "rd_2"
    refine ⟨by omega, by omega, ?_⟩
    refine forg_range (fun i σ H' => Ext T [t] H H' ∧ Tape l H' t ∧ ∃ (z : Str) (k : Option V), σ = [some (.ref t), some (.str lettersS), some (.str z), k] ∧ z.length = i ∧ ∀ c ∈ sg z, c ∈ sg lettersS)
      ⟨e1, T1, _, none, rfl, by decide +kernel, by decide +kernel⟩ (fun i σ H' hi h => ?_) (fun σ H' h => ?_)
    · obtain ⟨e2, T2, z, k, rfl, hz, hc⟩ := h
      have hs36 : (sg lettersS).length = 36 := by decide +kernel
      walk_at "rd_2"
      refine ⟨l, t, 36, rfl, by decide, by decide, T2, fun d2 H2 h0 h1 e3 T3 => ?_⟩
      obtain ⟨c, hc1, _, hc2⟩ := at_in (l := sg lettersS) h0 (by omega)
      refine rd_ixS (by rw [← sg_len, hs36]; decide) hc1 ?_
      refine rd_plusS ?_ ⟨e2.trans e3, T3, _, _, rfl, ?_, ?_⟩
      · show z.length + 1 ≤ sizeLine
        exact Nat.le_trans (show _ ≤ 101 by omega) (by decide)
      · rw [app_len, hz]
        rfl
      · intro y hy
        rw [sg_app] at hy
        rcases List.mem_append.mp hy with h | h
        · exact hc y h
        · rw [List.mem_singleton.mp (show y ∈ [c] from h)]
          exact hc2
    · obtain ⟨e2, T2, z, k, rfl, hz, hc⟩ := h
      walk_at "rd_2"
      refine q z H' ?_ e2 T2
      unfold idB wordB
      rw [decide_eq_true (show (1 : Int) ≤ (z.length : Int) by omega), decide_eq_true (show (z.length : Int) ≤ 4 by omega)]
      rw [List.all_eq_true.mpr fun y hy => decide_eq_true (hc y hy)]
      rfl
theorem ok_law_ids (D : Def K mg "_law_ids" s_law_ids ["tape", "many"]) (mb : ∀ x ∈ bltns, mg x = none) (G_law_id : Ok P w K mg base 3 "_law_id" ["tape"] (spId T)) : Ok P w K mg base 4 "_law_ids" ["tape", "many"] (spIds T) := by
  refine D.ok sc_law_ids (fun vs H Q E h => ?_) (fun cdv f A outer s H vs Q E hr h => ?_)
  · obtain ⟨l, t, m, rfl, _⟩ := h
    rfl
  · obtain ⟨l, t, m, rfl, hm0, hm5, hT, q⟩ := h
    refine ⟨_, (pss_cons (ps_set (i := 2) sc_law_ids.nd rfl (.inl rfl) (pe_lst pa_nil))
   (pss_cons (ps_for PassesOwn.never rfl (pi_range1 (by rfl) (mb _ (by decide)) (pa_cons pe_int pa_nil)) (pg_name (i := 3) sc_law_ids.nd rfl (.inl rfl)) (pss_cons (ps_set (i := 4) sc_law_ids.nd rfl (.inl rfl) (pe_callO G_law_id (hr.mono (by decide)) (by rfl) (pa_cons (pv 0) pa_nil)))
   (pss_one (ps_if (PW.pt (pw_and (pt_cmpR op_lt (pe_callB (call_lenU K rfl) (by rfl) (mb _ (by decide)) (by decide +kernel) (pa_cons (pv 2) pa_nil)) (pv 1) (nomark _)) (pw_and1 (pt_cmpR (op_ninW K rfl (Room.units65 hr)) (pv 4) (pv 2) rfl)))) (pss_one (ps_expr (pe_bm PySem.F.plainAttrs_list PySem.F.slot_list_append PySem.F.type_list_append mt_append (pv 2) (pa_cons (pv 4) pa_nil)))) pss_nil))))
   (pss_cons (ps_for PassesOwn.never rfl (pi_seq K rfl (pe_lst (pa_cons pe_str (pa_cons pe_str (pa_cons pe_str (pa_cons pe_str (pa_cons pe_str pa_nil))))))) (pg_name (i := 4) sc_law_ids.nd rfl (.inl rfl)) (pss_one (ps_if (PW.pt (pw_and (pt_cmpR op_lt (pe_callB (call_lenU K rfl) (by rfl) (mb _ (by decide)) (by decide +kernel) (pa_cons (pv 2) pa_nil)) (pv 1) (nomark _)) (pw_and1 (pt_cmpR (op_ninW K rfl (Room.units65 hr)) (pv 4) (pv 2) rfl)))) (pss_one (ps_expr (pe_bm PySem.F.plainAttrs_list PySem.F.slot_list_append PySem.F.type_list_append mt_append (pv 2) (pa_cons (pv 4) pa_nil)))) pss_nil)))
   (pss_one (ps_ret (pv 2)))))), ?_⟩
    refine rd_seq ?_
    walk_at "rdn_2"
    refine ⟨by show 0 ≤ sizeLine; decide, fun p np => ?_⟩
    have hpn : Nw H p := .of np
    obtain ⟨hpt, hpl⟩ := hT.ne hpn
    have e0 : Ext T [t] H (upd H p (.lst [])) := .new np
    have T0 := hT.upd (o := .lst []) np
    have hp0 : (upd H p (.lst [])) p = some (.lst (([] : List Str).map V.str)) := upd_same
    generalize upd H p (.lst []) = H0 at e0 T0 hp0 ⊢
    walk_at "rdn_2"
    -- a word is put to the list
    have put : ∀ (N1 N2 : L2.St → Hp → Prop) (σ : L2.St) (H1 : Hp) (ys : List Str) (z : Str), Ext T [t] H H1 → Tape l H1 t → H1 p = some (.lst (ys.map V.str)) → ys.Nodup → (∀ y ∈ ys, idB y = true) → (ys.length : Int) ≤ m → idB z = true →
        (∀ (H2 : Hp) (ys' : List Str), Ext T [t] H H2 → Tape l H2 t → H2 p = some (.lst (ys'.map V.str)) → ys'.Nodup → (∀ y ∈ ys', idB y = true) → (ys'.length : Int) ≤ m → (∀ y ∈ ys, y ∈ ys') → ((ys'.length : Int) < m → z ∈ ys') → (∀ b xs, b ≠ p → H1 b = some (.lst xs) → H2 b = some (.lst xs)) → N1 σ H2) → σ[1]? = some (some (.int m)) → σ[2]? = some (some (.ref p)) → σ[4]? = some (some (.str z)) →
        (tIfS (tAnd (tTest (tOp (rI0 fun i j => V.bl (decide (i < j))) (tCB (rLenU K) (tCons (tVar 2) tNil)) (tVar 1))) (tTest (tOp (rNinW K) (tVar 4) (tVar 2)))) (tDrop (tBM K "list" rAppend (tVar 2) (tCons (tVar 4) tNil))) tNext) ⟨N1, Q, N2, N1⟩ σ H1 := by
      intro N1 N2 σ H1 ys z e1 T1 hp1 hnd hid hlen hz k s1 s2 s4
      walk_at "rd_2"
      refine rd_var s2 ?_
      walk_at "rd_2"
      refine rd_var s1 ?_
      walk_at "rd_2"
      refine rd_ite (fun hlt => ?_) (fun hlt => ?_)
      · walk_at "rd_2"
        refine rd_var s4 ?_
        refine rd_var s2 ?_
        walk_at "rd_2"
        refine rd_itn (fun hin => ?_) (fun hin => ?_)
        · walk_at "rd_2"
          exact k H1 ys e1 T1 hp1 hnd hid hlen (fun y hy => hy) (fun _ => hin) fun _ _ _ h => h
        · walk_at "rd_2"
          refine rd_var s2 ?_
          walk_at "rd_2"
          refine rd_var s4 ?_
          walk_at "rd_2"
          refine k _ (ys ++ [z]) (e1.own hpn hp1) (T1.own hpt hpl) ?_ (nodup_snoc hnd hin) (fun y hy => ?_) ?_ (fun y hy => List.mem_append_left _ hy) (fun _ => by simp) fun b xs hb h => (upd_ne hb).trans h
          · rw [List.map_append]
            exact upd_same
          · rcases List.mem_append.mp hy with h | h
            · exact hid y h
            · rw [List.mem_singleton.mp h]
              exact hz
          · rw [List.length_append]
            rw [List.length_map] at hlt
            show ((ys.length + 1 : Nat) : Int) ≤ m
            omega
      · walk_at "rd_2"
        rw [List.length_map] at hlt
        exact k H1 ys e1 T1 hp1 hnd hid hlen (fun y hy => hy) (fun h => absurd h hlt) fun _ _ _ h => h
    refine rd_cut (fun σ H1 => Ext T [t] H H1 ∧ Tape l H1 t ∧ ∃ (ys : List Str) (a b : Option V), σ = [some (.ref t), some (.int m), some (.ref p), a, b] ∧ H1 p = some (.lst (ys.map V.str)) ∧ ys.Nodup ∧ (∀ y ∈ ys, idB y = true) ∧ (ys.length : Int) ≤ m) (fun nx' hnx => ?_) (fun σ H1 h => ?_)
    · walk_at "rd_2"
      refine ⟨by decide, by decide, ?_⟩
      refine forg_range (fun i σ H1 => Ext T [t] H H1 ∧ Tape l H1 t ∧ ∃ (ys : List Str) (a b : Option V), σ = [some (.ref t), some (.int m), some (.ref p), a, b] ∧ H1 p = some (.lst (ys.map V.str)) ∧ ys.Nodup ∧ (∀ y ∈ ys, idB y = true) ∧ (ys.length : Int) ≤ m)
        ⟨e0, T0, [], none, none, rfl, hp0, by simp, by simp, hm0⟩ (fun i σ H1 hi h => ?_) (fun σ H1 h => hnx _ _ h)
      obtain ⟨e1, T1, ys, a, b, rfl, hp1, hnd, hid, hlen⟩ := h
      refine rd_name ?_
      refine rd_seq ?_
      walk_at "rdn_2"
      refine ⟨l, t, rfl, T1, fun z H2 hz e2 T2 => ?_⟩
      refine rd_name ?_
      refine put _ _ _ H2 ys z (e1.trans e2) T2 (e2.lst (by simpa using hpt) hp1) hnd hid hlen hz (fun H3 ys' e3 T3 h1 h2 h3 h4 _ _ _ => ?_) rfl rfl rfl
      exact ⟨e3, T3, ys', _, _, rfl, h1, h2, h3, h4⟩
    · obtain ⟨e1, T1, ys, a, b, rfl, hp1, hnd, hid, hlen⟩ := h
      clear e0 T0 hp0
      refine rd_seq ?_
      walk_at "rdn_2"
      refine ⟨by show 5 ≤ sizeLine; decide, fun qa nq => ?_⟩
      have hqp : p ≠ qa := (Nw.of nq).lst hp1
      obtain ⟨hqt, hql⟩ := T1.ne (.of nq)
      have e2 : Ext T [t] H (upd H1 qa (.lst (qsL.map V.str))) := e1.newR nq
      have T2 := T1.upd (o := .lst (qsL.map V.str)) nq
      have hp2 : (upd H1 qa (.lst (qsL.map V.str))) p = some (.lst (ys.map V.str)) := (upd_ne hqp).trans hp1
      have hq2 : (upd H1 qa (.lst (qsL.map V.str))) qa = some (.lst (qsL.map V.str)) := upd_same
      have hqn : ∀ {H' : Hp}, Ext T [t] H H' → True := fun _ => trivial
      refine ⟨qa, rfl, .inl ⟨⟨_, SqL.of hq2⟩, ?_⟩⟩
      show ForG _ _ _ _ _ (upd H1 qa (.lst (qsL.map V.str)))
      generalize upd H1 qa (.lst (qsL.map V.str)) = H2 at e2 T2 hp2 hq2 ⊢
      refine forg_list (xs := qsL.map V.str) (fun i σ H3 => Ext T [t] H H3 ∧ Tape l H3 t ∧ H3 qa = some (.lst (qsL.map V.str)) ∧ ∃ (ys : List Str) (a b : Option V), σ = [some (.ref t), some (.int m), some (.ref p), a, b] ∧ H3 p = some (.lst (ys.map V.str)) ∧ ys.Nodup ∧ (∀ y ∈ ys, idB y = true) ∧ (ys.length : Int) ≤ m ∧ ((ys.length : Int) < m → ∀ y ∈ qsL.take i, y ∈ ys))
        ⟨e2, T2, hq2, ys, a, b, rfl, hp2, hnd, hid, hlen, fun _ y hy => by simp at hy⟩ (fun i σ H3 _ h => SqL.of h.2.2.1) (fun i x σ H3 hx h => ?_) (fun σ H3 h => ?_)
      · obtain ⟨e3, T3, hq3, ys, a, b, rfl, hp3, hnd, hid, hlen, hall⟩ := h
        rw [List.getElem?_map] at hx
        obtain ⟨z, hz, rfl⟩ := Option.map_eq_some_iff.mp hx
        refine rd_name ?_
        refine put _ _ _ H3 ys z e3 T3 hp3 hnd hid hlen (qs_ok z (List.mem_of_getElem? hz)) (fun H4 ys' e4 T4 h1 h2 h3 h4 h5 h6 h7 => ?_) rfl rfl rfl
        have hq4 : H4 qa = some (.lst (qsL.map V.str)) := h7 qa _ hqp.symm hq3
        refine ⟨e4, T4, hq4, ys', _, _, rfl, h1, h2, h3, h4, fun hlt y hy => ?_⟩
        rw [List.take_add_one, hz] at hy
        rcases List.mem_append.mp hy with hy | hy
        · refine h5 y (hall ?_ y hy)
          have := nodup_len hnd h5
          omega
        · rw [List.mem_singleton.mp (show y ∈ [z] from hy)]
          exact h6 hlt
      · obtain ⟨e3, T3, hq3, ys, a, b, rfl, hp3, hnd, hid, hlen, hall⟩ := h
        walk_at "rd_2"
        have hle : (ys.length : Int) = m := by
          rcases Int.lt_or_le ys.length m with h | h
          · have h2 := nodup_len qs_nodup fun y hy => hall h y (by rw [List.length_map, List.take_length]; exact hy)
            have h3 : qsL.length = 5 := rfl
            omega
          · omega
        exact q p ys H3 hpn hle hnd hid hp3 e3 T3
end
section
variable {T : List (Addr × Str)} {P : Program} {w : World} {K : PySem.W.Frag} {mg : Str → Option Value} {base : Heap}
theorem ok_law_label (D : Def K mg "_law_label" s_law_label ["tape"]) (mb : ∀ x ∈ bltns, mg x = none) (G_law_take : Ok P w K mg base 2 "_law_take" ["tape", "many"] (spTake T)) (G_law_id : Ok P w K mg base 3 "_law_id" ["tape"] (spId T)) : Ok P w K mg base 4 "_law_label" ["tape"] (spLabel T) := by
  refine D.ok sc_law_label (fun vs H Q E h => ?_) (fun cdv f A outer s H vs Q E hr h => ?_)
  · obtain ⟨l, t, rfl, _⟩ := h
    rfl
  · obtain ⟨l, t, rfl, hT, q⟩ := h
    refine ⟨_, (pss_cons (ps_set (i := 1) sc_law_label.nd rfl (.inl rfl) (pe_callO G_law_id (hr.mono (by decide)) (by rfl) (pa_cons (pv 0) pa_nil)))
   (pss_cons (ps_if (pt_cmpR (op_eqU K rfl hr.units) (pe_callO G_law_take (hr.mono (by decide)) (by rfl) (pa_cons (pv 0) (pa_cons pe_int pa_nil))) pe_int (nomark _)) (pss_one (ps_set (i := 1) sc_law_label.nd rfl (.inl rfl) (pe_op (op_plus K rfl) (pv 1) (pe_callO G_law_id (hr.mono (by decide)) (by rfl) (pa_cons (pv 0) pa_nil))))) pss_nil)
   (pss_one (ps_ret (pv 1))))), ?_⟩
    walk_at "rd_2"
    refine ⟨l, t, rfl, hT, fun z H1 hz e1 T1 => ?_⟩
    walk_at "rd_2"
    refine ⟨l, t, 4, rfl, by decide, by decide, T1, fun d H2 h0 h1 e2 T2 => ?_⟩
    walk_at "rd_2"
    refine rd_ite (fun h => ?_) (fun h => ?_)
    · walk_at "rd_2"
      refine ⟨l, t, rfl, T2, fun z2 H3 hz2 e3 T3 => ?_⟩
      have hl1 := id_len hz
      have hl2 := id_len hz2
      refine rd_plusS (Nat.le_trans (show z.length + z2.length ≤ 100 by omega) (by decide)) ?_
      walk_at "rd_2"
      exact q _ H3 (word_app hz hz2 (by decide)) ((e1.trans e2).trans e3) T3
    · walk_at "rd_2"
      exact q z H2 (word_mono hz (by decide)) (e1.trans e2) T2
theorem ok_law_labels (D : Def K mg "_law_labels" s_law_labels ["tape"]) (mb : ∀ x ∈ bltns, mg x = none) (G_law_label : Ok P w K mg base 4 "_law_label" ["tape"] (spLabel T)) : Ok P w K mg base 5 "_law_labels" ["tape"] (spLabels T) := by
  refine D.ok sc_law_labels (fun vs H Q E h => ?_) (fun cdv f A outer s H vs Q E hr h => ?_)
  · obtain ⟨l, t, rfl, _⟩ := h
    rfl
  · obtain ⟨l, t, rfl, hT, q⟩ := h
    refine ⟨_, (pss_cons (ps_set (i := 1) sc_law_labels.nd rfl (.inl rfl) (pe_lst pa_nil))
   (pss_cons (ps_for PassesOwn.never rfl (pi_seq K rfl (pe_lst (pa_cons pe_str (pa_cons pe_str (pa_cons pe_str (pa_cons pe_str pa_nil)))))) (pg_name (i := 2) sc_law_labels.nd rfl (.inl rfl)) (pss_cons (ps_set (i := 3) sc_law_labels.nd rfl (.inl rfl) (pe_callO G_law_label (hr.mono (by decide)) (by rfl) (pa_cons (pv 0) pa_nil)))
   (pss_cons (ps_if (pt_cmpR (op_inW K rfl (Room.units65 hr)) (pv 3) (pv 1) rfl) (pss_one (ps_set (i := 3) sc_law_labels.nd rfl (.inl rfl) (pe_slice (sl_U K rfl) (pe_op (op_plus K rfl) (pe_op (op_plus K rfl) (pv 3) (pv 2)) pe_str) (po_some (pe_un un_neg pe_int)) po_none))) pss_nil)
   (pss_one (ps_if (pt_cmpR (op_ninW K rfl (Room.units65 hr)) (pv 3) (pv 1) rfl) (pss_one (ps_expr (pe_bm PySem.F.plainAttrs_list PySem.F.slot_list_append PySem.F.type_list_append mt_append (pv 1) (pa_cons (pv 3) pa_nil)))) pss_nil)))))
   (pss_one (ps_ret (pe_op (op_plus K rfl) (pv 1) (pe_lst (pa_cons pe_str (pa_cons pe_str (pa_cons pe_str (pa_cons pe_str pa_nil)))))))))), ?_⟩
    refine rd_seq ?_
    walk_at "rdn_2"
    refine ⟨by show 0 ≤ sizeLine; decide, fun p np => ?_⟩
    have hpn : Nw H p := .of np
    obtain ⟨hpt, hpl⟩ := hT.ne hpn
    have e0 : Ext T [t] H (upd H p (.lst [])) := .new np
    have T0 := hT.upd (o := .lst []) np
    have hp0 : (upd H p (.lst [])) p = some (.lst (([] : List Str).map V.str)) := upd_same
    generalize upd H p (.lst []) = H0 at e0 T0 hp0 ⊢
    walk_at "rdn_2"
    refine rd_seq ?_
    walk_at "rdn_2"
    refine ⟨by show 4 ≤ sizeLine; decide, fun qa nq => ?_⟩
    have hqp : p ≠ qa := (Nw.of nq).lst hp0
    obtain ⟨hqt, hql⟩ := T0.ne (.of nq)
    have e2 : Ext T [t] H (upd H0 qa (.lst (xyzL.map V.str))) := e0.newR nq
    have T2 := T0.upd (o := .lst (xyzL.map V.str)) nq
    have hp2 : (upd H0 qa (.lst (xyzL.map V.str))) p = some (.lst (([] : List Str).map V.str)) := (upd_ne hqp).trans hp0
    have hq2 : (upd H0 qa (.lst (xyzL.map V.str))) qa = some (.lst (xyzL.map V.str)) := upd_same
    refine ⟨qa, rfl, .inl ⟨⟨_, SqL.of hq2⟩, ?_⟩⟩
    show ForG _ _ _ _ _ (upd H0 qa (.lst (xyzL.map V.str)))
    generalize upd H0 qa (.lst (xyzL.map V.str)) = H2 at e2 T2 hp2 hq2 ⊢
    refine forg_list (xs := xyzL.map V.str) (fun i σ H3 => Ext T [t] H H3 ∧ Tape l H3 t ∧ H3 qa = some (.lst (xyzL.map V.str)) ∧ ∃ (F fs : List Str) (a b : Option V), σ = [some (.ref t), some (.ref p), a, b] ∧ H3 p = some (.lst (F.map V.str)) ∧ F.Nodup ∧ (∀ y ∈ F, labelB y = true) ∧ F.length + fs.length = i ∧ fs.Nodup ∧ ∀ y ∈ fs, y ∈ F ∧ ∃ j c, j < i ∧ (xyzC)[j]? = some c ∧ EndW c y)
      ⟨e2, T2, hq2, [], [], none, none, rfl, hp2, by simp, by simp, rfl, by simp, by simp⟩ (fun i σ H3 _ h => SqL.of h.2.2.1) (fun i x σ H3 hx h => ?_) (fun σ H3 h => ?_)
    · obtain ⟨e3, T3, hq3, F, fs, a, b, rfl, hp3, hnd, hlb, hlen, hfs, hfe⟩ := h
      rw [List.getElem?_map] at hx
      obtain ⟨la, hla, rfl⟩ := Option.map_eq_some_iff.mp hx
      have hi4 : i < 4 := by
        have := (List.getElem?_eq_some_iff.mp hla).1
        exact this
      have mono : ∀ {y : Str} {F' : List Str}, (∀ z ∈ F, z ∈ F') → (∃ c, y ∈ F ∧ ∃ j, j < i ∧ xyzC[j]? = some c ∧ EndW c y) → True := fun _ _ => trivial
      refine rd_name ?_
      refine rd_seq ?_
      walk_at "rdn_2"
      refine ⟨l, t, rfl, T3, fun z H4 hz e4 T4 => ?_⟩
      have hp4 := e4.lst (by simpa using hpt) hp3
      have hq4 := e4.lst (by simpa using hqt) hq3
      refine rd_name ?_
      refine rd_cut (fun σ H5 => H5 = H4 ∧ ∃ z' : Str, σ = [some (.ref t), some (.ref p), some (.str la), some (.str z')] ∧ labelB z' = true ∧ (z' ∈ F → ∃ c, xyzC[i]? = some c ∧ EndW c z')) (fun nx' hnx => ?_) (fun σ H5 h => ?_)
      · walk_at "rd_2"
        refine rd_ite (fun hin => ?_) (fun hin => ?_)
        · have hz8 := label_len hz
          have hla1 : la.length ≤ 1 := xyz_len la (List.mem_of_getElem? hla)
          walk_at "rd_2"
          refine rd_slS ?_ ?_
          · rw [app_len, app_len, w_len]
            exact Nat.le_trans (show _ ≤ 100 by omega) (by decide)
          have h8 := cut8 (z ++ la ++ Str.ofString "w") (by rw [app_len, w_len]; omega) (fun c hc => by
            rw [sg_app, sg_app] at hc
            rcases List.mem_append.mp hc with hc | hc
            · rcases List.mem_append.mp hc with hc | hc
              · exact label_mem hz hc
              · exact xyz_let la (List.mem_of_getElem? hla) c hc
            · exact w_let c hc)
          walk_at "rd_2"
          refine hnx _ _ ⟨rfl, _, rfl, h8.1, fun hF => ?_⟩
          have hi0 : i ≠ 0 := fun e => by
            subst e
            rw [show F = [] from List.eq_nil_of_length_eq_zero (by omega)] at hin
            cases hin
          obtain ⟨c, hc, hc2⟩ := xyz_end hi0 hla
          exact ⟨c, hc, h8.2 c ⟨sg z, by rw [sg_app, sg_app, hc2, w_sg, List.append_assoc]; rfl⟩⟩
        · walk_at "rd_2"
          exact hnx _ _ ⟨rfl, z, rfl, hz, fun h => absurd h hin⟩
      · obtain ⟨rfl, z', rfl, hz', hend⟩ := h
        walk_at "rd_2"
        refine rd_itn (fun hin => ?_) (fun hin => ?_)
        · walk_at "rd_2"
          obtain ⟨c, hc, hc2⟩ := hend hin
          refine ⟨e3.trans e4, T4, hq4, F, fs ++ [z'], _, _, rfl, hp4, hnd, hlb, ?_, nodup_snoc hfs fun hz => ?_, fun y hy => ?_⟩
          · rw [List.length_append]
            show F.length + (fs.length + 1) = i + 1
            omega
          · obtain ⟨_, j, c', hj, hc', hc2'⟩ := hfe z' hz
            have := endW_inj hc2 hc2'
            exact xyz_ne hj hc' hc this.symm
          · rcases List.mem_append.mp hy with hy | hy
            · obtain ⟨h1, j, c', hj, h2⟩ := hfe y hy
              exact ⟨h1, j, c', by omega, h2⟩
            · rw [List.mem_singleton.mp hy]
              exact ⟨hin, i, c, by omega, hc, hc2⟩
        · walk_at "rd_2"
          refine ⟨(e3.trans e4).own hpn hp4, T4.own hpt hpl, (upd_ne hqp.symm).trans hq4, F ++ [z'], fs, _, _, rfl, ?_, nodup_snoc hnd hin, fun y hy => ?_, ?_, hfs, fun y hy => ?_⟩
          · rw [List.map_append]
            exact upd_same
          · rcases List.mem_append.mp hy with h | h
            · exact hlb y h
            · rw [List.mem_singleton.mp h]
              exact hz'
          · rw [List.length_append]
            show F.length + 1 + fs.length = i + 1
            omega
          · obtain ⟨h1, j, c', hj, h2⟩ := hfe y hy
            exact ⟨List.mem_append_left _ h1, j, c', by omega, h2⟩
    · obtain ⟨e3, T3, hq3, F, fs, a, b, rfl, hp3, hnd, hlb, hlen, hfs, hfe⟩ := h
      obtain ⟨x, y, z, r, hF, h1, h2, h3, h4, h5⟩ := labels_shape hnd hlb hlen hfs fun y hy => by
        obtain ⟨h1, j, c, _, _, h2⟩ := hfe y hy
        exact ⟨h1, c, h2⟩
      walk_at "rd_2"
      refine ⟨by show 4 ≤ sizeLine; decide, fun ka nk => ?_⟩
      have hkp : p ≠ ka := (Nw.of nk).lst hp3
      have e4 := e3.newR (o := .lst (ksL.map V.str)) nk
      have T4 := T3.upd (o := .lst (ksL.map V.str)) nk
      walk_at "rd_2"
      refine rd_cat (xs := F.map V.str) (ys := ksL.map V.str) ((upd_ne hkp).trans hp3) upd_same ?_ fun pa npa => ?_
      · rw [List.length_map, List.length_map]
        refine Nat.le_trans (show _ ≤ 100 by show F.length + 4 ≤ 100; have : F.length + fs.length = 4 := hlen; omega) (by decide)
      · refine q pa r x y z _ ((e3.trans (.new nk)).back ?_ (.of npa)) h1 h2 h3 h4 h5 ?_ (e4.newR npa) (T4.upd npa)
        · have := (T4.ne (.of npa)).1
          simpa using this
        · rw [← hF, List.map_append]
          exact upd_same
end
section
variable {T : List (Addr × Str)} {P : Program} {w : World} {K : PySem.W.Frag} {mg : Str → Option Value} {base : Heap}
theorem ok_law_lag (D : Def K mg "_law_lag" s_law_lag ["tape"]) (G_law_take : Ok P w K mg base 2 "_law_take" ["tape", "many"] (spTake T)) : Ok P w K mg base 3 "_law_lag" ["tape"] (spInt T 0 100) := by
  refine D.ok sc_law_lag (fun vs H Q E h => ?_) (fun cdv f A outer s H vs Q E hr h => ?_)
  · obtain ⟨l, t, rfl, _⟩ := h
    rfl
  · obtain ⟨l, t, rfl, hT, q⟩ := h
    refine ⟨_, (pss_one (ps_ret (pe_ix (ix_U K rfl) (pe_lst (pa_cons pe_int (pa_cons pe_int (pa_cons pe_int (pa_cons pe_int (pa_cons pe_int (pa_cons pe_int (pa_cons pe_int (pa_cons (pe_callO G_law_take (hr.mono (by decide)) (by rfl) (pa_cons (pv 0) (pa_cons pe_int pa_nil))) pa_nil))))))))) (pe_callO G_law_take (hr.mono (by decide)) (by rfl) (pa_cons (pv 0) (pa_cons pe_int pa_nil))) (fun _ _ => rfl)))), ?_⟩
    walk_at "rd_2"
    refine ⟨l, t, 101, rfl, by decide, by decide, hT, fun d H1 hd0 hd1 e1 T1 => ?_⟩
    walk_at "rd_2"
    refine ⟨by show 8 ≤ sizeLine; decide, fun p np => ?_⟩
    have hpt := T1.ne (.of np)
    walk_at "rd_2"
    refine ⟨l, t, 8, rfl, by decide, by decide, T1.upd np, fun i H2 h0 h1 e2 T2 => ?_⟩
    have hp := e2.lst (p := p) (by simpa using hpt.1) upd_same
    obtain ⟨c, hc1, hc2⟩ := at_inV (xs := [V.int 0, .int 1, .int 2, .int 3, .int 5, .int 9, .int 100, .int d]) h0 (by show i < 8; omega)
    have hm := List.mem_of_getElem? hc2
    have e3 := (e1.trans (.new np)).trans e2
    have fin : ∀ n : Int, c = .int n → 0 ≤ n → n ≤ 100 → rIx K (.ref p) (.int i) H2 Q := fun n e a b => by
      subst e
      exact rd_ixL (SqL.of hp) hc1 (q n H2 a b e3 T2)
    simp only [List.mem_cons, List.not_mem_nil, or_false] at hm
    rcases hm with h | h | h | h | h | h | h | h
    · exact fin _ h (by decide) (by decide)
    · exact fin _ h (by decide) (by decide)
    · exact fin _ h (by decide) (by decide)
    · exact fin _ h (by decide) (by decide)
    · exact fin _ h (by decide) (by decide)
    · exact fin _ h (by decide) (by decide)
    · exact fin _ h (by decide) (by decide)
    · exact fin _ h (by omega) (by omega)
theorem ok_law_life (D : Def K mg "_law_life" s_law_life ["tape"]) (G_law_take : Ok P w K mg base 2 "_law_take" ["tape", "many"] (spTake T)) : Ok P w K mg base 3 "_law_life" ["tape"] (spInt T 1 1000) := by
  refine D.ok sc_law_life (fun vs H Q E h => ?_) (fun cdv f A outer s H vs Q E hr h => ?_)
  · obtain ⟨l, t, rfl, _⟩ := h
    rfl
  · obtain ⟨l, t, rfl, hT, q⟩ := h
    refine ⟨_, (pss_one (ps_ret (pe_ix (ix_U K rfl) (pe_lst (pa_cons pe_int (pa_cons pe_int (pa_cons pe_int (pa_cons pe_int (pa_cons pe_int (pa_cons pe_int (pa_cons pe_int (pa_cons (pe_op (op_plus K rfl) pe_int (pe_callO G_law_take (hr.mono (by decide)) (by rfl) (pa_cons (pv 0) (pa_cons pe_int pa_nil)))) pa_nil))))))))) (pe_callO G_law_take (hr.mono (by decide)) (by rfl) (pa_cons (pv 0) (pa_cons pe_int pa_nil))) (fun _ _ => rfl)))), ?_⟩
    walk_at "rd_2"
    refine ⟨l, t, 1000, rfl, by decide, by decide, hT, fun d H1 hd0 hd1 e1 T1 => ?_⟩
    walk_at "rd_2"
    refine ⟨by show 8 ≤ sizeLine; decide, fun p np => ?_⟩
    have hpt := T1.ne (.of np)
    walk_at "rd_2"
    refine ⟨l, t, 8, rfl, by decide, by decide, T1.upd np, fun i H2 h0 h1 e2 T2 => ?_⟩
    have hp := e2.lst (p := p) (by simpa using hpt.1) upd_same
    obtain ⟨c, hc1, hc2⟩ := at_inV (xs := [V.int 1, .int 2, .int 3, .int 5, .int 8, .int 20, .int 1000, .int (1 + d)]) h0 (by show i < 8; omega)
    have hm := List.mem_of_getElem? hc2
    have e3 := (e1.trans (.new np)).trans e2
    have fin : ∀ n : Int, c = .int n → 1 ≤ n → n ≤ 1000 → rIx K (.ref p) (.int i) H2 Q := fun n e a b => by
      subst e
      exact rd_ixL (SqL.of hp) hc1 (q n H2 a b e3 T2)
    simp only [List.mem_cons, List.not_mem_nil, or_false] at hm
    rcases hm with h | h | h | h | h | h | h | h
    · exact fin _ h (by decide) (by decide)
    · exact fin _ h (by decide) (by decide)
    · exact fin _ h (by decide) (by decide)
    · exact fin _ h (by decide) (by decide)
    · exact fin _ h (by decide) (by decide)
    · exact fin _ h (by decide) (by decide)
    · exact fin _ h (by decide) (by decide)
    · exact fin _ h (by omega) (by omega)
theorem ok_law_zones (D : Def K mg "_law_zones" s_law_zones ["tape", "most"]) (mb : ∀ x ∈ bltns, mg x = none) (G_law_take : Ok P w K mg base 2 "_law_take" ["tape", "many"] (spTake T)) (G_law_labels : Ok P w K mg base 5 "_law_labels" ["tape"] (spLabels T)) (G_law_lag : Ok P w K mg base 3 "_law_lag" ["tape"] (spInt T 0 100)) : Ok P w K mg base 6 "_law_zones" ["tape", "most"] (spZones T) := by
  refine D.ok sc_law_zones (fun vs H Q E h => ?_) (fun cdv f A outer s H vs Q E hr h => ?_)
  · obtain ⟨l, t, m, rfl, _⟩ := h
    rfl
  · obtain ⟨l, t, m, rfl, hm0, hm5, hT, q⟩ := h
    refine ⟨_, (pss_cons (ps_asg (pe_slice (sl_U K rfl) (pe_callO G_law_labels (hr.mono (by decide)) (by rfl) (pa_cons (pv 0) pa_nil)) po_none (po_some pe_int)) (pg_tupU (n := 3) K rfl rfl (pgs_cons (pg_name (i := 2) sc_law_zones.nd rfl (.inl rfl)) (pgs_cons (pg_name (i := 3) sc_law_zones.nd rfl (.inl rfl)) (pgs_cons (pg_name (i := 4) sc_law_zones.nd rfl (.inl rfl)) pgs_nil)))))
   (pss_cons (ps_set (i := 5) sc_law_zones.nd rfl (.inl rfl) (pe_lst (pa_cons (pv 2) (pa_cons (pe_op (op_plus K rfl) (pe_op (op_plus K rfl) (pv 3) pe_str) (pv 2)) (pa_cons (pe_op (op_plus K rfl) (pe_op (op_plus K rfl) (pe_op (op_plus K rfl) (pe_op (op_plus K rfl) (pv 4) pe_str) (pv 3)) pe_str) (pv 2)) (pa_cons (pv 3) (pa_cons (pv 4) (pa_cons (pe_op (op_plus K rfl) (pe_op (op_plus K rfl) (pv 4) pe_str) (pv 2)) pa_nil))))))))
   (pss_cons (ps_set (i := 6) sc_law_zones.nd rfl (.inl rfl) (pe_lst pa_nil))
   (pss_cons (ps_for PassesOwn.never rfl (pi_range1 (by rfl) (mb _ (by decide)) (pa_cons pe_int pa_nil)) (pg_name (i := 7) sc_law_zones.nd rfl (.inl rfl)) (pss_one (ps_if (PW.pt (pw_and (pt_cmpR op_lt (pe_callB (call_lenU K rfl) (by rfl) (mb _ (by decide)) (by decide +kernel) (pa_cons (pv 6) pa_nil)) (pv 1) (nomark _)) (pw_and1 (pt_cmpR (op_eqU K rfl hr.units) (pe_callO G_law_take (hr.mono (by decide)) (by rfl) (pa_cons (pv 0) (pa_cons pe_int pa_nil))) pe_int (nomark _))))) (pss_one (ps_expr (pe_bm PySem.F.plainAttrs_list PySem.F.slot_list_append PySem.F.type_list_append mt_append (pv 6) (pa_cons (pe_ix (ix_U K rfl) (pv 5) (pv 7) (fun _ _ => rfl)) pa_nil)))) pss_nil)))
   (pss_one (ps_ret (pe_op (op_plus K rfl) (pe_lst (pa_cons (pe_tup (pa_cons pe_str (pa_cons (pe_callO G_law_lag (hr.mono (by decide)) (by rfl) (pa_cons (pv 0) pa_nil)) pa_nil))) pa_nil)) (pe_lc (own := [("name", 8)]) (g := gName 8) (tt := tYes) rfl sc_law_zones.nd (pi_seq K rfl (pe_callB (call_sortedU K rfl hr.units) (by rfl) (mb _ (by decide)) (by decide +kernel) (pa_cons (pv 6) pa_nil))) (blkOk_by (N := N_law_zones) (sc := defScope s_law_zones) (by decide +kernel)) (fun _ _ _ _ _ => (pg_name (i := 8) sc_law_zones.nd rfl (Or.inl rfl))) (fun _ _ _ _ _ => pts_nil) (fun _ _ _ _ _ => (pe_tup (pa_cons (pv 8) (pa_cons (pe_callO G_law_lag (hr.mono (by decide)) (by rfl) (pa_cons (pv 0) pa_nil)) pa_nil)))))))))))), ?_⟩
    refine rd_seq ?_
    walk_at "rdn_2"
    refine ⟨l, t, rfl, hT, fun lp r a b c H1 nlp h1 h2 h3 hlb hrl hlp e1 T1 => ?_⟩
    walk_at "rdn_2"
    refine rd_slL (SqL.of hlp) fun sp nsp => ?_
    have hcut : cutV ((a :: b :: c :: r).map V.str) none (some 3) = [V.str a, .str b, .str c] := by
      unfold cutV
      rw [show HT.sIx ((a :: b :: c :: r).map V.str).length 0 none = 0 from rfl]
      have e : HT.sIx ((a :: b :: c :: r).map V.str).length ((a :: b :: c :: r).map V.str).length (some 3) = 3 := by
        unfold HT.sIx
        simp only [List.length_map, List.length_cons]
        split <;> omega
      rw [e]
      rfl
    rw [hcut]
    have e2 := e1.newR (o := .lst [V.str a, .str b, .str c]) nsp
    have T2 := T1.upd (o := .lst [V.str a, .str b, .str c]) nsp
    have hsp : (upd H1 sp (.lst [V.str a, .str b, .str c])) sp = some (.lst [V.str a, .str b, .str c]) := upd_same
    show gTupU _ _ _ _ _ (upd H1 sp (.lst [V.str a, .str b, .str c])) _
    generalize upd H1 sp (.lst [V.str a, .str b, .str c]) = H2 at e2 T2 hsp ⊢
    refine rd_glst (SqL.of hsp) rfl ?_
    walk_at "rdn_2"
    have hl3 : ∀ y ∈ [a, b, c], labelB y = true := fun y hy => hlb y (by
      simp only [List.mem_cons, List.not_mem_nil, or_false] at hy ⊢
      rcases hy with h | h | h
      · exact .inl h
      · exact .inr (.inl h)
      · exact .inr (.inr (.inl h)))
    have la := label_len (hl3 a (by simp))
    have lb := label_len (hl3 b (by simp))
    have lc := label_len (hl3 c (by simp))
    have hpz := pool_zone hl3
    have hpn := pool_nodup hl3 h1 h2 h3
    refine rd_seq ?_
    walk_at "rdn_2"
    refine ⟨by show 6 ≤ sizeLine; decide, fun pp npp => ?_⟩
    show gName 5 (.ref pp) _ (upd H2 pp (.lst ((poolL a b c).map V.str))) _
    have e3 := e2.newR (o := .lst ((poolL a b c).map V.str)) npp
    have T3 := T2.upd (o := .lst ((poolL a b c).map V.str)) npp
    obtain ⟨hpt, hpl⟩ := T2.ne (.of npp)
    have hpp : (upd H2 pp (.lst ((poolL a b c).map V.str))) pp = some (.lst ((poolL a b c).map V.str)) := upd_same
    generalize upd H2 pp (.lst ((poolL a b c).map V.str)) = H3 at e3 T3 hpp ⊢
    walk_at "rdn_2"
    refine rd_seq ?_
    walk_at "rdn_2"
    refine ⟨by show 0 ≤ sizeLine; decide, fun np nnp => ?_⟩
    obtain ⟨hnt, hnl⟩ := T3.ne (.of nnp)
    have hnpp : pp ≠ np := (Nw.of nnp).lst hpp
    have e4 := e3.newR (o := .lst []) nnp
    have hnw : Nw H np := e3.back (by simpa using hnt) (.of nnp)
    have T4 := T3.upd (o := .lst []) nnp
    have hpp4 := (upd_ne (o := .lst []) hnpp).trans hpp
    have hn4 : (upd H3 np (.lst [])) np = some (.lst (([] : List Str).map V.str)) := upd_same
    generalize upd H3 np (.lst []) = H4 at e4 T4 hpp4 hn4 ⊢
    walk_at "rdn_2"
    refine rd_cut (fun σ H5 => Ext T [t] H H5 ∧ Tape l H5 t ∧ ∃ (ns : List Str) (y : Option V), σ = [some (.ref t), some (.int m), some (.str a), some (.str b), some (.str c), some (.ref pp), some (.ref np), y, none] ∧ H5 np = some (.lst (ns.map V.str)) ∧ (ns.length : Int) ≤ m ∧ ns.Sublist (poolL a b c)) (fun nx' hnx => ?_) (fun σ H5 h => ?_)
    · walk_at "rd_2"
      refine ⟨by decide, by decide, ?_⟩
      refine forg_range (fun i σ H5 => Ext T [t] H H5 ∧ Tape l H5 t ∧ H5 pp = some (.lst ((poolL a b c).map V.str)) ∧ ∃ (ns : List Str) (y : Option V), σ = [some (.ref t), some (.int m), some (.str a), some (.str b), some (.str c), some (.ref pp), some (.ref np), y, none] ∧ H5 np = some (.lst (ns.map V.str)) ∧ (ns.length : Int) ≤ m ∧ ns.Sublist ((poolL a b c).take i))
        ⟨e4, T4, hpp4, [], none, rfl, hn4, hm0, by simp⟩ (fun i σ H5 hi h => ?_) (fun σ H5 h => ?_)
      · obtain ⟨e5, T5, hpp5, ns, y, rfl, hn5, hml, hsub⟩ := h
        have hi6 : i < 6 := hi
        obtain ⟨z, hz⟩ : ∃ z, (poolL a b c)[i]? = some z := ⟨_, List.getElem?_eq_getElem (show i < 6 from hi6)⟩
        have htk : (poolL a b c).take (i + 1) = (poolL a b c).take i ++ [z] := by rw [List.take_add_one, hz]; rfl
        have hns6 : ns.length ≤ 6 := Nat.le_trans hsub.length_le (by rw [List.length_take]; exact Nat.min_le_right _ _)
        walk_at "rd_2"
        refine rd_ite (fun hlt => ?_) (fun hlt => ?_)
        · walk_at "rd_2"
          refine ⟨l, t, 2, rfl, by decide, by decide, T5, fun d H6 h0 h1' e6 T6 => ?_⟩
          have hpp6 := e6.lst (by simpa using hpt) hpp5
          have hn6 := e6.lst (by simpa using hnt) hn5
          walk_at "rd_2"
          refine rd_ite (fun hd => ?_) (fun hd => ?_)
          · walk_at "rd_2"
            refine rd_ixL (v := .str z) (SqL.of hpp6) (by
              rw [Int.zero_add]
              exact atI_nat (by rw [List.getElem?_map, hz]; rfl)) ?_
            walk_at "rd_2"
            refine ⟨(e5.trans e6).own hnw hn6, T6.own hnt hnl, (upd_ne hnpp).trans hpp6, ns ++ [z], _, rfl, ?_, ?_, ?_⟩
            · rw [List.map_append]
              exact upd_same
            · rw [List.length_append]
              rw [List.length_map] at hlt
              show ((ns.length + 1 : Nat) : Int) ≤ m
              omega
            · rw [htk]
              exact hsub.append (List.Sublist.refl _)
          · walk_at "rd_2"
            exact ⟨e5.trans e6, T6, hpp6, ns, _, rfl, hn6, hml, by rw [htk]; exact hsub.trans (List.sublist_append_left _ _)⟩
        · walk_at "rd_2"
          exact ⟨e5, T5, hpp5, ns, _, rfl, hn5, hml, by rw [htk]; exact hsub.trans (List.sublist_append_left _ _)⟩
      · obtain ⟨e5, T5, hpp5, ns, y, rfl, hn5, hml, hsub⟩ := h
        exact hnx _ _ ⟨e5, T5, ns, y, rfl, hn5, hml, hsub.trans (List.take_sublist _ _)⟩
    · obtain ⟨e5, T5, ns, y, rfl, hn5, hml, hsub⟩ := h
      clear hT e1 T1 e2 T2 e3 T3 e4 T4 hpp4 hn4 hpp hsp hlp
      have hnz : ∀ z ∈ ns, zoneB z := fun z hz => hpz z (hsub.subset hz)
      have hnn : ns.Nodup := hpn.sublist hsub
      walk_at "rd_2"
      refine ⟨l, t, rfl, T5, fun lag H6 hl0 hl1 e6 T6 => ?_⟩
      walk_at "rd_2"
      refine ⟨by show 2 ≤ sizeLine; decide, fun ta nta => ?_⟩
      walk_at "rd_2"
      refine ⟨by show 1 ≤ sizeLine; decide, fun la nla => ?_⟩
      have e7 : Ext T [t] H (upd (upd H6 ta (.tup [V.str (Str.ofString "."), .int lag])) la (.lst [.ref ta])) := ((e5.trans e6).newR nta).newR nla
      have T7 : Tape l (upd (upd H6 ta (.tup [V.str (Str.ofString "."), .int lag])) la (.lst [.ref ta])) t := (T6.upd nta).upd nla
      have hta : ta ≠ la := fun e => by
        rw [← e, upd_same] at nla
        cases nla
      have hla7 : Ls (upd (upd H6 ta (.tup [V.str (Str.ofString "."), .int lag])) la (.lst [.ref ta])) la [siD (dotS, lag)] :=
        ⟨_, upd_same, .cons (.new2 (.str _ (name_ok dot_name)) (.int _) ((upd_ne hta).trans upd_same)) .nil⟩
      have hn7 : (upd (upd H6 ta (.tup [V.str (Str.ofString "."), .int lag])) la (.lst [.ref ta])) np = some (.lst (ns.map V.str)) := by
        have hn6 := e6.lst (by simpa using hnt) hn5
        have a1 : np ≠ ta := (Nw.of nta).lst hn6
        have a2 := (upd_ne (o := .tup [V.str (Str.ofString "."), .int lag]) a1).trans hn6
        exact (upd_ne ((Nw.of nla).lst a2)).trans a2
      have hlt7 : la ≠ t ∧ la ≠ l := (T6.upd nta).ne (.of nla)
      generalize upd (upd H6 ta (.tup [V.str (Str.ofString "."), .int lag])) la (.lst [.ref ta]) = H7 at e7 T7 hla7 hn7 ⊢
      clear nla nta
      walk_at "rd_2"
      refine rd_sortI (ds := ns.map .str) ⟨_, hn7, ImAll.strs fun z hz => name_ok (zone_name (hnz z hz))⟩ (alike_s ns) (sortable_s ns) (depth_s ns) fun sa ys nsa hys => ?_
      rw [srtS_eq] at hys
      have hys := hys.strs'
      subst hys
      obtain ⟨hst, hsl⟩ := T7.ne (.of nsa)
      have hsla : la ≠ sa := by
        obtain ⟨_, h, _⟩ := hla7
        exact (Nw.of nsa).lst h
      have e8 := e7.newR (o := .lst ((srtS ns).map V.str)) nsa
      have T8 := T7.upd (o := .lst ((srtS ns).map V.str)) nsa
      have hla8 := hla7.ext (T := T) (ms := []) (Ext.new (o := .lst ((srtS ns).map V.str)) nsa) (by simp) Lsts.nil
      have hs8 : (upd H7 sa (.lst ((srtS ns).map V.str))) sa = some (.lst ((srtS ns).map V.str)) := upd_same
      refine ⟨sa, rfl, .inl ⟨⟨_, SqL.of hs8⟩, ?_⟩⟩
      show LcG _ _ _ _ _ _ (upd H7 sa (.lst ((srtS ns).map V.str))) _
      generalize upd H7 sa (.lst ((srtS ns).map V.str)) = H8 at e8 T8 hla8 hs8 ⊢
      clear e7 T7 hla7 hn7 nsa
      have hsz : ((srtS ns).map V.str).length < sizeLine := by
        rw [List.length_map, (srtS_perm ns).length_eq]
        exact Nat.lt_of_le_of_lt (show _ ≤ 5 by omega) (by decide)
      refine lcg_im T [t] walk_list ((srtS ns).map V.str) rfl (fun i H x H' y => y) (fun H' => Tape l H' t) T8 (fun D o h => T8.upd h) (fun D H' nD T' ys u h => T'.own (T8.ne nD).1 (T8.ne nD).2) (fun H' T' => T'.lsts) (fun H' e _ => e.seqL (by simpa using hst) (SqL.of hs8)) hsz (fun _ => true) ZRel (fun i x hx H' e' T' R S h1 h2 => ?_) (fun D H9 ds nD e9 T9 hD hds => ?_)
      · rw [List.getElem?_map] at hx
        obtain ⟨z, hz, rfl⟩ := Option.map_eq_some_iff.mp hx
        refine rd_name ⟨wipe1, ?_⟩
        walk_at "rd_2"
        refine ⟨l, t, rfl, T', fun n H9 hn0 hn1 e9 T9 => ?_⟩
        walk_at "rd_2"
        refine ⟨by show 2 ≤ sizeLine; decide, fun tz ntz => ?_⟩
        have hzo := name_ok (zone_name (hnz z ((srtS_perm ns).mem_iff.mp (List.mem_of_getElem? hz))))
        exact h1 rfl _ (siD (z, n)) _ (e9.newR ntz) (T9.upd ntz) (.new2 (.str _ hzo) (.int _) upd_same) ⟨z, n, rfl, rfl, hn0, hn1⟩
      · rw [filtT] at hds
        obtain ⟨rest, rfl, hr1, hr2⟩ := zrel_all hds
        have hla9 := hla8.ext e9 (by simpa using hlt7.1) T8.lsts
        obtain ⟨x1, a1, a2⟩ := hla9
        obtain ⟨x2, b1, b2⟩ := hD
        have hx1 : x1.length = 1 := a2.len
        have hx2 : x2.length ≤ 5 := by
          rw [b2.len, List.length_map]
          have := congrArg List.length hr1
          rw [List.length_map, (srtS_perm ns).length_eq] at this
          omega
        refine rd_cat a1 b1 (Nat.le_trans (show _ ≤ 100 by omega) (by decide)) fun pa npa => ?_
        have e10 := e8.trans e9
        refine q pa lag rest ns _ (e10.back (by simpa using (T9.ne (.of npa)).1) (.of npa)) hr1 hnn hml hnz (fun r hr => ?_) ⟨x1 ++ x2, upd_same, ?_⟩ (e10.newR npa) (T9.upd npa)
        · rcases List.mem_cons.mp hr with e | hr
          · rw [e]
            exact ⟨hl0, hl1⟩
          · exact hr2 r hr
        · exact ImAll.ext (T := T) (ms := []) (.new npa) Lsts.nil _ _ (a2.app b2)
end
section
variable {T : List (Addr × Str)} {P : Program} {w : World} {K : PySem.W.Frag} {mg : Str → Option Value} {base : Heap}
theorem ok_law_realm (D : Def K mg "_law_realm" s_law_realm ["tape", "most"]) (mb : ∀ x ∈ bltns, mg x = none) (G_law_take : Ok P w K mg base 2 "_law_take" ["tape", "many"] (spTake T)) (G_law_zones : Ok P w K mg base 6 "_law_zones" ["tape", "most"] (spZones T))
    (G_law_label : Ok P w K mg base 4 "_law_label" ["tape"] (spLabel T)) (G_law_id : Ok P w K mg base 3 "_law_id" ["tape"] (spId T)) (G_law_ids : Ok P w K mg base 4 "_law_ids" ["tape", "many"] (spIds T)) : Ok P w K mg base 7 "_law_realm" ["tape", "most"] (spRealm T) := by
  refine D.ok sc_law_realm (fun vs H Q E h => ?_) (fun cdv f A outer s H vs Q E hr h => ?_)
  · obtain ⟨l, t, m, rfl, _⟩ := h
    rfl
  · obtain ⟨l, t, m, rfl, hm0, hm5, hT, q⟩ := h
    refine ⟨_, (pss_cons (ps_set (i := 2) sc_law_realm.nd rfl (.inl rfl) (pe_callO G_law_zones (hr.mono (by decide)) (by rfl) (pa_cons (pv 0) (pa_cons (pv 1) pa_nil))))
   (pss_cons (ps_set (i := 3) sc_law_realm.nd rfl (.inl rfl) (pe_lst pa_nil))
   (pss_cons (ps_for PassesOwn.never rfl (pi_seq K rfl (pv 2)) (pg_tupU (n := 2) K rfl rfl (pgs_cons (pg_name (i := 4) sc_law_realm.nd rfl (.inl rfl)) (pgs_cons (pg_name (i := 5) sc_law_realm.nd rfl (.inl rfl)) pgs_nil))) (pss_cons (ps_set (i := 6) sc_law_realm.nd rfl (.inl rfl) (pv 4))
   (pss_cons (ps_if (pt_cmpR (op_eqU K rfl hr.units) (pe_callO G_law_take (hr.mono (by decide)) (by rfl) (pa_cons (pv 0) (pa_cons pe_int pa_nil))) pe_int (nomark _)) (pss_one (ps_set (i := 6) sc_law_realm.nd rfl (.inl rfl) (pe_op (op_plus K rfl) (pe_callO G_law_label (hr.mono (by decide)) (by rfl) (pa_cons (pv 0) pa_nil)) (pe_ifExp (pt_cmpR (op_eqU K rfl hr.units) (pv 4) pe_str (nomark _)) pe_str (pe_op (op_plus K rfl) pe_str (pv 4)))))) pss_nil)
   (pss_one (ps_expr (pe_bm PySem.F.plainAttrs_list PySem.F.slot_list_append PySem.F.type_list_append mt_append (pv 3) (pa_cons (pe_tup (pa_cons (pv 6) (pa_cons (pe_callO G_law_id (hr.mono (by decide)) (by rfl) (pa_cons (pv 0) pa_nil)) pa_nil))) pa_nil)))))))
   (pss_cons (ps_if (pt_cmpR (op_eqU K rfl hr.units) (pe_callO G_law_take (hr.mono (by decide)) (by rfl) (pa_cons (pv 0) (pa_cons pe_int pa_nil))) pe_int (nomark _)) (pss_one (ps_expr (pe_bm PySem.F.plainAttrs_list PySem.F.slot_list_append PySem.F.type_list_append mt_append (pv 3) (pa_cons (pe_tup (pa_cons (pe_ix (ix_U K rfl) (pe_ix (ix_U K rfl) (pv 2) (pe_un un_neg pe_int) (fun _ _ => rfl)) pe_int (fun _ _ => rfl)) (pa_cons (pe_callO G_law_id (hr.mono (by decide)) (by rfl) (pa_cons (pv 0) pa_nil)) pa_nil))) pa_nil)))) pss_nil)
   (pss_cons (ps_set (i := 7) sc_law_realm.nd rfl (.inl rfl) (pe_lst pa_nil))
   (pss_cons (ps_for PassesOwn.never rfl (pi_seq K rfl (pe_callB (call_sortedU K rfl hr.units) (by rfl) (mb _ (by decide)) (by decide +kernel) (pa_cons (pv 3) pa_nil))) (pg_name (i := 8) sc_law_realm.nd rfl (.inl rfl)) (pss_one (ps_if (pt_cmpR (op_ninW K rfl (Room.units65 hr)) (pv 8) (pv 7) rfl) (pss_one (ps_expr (pe_bm PySem.F.plainAttrs_list PySem.F.slot_list_append PySem.F.type_list_append mt_append (pv 7) (pa_cons (pv 8) pa_nil)))) pss_nil)))
   (pss_cons (ps_set (i := 9) sc_law_realm.nd rfl (.inl rfl) (pe_callTy (call_tupU K rfl) (by rfl) (mb _ (by decide)) (by decide +kernel) (pa_cons (pe_callB (call_sortedU K rfl hr.units) (by rfl) (mb _ (by decide)) (by decide +kernel) (pa_cons (pe_callO G_law_ids (hr.mono (by decide)) (by rfl) (pa_cons (pv 0) (pa_cons (pe_op (op_plus K rfl) pe_int (pe_callO G_law_take (hr.mono (by decide)) (by rfl) (pa_cons (pv 0) (pa_cons pe_int pa_nil)))) pa_nil))) pa_nil)) pa_nil)))
   (pss_one (ps_ret (pe_tup (pa_cons (pe_callTy (call_tupF K rfl) (by rfl) (mb _ (by decide)) (by decide +kernel) (pa_cons (pv 2) pa_nil)) (pa_cons (pv 9) (pa_cons (pe_callTy (call_tupU K rfl) (by rfl) (mb _ (by decide)) (by decide +kernel) (pa_cons (pv 7) pa_nil)) pa_nil))))))))))))), ?_⟩
    refine rd_seq ?_
    walk_at "rdn_2"
    refine ⟨l, t, m, rfl, hm0, hm5, hT, fun zp lag rest ns H1 nzp hr1 hnn hnm hnz hlag hzp e1 T1 => ?_⟩
    obtain ⟨zs, hzs⟩ : ∃ zs, zs = (dotS, lag) :: rest := ⟨_, rfl⟩
    rw [← hzs] at hzp hlag
    have hzpt : zp ≠ t := (hT.ne nzp).1
    have hzlen : zs.length ≤ 6 := by
      have := congrArg List.length hr1
      rw [List.length_map, (srtS_perm ns).length_eq] at this
      rw [hzs, List.length_cons]
      omega
    have hzn : ∀ r ∈ zs, r.1 = dotS ∨ zoneB r.1 := fun r hr => by
      rw [hzs] at hr
      rcases List.mem_cons.mp hr with e | hr
      · exact .inl (by rw [e])
      · exact .inr (hnz _ ((srtS_perm ns).mem_iff.mp (by rw [← hr1]; exact List.mem_map_of_mem hr)))
    walk_at "rdn_2"
    refine rd_seq ?_
    walk_at "rdn_2"
    refine ⟨by show 0 ≤ sizeLine; decide, fun sp nsp => ?_⟩
    have hspn : Nw H sp := e1.back (by simpa using (T1.ne (.of nsp)).1) (.of nsp)
    obtain ⟨hspt, hspl⟩ := T1.ne (.of nsp)
    have hzsp := hzp.ne nsp
    have e2 := e1.newR (o := .lst []) nsp
    have T2 := T1.upd (o := .lst []) nsp
    have hz2 := hzp.new (o := .lst []) nsp
    have hs2 : Ls (upd H1 sp (.lst [])) sp (([] : List (Str × Str)).map ssD) := ⟨[], upd_same, .nil⟩
    generalize upd H1 sp (.lst []) = H2 at e2 T2 hz2 hs2 ⊢
    clear nsp hzp
    walk_at "rdn_2"
    -- the sets, zone by zone
    refine rd_cut (fun σ H3 => Ext T [t] H H3 ∧ Tape l H3 t ∧ Ls H3 zp (zs.map siD) ∧ ∃ (ss : List (Str × Str)) (a b c : Option V), σ = [some (.ref t), some (.int m), some (.ref zp), some (.ref sp), a, b, c, none, none, none] ∧ Ls H3 sp (ss.map ssD) ∧ ss.length = zs.length ∧ (∀ p ∈ ss, nameB p.1 = true ∧ idB p.2 = true) ∧ ∀ z ∈ zs, ∃ p ∈ ss, endsB p.1 z.1 = true) (fun nx' hnx => ?_) (fun σ H3 h => ?_)
    · walk_at "rd_2"
      obtain ⟨xs, hx1, hx2⟩ := hz2.list
      refine .inl ⟨⟨_, SqL.of hx1⟩, ?_⟩
      refine forg_list (xs := xs) (fun i σ H3 => Ext T [t] H H3 ∧ Tape l H3 t ∧ H3 zp = some (.lst xs) ∧ ImAll H3 xs (zs.map siD) ∧ ∃ (ss : List (Str × Str)) (a b c : Option V), σ = [some (.ref t), some (.int m), some (.ref zp), some (.ref sp), a, b, c, none, none, none] ∧ Ls H3 sp (ss.map ssD) ∧ ss.length = i ∧ (∀ p ∈ ss, nameB p.1 = true ∧ idB p.2 = true) ∧ ∀ z ∈ zs.take i, ∃ p ∈ ss, endsB p.1 z.1 = true)
        ⟨e2, T2, hx1, hx2, [], none, none, none, rfl, hs2, rfl, by simp, by simp⟩ (fun i σ H3 _ h => SqL.of h.2.2.1) (fun i x σ H3 hx h => ?_) (fun σ H3 h => ?_)
      · obtain ⟨e3, T3, hz3, hi3, ss, a, b, c, rfl, hs3, hsl, hso, hsu⟩ := h
        obtain ⟨dz, hdz, hxz⟩ := hi3.get' hx
        rw [List.getElem?_map] at hdz
        obtain ⟨z, hz, rfl⟩ := Option.map_eq_some_iff.mp hdz
        have hzm := List.mem_of_getElem? hz
        have hzz := hzn z hzm
        have hznm : nameB z.1 = true := hzz.elim (fun e => by rw [e]; exact dot_name) zone_name
        refine rd_gpair (d1 := .str z.1) (d2 := .int z.2) hxz fun v1 v2 h1 h2 => ?_
        rw [h1.str', h2.int']
        refine rd_seq ?_
        walk_at "rdn_2"
        -- the name
        refine rd_cut (fun σ H4 => Ext T [t] H3 H4 ∧ Tape l H4 t ∧ ∃ n : Str, σ = [some (.ref t), some (.int m), some (.ref zp), some (.ref sp), some (.str z.1), some (.int z.2), some (.str n), none, none, none] ∧ nameB n = true ∧ endsB n z.1 = true) (fun nx2 hnx2 => ?_) (fun σ H4 h => ?_)
        · walk_at "rd_2"
          refine ⟨l, t, 2, rfl, by decide, by decide, T3, fun d H4 h0 h1 e4 T4 => ?_⟩
          walk_at "rd_2"
          refine rd_ite (fun hd => ?_) (fun hd => ?_)
          · walk_at "rd_2"
            refine ⟨l, t, rfl, T4, fun la H5 hla e5 T5 => ?_⟩
            have hla8 := label_len hla
            have hzl := name_len hznm
            walk_at "rd_2"
            refine rd_ite (fun hdot => ?_) (fun hdot => ?_)
            · walk_at "rd_2"
              refine rd_plusS ?_ ?_
              · rw [show (Str.ofString "").length = 0 by decide +kernel]
                exact Nat.le_trans (show _ ≤ 100 by omega) (by decide)
              walk_at "rd_2"
              have e0 : la ++ Str.ofString "" = la := sg_inj (by rw [sg_app, show sg (Str.ofString "") = [] by decide +kernel, List.append_nil])
              rw [e0]
              exact hnx2 _ _ ⟨e4.trans e5, T5, la, rfl, label_name hla, by rw [show z.1 = dotS from hdot]; exact ends_dot la⟩
            · walk_at "rd_2"
              exact hnx2 _ _ ⟨e4.trans e5, T5, la ++ (dotS ++ z.1), rfl, name_cons hla (hzz.resolve_left hdot), ends_app la z.1⟩
          · walk_at "rd_2"
            exact hnx2 _ _ ⟨e4, T4, z.1, rfl, hznm, ends_self z.1⟩
        · obtain ⟨e4, T4, n, rfl, hn, hne⟩ := h
          have hs4 := hs3.ext e4 (by simpa using hspt) T3.lsts
          have hz4 := e4.lst (by simpa using hzpt) hz3
          have hi4 := ImAll.ext e4 T3.lsts _ _ hi3
          have e34 := e3.trans e4
          clear e3 T3 hs3 hz3 hi3 hxz e4
          obtain ⟨sx, hsx, _⟩ := hs4.list
          walk_at "rd_2"
          refine ⟨l, t, rfl, T4, fun k H5 hk e5 T5 => ?_⟩
          have hs5 := hs4.ext e5 (by simpa using hspt) T4.lsts
          have hz5 := e5.lst (by simpa using hzpt) hz4
          have hi5 := ImAll.ext e5 T4.lsts _ _ hi4
          walk_at "rd_2"
          refine ⟨by show 2 ≤ sizeLine; decide, fun ta nta => ?_⟩
          refine rd_nil ?_
          have e6 := (e34.trans e5).newR (o := .tup [V.str n, .str k]) nta
          have T6 := T5.upd (o := .tup [V.str n, .str k]) nta
          have hs6 := hs5.new (o := .tup [V.str n, .str k]) nta
          have hz6 := (upd_ne (o := .tup [V.str n, .str k]) ((Nw.of nta).lst hz5)).trans hz5
          have hi6 := hi5.new (o := .tup [V.str n, .str k]) nta
          have ht6 : Im (upd H5 ta (.tup [V.str n, .str k])) (.ref ta) (ssD (n, k)) := .new2 (.str _ (name_ok hn)) (.str _ (id_ok hk)) upd_same
          generalize upd H5 ta (.tup [V.str n, .str k]) = H6 at e6 T6 hs6 hz6 hi6 ht6 ⊢
          refine rd_appLs hs6 ht6 ?_ fun ys hy hs7 => ?_
          · rw [List.length_map, hsl]
            refine Nat.lt_of_le_of_lt (show i ≤ 100 from ?_) (by decide)
            have := (List.getElem?_eq_some_iff.mp hx).1
            have := hi6.len
            rw [List.length_map] at this
            omega
          · have e7 : Ext T [sp] H6 (upd H6 sp (.lst (ys ++ [.ref ta]))) := Ext.mut (by simp) hy
            refine ⟨e6.own hspn hy, T6.own hspt hspl, (upd_ne hzsp).trans hz6, ImAll.ext e7 (lsts_one hy) _ _ hi6, ss ++ [(n, k)], _, _, _, rfl, ?_, ?_, fun p hp => ?_, fun z' hz' => ?_⟩
            · rw [List.map_append]
              exact hs7
            · rw [List.length_append, hsl]
              rfl
            · rcases List.mem_append.mp hp with h | h
              · exact hso p h
              · rw [List.mem_singleton.mp h]
                exact ⟨hn, hk⟩
            · rw [List.take_add_one, hz] at hz'
              rcases List.mem_append.mp hz' with h | h
              · obtain ⟨p, hp, h2⟩ := hsu z' h
                exact ⟨p, List.mem_append_left _ hp, h2⟩
              · rw [List.mem_singleton.mp (show z' ∈ [z] from h)]
                exact ⟨(n, k), by simp, hne⟩
      · obtain ⟨e3, T3, hz3, hi3, ss, a, b, c, rfl, hs3, hsl, hso, hsu⟩ := h
        have hlx : xs.length = zs.length := by rw [hx2.len, List.length_map]
        rw [hlx] at hsl hsu
        rw [List.take_length] at hsu
        exact hnx _ _ ⟨e3, T3, ⟨xs, hz3, hi3⟩, ss, a, b, c, rfl, hs3, hsl, hso, hsu⟩
    · obtain ⟨e3, T3, hz3, ss, a, b, c, rfl, hs3, hsl, hso, hsu⟩ := h
      clear e1 T1 e2 T2 hz2 hs2
      -- one set more
      refine rd_cut (fun σ H4 => Ext T [t] H H4 ∧ Tape l H4 t ∧ Ls H4 zp (zs.map siD) ∧ ∃ (ss : List (Str × Str)), σ = [some (.ref t), some (.int m), some (.ref zp), some (.ref sp), a, b, c, none, none, none] ∧ Ls H4 sp (ss.map ssD) ∧ ss.length ≤ zs.length + 1 ∧ (∀ p ∈ ss, nameB p.1 = true ∧ idB p.2 = true) ∧ ∀ z ∈ zs, ∃ p ∈ ss, endsB p.1 z.1 = true) (fun nx' hnx => ?_) (fun σ H4 h => ?_)
      · walk_at "rd_2"
        refine ⟨l, t, 3, rfl, by decide, by decide, T3, fun d H4 h0 h1 e4 T4 => ?_⟩
        have hs4 := hs3.ext e4 (by simpa using hspt) T3.lsts
        have hz4 := hz3.ext e4 (by simpa using hzpt) T3.lsts
        walk_at "rd_2"
        refine rd_ite (fun hd => ?_) (fun hd => ?_)
        · obtain ⟨sx, hsx, _⟩ := hs4.list
          obtain ⟨zx, hzx, hzi⟩ := hz4.list
          walk_at "rd_2"
          obtain ⟨z, hz1, hz2⟩ := last_some (l := zs) (by rw [hzs]; simp)
          have hznm : nameB z.1 = true := (hzn z hz2).elim (fun e => by rw [e]; exact dot_name) zone_name
          refine rd_ixLs hz4 (last_map hz1) fun u hu => ?_
          walk_at "rd_2"
          refine rd_ixSs (z := z.1) hu rfl ?_
          walk_at "rd_2"
          refine ⟨l, t, rfl, T4, fun k H5 hk e5 T5 => ?_⟩
          have hs5 := hs4.ext e5 (by simpa using hspt) T4.lsts
          have hz5 := hz4.ext e5 (by simpa using hzpt) T4.lsts
          walk_at "rd_2"
          refine ⟨by show 2 ≤ sizeLine; decide, fun ta nta => ?_⟩
          refine rd_nil ?_
          have e6 := ((e3.trans e4).trans e5).newR (o := .tup [V.str z.1, .str k]) nta
          have T6 := T5.upd (o := .tup [V.str z.1, .str k]) nta
          have hs6 := hs5.new (o := .tup [V.str z.1, .str k]) nta
          have hz6 := hz5.new (o := .tup [V.str z.1, .str k]) nta
          have ht6 : Im (upd H5 ta (.tup [V.str z.1, .str k])) (.ref ta) (ssD (z.1, k)) := .new2 (.str _ (name_ok hznm)) (.str _ (id_ok hk)) upd_same
          generalize upd H5 ta (.tup [V.str z.1, .str k]) = H6 at e6 T6 hs6 hz6 ht6 ⊢
          refine rd_appLs hs6 ht6 ?_ fun ys hy hs7 => ?_
          · rw [List.length_map, hsl]
            exact Nat.lt_of_le_of_lt (show zs.length ≤ 100 by omega) (by decide)
          · have e7 : Ext T [sp] H6 (upd H6 sp (.lst (ys ++ [.ref ta]))) := Ext.mut (by simp) hy
            refine hnx _ _ ⟨e6.own hspn hy, T6.own hspt hspl, hz6.ext e7 (by simpa using hzsp) (lsts_one hy), ss ++ [(z.1, k)], rfl, ?_, ?_, fun p hp => ?_, fun z' hz' => ?_⟩
            · rw [List.map_append]
              exact hs7
            · rw [List.length_append, hsl]
              exact Nat.le_refl _
            · rcases List.mem_append.mp hp with h | h
              · exact hso p h
              · rw [List.mem_singleton.mp h]
                exact ⟨hznm, hk⟩
            · obtain ⟨p, hp, h2⟩ := hsu z' hz'
              exact ⟨p, List.mem_append_left _ hp, h2⟩
        · walk_at "rd_2"
          exact hnx _ _ ⟨e3.trans e4, T4, hz4, ss, rfl, hs4, by omega, hso, hsu⟩
      · obtain ⟨e4, T4, hz4, ss, rfl, hs4, hsl, hso, hsu⟩ := h
        clear e3 T3 hz3 hs3
        refine rd_seq ?_
        walk_at "rdn_2"
        refine ⟨by show 0 ≤ sizeLine; decide, fun kp nkp => ?_⟩
        obtain ⟨hkt, hkl'⟩ := T4.ne (.of nkp)
        have hkn : Nw H kp := e4.back (by simpa using hkt) (.of nkp)
        have hzk := hz4.ne nkp
        have e5 := e4.newR (o := .lst []) nkp
        have T5 := T4.upd (o := .lst []) nkp
        have hz5 := hz4.new (o := .lst []) nkp
        have hs5 := hs4.new (o := .lst []) nkp
        have hk5 : Ls (upd H4 kp (.lst [])) kp (([] : List (Str × Str)).map ssD) := ⟨[], upd_same, .nil⟩
        generalize upd H4 kp (.lst []) = H5 at e5 T5 hz5 hs5 hk5 ⊢
        walk_at "rdn_2"
        refine rd_cut (fun σ H6 => Ext T [t] H H6 ∧ Tape l H6 t ∧ Ls H6 zp (zs.map siD) ∧ ∃ (ks : List (Str × Str)) (d : Option V), σ = [some (.ref t), some (.int m), some (.ref zp), some (.ref sp), a, b, c, some (.ref kp), d, none] ∧ Ls H6 kp (ks.map ssD) ∧ ks.Nodup ∧ ks.Sublist (srtSS ss) ∧ ∀ r ∈ srtSS ss, r ∈ ks) (fun nx' hnx => ?_) (fun σ H6 h => ?_)
        · walk_at "rd_2"
          refine rd_sortI hs5 (alike_ss ss) (sortable_ss ss) (depth_ss ss) fun sa ys nsa hys => ?_
          rw [srtSS_eq] at hys
          have hsak := hk5.ne nsa
          have hst := (T5.ne (.of nsa)).1
          have e6 := e5.newR (o := .lst ys) nsa
          have T6 := T5.upd (o := .lst ys) nsa
          have hz6 := hz5.new (o := .lst ys) nsa
          have hk6 := hk5.new (o := .lst ys) nsa
          have hy6 := hys.new (o := .lst ys) nsa
          have hsa6 : (upd H5 sa (.lst ys)) sa = some (.lst ys) := upd_same
          refine ⟨sa, rfl, .inl ⟨⟨_, SqL.of hsa6⟩, ?_⟩⟩
          show ForG _ _ _ _ _ (upd H5 sa (.lst ys))
          generalize upd H5 sa (.lst ys) = H6 at e6 T6 hz6 hk6 hy6 hsa6 ⊢
          refine forg_list (xs := ys) (fun i σ H7 => Ext T [t] H H7 ∧ Tape l H7 t ∧ Ls H7 zp (zs.map siD) ∧ H7 sa = some (.lst ys) ∧ ImAll H7 ys ((srtSS ss).map ssD) ∧ ∃ (ks : List (Str × Str)) (d : Option V), σ = [some (.ref t), some (.int m), some (.ref zp), some (.ref sp), a, b, c, some (.ref kp), d, none] ∧ Ls H7 kp (ks.map ssD) ∧ ks.Nodup ∧ ks.Sublist ((srtSS ss).take i) ∧ ∀ r ∈ (srtSS ss).take i, r ∈ ks)
            ⟨e6, T6, hz6, hsa6, hy6, [], none, rfl, hk6, by simp, by simp, by simp⟩ (fun i σ H7 _ h => SqL.of h.2.2.2.1) (fun i x σ H7 hx h => ?_) (fun σ H7 h => ?_)
          · obtain ⟨e7, T7, hz7, hsa7, hy7, ks, d, rfl, hk7, hkn7, hks, hkm⟩ := h
            obtain ⟨dr, hdr, hxr⟩ := hy7.get' hx
            rw [List.getElem?_map] at hdr
            obtain ⟨r, hr, rfl⟩ := Option.map_eq_some_iff.mp hdr
            have htk : (srtSS ss).take (i + 1) = (srtSS ss).take i ++ [r] := by rw [List.take_add_one, hr]; rfl
            have hkl : ks.length ≤ 7 := by
              have h1 := hks.length_le
              rw [List.length_take, (srtSS_perm ss).length_eq] at h1
              have := Nat.min_le_right i ss.length
              omega
            have hdk : PyData.depth (.list (ks.map ssD)) ≤ 64 := by
              show PyData.depthAll (ks.map ssD) + 1 ≤ 64
              have := dep_map dep_ss ks
              omega
            refine rd_name ?_
            refine rd_if ?_
            refine rd_T ?_
            refine rd_op ?_
            refine rd_var rfl ?_
            refine rd_var rfl ?_
            refine rd_ninWL (b := decide (r ∈ ks)) hxr hk7 (Nat.le_trans (dep_ss r) (by decide)) hdk (mem_ssD.trans decide_eq_true_iff.symm) ?_
            refine ⟨_, rfl, ?_⟩
            refine rd_itn (fun hin => ?_) (fun hin => ?_)
            · walk_at "rd_2"
              refine ⟨e7, T7, hz7, hsa7, hy7, ks, _, rfl, hk7, hkn7, by rw [htk]; exact hks.trans (List.sublist_append_left _ _), fun r' hr' => ?_⟩
              rw [htk] at hr'
              rcases List.mem_append.mp hr' with h | h
              · exact hkm r' h
              · rw [List.mem_singleton.mp h]
                exact hin
            · obtain ⟨kx, hkx, _⟩ := hk7.list
              refine rd_drop ?_
              refine rd_bm ?_
              refine rd_var rfl ?_
              refine rd_tyL hkx ?_
              refine rd_cons ?_
              refine rd_var rfl ?_
              refine rd_nil ?_
              refine rd_appLs hk7 hxr ?_ fun ys2 hy2 hk8 => ?_
              · rw [List.length_map]
                exact Nat.lt_of_le_of_lt hkl (by decide)
              · have e8 : Ext T [kp] H7 (upd H7 kp (.lst (ys2 ++ [x]))) := Ext.mut (by simp) hy2
                refine ⟨e7.own hkn hy2, T7.own hkt hkl', hz7.ext e8 (by simpa using hzk) (lsts_one hy2), (upd_ne hsak.symm).trans hsa7, ImAll.ext e8 (lsts_one hy2) _ _ hy7, ks ++ [r], _, rfl, ?_, nodup_snoc hkn7 hin, ?_, fun r' hr' => ?_⟩
                · rw [List.map_append]
                  exact hk8
                · rw [htk]
                  exact hks.append (List.Sublist.refl _)
                · rw [htk] at hr'
                  rcases List.mem_append.mp hr' with h | h
                  · exact List.mem_append_left _ (hkm r' h)
                  · exact List.mem_append_right _ h
          · obtain ⟨e7, T7, hz7, hsa7, hy7, ks, d, rfl, hk7, hkn7, hks, hkm⟩ := h
            have hly : ys.length = (srtSS ss).length := by rw [hy7.len, List.length_map]
            rw [hly, List.take_length] at hks hkm
            exact hnx _ _ ⟨e7, T7, hz7, ks, d, rfl, hk7, hkn7, hks, hkm⟩
        · obtain ⟨e6, T6, hz6, ks, d, rfl, hk6, hkn6, hks, hkm⟩ := h
          clear e4 T4 hz4 hs4 e5 T5 hz5 hs5 hk5
          walk_at "rd_2"
          refine ⟨l, t, 3, rfl, by decide, by decide, T6, fun d2 H7 h0 h1 e7 T7 => ?_⟩
          have hz7 := hz6.ext e7 (by simpa using hzpt) T6.lsts
          have hk7 := hk6.ext e7 (by simpa using hkt) T6.lsts
          walk_at "rd_2"
          refine ⟨l, t, 1 + d2, rfl, by omega, by omega, T7, fun ip ids H8 nip hil hin hid hip e8 T8 => ?_⟩
          have hz8 := hz7.ext e8 (by simpa using hzpt) T7.lsts
          have hk8 := hk7.ext e8 (by simpa using hkt) T7.lsts
          walk_at "rd_2"
          refine rd_sortI (ds := ids.map .str) ⟨_, hip, ImAll.strs fun z hz => id_ok (hid z hz)⟩ (alike_s ids) (sortable_s ids) (depth_s ids) fun sa ys nsa hys => ?_
          rw [srtS_eq] at hys
          have e9 := ((e6.trans e7).trans e8).newR (o := .lst ys) nsa
          have T9 := T8.upd (o := .lst ys) nsa
          have hz9 := hz8.new (o := .lst ys) nsa
          have hk9 := hk8.new (o := .lst ys) nsa
          have hy9 := hys.new (o := .lst ys) nsa
          have hs9 : (upd H8 sa (.lst ys)) sa = some (.lst ys) := upd_same
          show tNil _ (upd H8 sa (.lst ys)) _
          generalize upd H8 sa (.lst ys) = H9 at e9 T9 hz9 hk9 hy9 hs9 ⊢
          walk_at "rd_2"
          refine rd_tupL (SqL.of hs9) fun ta nta => ?_
          have e10 := e9.newR (o := .tup ys) nta
          have T10 := T9.upd (o := .tup ys) nta
          have hz10 := hz9.new (o := .tup ys) nta
          have hk10 := hk9.new (o := .tup ys) nta
          have ha10 : Im (upd H9 ta (.tup ys)) (.ref ta) (.tuple ((srtS ids).map .str)) := .tup upd_same (hy9.new nta)
          show gName 9 _ _ (upd H9 ta (.tup ys)) _
          generalize upd H9 ta (.tup ys) = H10 at e10 T10 hz10 hk10 ha10 ⊢
          obtain ⟨zx, hzx, hzi⟩ := hz10.list
          walk_at "rd_2"
          refine rd_tupF (SqL.of hzx) fun tz oz ntz hod => ?_
          have e11 := e10.newR (o := .frz oz (.tup zx)) ntz
          have T11 := T10.upd (o := .frz oz (.tup zx)) ntz
          have hk11 := hk10.new (o := .frz oz (.tup zx)) ntz
          have ha11 := ha10.new (o := .frz oz (.tup zx)) ntz
          have hf11 : (upd H10 tz (.frz oz (.tup zx))) tz = some (.frz oz (.tup zx)) := upd_same
          have hi11 : ImAll (upd H10 tz (.frz oz (.tup zx))) zx (zs.map siD) := hzi.new ntz
          have hz11 : Im (upd H10 tz (.frz oz (.tup zx))) (.ref tz) (.tuple (zs.map siD)) := .tupF hf11 (siD_tups zs) hi11
          show tCons _ _ _ (upd H10 tz (.frz oz (.tup zx))) _
          generalize upd H10 tz (.frz oz (.tup zx)) = H11 at e11 T11 hk11 ha11 hz11 hf11 hi11 ⊢
          obtain ⟨kx, hkx, hki⟩ := hk11.list
          walk_at "rd_2"
          refine rd_tupL (SqL.of hkx) fun tk ntk => ?_
          have e12 := e11.newR (o := .tup kx) ntk
          have T12 := T11.upd (o := .tup kx) ntk
          have ha12 := ha11.new (o := .tup kx) ntk
          have hz12 := hz11.new (o := .tup kx) ntk
          have hf12 := frz.ext (T := T) hf11 (.new (o := .tup kx) ntk) Lsts.nil
          have hi12 := hi11.new (o := .tup kx) ntk
          have hk12 : Im (upd H11 tk (.tup kx)) (.ref tk) (.tuple (ks.map ssD)) := .tup upd_same (hki.new ntk)
          show tNil _ (upd H11 tk (.tup kx)) _
          generalize upd H11 tk (.tup kx) = H12 at e12 T12 ha12 hz12 hk12 hf12 hi12 ⊢
          walk_at "rd_2"
          refine ⟨by show 3 ≤ sizeLine; decide, fun r nr => ?_⟩
          have hmem : ∀ r, r ∈ ks → r ∈ ss := fun r hr => (srtSS_perm ss).mem_iff.mp (hks.subset hr)
          refine q (.ref r) ⟨zs, srtS ids, ks⟩ _ ⟨⟨lag, rest, ns, hzs, hr1, hnn, hnm, hnz⟩, hlag, ⟨ss, hks⟩, hkn6, fun p hp => hso p (hmem p hp), fun z hz => ?_, ?_, ⟨ids, rfl, hin, hid, by omega, by omega⟩⟩ ⟨r, tz, _, _, zx, oz, rfl, upd_same, frz.ext (T := T) hf12 (.new nr) Lsts.nil, hod, hi12.new nr⟩ (.new3 (hz12.new nr) (ha12.new nr) (hk12.new nr) upd_same) (e12.newR nr) (T12.upd nr)
          · obtain ⟨p, hp, h⟩ := hsu z hz
            exact ⟨p, hkm p ((srtSS_perm ss).mem_iff.mpr hp), h⟩
          · have h1 := hks.length_le
            rw [(srtSS_perm ss).length_eq] at h1
            have h2 : (zs.length : Int) ≤ m + 1 := by
              have := congrArg List.length hr1
              rw [List.length_map, (srtS_perm ns).length_eq] at this
              rw [hzs, List.length_cons]
              omega
            show (ks.length : Int) ≤ m + 2
            omega
end
section
variable {T : List (Addr × Str)} {P : Program} {w : World} {K : PySem.W.Frag} {mg : Str → Option Value} {base : Heap}
theorem ok_law_chain (D : Def K mg "_law_chain" s_law_chain ["realm", "name"]) (mb : ∀ x ∈ bltns, mg x = none) : Ok P w K mg base 1 "_law_chain" ["realm", "name"] (spChainL T) := by
  refine D.ok sc_law_chain (fun vs H Q E h => ?_) (fun cdv f A outer s H vs Q E hr h => ?_)
  · obtain ⟨v, R, n, rfl, _⟩ := h
    rfl
  · obtain ⟨v, R, n, rfl, hv, hR, hn, q⟩ := h
    refine ⟨_, (pss_cons (ps_set (i := 2) sc_law_chain.nd rfl (.inl rfl) (pe_lst (pa_cons (pe_tup (pa_cons pe_int (pa_cons pe_str pa_nil))) pa_nil)))
   (pss_cons (ps_for PassesOwn.never rfl (pi_seq K rfl (pe_ix (ix_U K rfl) (pv 0) pe_int (fun _ _ => rfl))) (pg_tupU (n := 2) K rfl rfl (pgs_cons (pg_name (i := 3) sc_law_chain.nd rfl (.inl rfl)) (pgs_cons (pg_name (i := 4) sc_law_chain.nd rfl (.inl rfl)) pgs_nil))) (pss_one (ps_if (PW.pt (pw_and (pt_cmpR (op_neU K rfl hr.units) (pv 3) pe_str (nomark _)) (pw_and1 (PW.pt (pw_or (pt_cmpR (op_eqU K rfl hr.units) (pv 1) (pv 3) (nomark _)) (pw_or1 (pt_E (pe_m1 PySem.F.slot_str_endswith PySem.F.type_str_endswith mt_endsU (pv 1) (pe_op (op_plus K rfl) pe_str (pv 3)))))))))) (pss_one (ps_expr (pe_bm PySem.F.plainAttrs_list PySem.F.slot_list_append PySem.F.type_list_append mt_append (pv 2) (pa_cons (pe_tup (pa_cons (pe_callB (call_lenU K rfl) (by rfl) (mb _ (by decide)) (by decide +kernel) (pa_cons (pv 3) pa_nil)) (pa_cons (pv 3) pa_nil))) pa_nil)))) pss_nil)))
   (pss_one (ps_ret (pe_lc (own := [("pair", 5)]) (g := gName 5) (tt := tYes) rfl sc_law_chain.nd (pi_seq K rfl (pe_callB (call_sortedU K rfl hr.units) (by rfl) (mb _ (by decide)) (by decide +kernel) (pa_cons (pv 2) pa_nil))) (blkOk_by (N := N_law_chain) (sc := defScope s_law_chain) (by decide +kernel)) (fun _ _ _ _ _ => (pg_name (i := 5) sc_law_chain.nd rfl (Or.inl rfl))) (fun _ _ _ _ _ => pts_nil) (fun _ _ _ _ _ => (pe_ix (ix_U K rfl) (pv 5) pe_int (fun _ _ => rfl)))))))), ?_⟩
    refine rd_seq ?_
    walk_at "rdn_2"
    refine ⟨by show 2 ≤ sizeLine; decide, fun ta nta => ?_⟩
    walk_at "rdn_2"
    refine ⟨by show 1 ≤ sizeLine; decide, fun fp nfp => ?_⟩
    have hta : ta ≠ fp := fun e => by
      rw [← e, upd_same] at nfp
      cases nfp
    have e1 : Ext T [] H (upd (upd H ta (.tup [V.int 0, .str (Str.ofString ".")])) fp (.lst [.ref ta])) := (Ext.new nta).newR nfp
    have hfn : Nw H fp := (Ext.new (T := T) (ms := []) nta).back (by simp) (.of nfp)
    have hv1 := (hv.new (o := .tup [V.int 0, .str (Str.ofString ".")]) nta).new (o := .lst [.ref ta]) nfp
    have hf1 : Ls (upd (upd H ta (.tup [V.int 0, .str (Str.ofString ".")])) fp (.lst [.ref ta])) fp ([((0 : Int), dotS)].map isD) :=
      ⟨_, upd_same, .cons (.new2 (.int _) (.str _ (name_ok dot_name)) ((upd_ne hta).trans upd_same)) .nil⟩
    show gName 2 _ _ (upd (upd H ta (.tup [V.int 0, .str (Str.ofString ".")])) fp (.lst [.ref ta])) _
    generalize upd (upd H ta (.tup [V.int 0, .str (Str.ofString ".")])) fp (.lst [.ref ta]) = H1 at e1 hv1 hf1 ⊢
    walk_at "rdn_2"
    refine rd_cut (fun σ H2 => Ext T [] H H2 ∧ ∃ (a b : Option V), σ = [some v, some (.str n), some (.ref fp), a, b, none] ∧ Ls H2 fp ((chF R n).map isD)) (fun nx' hnx => ?_) (fun σ H2 h => ?_)
    · walk_at "rd_2"
      refine rd_ixI (d := .tuple (R.zs.map siD)) hv1 rfl fun u hu => ?_
      obtain ⟨zp, xs, rfl, hzp, hzi⟩ := hu.tup'
      refine ⟨zp, rfl, .inr ⟨⟨_, SqP.sq hzp⟩, ?_⟩⟩
      refine forg_tup (xs := xs) (fun i σ H2 => Ext T [] H H2 ∧ SqP H2 zp xs ∧ ImAll H2 xs (R.zs.map siD) ∧ ∃ (a b : Option V), σ = [some v, some (.str n), some (.ref fp), a, b, none] ∧ Ls H2 fp (((0, dotS) :: (((R.zs.take i).filter (onZ n)).map fun z => ((z.1.length : Int), z.1))).map isD))
        ⟨e1, hzp, hzi, none, none, rfl, hf1⟩ (fun i σ H2 _ h => SqP.sq h.2.1) (fun i x σ H2 hx h => ?_) (fun σ H2 h => ?_)
      · obtain ⟨e2, hzp2, hzi2, a, b, rfl, hf2⟩ := h
        obtain ⟨dz, hdz, hxz⟩ := hzi2.get' hx
        rw [List.getElem?_map] at hdz
        obtain ⟨z, hz, rfl⟩ := Option.map_eq_some_iff.mp hdz
        have hznm := hR.nm z (List.mem_of_getElem? hz)
        have hzl := name_len hznm
        have htk : (R.zs.take (i + 1)).filter (onZ n) = (R.zs.take i).filter (onZ n) ++ [z].filter (onZ n) := by
          rw [List.take_add_one, hz, List.filter_append]
          rfl
        have hcnt : ((R.zs.take i).filter (onZ n)).length ≤ 6 := Nat.le_trans (List.length_filter_le _ _) (Nat.le_trans (by rw [List.length_take]; exact Nat.min_le_right _ _) hR.len)
        rw [htk]
        refine rd_gpair (d1 := .str z.1) (d2 := .int z.2) hxz fun v1 v2 h1 h2 => ?_
        rw [h1.str', h2.int']
        have no : onZ n z = false → Ls H2 fp (((0, dotS) :: ((((R.zs.take i).filter (onZ n) ++ [z].filter (onZ n))).map fun z => ((z.1.length : Int), z.1))).map isD) := fun h => by
          rw [show [z].filter (onZ n) = [] by rw [List.filter_cons, h]; rfl, List.append_nil]
          exact hf2
        have yes : onZ n z = true → (tDrop (tBM K "list" rAppend (tVar 2) (tCons (tTup (tCons (tCB (rLenU K) (tCons (tVar 3) tNil)) (tCons (tVar 3) tNil))) tNil))) ⟨fun σ H2 => Ext T [] H H2 ∧ SqP H2 zp xs ∧ ImAll H2 xs (R.zs.map siD) ∧ ∃ (a b : Option V), σ = [some v, some (.str n), some (.ref fp), a, b, none] ∧ Ls H2 fp (((0, dotS) :: ((((R.zs.take i).filter (onZ n) ++ [z].filter (onZ n))).map fun z => ((z.1.length : Int), z.1))).map isD), Q, nx', fun σ H2 => Ext T [] H H2 ∧ SqP H2 zp xs ∧ ImAll H2 xs (R.zs.map siD) ∧ ∃ (a b : Option V), σ = [some v, some (.str n), some (.ref fp), a, b, none] ∧ Ls H2 fp (((0, dotS) :: ((((R.zs.take i).filter (onZ n) ++ [z].filter (onZ n))).map fun z => ((z.1.length : Int), z.1))).map isD)⟩ [some v, some (.str n), some (.ref fp), some (.str z.1), some (.int z.2), none] H2 := fun h => by
          obtain ⟨fx, hfx, _⟩ := hf2.list
          walk_at "rd_2"
          refine ⟨by show 2 ≤ sizeLine; decide, fun tb ntb => ?_⟩
          refine rd_nil ?_
          have e3 := e2.newR (o := .tup [V.int z.1.length, .str z.1]) ntb
          have hf3 := hf2.new (o := .tup [V.int z.1.length, .str z.1]) ntb
          have hzi3 := hzi2.new (o := .tup [V.int z.1.length, .str z.1]) ntb
          have hzp3 := SqP.new (o := .tup [V.int z.1.length, .str z.1]) hzp2 ntb
          have ht3 : Im (upd H2 tb (.tup [V.int z.1.length, .str z.1])) (.ref tb) (isD (z.1.length, z.1)) := .new2 (.int _) (.str _ (name_ok hznm)) upd_same
          generalize upd H2 tb (.tup [V.int z.1.length, .str z.1]) = H3 at e3 hf3 hzi3 hzp3 ht3 ⊢
          refine rd_appLs hf3 ht3 ?_ fun ys hy hf4 => ?_
          · rw [List.length_map, List.length_cons, List.length_map]
            exact Nat.lt_of_le_of_lt (show _ ≤ 100 by omega) (by decide)
          · have e4 : Ext T [fp] H3 (upd H3 fp (.lst (ys ++ [.ref tb]))) := Ext.mut (by simp) hy
            refine ⟨e3.own hfn hy, ?_, ImAll.ext e4 (lsts_one hy) _ _ hzi3, _, _, rfl, ?_⟩
            · exact SqP.ext hzp3 e4 (lsts_one hy)
            · rw [show [z].filter (onZ n) = [z] by rw [List.filter_cons, h]; rfl, List.map_append]
              rw [← List.cons_append, List.map_append]
              exact hf4
        walk_at "rd_2"
        refine rd_itn (fun hdot => ?_) (fun hdot => ?_)
        · walk_at "rd_2"
          exact ⟨e2, hzp2, hzi2, _, _, rfl, no (by unfold onZ; rw [decide_eq_true (show z.1 = dotS from hdot)]; rfl)⟩
        · walk_at "rd_2"
          have hd0 : decide (z.1 = dotS) = false := decide_eq_false hdot
          refine rd_ite (fun heq => ?_) (fun heq => ?_)
          · refine iteT ?_
            exact yes (by unfold onZ; rw [hd0, show n = z.1 from heq, ends_self]; rfl)
          · walk_at "rd_2"
            cases hw : Txt.endswith n (Str.ofString "." ++ z.1) with
            | true =>
              refine iteT ?_
              refine yes ?_
              unfold onZ endsB
              rw [hd0, show Txt.endswith n (dotS ++ z.1) = true from hw]
              simp
            | false =>
              refine iteF ?_
              walk_at "rd_2"
              refine ⟨e2, hzp2, hzi2, _, _, rfl, no ?_⟩
              unfold onZ endsB
              rw [hd0, show Txt.endswith n (dotS ++ z.1) = false from hw, decide_eq_false heq]
              rfl
      · obtain ⟨e2, _, hzi2, a, b, rfl, hf2⟩ := h
        rw [show xs.length = R.zs.length by rw [hzi2.len, List.length_map], List.take_length] at hf2
        exact hnx _ _ ⟨e2, a, b, rfl, hf2⟩
    · obtain ⟨e2, a, b, rfl, hf2⟩ := h
      walk_at "rd_2"
      refine rd_sortI hf2 (alike_is _) (sortable_is _) (depth_is _) fun sa ys nsa hys => ?_
      rw [srtIS_eq] at hys
      have e3 := e2.newR (o := .lst ys) nsa
      have hy3 := hys.new (o := .lst ys) nsa
      have hs3 : (upd H2 sa (.lst ys)) sa = some (.lst ys) := upd_same
      refine ⟨sa, rfl, .inl ⟨⟨_, SqL.of hs3⟩, ?_⟩⟩
      show LcG _ _ _ _ _ _ (upd H2 sa (.lst ys)) _
      generalize upd H2 sa (.lst ys) = H3 at e3 hy3 hs3 ⊢
      have hyl : ys.length ≤ 7 := by
        rw [hy3.len, List.length_map, (srtIS_perm _).length_eq]
        unfold chF
        rw [List.length_cons, List.length_map]
        have := List.length_filter_le (onZ n) R.zs
        have := hR.len
        omega
      refine lcg_rel T [] walk_list ys rfl (fun i H x H' y => y) (by simp) (fun H' e => e.seqL (by simp) (SqL.of hs3)) (Nat.lt_of_le_of_lt hyl (by decide)) (fun _ => true) (fun v x => ∃ r : Int × Str, Im H3 x (isD r) ∧ v = .str r.2) (fun i x hx H' e' R S h1 h2 => ?_) (fun D H4 us nD e4 hD hus => ?_)
      · obtain ⟨dr, hdr, hxr⟩ := hy3.get' hx
        rw [List.getElem?_map] at hdr
        obtain ⟨r, hr, rfl⟩ := Option.map_eq_some_iff.mp hdr
        refine rd_name ⟨wipe1, ?_⟩
        walk_at "rd_2"
        refine rd_ixSs (z := r.2) (Im.ext e' Lsts.nil _ _ hxr) rfl ?_
        exact h1 rfl _ _ .refl ⟨r, hxr, rfl⟩
      · rw [filtT] at hus
        have hu : us = (chL R n).map V.str := by
          unfold chL
          have key : ∀ {us ys : List V} {rs : List (Int × Str)}, ImAll H3 ys (rs.map isD) → PySem.W.EachIs (fun v x => ∃ r : Int × Str, Im H3 x (isD r) ∧ v = .str r.2) us ys → us = (rs.map (·.2)).map V.str := by
            intro us ys rs
            induction rs generalizing us ys with
            | nil =>
              intro h1 h2
              cases h1
              cases h2
              rfl
            | cons r rs ih =>
              intro h1 h2
              cases h1 with
              | cons a b =>
                cases h2 with
                | cons c d =>
                  obtain ⟨r', c1, c2⟩ := c
                  have e := Im.inj _ _ _ a c1
                  injection e with e
                  injection e with _ e
                  injection e with e _
                  injection e with e
                  rw [ih b d, c2, List.map_cons, List.map_cons, e]
          exact key hy3 hus
        rw [hu] at hD
        exact q D H4 (e3.back (by simp) nD) (e3.trans e4) hD
end
section
variable {T : List (Addr × Str)} {P : Program} {w : World} {K : PySem.W.Frag} {mg : Str → Option Value} {base : Heap}
theorem kw_ok : PyData.strOk "keys" = true ∧ PyData.strOk "link" = true ∧ PyData.strOk "hosts" = true ∧ PyData.strOk "set" = true := by decide +kernel
theorem ok_law_slots (D : Def K mg "_law_slots" s_law_slots ["realm"]) (mb : ∀ x ∈ bltns, mg x = none) : Ok P w K mg base 1 "_law_slots" ["realm"] (spSlots T) := by
  refine D.ok sc_law_slots (fun vs H Q E h => ?_) (fun cdv f A outer s H vs Q E hr h => ?_)
  · obtain ⟨v, R, rfl, _⟩ := h
    rfl
  · obtain ⟨v, R, rfl, hv, hR, q⟩ := h
    refine ⟨_, (pss_cons (ps_set (i := 1) sc_law_slots.nd rfl (.inl rfl) (pe_lst (pa_cons (pe_tup (pa_cons pe_str (pa_cons pe_str pa_nil))) pa_nil)))
   (pss_cons (ps_for PassesOwn.never rfl (pi_seq K rfl (pe_slice (sl_U K rfl) (pe_ix (ix_U K rfl) (pv 0) pe_int (fun _ _ => rfl)) (po_some pe_int) po_none)) (pg_tupU (n := 2) K rfl rfl (pgs_cons (pg_name (i := 2) sc_law_slots.nd rfl (.inl rfl)) (pgs_cons (pg_name (i := 3) sc_law_slots.nd rfl (.inl rfl)) pgs_nil))) (pss_one (ps_set (i := 1) sc_law_slots.nd rfl (.inl rfl) (pe_op (op_plus K rfl) (pv 1) (pe_lst (pa_cons (pe_tup (pa_cons pe_str (pa_cons (pv 2) pa_nil))) (pa_cons (pe_tup (pa_cons pe_str (pa_cons (pv 2) pa_nil))) (pa_cons (pe_tup (pa_cons pe_str (pa_cons (pv 2) pa_nil))) pa_nil))))))))
   (pss_one (ps_ret (pe_op (op_plus K rfl) (pv 1) (pe_lc (own := [("name", 4), ("kind", 5)]) (tt := tYes) rfl sc_law_slots.nd (pi_seq K rfl (pe_ix (ix_U K rfl) (pv 0) pe_int (fun _ _ => rfl))) (blkOk_by (N := N_law_slots) (sc := defScope s_law_slots) (by decide +kernel)) (fun _ _ _ _ _ => (pg_tupU (n := 2) K rfl rfl (pgs_cons (pg_name (i := 4) sc_law_slots.nd rfl (Or.inl rfl)) (pgs_cons (pg_name (i := 5) sc_law_slots.nd rfl (Or.inl rfl)) pgs_nil)))) (fun _ _ _ _ _ => pts_nil) (fun _ _ _ _ _ => (pe_tup (pa_cons pe_str (pa_cons (pv 4) (pa_cons (pv 5) pa_nil))))))))))), ?_⟩
    refine rd_seq ?_
    walk_at "rdn_2"
    refine ⟨by show 2 ≤ sizeLine; decide, fun ta nta => ?_⟩
    walk_at "rdn_2"
    refine ⟨by show 1 ≤ sizeLine; decide, fun fp nfp => ?_⟩
    have hta : ta ≠ fp := fun e => by
      rw [← e, upd_same] at nfp
      cases nfp
    have e1 : Ext T [] H (upd (upd H ta (.tup [V.str (Str.ofString "keys"), .str (Str.ofString ".")])) fp (.lst [.ref ta])) := (Ext.new nta).newR nfp
    have hv1 := (hv.new (o := .tup [V.str (Str.ofString "keys"), .str (Str.ofString ".")]) nta).new (o := .lst [.ref ta]) nfp
    have hf1 : Ls (upd (upd H ta (.tup [V.str (Str.ofString "keys"), .str (Str.ofString ".")])) fp (.lst [.ref ta])) fp ([Sl.k dotS].map slD) :=
      ⟨_, upd_same, .cons (.new2 (.str _ kw_ok.1) (.str _ (name_ok dot_name)) ((upd_ne hta).trans upd_same)) .nil⟩
    show gName 1 _ _ (upd (upd H ta (.tup [V.str (Str.ofString "keys"), .str (Str.ofString ".")])) fp (.lst [.ref ta])) _
    generalize upd (upd H ta (.tup [V.str (Str.ofString "keys"), .str (Str.ofString ".")])) fp (.lst [.ref ta]) = H1 at e1 hv1 hf1 ⊢
    walk_at "rdn_2"
    obtain ⟨lag, rest, hz, _⟩ := hR.ne
    have hrl : rest.length ≤ 5 := by
      have := hR.len
      rw [hz, List.length_cons] at this
      omega
    refine rd_cut (fun σ H2 => Ext T [] H H2 ∧ Im H2 v (rmD R) ∧ ∃ (p : Addr) (a b : Option V), σ = [some v, some (.ref p), a, b, none, none] ∧ Ls H2 p ((Sl.k dotS :: R.zs.tail.flatMap fun z => [.k z.1, .l z.1, .h z.1]).map slD)) (fun nx' hnx => ?_) (fun σ H2 h => ?_)
    · walk_at "rd_2"
      refine rd_ixI (d := .tuple (R.zs.map siD)) hv1 rfl fun u hu => ?_
      obtain ⟨zp, xs, rfl, hzp, hzi⟩ := hu.tup'
      have hxl : xs.length = 1 + rest.length := by
        rw [hzi.len, List.length_map, hz, List.length_cons]
        omega
      walk_at "rd_2"
      refine rd_slT (SqP.sq hzp) (fun h => ?_) fun sp nsp => ?_
      · have h0 := h.1
        rw [show HT.sIx xs.length 0 (some 1) = min 1 xs.length from HT.sIx_nat xs.length 0 1] at h0
        omega
      rw [cutV_from (α := V) xs (by decide), show Int.toNat 1 = 1 from rfl]
      have e2 := e1.newR (o := .tup (xs.drop 1)) nsp
      have hv2 := hv1.new (o := .tup (xs.drop 1)) nsp
      have hf2 := hf1.new (o := .tup (xs.drop 1)) nsp
      have hi2 := (hzi.drop 1).new (o := .tup (xs.drop 1)) nsp
      have hs2 : SqP (upd H1 sp (.tup (xs.drop 1))) sp (xs.drop 1) := .inl upd_same
      have ed : R.zs.drop 1 = R.zs.tail := List.drop_one
      rw [← List.map_drop, ed] at hi2
      show ∃ a, _ ∧ ((_ ∧ ForG _ _ _ _ _ (upd H1 sp (.tup (xs.drop 1)))) ∨ (_ ∧ ForG _ _ _ _ _ (upd H1 sp (.tup (xs.drop 1)))))
      generalize upd H1 sp (.tup (xs.drop 1)) = H2 at e2 hv2 hf2 hi2 hs2 ⊢
      generalize xs.drop 1 = ys at hi2 hs2
      refine ⟨sp, rfl, .inr ⟨⟨_, SqP.sq hs2⟩, ?_⟩⟩
      refine forg_tup (xs := ys) (fun i σ H3 => Ext T [] H H3 ∧ Im H3 v (rmD R) ∧ SqP H3 sp ys ∧ ImAll H3 ys (R.zs.tail.map siD) ∧ ∃ (p : Addr) (a b : Option V), σ = [some v, some (.ref p), a, b, none, none] ∧ Ls H3 p ((Sl.k dotS :: (R.zs.tail.take i).flatMap fun z => [.k z.1, .l z.1, .h z.1]).map slD))
        ⟨e2, hv2, hs2, hi2, fp, none, none, rfl, hf2⟩ (fun i σ H3 _ h => SqP.sq h.2.2.1) (fun i x σ H3 hx h => ?_) (fun σ H3 h => ?_)
      · obtain ⟨e3, hv3, hs3, hi3, p, a, b, rfl, hp3⟩ := h
        obtain ⟨dz, hdz, hxz⟩ := hi3.get' hx
        rw [List.getElem?_map] at hdz
        obtain ⟨z, hzz, rfl⟩ := Option.map_eq_some_iff.mp hdz
        have hznm := hR.nm z (List.mem_of_mem_tail (List.mem_of_getElem? hzz))
        have hcl : ((Sl.k dotS :: (R.zs.tail.take i).flatMap fun z => [Sl.k z.1, .l z.1, .h z.1]).map slD).length ≤ 100 := by
          rw [List.length_map, List.length_cons, List.length_flatMap]
          have : ((R.zs.tail.take i).map fun z => ([Sl.k z.1, .l z.1, .h z.1] : List Sl).length).sum ≤ (R.zs.tail.take i).length * 3 := by
            have h := sum_le (B := 3) (l := (R.zs.tail.take i).map fun z => ([Sl.k z.1, .l z.1, .h z.1] : List Sl).length) fun x hx => by
              obtain ⟨y, _, rfl⟩ := List.mem_map.mp hx
              exact Nat.le_refl 3
            rw [List.length_map] at h
            exact h
          have h2 : (R.zs.tail.take i).length ≤ 6 := by
            rw [List.length_take, List.length_tail]
            have := hR.len
            omega
          omega
        refine rd_gpair (d1 := .str z.1) (d2 := .int z.2) hxz fun v1 v2 h1 h2 => ?_
        rw [h1.str', h2.int']
        walk_at "rd_2"
        refine ⟨by show 2 ≤ sizeLine; decide, fun t1 n1 => ?_⟩
        walk_at "rd_2"
        refine ⟨by show 2 ≤ sizeLine; decide, fun t2 n2 => ?_⟩
        walk_at "rd_2"
        refine ⟨by show 2 ≤ sizeLine; decide, fun t3 n3 => ?_⟩
        walk_at "rd_2"
        refine ⟨by show 3 ≤ sizeLine; decide, fun la nla => ?_⟩
        have i1 : Im (upd H3 t1 (.tup [V.str (Str.ofString "keys"), .str z.1])) (.ref t1) (slD (.k z.1)) := .new2 (.str _ kw_ok.1) (.str _ (name_ok hznm)) upd_same
        have x1 := e3.newR (o := .tup [V.str (Str.ofString "keys"), .str z.1]) n1
        have v1 := hv3.new (o := .tup [V.str (Str.ofString "keys"), .str z.1]) n1
        have p1 := hp3.new (o := .tup [V.str (Str.ofString "keys"), .str z.1]) n1
        have s1 := SqP.new (o := .tup [V.str (Str.ofString "keys"), .str z.1]) hs3 n1
        have a1 := hi3.new (o := .tup [V.str (Str.ofString "keys"), .str z.1]) n1
        generalize upd H3 t1 (.tup [V.str (Str.ofString "keys"), .str z.1]) = H4 at n2 n3 nla i1 x1 v1 p1 s1 a1 ⊢
        have i2 : Im (upd H4 t2 (.tup [V.str (Str.ofString "link"), .str z.1])) (.ref t2) (slD (.l z.1)) := .new2 (.str _ kw_ok.2.1) (.str _ (name_ok hznm)) upd_same
        have i1 := i1.new (o := .tup [V.str (Str.ofString "link"), .str z.1]) n2
        have x2 := x1.newR (o := .tup [V.str (Str.ofString "link"), .str z.1]) n2
        have v2 := v1.new (o := .tup [V.str (Str.ofString "link"), .str z.1]) n2
        have p2 := p1.new (o := .tup [V.str (Str.ofString "link"), .str z.1]) n2
        have s2 := SqP.new (o := .tup [V.str (Str.ofString "link"), .str z.1]) s1 n2
        have a2 := a1.new (o := .tup [V.str (Str.ofString "link"), .str z.1]) n2
        generalize upd H4 t2 (.tup [V.str (Str.ofString "link"), .str z.1]) = H5 at n3 nla i1 i2 x2 v2 p2 s2 a2 ⊢
        have i3 : Im (upd H5 t3 (.tup [V.str (Str.ofString "hosts"), .str z.1])) (.ref t3) (slD (.h z.1)) := .new2 (.str _ kw_ok.2.2.1) (.str _ (name_ok hznm)) upd_same
        have i1 := i1.new (o := .tup [V.str (Str.ofString "hosts"), .str z.1]) n3
        have i2 := i2.new (o := .tup [V.str (Str.ofString "hosts"), .str z.1]) n3
        have x3 := x2.newR (o := .tup [V.str (Str.ofString "hosts"), .str z.1]) n3
        have v3 := v2.new (o := .tup [V.str (Str.ofString "hosts"), .str z.1]) n3
        have p3 := p2.new (o := .tup [V.str (Str.ofString "hosts"), .str z.1]) n3
        have s3 := SqP.new (o := .tup [V.str (Str.ofString "hosts"), .str z.1]) s2 n3
        have a3 := a2.new (o := .tup [V.str (Str.ofString "hosts"), .str z.1]) n3
        generalize upd H5 t3 (.tup [V.str (Str.ofString "hosts"), .str z.1]) = H6 at nla i1 i2 i3 x3 v3 p3 s3 a3 ⊢
        have l4 : Ls (upd H6 la (.lst [.ref t1, .ref t2, .ref t3])) la ([Sl.k z.1, .l z.1, .h z.1].map slD) := ⟨_, upd_same, .cons (i1.new nla) (.cons (i2.new nla) (.cons (i3.new nla) .nil))⟩
        have x4 := x3.newR (o := .lst [V.ref t1, .ref t2, .ref t3]) nla
        have v4 := v3.new (o := .lst [V.ref t1, .ref t2, .ref t3]) nla
        have p4 := p3.new (o := .lst [V.ref t1, .ref t2, .ref t3]) nla
        have s4 := SqP.new (o := .lst [V.ref t1, .ref t2, .ref t3]) s3 nla
        have a4 := a3.new (o := .lst [V.ref t1, .ref t2, .ref t3]) nla
        show rPlus _ _ _ (upd H6 la (.lst [.ref t1, .ref t2, .ref t3])) _
        generalize upd H6 la (.lst [.ref t1, .ref t2, .ref t3]) = H7 at l4 x4 v4 p4 s4 a4 ⊢
        obtain ⟨px, hpx, hpi⟩ := p4.list
        obtain ⟨lx, hlx, hli⟩ := l4.list
        have hl3 : lx.length = 3 := hli.len
        refine rd_cat hpx hlx (Nat.le_trans (show _ ≤ 200 by rw [hpi.len]; omega) (by decide)) fun p' np' => ?_
        refine rd_name ⟨x4.newR np', v4.new np', SqP.new s4 np', a4.new np', p', _, _, rfl, px ++ lx, upd_same, ?_⟩
        rw [List.take_add_one, hzz, List.flatMap_append, ← List.cons_append, List.map_append]
        exact (hpi.new np').app (hli.new np')
      · obtain ⟨e3, hv3, hs3, hi3, p, a, b, rfl, hp3⟩ := h
        rw [show ys.length = R.zs.tail.length by rw [hi3.len, List.length_map], List.take_length] at hp3
        exact hnx _ _ ⟨e3, hv3, p, a, b, rfl, hp3⟩
    · obtain ⟨e2, hv2, p, a, b, rfl, hp2⟩ := h
      walk_at "rd_2"
      refine rd_ixI (d := .tuple (R.ss.map ssD)) hv2 rfl fun u hu => ?_
      obtain ⟨sp, xs, rfl, hsp, hsi⟩ := hu.tup'
      refine ⟨sp, rfl, .inr ⟨⟨_, SqP.sq hsp⟩, ?_⟩⟩
      have hxl : xs.length ≤ 7 := by
        rw [hsi.len, List.length_map]
        exact hR.slen
      refine lcg_im T [] walk_tup xs rfl (fun i H x H' y => y) (fun _ => True) trivial (fun _ _ _ => trivial) (fun _ _ _ _ _ _ _ => trivial) (fun _ _ => Lsts.nil) (fun H' e _ => e.seqT (by simp) (SqP.sq hsp)) (Nat.lt_of_le_of_lt hxl (by decide)) (fun _ => true) (fun d x => ∃ r : Str × Str, Im H2 x (ssD r) ∧ d = slD (.s r.1 r.2)) (fun i x hx H' e' _ R' S h1 h2 => ?_) (fun D H3 ds nD e3 _ hD hds => ?_)
      · obtain ⟨dr, hdr, hxr⟩ := hsi.get' hx
        rw [List.getElem?_map] at hdr
        obtain ⟨r, hr, rfl⟩ := Option.map_eq_some_iff.mp hdr
        have hro := hR.sok r (List.mem_of_getElem? hr)
        refine rd_gpair (d1 := .str r.1) (d2 := .str r.2) (Im.ext e' Lsts.nil _ _ hxr) fun v1 v2 g1 g2 => ?_
        rw [g1.str', g2.str']
        refine ⟨rfl, ?_⟩
        walk_at "rd_2"
        refine ⟨by show 3 ≤ sizeLine; decide, fun tt nt => ?_⟩
        exact h1 rfl _ _ _ (.new nt) trivial (.new3 (.str _ kw_ok.2.2.2) (.str _ (name_ok hro.1)) (.str _ (id_ok hro.2)) upd_same) ⟨r, hxr, rfl⟩
      · rw [filtT] at hds
        have hd : ds = (R.ss.map fun p => Sl.s p.1 p.2).map slD := by
          have key : ∀ {ds : List PyData} {xs : List V} {rs : List (Str × Str)}, ImAll H2 xs (rs.map ssD) → PySem.W.EachIs (fun d x => ∃ r : Str × Str, Im H2 x (ssD r) ∧ d = slD (.s r.1 r.2)) ds xs → ds = (rs.map fun p => Sl.s p.1 p.2).map slD := by
            intro ds xs rs
            induction rs generalizing ds xs with
            | nil =>
              intro h1 h2
              cases h1
              cases h2
              rfl
            | cons r rs ih =>
              intro h1 h2
              cases h1 with
              | cons a b =>
                cases h2 with
                | cons c d =>
                  obtain ⟨r', c1, c2⟩ := c
                  have e := ssD_inj (Im.inj _ _ _ a c1)
                  rw [ih b d, c2, ← e]
                  rfl
          exact key hsi hds
        rw [hd] at hD
        have hp3 := hp2.ext e3 (by simp) Lsts.nil
        obtain ⟨px, hpx, hpi⟩ := hp3.list
        obtain ⟨dx, hdx, hdi⟩ := hD.list
        refine rd_cat hpx hdx ?_ fun p' np' => ?_
        · rw [hpi.len, hdi.len, List.length_map, List.length_map, List.length_map, List.length_cons, List.length_flatMap]
          have : ((R.zs.tail).map fun z => ([Sl.k z.1, .l z.1, .h z.1] : List Sl).length).sum ≤ (R.zs.tail).length * 3 := by
            have h := sum_le (B := 3) (l := (R.zs.tail).map fun z => ([Sl.k z.1, .l z.1, .h z.1] : List Sl).length) fun x hx => by
              obtain ⟨y, _, rfl⟩ := List.mem_map.mp hx
              exact Nat.le_refl 3
            rw [List.length_map] at h
            exact h
          have h2 : (R.zs.tail).length ≤ 6 := by
            rw [List.length_tail]
            have := hR.len
            omega
          have := hR.slen
          exact Nat.le_trans (show _ ≤ 200 by omega) (by decide)
        · refine q p' _ ((e2.trans e3).back (by simp) (.of np')) ((e2.trans e3).newR np') ⟨px ++ dx, upd_same, ?_⟩
          unfold slotsR
          rw [List.map_append]
          exact (hpi.new np').app (hdi.new np')
theorem ok_law_home (D : Def K mg "_law_home" s_law_home ["realm", "slot"]) (G_law_chain : Ok P w K mg base 1 "_law_chain" ["realm", "name"] (spChainL T)) : Ok P w K mg base 2 "_law_home" ["realm", "slot"] (spHome T) := by
  refine D.ok sc_law_home (fun vs H Q E h => ?_) (fun cdv f A outer s H vs Q E hr h => ?_)
  · obtain ⟨v, u, R, s, rfl, _⟩ := h
    rfl
  · obtain ⟨v, u, R, sl, rfl, hv, hu, hR, hs, q⟩ := h
    refine ⟨_, (pss_cons (ps_if (pt_cmpR (op_eqU K rfl hr.units) (pe_ix (ix_U K rfl) (pv 1) pe_int (fun _ _ => rfl)) pe_str (nomark _)) (pss_one (ps_ret (pe_ix (ix_U K rfl) (pv 1) pe_int (fun _ _ => rfl)))) pss_nil)
   (pss_cons (ps_set (i := 2) sc_law_home.nd rfl (.inl rfl) (pe_callO G_law_chain (hr.mono (by decide)) (by rfl) (pa_cons (pv 0) (pa_cons (pe_ix (ix_U K rfl) (pv 1) pe_int (fun _ _ => rfl)) pa_nil))))
   (pss_one (ps_ret (pe_ifExp (pt_cmpR (op_eqU K rfl hr.units) (pe_ix (ix_U K rfl) (pv 1) pe_int (fun _ _ => rfl)) pe_str (nomark _)) (pe_ix (ix_U K rfl) (pv 2) (pe_un un_neg pe_int) (fun _ _ => rfl)) (pe_ix (ix_U K rfl) (pv 2) (pe_un un_neg pe_int) (fun _ _ => rfl))))))), ?_⟩
    refine rd_seq ?_
    have hz0 : ∀ z ∈ R.zs.map (·.1), nameB z = true := fun z hz => by
      obtain ⟨y, hy, rfl⟩ := List.mem_map.mp hz
      exact hR.nm y hy
    have hdotm : dotS ∈ R.zs.map (·.1) := by
      obtain ⟨lag, rest, e, _⟩ := hR.ne
      rw [e]
      simp
    have hchm : ∀ n z, z ∈ chL R n → z ∈ R.zs.map (·.1) := fun n z h => by
      rcases chL_mem.mp h with h | ⟨y, hy, _, h⟩
      · rw [h]
        exact hdotm
      · rw [← h]
        exact List.mem_map_of_mem hy
    have hlast : ∀ n, ∃ z, (chL R n).getLast? = some z ∧ z ∈ chL R n := fun n => last_some fun e => by
      have := chL_len R n
      rw [e] at this
      simp only [List.length_nil] at this
      omega
    have hlast2 : ∀ y ∈ R.zs.tail, ∃ z, (chL R y.1).dropLast.getLast? = some z ∧ z ∈ chL R y.1 := fun y hy => by
      have hy2 : y ∈ R.zs.filter (onZ y.1) := List.mem_filter.mpr ⟨List.mem_of_mem_tail hy, by
        obtain ⟨lag, rest, e, h⟩ := hR.ne
        rw [e] at hy
        unfold onZ
        rw [decide_eq_false (h y hy), ends_self]
        rfl⟩
      have := List.length_pos_of_mem hy2
      have h2 := chL_len R y.1
      obtain ⟨z, h3, h4⟩ := last_some (l := (chL R y.1).dropLast) fun e => by
        have h5 := congrArg List.length e
        rw [List.length_dropLast] at h5
        simp only [List.length_nil] at h5
        omega
      exact ⟨z, h3, List.dropLast_subset _ h4⟩
    have hnk : ∀ x ∈ R.zs.tail, nameB x.1 = true := fun x hx => hR.nm x (List.mem_of_mem_tail hx)
    have hcase : (∃ z ∈ R.zs.map (·.1), sl = .k z) ∨ (∃ y ∈ R.zs.tail, sl = .l y.1 ∨ sl = .h y.1) ∨ ∃ p ∈ R.ss, sl = .s p.1 p.2 := by
      unfold slotsR at hs
      rcases List.mem_append.mp hs with hs | hs
      · rcases List.mem_cons.mp hs with hs | hs
        · exact .inl ⟨dotS, hdotm, hs⟩
        · obtain ⟨y, hy, h⟩ := List.mem_flatMap.mp hs
          simp only [List.mem_cons, List.not_mem_nil, or_false] at h
          rcases h with h | h | h
          · exact .inl ⟨y.1, List.mem_map_of_mem (List.mem_of_mem_tail hy), h⟩
          · exact .inr (.inl ⟨y, hy, .inl h⟩)
          · exact .inr (.inl ⟨y, hy, .inr h⟩)
      · obtain ⟨p, hp, h⟩ := List.mem_map.mp hs
        exact .inr (.inr ⟨p, hp, h.symm⟩)
    rcases hcase with ⟨z, hz, rfl⟩ | ⟨y, hy, hsl⟩ | ⟨p, hp, rfl⟩
    · have hu : Im H u (.tuple [.str (Str.ofString "keys"), .str z]) := hu
      walk_at "rdn_2"
      refine rd_ixSs hu rfl ?_
      walk_at "rdn_2"
      refine rd_ite (fun _ => ?_) (fun h => absurd rfl h)
      walk_at "rdn_2"
      refine rd_ixSs hu rfl ?_
      exact q H .refl hz
    · obtain ⟨kw, hk1, hk2, hu, hq⟩ : ∃ kw : Str, ¬ kw = Str.ofString "keys" ∧ ¬ kw = Str.ofString "set" ∧ Im H u (.tuple [.str kw, .str y.1]) ∧ homeR R sl = (chL R y.1).dropLast.getLast?.getD dotS := by
        rcases hsl with rfl | rfl
        · exact ⟨"link", by decide +kernel, by decide +kernel, hu, rfl⟩
        · exact ⟨"hosts", by decide +kernel, by decide +kernel, hu, rfl⟩
      rw [hq] at q
      obtain ⟨z, hz1, hz2⟩ := hlast2 y hy
      rw [hz1] at q
      walk_at "rdn_2"
      refine rd_ixSs hu rfl ?_
      walk_at "rdn_2"
      refine rd_ite (fun h => absurd h hk1) (fun _ => ?_)
      walk_at "rd_2"
      refine rd_ixSs hu rfl ?_
      walk_at "rd_2"
      refine ⟨v, R, y.1, rfl, hv, hR, hnk y hy, fun cp H1 np e1 hcp => ?_⟩
      walk_at "rd_2"
      refine rd_ixSs (Im.ext e1 Lsts.nil _ _ hu) rfl ?_
      walk_at "rd_2"
      refine rd_ite (fun h => absurd h hk2) (fun _ => ?_)
      walk_at "rd_2"
      refine rd_ixL (v := .str z) (SqL.of hcp) (at_last2 (by rw [← List.map_dropLast, List.getLast?_map, hz1]; rfl)) ?_
      exact q H1 e1 (hchm _ _ hz2)
    · have hu : Im H u (.tuple [.str (Str.ofString "set"), .str p.1, .str p.2]) := hu
      obtain ⟨z, hz1, hz2⟩ := hlast p.1
      have hq : homeR R (.s p.1 p.2) = (chL R p.1).getLast?.getD dotS := rfl
      rw [hq, hz1] at q
      walk_at "rdn_2"
      refine rd_ixSs hu rfl ?_
      walk_at "rdn_2"
      refine rd_ite (fun h => absurd h (by decide +kernel)) (fun _ => ?_)
      walk_at "rd_2"
      refine rd_ixSs hu rfl ?_
      walk_at "rd_2"
      refine ⟨v, R, p.1, rfl, hv, hR, (hR.sok p hp).1, fun cp H1 np e1 hcp => ?_⟩
      walk_at "rd_2"
      refine rd_ixSs (Im.ext e1 Lsts.nil _ _ hu) rfl ?_
      walk_at "rd_2"
      refine rd_ite (fun _ => ?_) (fun h => absurd rfl h)
      walk_at "rd_2"
      refine rd_ixL (v := .str z) (SqL.of hcp) (at_last (by rw [List.getLast?_map, hz1]; rfl)) ?_
      exact q H1 e1 (hchm _ _ hz2)
end
section
variable {T : List (Addr × Str)} {P : Program} {w : World} {K : PySem.W.Frag} {mg : Str → Option Value} {base : Heap}
theorem ok_law_item (D : Def K mg "_law_item" s_law_item ["content", "life", "signers"]) (mb : ∀ x ∈ bltns, mg x = none) : Ok P w K mg base 1 "_law_item" ["content", "life", "signers"] (spItem T) := by
  refine D.ok sc_law_item (fun vs H Q E h => ?_) (fun cdv f A outer s H vs Q E hr h => ?_)
  · obtain ⟨ca, sa, cs, gs, li, rfl, _⟩ := h
    rfl
  · obtain ⟨ca, sa, cs, gs, li, rfl, hc, hg, hco, hgo, q⟩ := h
    refine ⟨_, (pss_one (ps_ret (pe_tup (pa_cons (pe_callTy (call_tupU K rfl) (by rfl) (mb _ (by decide)) (by decide +kernel) (pa_cons (pe_callB (call_sortedU K rfl hr.units) (by rfl) (mb _ (by decide)) (by decide +kernel) (pa_cons (pv 0) pa_nil)) pa_nil)) (pa_cons (pv 1) (pa_cons (pe_callTy (call_tupU K rfl) (by rfl) (mb _ (by decide)) (by decide +kernel) (pa_cons (pe_callB (call_sortedU K rfl hr.units) (by rfl) (mb _ (by decide)) (by decide +kernel) (pa_cons (pv 2) pa_nil)) pa_nil)) (pa_cons pe_int (pa_cons pe_int pa_nil)))))))), ?_⟩
    walk_at "rd_2"
    refine rd_sortI (ds := cs.map .str) ⟨_, hc, ImAll.strs fun z hz => id_ok (hco z hz)⟩ (alike_s cs) (sortable_s cs) (depth_s cs) fun s1 ys n1 hys => ?_
    rw [srtS_eq] at hys
    have e1 : Ext T [] H (upd H s1 (.lst ys)) := .new n1
    have hg1 := (upd_ne (o := .lst ys) ((Nw.of n1).lst hg)).trans hg
    have hy1 := hys.new (o := .lst ys) n1
    have hs1 : (upd H s1 (.lst ys)) s1 = some (.lst ys) := upd_same
    show tNil _ (upd H s1 (.lst ys)) _
    generalize upd H s1 (.lst ys) = H1 at e1 hg1 hy1 hs1 ⊢
    walk_at "rd_2"
    refine rd_tupL (SqL.of hs1) fun t1 nt1 => ?_
    have e2 := e1.newR (o := .tup ys) nt1
    have hg2 := (upd_ne (o := .tup ys) ((Nw.of nt1).lst hg1)).trans hg1
    have hc2 : Im (upd H1 t1 (.tup ys)) (.ref t1) (.tuple ((srtS cs).map .str)) := .tup upd_same (hy1.new nt1)
    show tCons _ _ _ (upd H1 t1 (.tup ys)) _
    generalize upd H1 t1 (.tup ys) = H2 at e2 hg2 hc2 ⊢
    walk_at "rd_2"
    refine rd_sortI (ds := gs.map .str) ⟨_, hg2, ImAll.strs fun z hz => id_ok (hgo z hz)⟩ (alike_s gs) (sortable_s gs) (depth_s gs) fun s3 zs n3 hzs => ?_
    rw [srtS_eq] at hzs
    have e3 := e2.newR (o := .lst zs) n3
    have hc3 := hc2.new (o := .lst zs) n3
    have hz3 := hzs.new (o := .lst zs) n3
    have hs3 : (upd H2 s3 (.lst zs)) s3 = some (.lst zs) := upd_same
    show tNil _ (upd H2 s3 (.lst zs)) _
    generalize upd H2 s3 (.lst zs) = H3 at e3 hc3 hz3 hs3 ⊢
    walk_at "rd_2"
    refine rd_tupL (SqL.of hs3) fun t4 nt4 => ?_
    have e4 := e3.newR (o := .tup zs) nt4
    have hc4 := hc3.new (o := .tup zs) nt4
    have hg4 : Im (upd H3 t4 (.tup zs)) (.ref t4) (.tuple ((srtS gs).map .str)) := .tup upd_same (hz3.new nt4)
    show tCons _ _ _ (upd H3 t4 (.tup zs)) _
    generalize upd H3 t4 (.tup zs) = H4 at e4 hc4 hg4 ⊢
    walk_at "rd_2"
    refine ⟨by show 5 ≤ sizeLine; decide, fun r nr => ?_⟩
    exact q _ _ (e4.newR nr) (.tup upd_same (.cons (hc4.new nr) (.cons (.int _) (.cons (hg4.new nr) (.cons (.int _) (.cons (.int _) .nil))))))
theorem ok_law_pool (D : Def K mg "_law_pool" s_law_pool ["pools", "zone"]) (mb : ∀ x ∈ bltns, mg x = none) : Ok P w K mg base 1 "_law_pool" ["pools", "zone"] (spPool T) := by
  refine D.ok sc_law_pool (fun vs H Q E h => ?_) (fun cdv f A outer s H vs Q E hr h => ?_)
  · obtain ⟨t, a, ps, z, ks, rfl, _⟩ := h
    rfl
  · obtain ⟨t, a, ps, z, ks, rfl, hP, hpl, hnd, hm, q⟩ := h
    obtain ⟨xs, ha, hat, hrows⟩ := hP
    refine ⟨_, (pss_one (ps_ret (pe_ix (ix_U K rfl) (pe_lc (own := [("name", 2), ("pool", 3)]) rfl sc_law_pool.nd (pi_seq K rfl (pv 0)) (blkOk_by (N := N_law_pool) (sc := defScope s_law_pool) (by decide +kernel)) (fun _ _ _ _ _ => (pg_tupU (n := 2) K rfl rfl (pgs_cons (pg_name (i := 2) sc_law_pool.nd rfl (Or.inl rfl)) (pgs_cons (pg_name (i := 3) sc_law_pool.nd rfl (Or.inl rfl)) pgs_nil)))) (fun _ _ _ _ _ => (pts_one (pt_cmpR (op_eqU K rfl hr.units) (pv 2) (pv 1) (nomark _)))) (fun _ _ _ _ _ => (pv 3))) pe_int (fun _ _ => rfl)))), ?_⟩
    walk_at "rd_2"
    have hxl : xs.length ≤ 6 := by
      rw [hrows.length]
      exact hpl
    refine lcg_rel T [] walk_list xs rfl (fun i H x H' y => y) (by simp) (fun H' e => e.seqL (by simp) (SqL.of ha)) (Nat.lt_of_le_of_lt hxl (by decide)) (fun x => match x with | .ref b => (match H b with | some (.tup [.str u, _]) => decide (u = z) | _ => false) | _ => false) (fun v x => ∃ r ta pa, x = .ref ta ∧ v = .ref pa ∧ H ta = some (.tup [.str r, .ref pa]) ∧ pa ≠ t) (fun i x hx H' e' R S h1 h2 => ?_) (fun D H1 us nD e1 hD hus => ?_)
    · obtain ⟨r, _, ta, pa, rfl, hta, hpa, hpt⟩ : ∃ r ∈ ps, PoolRow H [t] x r := hrows.left x (List.mem_of_getElem? hx)
      have hta' := e'.tup (by simp) hta
      refine rd_gtup (SqT.of hta') rfl ?_
      walk_at "rd_2"
      refine ⟨rfl, ?_⟩
      walk_at "rd_2"
      refine rd_ite (fun hz => ?_) (fun hz => ?_)
      · walk_at "rd_2"
        exact h1 (by simp only [hta]; exact decide_eq_true hz) _ _ .refl ⟨r.1, ta, pa, rfl, rfl, hta, by simpa using hpt⟩
      · exact h2 (by simp only [hta]; exact decide_eq_false hz) _ .refl
    · have key : ∀ {xs : List V} {ps : List (Str × List Str)}, PySem.W.EachIs (PoolRow H [t]) xs ps → PySem.W.EachIs (PoolRow H [t]) (xs.filter fun x => match x with | .ref b => (match H b with | some (.tup [.str u, _]) => decide (u = z) | _ => false) | _ => false) (ps.filter fun p => decide (p.1 = z)) := by
        intro xs ps h
        induction h with
        | nil => exact .nil
        | cons a b ih =>
          obtain ⟨ta, pa, rfl, hta, hpa, hpt⟩ := a
          rename_i r _ _
          by_cases hz : r.1 = z
          · rw [List.filter_cons_of_pos (by simp only [hta]; exact decide_eq_true hz), List.filter_cons_of_pos (by exact decide_eq_true hz)]
            exact .cons ⟨ta, pa, rfl, hta, hpa, hpt⟩ ih
          · rw [List.filter_cons_of_neg (by simp only [hta]; simp [hz]), List.filter_cons_of_neg (by simp [hz])]
            exact ih
      have h3 := key hrows
      rw [filter_key hnd hm] at h3
      generalize xs.filter _ = fx at h3 hus
      cases h3 with
      | cons a b =>
        cases b
        cases hus with
        | cons c d =>
          cases d
          obtain ⟨ta, pa, e1', hta, hpa, hpt⟩ := a
          obtain ⟨r, ta', pa', e2', rfl, hta2, hpt2⟩ := c
          rw [e1'] at e2'
          injection e2' with e2'
          subst e2'
          rw [hta] at hta2
          injection hta2 with hta2
          injection hta2 with hta2
          injection hta2 with _ hta2
          injection hta2 with hta2 _
          injection hta2 with hta2
          subst hta2
          walk_at "rd_2"
          exact q pa H1 hpt2 hpa e1
end
section
variable {T : List (Addr × Str)} {P : Program} {w : World} {K : PySem.W.Frag} {mg : Str → Option Value} {base : Heap}
theorem at_zero {α : Type} (x : α) (l : List α) : atI (x :: l) 0 = some x := atI_nat (j := 0) rfl
theorem ok_law_pools (D : Def K mg "_law_pools" s_law_pools ["tape", "realm"]) (mb : ∀ x ∈ bltns, mg x = none) (G_law_ids : Ok P w K mg base 4 "_law_ids" ["tape", "many"] (spIds T)) : Ok P w K mg base 5 "_law_pools" ["tape", "realm"] (spPools T) := by
  refine D.ok sc_law_pools (fun vs H Q E h => ?_) (fun cdv f A outer s H vs Q E hr h => ?_)
  · obtain ⟨l, t, v, R, rfl, _⟩ := h
    rfl
  · obtain ⟨l, t, v, R, rfl, hT, hv, hR, q⟩ := h
    refine ⟨_, (pss_cons (ps_set (i := 2) sc_law_pools.nd rfl (.inl rfl) (pe_lst pa_nil))
   (pss_cons (ps_for PassesOwn.never rfl (pi_seq K rfl (pe_ix (ix_U K rfl) (pv 1) pe_int (fun _ _ => rfl))) (pg_tupU (n := 2) K rfl rfl (pgs_cons (pg_name (i := 3) sc_law_pools.nd rfl (.inl rfl)) (pgs_cons (pg_name (i := 4) sc_law_pools.nd rfl (.inl rfl)) pgs_nil))) (pss_cons (ps_set (i := 5) sc_law_pools.nd rfl (.inl rfl) (pe_callO G_law_ids (hr.mono (by decide)) (by rfl) (pa_cons (pv 0) (pa_cons pe_int pa_nil))))
   (pss_cons (ps_if (pt_cmpR (op_eqU K rfl hr.units) (pv 3) pe_str (nomark _)) (pss_one (ps_set (i := 5) sc_law_pools.nd rfl (.inl rfl) (pe_op (op_plus K rfl) (pe_lst (pa_cons (pe_ix (ix_U K rfl) (pe_ix (ix_U K rfl) (pv 1) pe_int (fun _ _ => rfl)) pe_int (fun _ _ => rfl)) pa_nil)) (pe_slice (sl_U K rfl) (pe_lc (own := [("key", 6)]) (g := gName 6) rfl sc_law_pools.nd (pi_seq K rfl (pv 5)) (blkOk_by (N := N_law_pools) (sc := defScope s_law_pools) (by decide +kernel)) (fun _ _ _ _ _ => (pg_name (i := 6) sc_law_pools.nd rfl (Or.inl rfl))) (fun _ _ _ _ _ => (pts_one (pt_cmpR (op_neU K rfl hr.units) (pv 6) (pe_ix (ix_U K rfl) (pe_ix (ix_U K rfl) (pv 1) pe_int (fun _ _ => rfl)) pe_int (fun _ _ => rfl)) (nomark _)))) (fun _ _ _ _ _ => (pv 6))) po_none (po_some pe_int))))) pss_nil)
   (pss_one (ps_expr (pe_bm PySem.F.plainAttrs_list PySem.F.slot_list_append PySem.F.type_list_append mt_append (pv 2) (pa_cons (pe_tup (pa_cons (pv 3) (pa_cons (pv 5) pa_nil))) pa_nil)))))))
   (pss_one (ps_ret (pv 2))))), ?_⟩
    refine rd_seq ?_
    walk_at "rdn_2"
    refine ⟨by show 0 ≤ sizeLine; decide, fun pp npp => ?_⟩
    have hpn : Nw H pp := .of npp
    obtain ⟨hpt, hpl⟩ := hT.ne hpn
    have e1 : Ext T [t] H (upd H pp (.lst [])) := .new npp
    have T1 := hT.upd (o := .lst []) npp
    have hv1 := hv.new (o := .lst []) npp
    have hp1 : (upd H pp (.lst [])) pp = some (.lst []) := upd_same
    generalize upd H pp (.lst []) = H1 at e1 T1 hv1 hp1 ⊢
    walk_at "rdn_2"
    obtain ⟨anc, anr, han, haid⟩ := hR.an
    refine rd_cut (fun σ H2 => Ext T [t] H H2 ∧ Tape l H2 t ∧ ∃ (xs : List V) (ps : List (Str × List Str)) (a b c d : Option V), σ = [some (.ref t), some v, some (.ref pp), a, b, c, d] ∧ H2 pp = some (.lst xs) ∧ PySem.W.EachIs (PoolRow H2 [t, pp]) xs ps ∧ PsOk R ps) (fun nx' hnx => ?_) (fun σ H2 h => ?_)
    · walk_at "rd_2"
      refine rd_ixI (d := .tuple (R.zs.map siD)) hv1 rfl fun u hu => ?_
      obtain ⟨zp, zx, rfl, hzp, hzi⟩ := hu.tup'
      refine ⟨zp, rfl, .inr ⟨⟨_, SqP.sq hzp⟩, ?_⟩⟩
      refine forg_tup (xs := zx) (fun i σ H2 => Ext T [t] H H2 ∧ Tape l H2 t ∧ Im H2 v (rmD R) ∧ SqP H2 zp zx ∧ ImAll H2 zx (R.zs.map siD) ∧ ∃ (xs : List V) (ps : List (Str × List Str)) (a b c d : Option V), σ = [some (.ref t), some v, some (.ref pp), a, b, c, d] ∧ H2 pp = some (.lst xs) ∧ PySem.W.EachIs (PoolRow H2 [t, pp]) xs ps ∧ ps.map (·.1) = (R.zs.take i).map (·.1) ∧ (∀ p ∈ ps, p.2.Nodup) ∧ (∀ p ∈ ps, ∀ y ∈ p.2, idB y = true) ∧ ∀ p ∈ ps, p.2.length = 3)
        ⟨e1, T1, hv1, hzp, hzi, [], [], none, none, none, none, rfl, hp1, .nil, rfl, by simp, by simp, by simp⟩ (fun i σ H2 _ h => SqP.sq h.2.2.2.1) (fun i x σ H2 hx h => ?_) (fun σ H2 h => ?_)
      · obtain ⟨e2, T2, hv2, hzp2, hzi2, xs, ps, a, b, c, d, rfl, hp2, hrows, hnm, hnd, hok, hl3⟩ := h
        obtain ⟨dz, hdz, hxz⟩ := hzi2.get' hx
        rw [List.getElem?_map] at hdz
        obtain ⟨z, hz, rfl⟩ := Option.map_eq_some_iff.mp hdz
        have hznm := hR.nm z (List.mem_of_getElem? hz)
        have hpsl : ps.length ≤ 6 := by
          have := congrArg List.length hnm
          rw [List.length_map, List.length_map, List.length_take] at this
          have := hR.len
          omega
        refine rd_gpair (d1 := .str z.1) (d2 := .int z.2) hxz fun v1 v2 h1 h2 => ?_
        rw [h1.str', h2.int']
        refine rd_seq ?_
        walk_at "rdn_2"
        refine ⟨l, t, 3, rfl, by decide, by decide, T2, fun ip ids H3 nip hil hin hid hip e3 T3 => ?_⟩
        have hipt : ip ≠ t := (T2.ne nip).1
        have hipp : ip ≠ pp := fun e => nip.lst (e ▸ hp2) rfl
        have hv3 := Im.ext e3 T2.lsts _ _ hv2
        have hzp3 := hzp2.ext e3 T2.lsts
        have hzi3 := ImAll.ext e3 T2.lsts _ _ hzi2
        have hp3 := e3.lst (by simpa using hpt) hp2
        have hrows3 := rows_ext hrows e3 (by simp) T2.lsts
        have e03 := e2.trans e3
        clear e2 T2 hv2 hzp2 hzi2 hp2 hrows hxz h1 h2
        walk_at "rdn_2"
        refine rd_cut (fun σ H4 => Ext T [t] H H4 ∧ Tape l H4 t ∧ Im H4 v (rmD R) ∧ SqP H4 zp zx ∧ ImAll H4 zx (R.zs.map siD) ∧ H4 pp = some (.lst xs) ∧ PySem.W.EachIs (PoolRow H4 [t, pp]) xs ps ∧ ∃ (ka : Addr) (ks : List Str) (d : Option V), σ = [some (.ref t), some v, some (.ref pp), some (.str z.1), some (.int z.2), some (.ref ka), d] ∧ H4 ka = some (.lst (ks.map V.str)) ∧ ka ≠ t ∧ ka ≠ pp ∧ ks.Nodup ∧ (∀ y ∈ ks, idB y = true) ∧ ks.length = 3) (fun nx2 hnx2 => ?_) (fun σ H4 h => ?_)
        · walk_at "rd_2"
          refine rd_ite (fun hdot => ?_) (fun hdot => ?_)
          · walk_at "rd_2"
            refine rd_ixI (d := .tuple (R.an.map .str)) hv3 rfl fun u1 hu1 => ?_
            walk_at "rd_2"
            refine rd_ixSs (z := anc) hu1 (by rw [han]; exact at_zero _ _) ?_
            walk_at "rd_2"
            refine ⟨by show 1 ≤ sizeLine; decide, fun la nla => ?_⟩
            have hlp : pp ≠ la := (Nw.of nla).lst hp3
            have hli : ip ≠ la := (Nw.of nla).lst hip
            have hlt := (T3.ne (.of nla)).1
            have e4 := e03.newR (o := .lst [V.str anc]) nla
            have T4 := T3.upd (o := .lst [V.str anc]) nla
            have hv4 := hv3.new (o := .lst [V.str anc]) nla
            have hzp4 := SqP.new (o := .lst [V.str anc]) hzp3 nla
            have hzi4 := hzi3.new (o := .lst [V.str anc]) nla
            have hp4 := (upd_ne (o := .lst [V.str anc]) hlp).trans hp3
            have hip4 := (upd_ne (o := .lst [V.str anc]) hli).trans hip
            have hrows4 := rows_ext hrows3 (Ext.new (T := T) (ms := []) (o := .lst [V.str anc]) nla) (by simp) Lsts.nil
            have hla4 : (upd H3 la (.lst [V.str anc])) la = some (.lst [V.str anc]) := upd_same
            show tSl _ _ _ _ _ (upd H3 la (.lst [V.str anc])) _
            generalize upd H3 la (.lst [V.str anc]) = H4 at e4 T4 hv4 hzp4 hzi4 hp4 hip4 hrows4 hla4 ⊢
            walk_at "rd_2"
            have hids3 : ids.length = 3 := by omega
            refine lcg_list T [] (SqL.of hip4) (fun v => match v with | .str k => !decide (k = anc) | _ => false) id (by rw [List.length_map, hids3]; decide) (by simp) (by simp) (fun x hx H5 e5 R' S h1 h2 => ?_) (fun D H5 nD e5 hD => ?_)
            · obtain ⟨k, hk, rfl⟩ := List.mem_map.mp hx
              walk_at "rd_2"
              refine rd_ixI (d := .tuple (R.an.map .str)) (Im.ext e5 Lsts.nil _ _ hv4) rfl fun u1 hu1 => ?_
              walk_at "rd_2"
              refine rd_ixSs (z := anc) hu1 (by rw [han]; exact at_zero _ _) ?_
              walk_at "rd_2"
              refine rd_itn (fun hk => ?_) (fun hk => ?_)
              · exact h2 (by show (!decide (k = anc)) = false; rw [decide_eq_true hk]; rfl) _ .refl
              · walk_at "rd_2"
                exact h1 (by show (!decide (k = anc)) = true; rw [decide_eq_false hk]; rfl) _ .refl
            · have hfm : ((ids.map V.str).filter fun v => match v with | .str k => !decide (k = anc) | _ => false).map id = (ids.filter fun k => !decide (k = anc)).map V.str := by
                rw [List.map_id, List.filter_map]
                rfl
              rw [hfm] at hD
              have hDl : (ids.filter fun k => !decide (k = anc)).length ≤ 3 := by
                have := List.length_filter_le (fun k => !decide (k = anc)) ids
                omega
              have e05 := e4.trans e5.any
              have T5 := T4.ext e5
              have hv5 := Im.ext e5 Lsts.nil _ _ hv4
              have hzp5 : SqP H5 zp zx := SqP.ext hzp4 e5 Lsts.nil
              have hzi5 := ImAll.ext e5 Lsts.nil _ _ hzi4
              have hp5 := e5.lst (by simp) hp4
              have hla5 := e5.lst (by simp) hla4
              have hrows5 := rows_ext hrows4 e5 (by simp) Lsts.nil
              walk_at "rd_2"
              refine rd_slL (SqL.of hD) fun s6 ns6 => ?_
              rw [cutV_to _ (by decide), show Int.toNat 2 = 2 from rfl, ← List.map_take]
              have hlp6 : pp ≠ s6 := (Nw.of ns6).lst hp5
              have hla6' : la ≠ s6 := (Nw.of ns6).lst hla5
              have e6 := e05.newR (o := .lst (((ids.filter fun k => !decide (k = anc)).take 2).map V.str)) ns6
              have T6 := T5.upd (o := .lst (((ids.filter fun k => !decide (k = anc)).take 2).map V.str)) ns6
              have hv6 := hv5.new (o := .lst (((ids.filter fun k => !decide (k = anc)).take 2).map V.str)) ns6
              have hzp6 := SqP.new (o := .lst (((ids.filter fun k => !decide (k = anc)).take 2).map V.str)) hzp5 ns6
              have hzi6 := hzi5.new (o := .lst (((ids.filter fun k => !decide (k = anc)).take 2).map V.str)) ns6
              have hp6 := (upd_ne (o := .lst (((ids.filter fun k => !decide (k = anc)).take 2).map V.str)) hlp6).trans hp5
              have hla6 := (upd_ne (o := .lst (((ids.filter fun k => !decide (k = anc)).take 2).map V.str)) hla6').trans hla5
              have hrows6 := rows_ext hrows5 (Ext.new (T := T) (ms := []) (o := .lst (((ids.filter fun k => !decide (k = anc)).take 2).map V.str)) ns6) (by simp) Lsts.nil
              have hs6 : (upd H5 s6 (.lst (((ids.filter fun k => !decide (k = anc)).take 2).map V.str))) s6 = some (.lst (((ids.filter fun k => !decide (k = anc)).take 2).map V.str)) := upd_same
              show rPlus _ _ _ (upd H5 s6 (.lst (((ids.filter fun k => !decide (k = anc)).take 2).map V.str))) _
              generalize upd H5 s6 (.lst (((ids.filter fun k => !decide (k = anc)).take 2).map V.str)) = H6 at e6 T6 hv6 hzp6 hzi6 hp6 hla6 hrows6 hs6 ⊢
              refine rd_cat hla6 hs6 ?_ fun ka nka => ?_
              · rw [List.length_map, List.length_take]
                exact Nat.le_trans (show _ ≤ 100 by simp only [List.length_cons, List.length_nil]; omega) (by decide)
              refine rd_name ?_
              have hkt := (T6.ne (.of nka)).1
              refine hnx2 _ _ ⟨e6.newR nka, T6.upd nka, hv6.new nka, SqP.new hzp6 nka, hzi6.new nka, (upd_ne ((Nw.of nka).lst hp6)).trans hp6, rows_ext hrows6 (Ext.new (T := T) (ms := []) nka) (by simp) Lsts.nil, ka, anc :: (ids.filter fun k => !decide (k = anc)).take 2, _, rfl, upd_same, hkt, ((Nw.of nka).lst hp6).symm, ?_, fun y hy => ?_, ?_⟩
              · rw [List.nodup_cons]
                refine ⟨fun hm => ?_, (hin.sublist List.filter_sublist).sublist (List.take_sublist _ _)⟩
                have := (List.mem_filter.mp (List.mem_of_mem_take hm)).2
                simp at this
              · rcases List.mem_cons.mp hy with e | hy
                · rw [e]
                  exact haid
                · exact hid y (List.mem_filter.mp (List.mem_of_mem_take hy)).1
              · have := filter_others (a := anc) hin
                rw [List.length_cons, List.length_take]
                omega
          · walk_at "rd_2"
            exact hnx2 _ _ ⟨e03, T3, hv3, hzp3, hzi3, hp3, hrows3, ip, ids, _, rfl, hip, hipt, hipp, hin, hid, by omega⟩
        · obtain ⟨e4, T4, hv4, hzp4, hzi4, hp4, hrows4, ka, ks, d, rfl, hka, hkt, hkp, hkn, hki, hk3⟩ := h
          walk_at "rd_2"
          refine ⟨by show 2 ≤ sizeLine; decide, fun ta nta => ?_⟩
          have e5 := e4.newR (o := .tup [V.str z.1, .ref ka]) nta
          have T5 := T4.upd (o := .tup [V.str z.1, .ref ka]) nta
          have hv5 := hv4.new (o := .tup [V.str z.1, .ref ka]) nta
          have hzp5 := SqP.new (o := .tup [V.str z.1, .ref ka]) hzp4 nta
          have hzi5 := hzi4.new (o := .tup [V.str z.1, .ref ka]) nta
          have hp5 := (upd_ne (o := .tup [V.str z.1, .ref ka]) ((Nw.of nta).lst hp4)).trans hp4
          have hka5 := (upd_ne (o := .tup [V.str z.1, .ref ka]) ((Nw.of nta).lst hka)).trans hka
          have hrows5 := rows_ext hrows4 (Ext.new (T := T) (ms := []) (o := .tup [V.str z.1, .ref ka]) nta) (by simp) Lsts.nil
          have hta5 : (upd H4 ta (.tup [V.str z.1, .ref ka])) ta = some (.tup [V.str z.1, .ref ka]) := upd_same
          refine rd_nil ?_
          generalize upd H4 ta (.tup [V.str z.1, .ref ka]) = H5 at e5 T5 hv5 hzp5 hzi5 hp5 hka5 hrows5 hta5 ⊢
          refine rd_app hp5 ?_ ?_
          · rw [hrows5.length]
            exact Nat.lt_of_le_of_lt (show ps.length ≤ 100 by omega) (by decide)
          · have e6 : Ext T [pp] H5 (upd H5 pp (.lst (xs ++ [.ref ta]))) := Ext.mut (by simp) hp5
            have hrow : PoolRow H5 [t, pp] (.ref ta) (z.1, ks) := ⟨ta, ka, rfl, hta5, hka5, by simp [hkt, hkp]⟩
            refine ⟨e5.own hpn hp5, T5.own hpt hpl, Im.ext e6 (lsts_one hp5) _ _ hv5, SqP.ext hzp5 e6 (lsts_one hp5), ImAll.ext e6 (lsts_one hp5) _ _ hzi5, xs ++ [.ref ta], ps ++ [(z.1, ks)], _, _, _, _, rfl, upd_same, rows_ext (PySem.W.each_snoc hrow hrows5) e6 (by simp) (lsts_one hp5), ?_, fun p hp => ?_, fun p hp => ?_, fun p hp => ?_⟩
            · rw [List.map_append, hnm, List.take_add_one, hz, List.map_append]
              rfl
            · rcases List.mem_append.mp hp with h | h
              · exact hnd p h
              · rw [List.mem_singleton.mp h]
                exact hkn
            · rcases List.mem_append.mp hp with h | h
              · exact hok p h
              · rw [List.mem_singleton.mp h]
                exact hki
            · rcases List.mem_append.mp hp with h | h
              · exact hl3 p h
              · rw [List.mem_singleton.mp h]
                exact hk3
      · obtain ⟨e2, T2, hv2, hzp2, hzi2, xs, ps, a, b, c, d, rfl, hp2, hrows, hnm, hnd, hok, hl3⟩ := h
        rw [show zx.length = R.zs.length by rw [hzi2.len, List.length_map], List.take_length] at hnm
        exact hnx _ _ ⟨e2, T2, xs, ps, a, b, c, d, rfl, hp2, hrows, hnm, hnd, hok, hl3⟩
    · obtain ⟨e2, T2, xs, ps, a, b, c, d, rfl, hp2, hrows, hps⟩ := h
      walk_at "rd_2"
      exact q pp ps H2 hpn ⟨xs, hp2, hpt, rows_weak hrows (by simp)⟩ hps e2 T2
end
section
variable {T : List (Addr × Str)} {P : Program} {w : World} {K : PySem.W.Frag} {mg : Str → Option Value} {base : Heap}
def sL : List Str := ["s1", "s2"]
theorem sL_ok : sL.Nodup ∧ ∀ y ∈ sL, idB y = true := by decide +kernel
theorem srtS_nil : srtS [] = [] := List.mergeSort_nil
theorem head_in {ks : List Str} {k : Nat} (h : ks.length = 3) (hk : 1 ≤ k) : ks.take k ≠ [] ∧ ∃ x, ks.take 1 = [x] ∧ x ∈ ks.take k := by
  match ks, h with
  | a :: r, _ =>
    obtain ⟨k, rfl⟩ : ∃ j, k = j + 1 := ⟨k - 1, by omega⟩
    exact ⟨by simp, a, by simp, by simp⟩
theorem hd_take {d : Int} (h0 : 0 ≤ d) (h1 : d < 2) : (srtS (sL.take (1 + d).toNat)).headD "s1" = "s1" := by
  have h : d = 0 ∨ d = 1 := by omega
  rcases h with rfl | rfl
  · rw [show sL.take (1 + (0 : Int)).toNat = (["s1"] : List Str) from rfl, srtS_oneL]
    rfl
  · rw [show sL.take (1 + (1 : Int)).toNat = (["s1", "s2"] : List Str) from rfl, srt_two]
    rfl
theorem ok_law_first_item (D : Def K mg "_law_first_item" s_law_first_item ["tape", "realm", "pools", "slot"]) (mb : ∀ x ∈ bltns, mg x = none) (G_law_take : Ok P w K mg base 2 "_law_take" ["tape", "many"] (spTake T)) (G_law_life : Ok P w K mg base 3 "_law_life" ["tape"] (spInt T 1 1000))
    (G_law_home : Ok P w K mg base 2 "_law_home" ["realm", "slot"] (spHome T)) (G_law_pool : Ok P w K mg base 1 "_law_pool" ["pools", "zone"] (spPool T)) (G_law_item : Ok P w K mg base 1 "_law_item" ["content", "life", "signers"] (spItem T)) (G_law_ids : Ok P w K mg base 4 "_law_ids" ["tape", "many"] (spIds T)) :
    Ok P w K mg base 5 "_law_first_item" ["tape", "realm", "pools", "slot"] (spFirst T) := by
  refine D.ok sc_law_first_item (fun vs H Q E h => ?_) (fun cdv f A outer s H vs Q E hr h => ?_)
  · obtain ⟨l, t, pa, v, u, R, ps, sl, rfl, _⟩ := h
    rfl
  · obtain ⟨l, t, pa, v, u, R, ps, sl, rfl, hT, hv, hR, hP, hps, hu, hs, q⟩ := h
    refine ⟨_, (pss_cons (ps_set (i := 4) sc_law_first_item.nd rfl (.inl rfl) (pe_callO G_law_life (hr.mono (by decide)) (by rfl) (pa_cons (pv 0) pa_nil)))
   (pss_cons (ps_set (i := 5) sc_law_first_item.nd rfl (.inl rfl) (pe_callO G_law_pool (hr.mono (by decide)) (by rfl) (pa_cons (pv 2) (pa_cons (pe_callO G_law_home (hr.mono (by decide)) (by rfl) (pa_cons (pv 1) (pa_cons (pv 3) pa_nil))) pa_nil))))
   (pss_cons (ps_if (pt_cmpR (op_eqU K rfl hr.units) (pe_ix (ix_U K rfl) (pv 3) pe_int (fun _ _ => rfl)) pe_str (nomark _)) (pss_cons (ps_set (i := 6) sc_law_first_item.nd rfl (.inl rfl) (pe_slice (sl_U K rfl) (pv 5) po_none (po_some (pe_op (op_plus K rfl) pe_int (pe_callO G_law_take (hr.mono (by decide)) (by rfl) (pa_cons (pv 0) (pa_cons pe_int pa_nil)))))))
   (pss_one (ps_ret (pe_callO G_law_item (hr.mono (by decide)) (by rfl) (pa_cons (pv 6) (pa_cons (pv 4) (pa_cons (pe_slice (sl_U K rfl) (pv 5) po_none (po_some pe_int)) pa_nil))))))) pss_nil)
   (pss_cons (ps_if (pt_cmpR (op_eqU K rfl hr.units) (pe_ix (ix_U K rfl) (pv 3) pe_int (fun _ _ => rfl)) pe_str (nomark _)) (pss_one (ps_ret (pe_callO G_law_item (hr.mono (by decide)) (by rfl) (pa_cons (pe_slice (sl_U K rfl) (pe_callO G_law_pool (hr.mono (by decide)) (by rfl) (pa_cons (pv 2) (pa_cons (pe_ix (ix_U K rfl) (pv 3) pe_int (fun _ _ => rfl)) pa_nil))) po_none (po_some pe_int)) (pa_cons (pv 4) (pa_cons (pe_slice (sl_U K rfl) (pv 5) po_none (po_some pe_int)) pa_nil)))))) pss_nil)
   (pss_cons (ps_if (pt_cmpR (op_eqU K rfl hr.units) (pe_ix (ix_U K rfl) (pv 3) pe_int (fun _ _ => rfl)) pe_str (nomark _)) (pss_one (ps_ret (pe_callO G_law_item (hr.mono (by decide)) (by rfl) (pa_cons (pe_slice (sl_U K rfl) (pe_lst (pa_cons pe_str (pa_cons pe_str pa_nil))) po_none (po_some (pe_op (op_plus K rfl) pe_int (pe_callO G_law_take (hr.mono (by decide)) (by rfl) (pa_cons (pv 0) (pa_cons pe_int pa_nil)))))) (pa_cons (pv 4) (pa_cons (pe_lst pa_nil) pa_nil)))))) pss_nil)
   (pss_one (ps_ret (pe_callO G_law_item (hr.mono (by decide)) (by rfl) (pa_cons (pe_callO G_law_ids (hr.mono (by decide)) (by rfl) (pa_cons (pv 0) (pa_cons (pe_callO G_law_take (hr.mono (by decide)) (by rfl) (pa_cons (pv 0) (pa_cons pe_int pa_nil))) pa_nil))) (pa_cons (pv 4) (pa_cons (pe_slice (sl_U K rfl) (pv 5) po_none (po_some pe_int)) pa_nil))))))))))), ?_⟩
    refine rd_seq ?_
    walk_at "rdn_2"
    refine ⟨l, t, rfl, hT, fun li H1 hl0 hl1 e1 T1 => ?_⟩
    have hv1 := hv.y e1 hT
    have hu1 := hu.y e1 hT
    have hP1 := hP.ext e1 hT
    walk_at "rdn_2"
    refine rd_seq ?_
    walk_at "rdn_2"
    refine ⟨v, u, R, sl, rfl, hv1, hu1, hR, hs, fun H2 e2 hh => ?_⟩
    have hv2 := hv1.x e2
    have hu2 := hu1.x e2
    have hP2 := hP1.ext0 e2
    have T2 := T1.ext e2
    have e02 := e1.trans e2.any
    walk_at "rdn_2"
    have hpn : (ps.map (·.1)).Nodup := by rw [hps.nm]; exact hR.nd
    have hpl : ps.length ≤ 6 := by
      have := congrArg List.length hps.nm
      rw [List.length_map, List.length_map] at this
      have := hR.len
      omega
    have pick : ∀ z ∈ R.zs.map (·.1), ∃ ks, (z, ks) ∈ ps := fun z hz => by
      rw [← hps.nm] at hz
      obtain ⟨p, hp, e⟩ := List.mem_map.mp hz
      exact ⟨p.2, by rw [← e]; exact hp⟩
    obtain ⟨ks, hks⟩ := pick _ hh
    refine ⟨t, pa, ps, _, ks, rfl, hP2, hpl, hpn, hks, fun oa H3 hot hoa e3 => ?_⟩
    have hv3 := hv2.x e3
    have hu3 := hu2.x e3
    have hP3 := hP2.ext0 e3
    have T3 := T2.ext e3
    have e03 := e02.trans e3.any
    have ho3 := lst.x hoa e3
    have hk3 : ks.length = 3 := hps.len _ hks
    have hkn : ks.Nodup := hps.nd _ hks
    have hki : ∀ y ∈ ks, idB y = true := hps.ok _ hks
    clear hT hv hP hu e1 T1 hv1 hu1 hP1 e2 hv2 hu2 hP2 T2 e02 e3
    walk_at "rdn_2"
    -- the last step of each way
    have fin : ∀ (ca sa : Addr) (cs gs : List Str) (H4 : Hp), Ext T [t] H H4 → Tape l H4 t → H4 ca = some (.lst (cs.map V.str)) → H4 sa = some (.lst (gs.map V.str)) → cs.Nodup → gs.Nodup → (∀ y ∈ cs, idB y = true) → (∀ y ∈ gs, idB y = true) → cs.length ≤ 4 → gs.length ≤ 3 → (∀ z, sl = .h z → gs = []) → (∀ z, sl = .k z → cs ≠ [] ∧ ∃ x, gs = [x] ∧ x ∈ cs) → (∀ z, sl = .h z → (srtS cs).headD "s1" = "s1" ∧ (srtS cs).length ≤ 3) →
        spItem T [.ref ca, .int li, .ref sa] H4 Q E0 := fun ca sa cs gs H4 e4 T4 hc hg n1 n2 o1 o2 l1 l2 hh hkk h1s => by
      refine ⟨ca, sa, cs, gs, li, rfl, hc, hg, o1, o2, fun x H5 e5 hx => ?_⟩
      refine q x _ H5 ⟨⟨cs, rfl, n1, o1, l1⟩, ⟨gs, rfl, n2, o2, l2⟩, ⟨hl0, hl1⟩, ⟨show (0 : Int) ≤ 0 by decide, show (0 : Int) ≤ 10000 by decide, show (10000 : Int) ≤ 10000 by decide⟩, fun z e => ⟨?_, rfl, rfl⟩, fun z e => srtS_ne (hkk z e).1⟩ (fun z e => seal_srt (hkk z e).2) h1s hx (e4.trans e5.any) (T4.ext e5)
      rw [hh z e]
      exact srtS_nil
    have k1n : (ks.take 1).Nodup := hkn.sublist (List.take_sublist _ _)
    have k1i : ∀ y ∈ ks.take 1, idB y = true := fun y hy => hki y (List.mem_of_mem_take hy)
    have k1l : (ks.take 1).length ≤ 3 := by rw [List.length_take]; omega
    cases sl with
    | k z =>
      have hu3 : Im H3 u (.tuple [.str (Str.ofString "keys"), .str z]) := hu3
      walk_at "rd_2"
      refine rd_ixSs hu3 rfl ?_
      walk_at "rd_2"
      refine rd_ite (fun _ => ?_) (fun h => absurd rfl h)
      walk_at "rd_2"
      refine ⟨l, t, 2, rfl, by decide, by decide, T3, fun d H4 h0 h1 e4 T4 => ?_⟩
      have ho4 := lst.y ho3 e4 hot
      walk_at "rd_2"
      refine rd_takeS T ho4 (by omega) fun ca H5 nca e5 hca => ?_
      have ho5 := lst.x ho4 e5
      walk_at "rd_2"
      refine rd_takeS T ho5 (by decide) fun sa H6 _ e6 hsa => ?_
      walk_at "rd_2"
      exact fin ca sa _ _ H6 (((e03.trans e4).trans e5.any).trans e6.any) ((T4.ext e5).ext e6) (lst.x hca e6) hsa (hkn.sublist (List.take_sublist _ _)) k1n (fun y hy => hki y (List.mem_of_mem_take hy)) k1i (by rw [List.length_take]; omega) k1l (fun z h => by cases h) (fun _ _ => head_in hk3 (by omega)) (fun z h => by cases h)
    | l z =>
      have hu3 : Im H3 u (.tuple [.str (Str.ofString "link"), .str z]) := hu3
      walk_at "rd_2"
      refine rd_ixSs hu3 rfl ?_
      walk_at "rd_2"
      refine rd_ite (fun h => absurd h (by decide +kernel)) (fun _ => ?_)
      walk_at "rd_2"
      refine rd_ixSs hu3 rfl ?_
      walk_at "rd_2"
      refine rd_ite (fun _ => ?_) (fun h => absurd rfl h)
      walk_at "rd_2"
      refine rd_ixSs hu3 rfl ?_
      walk_at "rd_2"
      have hzm : z ∈ R.zs.map (·.1) := by
        unfold slotsR at hs
        rcases List.mem_append.mp hs with hs | hs
        · rcases List.mem_cons.mp hs with hs | hs
          · cases hs
          · obtain ⟨y, hy, h⟩ := List.mem_flatMap.mp hs
            simp at h
            rw [h]
            exact List.mem_map_of_mem (List.mem_of_mem_tail hy)
        · obtain ⟨p, _, h⟩ := List.mem_map.mp hs
          cases h
      obtain ⟨k2, hk2⟩ := pick _ hzm
      refine ⟨t, pa, ps, z, k2, rfl, hP3, hpl, hpn, hk2, fun pa2 H4 _ hpa2 e4 => ?_⟩
      have ho4 := lst.x ho3 e4
      walk_at "rd_2"
      refine rd_takeS T (lst.x hpa2 e4) (by decide) fun ca H5 nca e5 hca => ?_
      have ho5 := lst.x ho4 e5
      walk_at "rd_2"
      refine rd_takeS T ho5 (by decide) fun sa H6 _ e6 hsa => ?_
      walk_at "rd_2"
      exact fin ca sa _ _ H6 (((e03.trans e4.any).trans e5.any).trans e6.any) (((T3.ext e4).ext e5).ext e6) (lst.x hca e6) hsa ((hps.nd _ hk2).sublist (List.take_sublist _ _)) k1n (fun y hy => hps.ok _ hk2 y (List.mem_of_mem_take hy)) k1i (by rw [List.length_take]; have := hps.len _ hk2; omega) k1l (fun z h => by cases h) (fun z h => by cases h) (fun z h => by cases h)
    | h z =>
      have hu3 : Im H3 u (.tuple [.str (Str.ofString "hosts"), .str z]) := hu3
      walk_at "rd_2"
      refine rd_ixSs hu3 rfl ?_
      walk_at "rd_2"
      refine rd_ite (fun h => absurd h (by decide +kernel)) (fun _ => ?_)
      walk_at "rd_2"
      refine rd_ixSs hu3 rfl ?_
      walk_at "rd_2"
      refine rd_ite (fun h => absurd h (by decide +kernel)) (fun _ => ?_)
      walk_at "rd_2"
      refine rd_ixSs hu3 rfl ?_
      walk_at "rd_2"
      refine rd_ite (fun _ => ?_) (fun h => absurd rfl h)
      walk_at "rd_2"
      refine ⟨by show 2 ≤ sizeLine; decide, fun la nla => ?_⟩
      obtain ⟨nla, e4, hla⟩ := alL (T := T) nla (sL.map V.str)
      show tNoPart _ (upd H3 la (.lst (sL.map V.str))) _
      generalize upd H3 la _ = H4 at e4 hla ⊢
      have T4 := T3.ext e4
      have hlt := (T3.ne nla).1
      walk_at "rd_2"
      refine ⟨l, t, 2, rfl, by decide, by decide, T4, fun d H5 h0 h1 e5 T5 => ?_⟩
      walk_at "rd_2"
      refine rd_takeS T (lst.y hla e5 hlt) (by omega) fun ca H6 nca e6 hca => ?_
      walk_at "rd_2"
      refine ⟨by show 0 ≤ sizeLine; decide, fun sa nsa => ?_⟩
      obtain ⟨_, e7, hsa⟩ := alL (T := T) nsa []
      generalize upd H6 sa _ = H7 at e7 hsa ⊢
      walk_at "rd_2"
      exact fin ca sa _ [] H7 ((((e03.trans e4.any).trans e5).trans e6.any).trans e7.any) ((T5.ext e6).ext e7) (lst.x hca e7) hsa (sL_ok.1.sublist (List.take_sublist _ _)) (by simp) (fun y hy => sL_ok.2 y (List.mem_of_mem_take hy)) (by simp) (by rw [List.length_take]; exact Nat.le_trans (Nat.min_le_right _ _) (by decide)) (by simp) (fun _ _ => rfl) (fun z h => by cases h) (fun _ _ => ⟨hd_take h0 h1, by rw [(srtS_perm _).length_eq, List.length_take]; exact Nat.le_trans (Nat.min_le_right _ _) (by decide)⟩)
    | s n k =>
      have hu3 : Im H3 u (.tuple [.str (Str.ofString "set"), .str n, .str k]) := hu3
      walk_at "rd_2"
      refine rd_ixSs hu3 rfl ?_
      walk_at "rd_2"
      refine rd_ite (fun h => absurd h (by decide +kernel)) (fun _ => ?_)
      walk_at "rd_2"
      refine rd_ixSs hu3 rfl ?_
      walk_at "rd_2"
      refine rd_ite (fun h => absurd h (by decide +kernel)) (fun _ => ?_)
      walk_at "rd_2"
      refine rd_ixSs hu3 rfl ?_
      walk_at "rd_2"
      refine rd_ite (fun h => absurd h (by decide +kernel)) (fun _ => ?_)
      walk_at "rd_2"
      refine ⟨l, t, 4, rfl, by decide, by decide, T3, fun d H4 h0 h1 e4 T4 => ?_⟩
      have ho4 := lst.y ho3 e4 hot
      walk_at "rd_2"
      refine ⟨l, t, d, rfl, h0, by omega, T4, fun ca ids H5 nca hil hin hid hca e5 T5 => ?_⟩
      have ho5 := lst.y ho4 e5 hot
      walk_at "rd_2"
      refine rd_takeS T ho5 (by decide) fun sa H6 _ e6 hsa => ?_
      walk_at "rd_2"
      exact fin ca sa _ _ H6 (((e03.trans e4).trans e5).trans e6.any) (T5.ext e6) (lst.x hca e6) hsa hin k1n hid k1i (by omega) k1l (fun z h => by cases h) (fun z h => by cases h) (fun z h => by cases h)
end
section
variable {T : List (Addr × Str)} {P : Program} {w : World} {K : PySem.W.Frag} {mg : Str → Option Value} {base : Heap}
theorem s9_ok : PyData.strOk "s1" = true ∧ PyData.strOk "s2" = true ∧ PyData.strOk "t9" = true := by decide +kernel
theorem slots_len {R : Rm} (h : RmIn R) : (slotsR R).length ≤ 30 := by
  unfold slotsR
  rw [List.length_append, List.length_cons, List.length_map, List.length_flatMap]
  have h1 : ((R.zs.tail).map fun z => ([Sl.k z.1, .l z.1, .h z.1] : List Sl).length).sum ≤ (R.zs.tail).length * 3 := by
    have h := sum_le (B := 3) (l := (R.zs.tail).map fun z => ([Sl.k z.1, .l z.1, .h z.1] : List Sl).length) fun x hx => by
      obtain ⟨y, _, rfl⟩ := List.mem_map.mp hx
      exact Nat.le_refl 3
    rw [List.length_map] at h
    exact h
  have h2 : (R.zs.tail).length ≤ 5 := by
    rw [List.length_tail]
    have := h.len
    omega
  have := h.slen
  omega
theorem rows_of {R : Rm} {H : Hp} : ∀ {ds : List PyData} {xs : List V} {sls : List Sl}, ImAll H xs (sls.map slD) → PySem.W.EachIs (fun d x => ∃ (s : Sl) (i : Itm), Im H x (slD s) ∧ d = rowD2 (s, i) ∧ ItmOk s i ∧ (∀ z, s = .k z → Seal i) ∧ ∀ z, s = .h z → i.hd = "s1" ∧ i.c.length ≤ 3) ds xs → ∃ its : List (Sl × Itm), ds = its.map rowD2 ∧ its.map (·.1) = sls ∧ ∀ r ∈ its, ItmOk r.1 r.2 ∧ (∀ z, r.1 = .k z → Seal r.2) ∧ ∀ z, r.1 = .h z → r.2.hd = "s1" ∧ r.2.c.length ≤ 3 := by
  intro ds xs sls
  induction sls generalizing ds xs with
  | nil =>
    intro h1 h2
    cases h1
    cases h2
    exact ⟨[], rfl, rfl, by simp⟩
  | cons s sls ih =>
    intro h1 h2
    cases h1 with
    | cons a b =>
      cases h2 with
      | cons c d =>
        obtain ⟨its, e1, e2, h3⟩ := ih b d
        obtain ⟨s', i, c1, c2, c3⟩ := c
        have e := slD_inj (Im.inj _ _ _ a c1)
        subst e
        refine ⟨(s, i) :: its, by rw [e1, c2]; rfl, by rw [List.map_cons, e2], fun r hr => ?_⟩
        rcases List.mem_cons.mp hr with h | h
        · rw [h]
          exact c3
        · exact h3 r h
def OnSt (zs : List Str) (on : List (Str × Str)) : Prop := (∀ z : Str, (("s3", z) : Str × Str) ∉ on) ∧ ∀ z ∈ zs, (("s1", z) : Str × Str) ∈ on
theorem onSt_two {zs : List Str} {on : List (Str × Str)} {z : Str} (h : OnSt zs on) : OnSt (zs ++ [z]) (on ++ [((("s1" : Str), z) : Str × Str), (("s2" : Str), z)]) := by
  refine ⟨fun y hy => ?_, fun y hy => ?_⟩
  · rcases List.mem_append.mp hy with h1 | h1
    · exact h.1 y h1
    · rcases List.mem_cons.mp h1 with e | h1
      · exact absurd (congrArg Prod.fst e) (show ¬ ("s3" : Str) = "s1" by decide +kernel)
      · exact absurd (congrArg Prod.fst (List.mem_singleton.mp h1)) (show ¬ ("s3" : Str) = "s2" by decide +kernel)
  · rcases List.mem_append.mp hy with h1 | h1
    · exact List.mem_append_left _ (h.2 y h1)
    · rw [List.mem_singleton.mp h1]
      exact List.mem_append_right _ List.mem_cons_self
theorem onSt_t9 {zs : List Str} {on : List (Str × Str)} {z : Str} (h : OnSt zs on) : OnSt zs (on ++ [((("t9" : Str), z) : Str × Str)]) := by
  refine ⟨fun y hy => ?_, fun y hy => List.mem_append_left _ (h.2 y hy)⟩
  rcases List.mem_append.mp hy with h1 | h1
  · exact h.1 y h1
  · exact absurd (congrArg Prod.fst (List.mem_singleton.mp h1)) (show ¬ ("s3" : Str) = "t9" by decide +kernel)
theorem onSt_srv {R : Rm} {its : List (Sl × Itm)} {on : List (Str × Str)} (h : OnSt (R.zs.tail.map (·.1)) on) (hi : ∀ r ∈ its, ∀ z, r.1 = .h z → r.2.hd = "s1" ∧ r.2.c.length ≤ 3) : SrvOk R ⟨its, srtSS on⟩ :=
  ⟨fun z hz => (srtSS_perm _).mem_iff.mpr (h.2 z hz), fun z hz => h.1 z ((srtSS_perm _).mem_iff.mp hz), fun z it hm => ⟨.inl (hi _ hm z rfl).1, (hi _ hm z rfl).2⟩⟩
/-- the servers of the start: of three names, of zones below the root, none twice -/
def OnF (zs : List Str) (on : List (Str × Str)) : Prop := on.Nodup ∧ ∀ p ∈ on, p.1 ∈ s9L ∧ p.2 ∈ zs
theorem s9_ne : Str.ofString "s1" ≠ Str.ofString "s2" ∧ Str.ofString "s1" ≠ Str.ofString "t9" ∧ Str.ofString "s2" ≠ Str.ofString "t9" ∧ Str.ofString "s1" ∈ s9L ∧ Str.ofString "s2" ∈ s9L ∧ Str.ofString "t9" ∈ s9L := by decide +kernel
theorem onF_two {zs : List Str} {on : List (Str × Str)} {z : Str} (h : OnF zs on) (hz : z ∉ zs) : OnF (zs ++ [z]) (on ++ [((Str.ofString "s1"), z), ((Str.ofString "s2"), z)]) := by
  have no : ∀ y, ((y, z) : Str × Str) ∉ on := fun y hm => hz (h.2 _ hm).2
  refine ⟨?_, fun p hp => ?_⟩
  · refine List.nodup_append.mpr ⟨h.1, ?_, fun a ha b hb e => ?_⟩
    · refine List.nodup_cons.mpr ⟨fun hm => ?_, by simp⟩
      exact s9_ne.1 (congrArg Prod.fst (List.mem_singleton.mp hm))
    · subst e
      rcases List.mem_cons.mp hb with e | hb
      · rw [e] at ha
        exact no _ ha
      · rw [List.mem_singleton.mp hb] at ha
        exact no _ ha
  · rcases List.mem_append.mp hp with hp | hp
    · exact ⟨(h.2 p hp).1, List.mem_append_left _ (h.2 p hp).2⟩
    · rcases List.mem_cons.mp hp with e | hp
      · rw [e]
        exact ⟨s9_ne.2.2.2.1, by simp⟩
      · rw [List.mem_singleton.mp hp]
        exact ⟨s9_ne.2.2.2.2.1, by simp⟩
theorem onF_t9 {zs : List Str} {on : List (Str × Str)} {z : Str} (h : OnF zs on) (hz : z ∉ zs) : OnF (zs ++ [z]) (on ++ [((Str.ofString "s1"), z), ((Str.ofString "s2"), z)] ++ [((Str.ofString "t9"), z)]) := by
  have h2 := onF_two h hz
  refine ⟨List.nodup_append.mpr ⟨h2.1, by simp, fun a ha b hb e => ?_⟩, fun p hp => ?_⟩
  · subst e
    rw [List.mem_singleton.mp hb] at ha
    rcases List.mem_append.mp ha with ha | ha
    · exact hz (h.2 _ ha).2
    · rcases List.mem_cons.mp ha with e | ha
      · exact s9_ne.2.1 (congrArg Prod.fst e).symm
      · exact s9_ne.2.2.1 (congrArg Prod.fst (List.mem_singleton.mp ha)).symm
  · rcases List.mem_append.mp hp with hp | hp
    · exact h2.2 p hp
    · rw [List.mem_singleton.mp hp]
      exact ⟨s9_ne.2.2.2.2.2, by simp⟩
theorem onF_r {R : Rm} {its : List (Sl × Itm)} {on : List (Str × Str)} (h : OnF (R.zs.tail.map (·.1)) on) : OnR R ⟨its, srtSS on⟩ := ⟨on, rfl, h.1, h.2⟩
theorem ok_law_start (D : Def K mg "_law_start" s_law_start ["tape", "realm", "pools"]) (mb : ∀ x ∈ bltns, mg x = none) (G_law_take : Ok P w K mg base 2 "_law_take" ["tape", "many"] (spTake T)) (G_law_slots : Ok P w K mg base 1 "_law_slots" ["realm"] (spSlots T))
    (G_law_first_item : Ok P w K mg base 5 "_law_first_item" ["tape", "realm", "pools", "slot"] (spFirst T)) : Ok P w K mg base 6 "_law_start" ["tape", "realm", "pools"] (spStartF T) := by
  refine D.ok sc_law_start (fun vs H Q E h => ?_) (fun cdv f A outer s H vs Q E hr h => ?_)
  · obtain ⟨l, t, pa, v, R, ps, rfl, _⟩ := h
    rfl
  · obtain ⟨l, t, pa, v, R, ps, rfl, hT, hv, hR, hP, hps, q⟩ := h
    refine ⟨_, (pss_cons (ps_setLc (i := 3) (own := [("slot", 7)]) (g := gName 7) (tt := tYes) rfl sc_law_start.nd rfl rfl (sw_true rfl rfl rfl (by decide +kernel)) (pi_seq K rfl (pe_callO G_law_slots (hr.mono (by decide)) (by rfl) (pa_cons (pv 1) pa_nil))) (blkOk_by (N := N_law_start) (sc := defScope s_law_start) (by decide +kernel)) (fun _ _ _ _ _ => (pg_name (i := 7) sc_law_start.nd rfl (Or.inl rfl))) (fun _ _ _ _ _ => pts_nil) (fun _ _ _ _ _ => (pe_tup (pa_cons (pv 7) (pa_cons (pe_callO G_law_first_item (hr.mono (by decide)) (by rfl) (pa_cons (pv 0) (pa_cons (pv 1) (pa_cons (pv 2) (pa_cons (pv 7) pa_nil))))) pa_nil)))))
   (pss_cons (ps_set (i := 4) sc_law_start.nd rfl (.inl rfl) (pe_lst pa_nil))
   (pss_cons (ps_for PassesOwn.never rfl (pi_seq K rfl (pe_slice (sl_U K rfl) (pe_ix (ix_U K rfl) (pv 1) pe_int (fun _ _ => rfl)) (po_some pe_int) po_none)) (pg_tupU (n := 2) K rfl rfl (pgs_cons (pg_name (i := 5) sc_law_start.nd rfl (.inl rfl)) (pgs_cons (pg_name (i := 6) sc_law_start.nd rfl (.inl rfl)) pgs_nil))) (pss_cons (ps_set (i := 4) sc_law_start.nd rfl (.inl rfl) (pe_op (op_plus K rfl) (pv 4) (pe_lst (pa_cons (pe_tup (pa_cons pe_str (pa_cons (pv 5) pa_nil))) (pa_cons (pe_tup (pa_cons pe_str (pa_cons (pv 5) pa_nil))) pa_nil)))))
   (pss_one (ps_if (pt_cmpR (op_eqU K rfl hr.units) (pe_callO G_law_take (hr.mono (by decide)) (by rfl) (pa_cons (pv 0) (pa_cons pe_int pa_nil))) pe_int (nomark _)) (pss_one (ps_expr (pe_bm PySem.F.plainAttrs_list PySem.F.slot_list_append PySem.F.type_list_append mt_append (pv 4) (pa_cons (pe_tup (pa_cons pe_str (pa_cons (pv 5) pa_nil))) pa_nil)))) pss_nil))))
   (pss_one (ps_ret (pe_tup (pa_cons (pe_callTy (call_tupF K rfl) (by rfl) (mb _ (by decide)) (by decide +kernel) (pa_cons (pv 3) pa_nil)) (pa_cons (pe_callTy (call_tupU K rfl) (by rfl) (mb _ (by decide)) (by decide +kernel) (pa_cons (pe_callB (call_sortedU K rfl hr.units) (by rfl) (mb _ (by decide)) (by decide +kernel) (pa_cons (pv 4) pa_nil)) pa_nil)) pa_nil)))))))), ?_⟩
    refine rd_seq ?_
    walk_at "rdn_2"
    refine ⟨v, R, rfl, hv, hR, fun sp H1 nsp e1 hsp => ?_⟩
    have hv1 := hv.x e1
    have hP1 := hP.ext0 e1
    have T1 := hT.ext e1
    have hst := (hT.ne nsp).1
    obtain ⟨xs, hxs, hxi⟩ := hsp.list
    have hxl : xs.length ≤ 30 := by
      rw [hxi.len, List.length_map]
      exact slots_len hR
    walk_at "rdn_2"
    refine lcg_im T [t] walk_list xs rfl (fun i H x H' y => y) (fun H' => Tape l H' t) T1 (fun D o h => T1.upd h) (fun D H' nD T' ys u h => T'.own (T1.ne nD).1 (T1.ne nD).2) (fun H' T' => T'.lsts) (fun H' e _ => e.seqL (by simpa using hst) (SqL.of hxs)) (Nat.lt_of_le_of_lt hxl (by decide)) (fun _ => true) (fun d x => ∃ (s : Sl) (i : Itm), Im H1 x (slD s) ∧ d = rowD2 (s, i) ∧ ItmOk s i ∧ (∀ z, s = .k z → Seal i) ∧ ∀ z, s = .h z → i.hd = "s1" ∧ i.c.length ≤ 3) (fun i x hx H' e' T' R' S h1 h2 => ?_) (fun D H2 ds nD e2 T2 hD hds => ?_)
    · obtain ⟨dr, hdr, hxr⟩ := hxi.get' hx
      rw [List.getElem?_map] at hdr
      obtain ⟨sl, hsl, rfl⟩ := Option.map_eq_some_iff.mp hdr
      refine rd_name ⟨wipe1, ?_⟩
      walk_at "rd_2"
      refine ⟨l, t, pa, v, x, R, ps, sl, rfl, T', hv1.y e' T1, hR, hP1.ext e' T1, hps, hxr.y e' T1, List.mem_of_getElem? hsl, fun y it H3 hit hik hih hy e3 T3 => ?_⟩
      walk_at "rd_2"
      refine ⟨by show 2 ≤ sizeLine; decide, fun ta nta => ?_⟩
      obtain ⟨_, e4, hta⟩ := alT (T := T) nta [x, y]
      show R' (.ref ta) (upd H3 ta (.tup [x, y]))
      generalize upd H3 ta _ = H4 at e4 hta ⊢
      have e34 := e3.trans e4.any
      exact h1 rfl _ (rowD2 (sl, it)) H4 e34 (T3.ext e4) (.new2 ((hxr.y e' T1).ext e34 T'.lsts) (hy.x e4) hta) ⟨sl, it, hxr, rfl, hit, hik, hih⟩
    · rw [filtT] at hds
      obtain ⟨its, rfl, hi1, hi2⟩ := rows_of (R := R) hxi hds
      have hv2 := hv1.y e2 T1
      have hDt := (T1.ne nD).1
      have hDn : Nw H D := e1.back (by simp) nD
      have e02 : Ext T [t] H H2 := e1.any.trans e2
      clear e1 hsp hP hP1 hv hv1 hxs hxi
      walk_at "rdn_2"
      refine rd_seq ?_
      walk_at "rdn_2"
      refine ⟨by show 0 ≤ sizeLine; decide, fun op nop => ?_⟩
      have hnop : Nw H op := e02.back (by simpa using (T2.ne (.of nop)).1) (.of nop)
      have hDop := hD.ne nop
      obtain ⟨_, e3, hop⟩ := alL (T := T) nop []
      show gName 4 _ _ (upd H2 op (.lst [])) _
      generalize upd H2 op _ = H3 at e3 hop ⊢
      have hv3 := hv2.x e3
      have T3 := T2.ext e3
      have hD3 := hD.x e3
      have e03 := e02.trans e3.any
      have hop3 : Ls H3 op (([] : List (Str × Str)).map ssD) := ⟨_, hop, .nil⟩
      walk_at "rdn_2"
      obtain ⟨lag, rest, hz, _⟩ := hR.ne
      have hrl : rest.length ≤ 5 := by
        have := hR.len
        rw [hz, List.length_cons] at this
        omega
      have htl : R.zs.tail = rest := by rw [hz]; rfl
      refine rd_cut (fun σ H4 => Ext T [t] H H4 ∧ Tape l H4 t ∧ Ls H4 D (its.map rowD2) ∧ ∃ (p : Addr) (on : List (Str × Str)) (a b : Option V), σ = [some (.ref t), some v, some (.ref pa), some (.ref D), some (.ref p), a, b, none] ∧ Ls H4 p (on.map ssD) ∧ on.length ≤ 15 ∧ OnSt (R.zs.tail.map (·.1)) on ∧ OnF (R.zs.tail.map (·.1)) on) (fun nx' hnx => ?_) (fun σ H4 h => ?_)
      · walk_at "rd_2"
        refine rd_ixI (d := .tuple (R.zs.map siD)) hv3 rfl fun u hu => ?_
        obtain ⟨zp, zx, rfl, hzp, hzi⟩ := hu.tup'
        have hzl : zx.length = 1 + rest.length := by
          rw [hzi.len, List.length_map, hz, List.length_cons]
          omega
        walk_at "rd_2"
        refine rd_slT (SqP.sq hzp) (fun h => ?_) fun sp2 nsp2 => ?_
        · have h0 := h.1
          rw [show HT.sIx zx.length 0 (some 1) = min 1 zx.length from HT.sIx_nat zx.length 0 1] at h0
          omega
        rw [cutV_from (α := V) zx (by decide), show Int.toNat 1 = 1 from rfl]
        obtain ⟨_, e4, hs4⟩ := alT (T := T) nsp2 (zx.drop 1)
        show ∃ a, _ ∧ ((_ ∧ ForG _ _ _ _ _ (upd H3 sp2 (.tup (zx.drop 1)))) ∨ (_ ∧ ForG _ _ _ _ _ (upd H3 sp2 (.tup (zx.drop 1)))))
        generalize upd H3 sp2 _ = H4 at e4 hs4 ⊢
        have hi4 := (hzi.drop 1).x e4
        have ed : R.zs.drop 1 = R.zs.tail := List.drop_one
        rw [← List.map_drop, ed] at hi4
        generalize zx.drop 1 = ys at hi4 hs4
        refine ⟨sp2, rfl, .inr ⟨⟨_, SqT.of hs4⟩, ?_⟩⟩
        have e04 := e03.trans e4.any
        have T4 := T3.ext e4
        refine forg_tup (xs := ys) (fun i σ H5 => Ext T [t] H H5 ∧ Tape l H5 t ∧ SqP H5 sp2 ys ∧ ImAll H5 ys (R.zs.tail.map siD) ∧ Ls H5 D (its.map rowD2) ∧ ∃ (p : Addr) (on : List (Str × Str)) (a b : Option V), σ = [some (.ref t), some v, some (.ref pa), some (.ref D), some (.ref p), a, b, none] ∧ Ls H5 p (on.map ssD) ∧ on.length ≤ 3 * i ∧ OnSt ((R.zs.tail.take i).map (·.1)) on ∧ OnF ((R.zs.tail.take i).map (·.1)) on)
          ⟨e04, T4, .inl hs4, hi4, hD3.x e4, op, [], none, none, rfl, hop3.x e4, by simp, ⟨by simp, by simp⟩, ⟨by simp, by simp⟩⟩ (fun i σ H5 _ h => SqP.sq h.2.2.1) (fun i x σ H5 hx h => ?_) (fun σ H5 h => ?_)
        · obtain ⟨e5, T5, hs5, hi5, hD5, p, on, a, b, rfl, hp5, hon, hos, hof⟩ := h
          obtain ⟨dz, hdz, hxz⟩ := hi5.get' hx
          rw [List.getElem?_map] at hdz
          obtain ⟨z, hzz, rfl⟩ := Option.map_eq_some_iff.mp hdz
          have hznm := hR.nm z (List.mem_of_mem_tail (List.mem_of_getElem? hzz))
          have hi5' : i < 5 := by
            have := (List.getElem?_eq_some_iff.mp hzz).1
            rw [htl] at this
            omega
          refine rd_gpair (d1 := .str z.1) (d2 := .int z.2) hxz fun v1 v2 g1 g2 => ?_
          rw [g1.str', g2.int']
          walk_at "rd_2"
          refine ⟨by show 2 ≤ sizeLine; decide, fun t1 n1 => ?_⟩
          obtain ⟨_, x1, h1⟩ := alT (T := T) n1 [.str (Str.ofString "s1"), .str z.1]
          show tCons _ _ _ (upd H5 t1 (.tup [.str (Str.ofString "s1"), .str z.1])) _
          generalize upd H5 t1 _ = H6 at x1 h1 ⊢
          walk_at "rd_2"
          refine ⟨by show 2 ≤ sizeLine; decide, fun t2 n2 => ?_⟩
          obtain ⟨_, x2, h2⟩ := alT (T := T) n2 [.str (Str.ofString "s2"), .str z.1]
          show tNil _ (upd H6 t2 (.tup [.str (Str.ofString "s2"), .str z.1])) _
          generalize upd H6 t2 _ = H7 at x2 h2 ⊢
          walk_at "rd_2"
          refine ⟨by show 2 ≤ sizeLine; decide, fun la nla => ?_⟩
          obtain ⟨_, x3, h3⟩ := alL (T := T) nla [.ref t1, .ref t2]
          show rPlus _ _ _ (upd H7 la (.lst [.ref t1, .ref t2])) _
          generalize upd H7 la _ = H8 at x3 h3 ⊢
          have i1 : Im H8 (.ref t1) (ssD (Str.ofString "s1", z.1)) := ((Im.new2 (.str _ s9_ok.1) (.str _ (name_ok hznm)) h1).x x2).x x3
          have i2 : Im H8 (.ref t2) (ssD (Str.ofString "s2", z.1)) := (Im.new2 (.str _ s9_ok.2.1) (.str _ (name_ok hznm)) h2).x x3
          have hp8 := ((hp5.x x1).x x2).x x3
          have x13 := (x1.trans x2).trans x3
          obtain ⟨px, hpx, hpi⟩ := hp8.list
          have hpl : px.length = on.length := by rw [hpi.len, List.length_map]
          refine rd_catA T hpx h3 (by rw [hpl]; simp only [List.length_cons, List.length_nil]; omega) fun p' H9 np' x4 hp' => ?_
          have hp9 : Ls H9 p' ((on ++ [(Str.ofString "s1", z.1), (Str.ofString "s2", z.1)]).map ssD) := ⟨_, hp', by rw [List.map_append]; exact (hpi.x x4).app (.cons (i1.x x4) (.cons (i2.x x4) .nil))⟩
          have x14 := x13.trans x4
          have e9 := e5.trans x14.any
          have T9 := T5.ext x14
          have hs9 := SqP.x hs5 x14
          have hi9 := hi5.x x14
          have hD9 := hD5.x x14
          have hpn9 : Nw H p' := (e5.trans x13.any).back (by simpa using ((T5.ext x13).ne np').1) np'
          have hDp9 : D ≠ p' := fun e => by
            obtain ⟨dx, hdx, _⟩ := (hD5.x x13).list
            exact np'.lst (e ▸ hdx) rfl
          have hos9 : OnSt ((R.zs.tail.take (i + 1)).map (·.1)) (on ++ [(Str.ofString "s1", z.1), (Str.ofString "s2", z.1)]) := by
            rw [List.take_add_one, hzz, List.map_append]
            exact onSt_two hos
          have hzf : z.1 ∉ (R.zs.tail.take i).map (·.1) := fun hm => by
            have hnd : (R.zs.tail.map (·.1)).Nodup := by
              rw [List.map_tail]
              exact hR.nd.tail
            have hsp : R.zs.tail.map (·.1) = (R.zs.tail.take i).map (·.1) ++ z.1 :: (R.zs.tail.drop (i + 1)).map (·.1) := by
              have h1 := (List.getElem?_eq_some_iff.mp hzz)
              obtain ⟨hlt, hge⟩ := h1
              have h2 : R.zs.tail = R.zs.tail.take i ++ z :: R.zs.tail.drop (i + 1) := by
                have h3 := List.drop_eq_getElem_cons hlt
                rw [hge] at h3
                rw [← h3, List.take_append_drop]
              have h4 := congrArg (List.map (·.1)) h2
              rw [List.map_append, List.map_cons] at h4
              exact h4
            rw [hsp] at hnd
            exact (List.nodup_append.mp hnd).2.2 _ hm _ List.mem_cons_self rfl
          have ef9 : (R.zs.tail.take (i + 1)).map (·.1) = (R.zs.tail.take i).map (·.1) ++ [z.1] := by
            rw [List.take_add_one, hzz, List.map_append]
            rfl
          refine rd_name ?_
          refine rd_if ?_
          walk_at "rd_2"
          refine ⟨l, t, 3, rfl, by decide, by decide, T9, fun d H10 h0 h1' e10 T10 => ?_⟩
          have hpt9 := ((T5.ext x13).ne np').1
          have hpl9 := ((T5.ext x13).ne np').2
          have hp10 := hp9.y e10 hpt9 T9
          have hs10 := SqP.ext hs9 e10 T9.lsts
          have hi10 := hi9.y e10 T9
          have hD10 := hD9.y e10 hDt T9
          have e010 := e9.trans e10
          walk_at "rd_2"
          refine rd_ite (fun hd => ?_) (fun hd => ?_)
          · obtain ⟨px2, hpx2, _⟩ := hp10.list
            walk_at "rd_2"
            refine ⟨by show 2 ≤ sizeLine; decide, fun t3 n3 => ?_⟩
            obtain ⟨_, x5, h5⟩ := alT (T := T) n3 [.str (Str.ofString "t9"), .str z.1]
            refine rd_nil ?_
            generalize upd H10 t3 _ = H11 at x5 h5 ⊢
            have i3 : Im H11 (.ref t3) (ssD (Str.ofString "t9", z.1)) := Im.new2 (.str _ s9_ok.2.2) (.str _ (name_ok hznm)) h5
            refine rd_appLs (hp10.x x5) i3 ?_ fun ws hw hp12 => ?_
            · rw [List.length_map, List.length_append]
              exact Nat.lt_of_le_of_lt (show _ ≤ 100 by simp only [List.length_cons, List.length_nil]; omega) (by decide)
            · have x6 : Ext T [p'] H11 (upd H11 p' (.lst (ws ++ [.ref t3]))) := Ext.mut (by simp) hw
              refine ⟨(e010.trans x5.any).own hpn9 hw, (T10.ext x5).own hpt9 hpl9, SqP.ext (SqP.x hs10 x5) x6 (lsts_one hw), ImAll.ext x6 (lsts_one hw) _ _ (hi10.x x5), (hD10.x x5).ext x6 (by simpa using hDp9) (lsts_one hw), p', on ++ [(Str.ofString "s1", z.1), (Str.ofString "s2", z.1)] ++ [(Str.ofString "t9", z.1)], _, _, rfl, ?_, ?_, onSt_t9 hos9, by rw [ef9]; exact onF_t9 hof hzf⟩
              · rw [List.map_append]
                exact hp12
              · simp only [List.length_append, List.length_cons, List.length_nil]
                omega
          · walk_at "rd_2"
            exact ⟨e010, T10, hs10, hi10, hD10, p', _, _, _, rfl, hp10, by simp only [List.length_append, List.length_cons, List.length_nil]; omega, hos9, by rw [ef9]; exact onF_two hof hzf⟩
        · obtain ⟨e5, T5, hs5, hi5, hD5, p, on, a, b, rfl, hp5, hon, hos, hof⟩ := h
          exact hnx _ _ ⟨e5, T5, hD5, p, on, a, b, rfl, hp5, by
            have : ys.length = rest.length := by rw [hi5.len, List.length_map, htl]
            omega, by
            rw [hi5.len, List.length_map, List.take_length] at hos
            exact hos, by
            rw [hi5.len, List.length_map, List.take_length] at hof
            exact hof⟩
      · obtain ⟨e4, T4, hD4, p, on, a, b, rfl, hp4, hon, hos, hof⟩ := h
        obtain ⟨dx, hdx, hdi⟩ := hD4.list
        walk_at "rd_2"
        refine rd_tupFA T hdx fun ti H5 o nti e5 hod hti => ?_
        have hdi5 := hdi.x e5
        walk_at "rd_2"
        refine rd_sortA T (hp4.x e5) (alike_ss on) (sortable_ss on) (depth_ss on) fun sa H6 ys nsa e6 hsa hys => ?_
        rw [srtSS_eq] at hys
        walk_at "rd_2"
        refine rd_tupA T hsa fun to H7 nto e7 hto => ?_
        walk_at "rd_2"
        refine ⟨by show 2 ≤ sizeLine; decide, fun r nr => ?_⟩
        obtain ⟨_, e8, hr8⟩ := alT (T := T) nr [.ref ti, .ref to]
        generalize upd H7 r _ = H8 at e8 hr8 ⊢
        have e58 := (e6.trans e7).trans e8
        refine q (.ref r) ⟨its, srtSS on⟩ H8 ⟨hi1, fun r hr => (hi2 r hr).1, ?_⟩ (fun i hi => (hi2 _ hi).2.1 _ rfl) (onSt_srv hos fun r hr => (hi2 r hr).2.2) (onF_r hof) ?_ ⟨r, ti, .ref to, dx, o, rfl, hr8, e58.keep ti _ (by simp) (fun _ z => by cases z) hti, hod, hdi5.x e58, (Im.tup hto (hys.x e7)).x e8⟩ ((e4.trans e5.any).trans e58.any) (((T4.ext e5).ext e58))
        · show (srtSS on).length ≤ 100
          rw [(srtSS_perm on).length_eq]
          omega
        · show (srtSS on).length ≤ 20
          rw [(srtSS_perm on).length_eq]
          omega
end
section
variable {T : List (Addr × Str)} {P : Program} {w : World} {K : PySem.W.Frag} {mg : Str → Option Value} {base : Heap}
theorem ok_law_at (D : Def K mg "_law_at" s_law_at ["state", "slot"]) (mb : ∀ x ∈ bltns, mg x = none) : Ok P w K mg base 1 "_law_at" ["state", "slot"] (spAt T) := by
  refine D.ok sc_law_at (fun vs H Q E h => ?_) (fun cdv f A outer s H vs Q E hr h => ?_)
  · obtain ⟨v, u, s, sl, i, rfl, _⟩ := h
    rfl
  · obtain ⟨v, u, s, sl, i, rfl, hv, hu, hm, hnd, hl, q⟩ := h
    refine ⟨_, (pss_one (ps_ret (pe_ix (ix_U K rfl) (pe_lc (own := [("name", 2), ("item", 3)]) rfl sc_law_at.nd (pi_seq K rfl (pe_ix (ix_U K rfl) (pv 0) pe_int (fun _ _ => rfl))) (blkOk_by (N := N_law_at) (sc := defScope s_law_at) (by decide +kernel)) (fun _ _ _ _ _ => (pg_tupU (n := 2) K rfl rfl (pgs_cons (pg_name (i := 2) sc_law_at.nd rfl (Or.inl rfl)) (pgs_cons (pg_name (i := 3) sc_law_at.nd rfl (Or.inl rfl)) pgs_nil)))) (fun _ _ _ _ _ => (pts_one (pt_cmpR (op_eqU K rfl hr.units) (pv 2) (pv 1) (nomark _)))) (fun _ _ _ _ _ => (pv 3))) pe_int (fun _ _ => rfl)))), ?_⟩
    obtain ⟨a, ia, oa, xs, o, rfl, ha, hia, hod, hxi, hoa⟩ := hv
    walk_at "rd_2"
    refine rd_ixT (v := .ref ia) (SqT.of ha) rfl ?_
    refine ⟨ia, rfl, .inr ⟨⟨_, SqF hia⟩, ?_⟩⟩
    have hxl : xs.length ≤ 100 := by
      rw [hxi.len, List.length_map]
      exact hl
    refine lcg_rel T [] walk_tup xs rfl (fun i H x H' y => y) (by simp) (fun H' e => SqF (frz.x hia e)) (Nat.lt_of_le_of_lt hxl (by decide)) (pIm H rowD2 fun r => decide (r.1 = sl)) (fun v x => ∃ r, Im H x (rowD2 r) ∧ Im H v (itD r.2)) (fun i x hx H' e' R S h1 h2 => ?_) (fun D H1 us nD e1 hD hus => ?_)
    · obtain ⟨dr, hdr, hxr⟩ := hxi.get' hx
      rw [List.getElem?_map] at hdr
      obtain ⟨r, hr, rfl⟩ := Option.map_eq_some_iff.mp hdr
      obtain ⟨ta, y1, y2, rfl, hta, g1, g2⟩ := hxr.pair'
      have hp := pIm_eq (c := fun r : Sl × Itm => decide (r.1 = sl)) (fun a b => rowD2_inj) hxr
      refine rd_gtup (SqP.sq (SqP.x hta e')) rfl ?_
      walk_at "rd_2"
      refine ⟨rfl, ?_⟩
      walk_at "rd_2"
      refine rd_eqI (b := decide (r.1 = sl)) (g1.x e') (hu.x e') (Nat.le_trans (dep_sl _) (by decide)) (Nat.le_trans (dep_sl _) (by decide)) (Iff.trans ⟨fun e => slD_inj e, fun e => by rw [e]⟩ decide_eq_true_iff.symm) ?_
      refine ⟨_, rfl, ?_⟩
      refine rd_ite (fun hz => ?_) (fun hz => ?_)
      · walk_at "rd_2"
        exact h1 (hp.trans (decide_eq_true hz)) _ _ .refl ⟨r, hxr, g2⟩
      · exact h2 (hp.trans (decide_eq_false hz)) _ .refl
    · have h3 := each_comp hus (each_filter (c := fun r : Sl × Itm => decide (r.1 = sl)) (fun a b => rowD2_inj) hxi)
      rw [filter_fst hnd hm] at h3
      cases h3 with
      | cons a b =>
        cases b
        obtain ⟨x, ⟨r, c1, c2⟩, c3⟩ := a
        have e := rowD2_inj (Im.inj _ _ _ c1 c3)
        subst e
        walk_at "rd_2"
        exact q _ H1 e1 (c2.x e1)
theorem ok_law_after (D : Def K mg "_law_after" s_law_after ["state", "deed"]) (mb : ∀ x ∈ bltns, mg x = none) : Ok P w K mg base 1 "_law_after" ["state", "deed"] (spAfter T) := by
  refine D.ok sc_law_after (fun vs H Q E h => ?_) (fun cdv f A outer s H vs Q E hr h => ?_)
  · obtain ⟨v, u, s, d, rfl, _⟩ := h
    rfl
  · obtain ⟨v, u, s, d, rfl, hv, hu, hl, hol, q⟩ := h
    refine ⟨_, (pss_cons (ps_if (pt_cmpR (op_eqU K rfl hr.units) (pe_ix (ix_U K rfl) (pv 1) pe_int (fun _ _ => rfl)) pe_str (nomark _)) (pss_one (ps_ret (pe_tup (pa_cons (pe_callTy (call_tupF K rfl) (by rfl) (mb _ (by decide)) (by decide +kernel) (pa_cons (pe_lc (own := [("slot", 4), ("item", 5)]) (tt := tYes) rfl sc_law_after.nd (pi_seq K rfl (pe_ix (ix_U K rfl) (pv 0) pe_int (fun _ _ => rfl))) (blkOk_by (N := N_law_after) (sc := defScope s_law_after) (by decide +kernel)) (fun _ _ _ _ _ => (pg_tupU (n := 2) K rfl rfl (pgs_cons (pg_name (i := 4) sc_law_after.nd rfl (Or.inl rfl)) (pgs_cons (pg_name (i := 5) sc_law_after.nd rfl (Or.inl rfl)) pgs_nil)))) (fun _ _ _ _ _ => pts_nil) (fun _ _ _ _ _ => (pe_tup (pa_cons (pv 4) (pa_cons (pe_ifExp (pt_cmpR (op_eqU K rfl hr.units) (pv 4) (pe_ix (ix_U K rfl) (pv 1) pe_int (fun _ _ => rfl)) (nomark _)) (pe_ix (ix_U K rfl) (pv 1) pe_int (fun _ _ => rfl)) (pv 5)) pa_nil))))) pa_nil)) (pa_cons (pe_ix (ix_U K rfl) (pv 0) pe_int (fun _ _ => rfl)) pa_nil))))) pss_nil)
   (pss_cons (ps_set (i := 2) sc_law_after.nd rfl (.inr rfl) (pe_tup (pa_cons (pe_ix (ix_U K rfl) (pv 1) pe_int (fun _ _ => rfl)) (pa_cons (pe_ix (ix_U K rfl) (pv 1) pe_int (fun _ _ => rfl)) pa_nil))))
   (pss_cons (ps_if (pt_cmpR (op_eqU K rfl hr.units) (pe_ix (ix_U K rfl) (pv 1) pe_int (fun _ _ => rfl)) pe_str (nomark _)) (pss_one (ps_ret (pe_tup (pa_cons (pe_ix (ix_U K rfl) (pv 0) pe_int (fun _ _ => rfl)) (pa_cons (pe_callTy (call_tupU K rfl) (by rfl) (mb _ (by decide)) (by decide +kernel) (pa_cons (pe_callB (call_sortedU K rfl hr.units) (by rfl) (mb _ (by decide)) (by decide +kernel) (pa_cons (pe_op (op_plus K rfl) (pe_callTy (call_listU K rfl) (by rfl) (mb _ (by decide)) (by decide +kernel) (pa_cons (pe_ix (ix_U K rfl) (pv 0) pe_int (fun _ _ => rfl)) pa_nil)) (pe_lst (pa_cons (pv 2) pa_nil))) pa_nil)) pa_nil)) pa_nil))))) pss_nil)
   (pss_one (ps_ret (pe_tup (pa_cons (pe_ix (ix_U K rfl) (pv 0) pe_int (fun _ _ => rfl)) (pa_cons (pe_callTy (call_tupU K rfl) (by rfl) (mb _ (by decide)) (by decide +kernel) (pa_cons (pe_lc (own := [("other", 3)]) (g := gName 3) rfl sc_law_after.nd (pi_seq K rfl (pe_ix (ix_U K rfl) (pv 0) pe_int (fun _ _ => rfl))) (blkOk_by (N := N_law_after) (sc := defScope s_law_after) (by decide +kernel)) (fun _ _ _ _ _ => (pg_name (i := 3) sc_law_after.nd rfl (Or.inl rfl))) (fun _ _ _ _ _ => (pts_one (pt_cmpR (op_neU K rfl hr.units) (pv 3) (pv 2) (nomark _)))) (fun _ _ _ _ _ => (pv 3))) pa_nil)) pa_nil)))))))), ?_⟩
    obtain ⟨a, ia, oa, xs, o, rfl, ha, hia, hod, hxi, hoa⟩ := hv
    have hxl : xs.length ≤ 100 := by
      rw [hxi.len, List.length_map]
      exact hl
    cases d with
    | put sl it =>
      have hu : Im H u (.tuple [.str (Str.ofString "put"), slD sl, itD it]) := hu
      walk_at "rd_2"
      refine rd_ixSs hu rfl ?_
      walk_at "rd_2"
      refine rd_ite (fun _ => ?_) (fun h => absurd rfl h)
      walk_at "rd_2"
      refine rd_ixT (v := .ref ia) (SqT.of ha) rfl ?_
      refine ⟨ia, rfl, .inr ⟨⟨_, SqF hia⟩, ?_⟩⟩
      refine lcg_im T [] walk_tup xs rfl (fun i H x H' y => y) (fun _ => True) trivial (fun _ _ _ => trivial) (fun _ _ _ _ _ _ _ => trivial) (fun _ _ => Lsts.nil) (fun H' e _ => SqF (frz.x hia e)) (Nat.lt_of_le_of_lt hxl (by decide)) (fun _ => true) (fun d x => ∃ r, Im H x (rowD2 r) ∧ d = rowD2 (r.1, if r.1 = sl then it else r.2)) (fun i x hx H' e' _ R S h1 h2 => ?_) (fun D H1 ds nD e1 _ hD hds => ?_)
      · obtain ⟨dr, hdr, hxr⟩ := hxi.get' hx
        rw [List.getElem?_map] at hdr
        obtain ⟨r, hr, rfl⟩ := Option.map_eq_some_iff.mp hdr
        obtain ⟨ta, y1, y2, rfl, hta, g1, g2⟩ := hxr.pair'
        refine rd_gtup (SqP.sq (SqP.x hta e')) rfl ?_
        walk_at "rd_2"
        refine ⟨rfl, ?_⟩
        walk_at "rd_2"
        refine rd_ixI (d := slD sl) (hu.x e') rfl fun u1 hu1 => ?_
        refine rd_eqI (b := decide (r.1 = sl)) (g1.x e') hu1 (Nat.le_trans (dep_sl _) (by decide)) (Nat.le_trans (dep_sl _) (by decide)) (Iff.trans ⟨fun e => slD_inj e, fun e => by rw [e]⟩ decide_eq_true_iff.symm) ?_
        refine ⟨_, rfl, ?_⟩
        have fin : ∀ (y : V) (j : Itm), Im H' y (itD j) → (if r.1 = sl then it else r.2) = j → (tNil ((wipe (start N_law_after [.ref a, u]) [4, 5]).set 4 (some y1) |>.set 5 (some y2)) H' fun xs H1 => (y1 :: y :: xs).length ≤ sizeLine ∧ ∀ p, H1 p = none → R (.ref p) (upd H1 p (.tup (y1 :: y :: xs)))) := fun y j hy hj => by
          refine rd_nil ?_
          refine ⟨by show 2 ≤ sizeLine; decide, fun tb ntb => ?_⟩
          obtain ⟨_, e4, htb⟩ := alT (T := T) ntb [y1, y]
          generalize upd H' tb _ = H4 at e4 htb ⊢
          exact h1 rfl _ _ H4 e4 trivial (.new2 ((g1.x e').x e4) (hy.x e4) htb) ⟨r, hxr, by rw [hj]; rfl⟩
        refine rd_ite (fun hz => ?_) (fun hz => ?_)
        · walk_at "rd_2"
          refine rd_ixI (d := itD it) (hu.x e') rfl fun u2 hu2 => ?_
          exact fin u2 it hu2 (if_pos hz)
        · walk_at "rd_2"
          exact fin y2 r.2 (g2.x e') (if_neg hz)
      · rw [filtT] at hds
        have hd : ds = ((s.its.map fun r => (r.1, if r.1 = sl then it else r.2)) : List (Sl × Itm)).map rowD2 := by
          have key : ∀ {ds : List PyData} {xs : List V} {rs : List (Sl × Itm)}, ImAll H xs (rs.map rowD2) → PySem.W.EachIs (fun d x => ∃ r, Im H x (rowD2 r) ∧ d = rowD2 (r.1, if r.1 = sl then it else r.2)) ds xs → ds = ((rs.map fun r => (r.1, if r.1 = sl then it else r.2)) : List (Sl × Itm)).map rowD2 := by
            intro ds xs rs
            induction rs generalizing ds xs with
            | nil =>
              intro h1 h2
              cases h1
              cases h2
              rfl
            | cons r rs ih =>
              intro h1 h2
              cases h1 with
              | cons a b =>
                cases h2 with
                | cons c d =>
                  obtain ⟨r', c1, c2⟩ := c
                  have e := rowD2_inj (Im.inj _ _ _ a c1)
                  rw [ih b d, c2, ← e]
                  rfl
          exact key hxi hds
        rw [hd] at hD
        obtain ⟨dx, hdx, hdi⟩ := hD.list
        walk_at "rd_2"
        refine rd_tupFA T hdx fun ti H2 o2 nti e2 hod2 hti => ?_
        walk_at "rd_2"
        have e12 := e1.trans e2
        refine rd_ixT (v := oa) (SqT.of (tup.x (xs := [.ref ia, oa]) ha e12)) rfl ?_
        walk_at "rd_2"
        refine ⟨by show 2 ≤ sizeLine; decide, fun r nr => ?_⟩
        obtain ⟨_, e3, hr3⟩ := alT (T := T) nr [.ref ti, oa]
        generalize upd H2 r _ = H3 at e3 hr3 ⊢
        exact q _ H3 (e12.trans e3) ⟨r, ti, oa, dx, o2, rfl, hr3, frz.x hti e3, hod2, (hdi.x e2).x e3, (hoa.x e12).x e3⟩
    | on x z =>
      have hu : Im H u (.tuple [.str (Str.ofString "on"), .str x, .str z]) := hu
      obtain ⟨b, ox, rfl, hob, hoi⟩ := hoa.tup'
      have hxz : PyData.strOk x = true ∧ PyData.strOk z = true := by
        have h := Im.lay _ _ hu
        have h : (PyData.strOk (Str.ofString "on") && (PyData.strOk x && (PyData.strOk z && true))) = true := h
        simp only [Bool.and_eq_true] at h
        exact ⟨h.2.1, h.2.2.1⟩
      walk_at "rd_2"
      refine rd_ixSs hu rfl ?_
      walk_at "rd_2"
      refine rd_ite (fun h => absurd h (by decide +kernel)) (fun _ => ?_)
      walk_at "rd_2"
      refine rd_ixSs hu rfl ?_
      walk_at "rd_2"
      refine rd_ixSs hu rfl ?_
      walk_at "rd_2"
      refine ⟨by show 2 ≤ sizeLine; decide, fun tr ntr => ?_⟩
      obtain ⟨_, e1, htr⟩ := alT (T := T) ntr [.str x, .str z]
      show gName 2 _ _ (upd H tr (.tup [.str x, .str z])) _
      generalize upd H tr _ = H1 at e1 htr ⊢
      walk_at "rd_2"
      refine rd_ixSs (hu.x e1) rfl ?_
      walk_at "rd_2"
      refine rd_ite (fun _ => ?_) (fun h => absurd rfl h)
      walk_at "rd_2"
      refine rd_ixT (v := .ref ia) (SqT.of (tup.x (xs := [.ref ia, .ref b]) ha e1)) rfl ?_
      walk_at "rd_2"
      refine rd_ixT (v := .ref b) (SqT.of (tup.x (xs := [.ref ia, .ref b]) ha e1)) rfl ?_
      walk_at "rd_2"
      refine rd_listA T (SqP.sq (SqP.x hob e1)) fun la H2 nla e2 hla => ?_
      walk_at "rd_2"
      refine ⟨by show 1 ≤ sizeLine; decide, fun lb nlb => ?_⟩
      obtain ⟨_, e3, hlb⟩ := alL (T := T) nlb [.ref tr]
      show rPlus _ _ _ (upd H2 lb (.lst [.ref tr])) _
      generalize upd H2 lb _ = H3 at e3 hlb ⊢
      have hol2 : ox.length ≤ 500 := by
        rw [hoi.len, List.length_map]
        exact hol
      refine rd_catA T (lst.x hla e3) hlb (by simp only [List.length_cons, List.length_nil]; omega) fun lc H4 nlc e4 hlc => ?_
      walk_at "rd_2"
      have e14 := ((e1.trans e2).trans e3).trans e4
      have hrow : Im H4 (.ref tr) (ssD (x, z)) := (((Im.new2 (.str _ hxz.1) (.str _ hxz.2) htr).x e2).x e3).x e4
      refine rd_sortA T (ds := (s.on ++ [(x, z)]).map ssD) ⟨_, hlc, by rw [List.map_append]; exact (hoi.x e14).app (.cons hrow .nil)⟩ (alike_ss _) (sortable_ss _) (depth_ss _) fun sa H5 ys nsa e5 hsa hys => ?_
      rw [srtSS_eq] at hys
      walk_at "rd_2"
      refine rd_tupA T hsa fun to H6 nto e6 hto => ?_
      walk_at "rd_2"
      refine ⟨by show 2 ≤ sizeLine; decide, fun r nr => ?_⟩
      obtain ⟨_, e7, hr7⟩ := alT (T := T) nr [.ref ia, .ref to]
      generalize upd H6 r _ = H7 at e7 hr7 ⊢
      have e17 := ((e14.trans e5).trans e6).trans e7
      exact q _ H7 e17 ⟨r, ia, .ref to, xs, o, rfl, hr7, frz.x hia e17, hod, hxi.x e17, (Im.tup hto (hys.x e6)).x e7⟩
    | off x z =>
      have hu : Im H u (.tuple [.str (Str.ofString "off"), .str x, .str z]) := hu
      obtain ⟨b, ox, rfl, hob, hoi⟩ := hoa.tup'
      have hxz : PyData.strOk x = true ∧ PyData.strOk z = true := by
        have h := Im.lay _ _ hu
        have h : (PyData.strOk (Str.ofString "off") && (PyData.strOk x && (PyData.strOk z && true))) = true := h
        simp only [Bool.and_eq_true] at h
        exact ⟨h.2.1, h.2.2.1⟩
      walk_at "rd_2"
      refine rd_ixSs hu rfl ?_
      walk_at "rd_2"
      refine rd_ite (fun h => absurd h (by decide +kernel)) (fun _ => ?_)
      walk_at "rd_2"
      refine rd_ixSs hu rfl ?_
      walk_at "rd_2"
      refine rd_ixSs hu rfl ?_
      walk_at "rd_2"
      refine ⟨by show 2 ≤ sizeLine; decide, fun tr ntr => ?_⟩
      obtain ⟨_, e1, htr⟩ := alT (T := T) ntr [.str x, .str z]
      show gName 2 _ _ (upd H tr (.tup [.str x, .str z])) _
      generalize upd H tr _ = H1 at e1 htr ⊢
      have hrow : Im H1 (.ref tr) (ssD (x, z)) := Im.new2 (.str _ hxz.1) (.str _ hxz.2) htr
      walk_at "rd_2"
      refine rd_ixSs (hu.x e1) rfl ?_
      walk_at "rd_2"
      refine rd_ite (fun h => absurd h (by decide +kernel)) (fun _ => ?_)
      walk_at "rd_2"
      refine rd_ixT (v := .ref ia) (SqT.of (tup.x (xs := [.ref ia, .ref b]) ha e1)) rfl ?_
      walk_at "rd_2"
      refine rd_ixT (v := .ref b) (SqT.of (tup.x (xs := [.ref ia, .ref b]) ha e1)) rfl ?_
      refine ⟨b, rfl, .inr ⟨⟨_, SqP.sq (SqP.x hob e1)⟩, ?_⟩⟩
      have hol2 : ox.length ≤ 500 := by
        rw [hoi.len, List.length_map]
        exact hol
      refine lcg_rel T [] walk_tup ox rfl (fun i H x H' y => y) (by simp) (fun H' e => SqP.sq (SqP.x (SqP.x hob e1) e)) (Nat.lt_of_le_of_lt hol2 (by decide)) (pIm H ssD fun p => !decide (p = (x, z))) (fun v x => v = x) (fun i y hy H' e' R S h1 h2 => ?_) (fun D H2 us nD e2 hD hus => ?_)
      · obtain ⟨dr, hdr, hyr⟩ := hoi.get' hy
        rw [List.getElem?_map] at hdr
        obtain ⟨r, hr, rfl⟩ := Option.map_eq_some_iff.mp hdr
        have hp := pIm_eq (c := fun p : Str × Str => !decide (p = (x, z))) (fun a b => ssD_inj) hyr
        refine rd_name ⟨wipe1, ?_⟩
        walk_at "rd_2"
        refine rd_neI (b := decide (r = (x, z))) ((hyr.x e1).x e') (hrow.x e') (Nat.le_trans (dep_ss _) (by decide)) (Nat.le_trans (dep_ss _) (by decide)) (Iff.trans ⟨fun e => ssD_inj e, fun e => by rw [e]⟩ decide_eq_true_iff.symm) ?_
        refine ⟨_, rfl, ?_⟩
        refine rd_itn (fun hz => ?_) (fun hz => ?_)
        · exact h2 (hp.trans (by show (!decide (r = (x, z))) = false; rw [decide_eq_true hz]; rfl)) _ .refl
        · walk_at "rd_2"
          exact h1 (hp.trans (by show (!decide (r = (x, z))) = true; rw [decide_eq_false hz]; rfl)) _ _ .refl rfl
      · have hus2 : us = ox.filter (pIm H ssD fun p => !decide (p = (x, z))) := by
          have key : ∀ {us vs : List V}, PySem.W.EachIs (fun v x => v = x) us vs → us = vs := by
            intro us vs h
            induction h with
            | nil => rfl
            | cons a b ih => rw [a, ih]
          exact key hus
        have him : ImAll H us ((s.on.filter fun p => !decide (p = (x, z))).map ssD) := by
          rw [hus2]
          have key : ∀ {xs : List V} {as : List (Str × Str)}, PySem.W.EachIs (fun x a => Im H x (ssD a)) xs as → ImAll H xs (as.map ssD) := by
            intro xs as h
            induction h with
            | nil => exact .nil
            | cons a b ih => exact .cons a ih
          exact key (each_filter (c := fun p : Str × Str => !decide (p = (x, z))) (fun a b => ssD_inj) hoi)
        walk_at "rd_2"
        refine rd_tupA T hD fun to H3 nto e3 hto => ?_
        walk_at "rd_2"
        refine ⟨by show 2 ≤ sizeLine; decide, fun r nr => ?_⟩
        obtain ⟨_, e4, hr4⟩ := alT (T := T) nr [.ref ia, .ref to]
        generalize upd H3 r _ = H4 at e4 hr4 ⊢
        have e14 := ((e1.trans e2).trans e3).trans e4
        exact q _ H4 e14 ⟨r, ia, .ref to, xs, o, rfl, hr4, frz.x hia e14, hod, hxi.x e14, (Im.tup hto (((him.x e1).x e2).x e3)).x e4⟩
end
section
variable {T : List (Addr × Str)} {P : Program} {w : World} {K : PySem.W.Frag} {mg : Str → Option Value} {base : Heap}
theorem ok_law_server_deed (D : Def K mg "_law_server_deed" s_law_server_deed ["tape", "realm", "state"]) (mb : ∀ x ∈ bltns, mg x = none) (G_law_take : Ok P w K mg base 2 "_law_take" ["tape", "many"] (spTake T)) (G_law_life : Ok P w K mg base 3 "_law_life" ["tape"] (spInt T 1 1000))
    (G_law_item : Ok P w K mg base 1 "_law_item" ["content", "life", "signers"] (spItem T)) : Ok P w K mg base 4 "_law_server_deed" ["tape", "realm", "state"] (spServer T) := by
  refine D.ok sc_law_server_deed (fun vs H Q E h => ?_) (fun cdv f A outer s H vs Q E hr h => ?_)
  · obtain ⟨l, t, v, u, R, s, rfl, _⟩ := h
    rfl
  · obtain ⟨l, t, v, u, R, s, rfl, hT, hv, hR, hR1, hu, hon, q⟩ := h
    refine ⟨_, (pss_cons (ps_setLc (i := 4) (own := [("zone", 3), ("lag", 9)]) (tt := tYes) rfl sc_law_server_deed.nd rfl rfl (sw_true rfl rfl rfl (by decide +kernel)) (pi_seq K rfl (pe_slice (sl_U K rfl) (pe_ix (ix_U K rfl) (pv 1) pe_int (fun _ _ => rfl)) (po_some pe_int) po_none)) (blkOk_by (N := N_law_server_deed) (sc := defScope s_law_server_deed) (by decide +kernel)) (fun _ _ _ _ _ => (pg_tupU (n := 2) K rfl rfl (pgs_cons (pg_name (i := 3) sc_law_server_deed.nd rfl (Or.inl rfl)) (pgs_cons (pg_name (i := 9) sc_law_server_deed.nd rfl (Or.inl rfl)) pgs_nil)))) (fun _ _ _ _ _ => pts_nil) (fun _ _ _ _ _ => (pv 3)))
   (pss_cons (ps_set (i := 3) sc_law_server_deed.nd rfl (.inl rfl) (pe_ix (ix_U K rfl) (pv 4) (pe_callO G_law_take (hr.mono (by decide)) (by rfl) (pa_cons (pv 0) (pa_cons (pe_callB (call_lenU K rfl) (by rfl) (mb _ (by decide)) (by decide +kernel) (pa_cons (pv 4) pa_nil)) pa_nil))) (fun _ _ => rfl)))
   (pss_cons (ps_set (i := 5) sc_law_server_deed.nd rfl (.inl rfl) (pe_ix (ix_U K rfl) (pe_lst (pa_cons pe_str (pa_cons pe_str (pa_cons pe_str (pa_cons pe_str pa_nil))))) (pe_callO G_law_take (hr.mono (by decide)) (by rfl) (pa_cons (pv 0) (pa_cons pe_int pa_nil))) (fun _ _ => rfl)))
   (pss_cons (ps_if (pt_cmpR (op_eqU K rfl hr.units) (pe_callO G_law_take (hr.mono (by decide)) (by rfl) (pa_cons (pv 0) (pa_cons pe_int pa_nil))) pe_int (nomark _)) (pss_cons (ps_set (i := 6) sc_law_server_deed.nd rfl (.inl rfl) (pe_ifExp (pt_cmpR (op_inW K rfl (Room.units65 hr)) (pe_tup (pa_cons (pv 5) (pa_cons (pv 3) pa_nil))) (pe_ix (ix_U K rfl) (pv 2) pe_int (fun _ _ => rfl)) rfl) pe_str pe_str))
   (pss_one (ps_ret (pe_tup (pa_cons (pv 6) (pa_cons (pv 5) (pa_cons (pv 3) pa_nil))))))) pss_nil)
   (pss_cons (ps_set (i := 7) sc_law_server_deed.nd rfl (.inl rfl) (pe_tup (pa_cons pe_str (pa_cons (pv 3) pa_nil))))
   (pss_cons (ps_set (i := 8) sc_law_server_deed.nd rfl (.inl rfl) (pe_ix (ix_U K rfl) (pe_lst (pa_cons (pe_lst (pa_cons pe_str pa_nil)) (pa_cons (pe_lst (pa_cons pe_str pa_nil)) (pa_cons (pe_lst (pa_cons pe_str (pa_cons pe_str pa_nil))) (pa_cons (pe_lst (pa_cons pe_str pa_nil)) (pa_cons (pe_lst (pa_cons pe_str (pa_cons pe_str pa_nil))) pa_nil)))))) (pe_callO G_law_take (hr.mono (by decide)) (by rfl) (pa_cons (pv 0) (pa_cons pe_int pa_nil))) (fun _ _ => rfl)))
   (pss_one (ps_ret (pe_tup (pa_cons pe_str (pa_cons (pv 7) (pa_cons (pe_callO G_law_item (hr.mono (by decide)) (by rfl) (pa_cons (pv 8) (pa_cons (pe_callO G_law_life (hr.mono (by decide)) (by rfl) (pa_cons (pv 0) pa_nil)) (pa_cons (pe_lst pa_nil) pa_nil)))) pa_nil)))))))))))), ?_⟩
    refine rd_seq ?_
    walk_at "rdn_2"
    refine rd_ixI (d := .tuple (R.zs.map siD)) hv rfl fun u1 hu1 => ?_
    obtain ⟨zp, zx, rfl, hzp, hzi⟩ := hu1.tup'
    have hzl : zx.length = R.zs.length := by rw [hzi.len, List.length_map]
    walk_at "rdn_2"
    refine rd_slT (SqP.sq hzp) (fun h => ?_) fun sp nsp => ?_
    · have h0 := h.1
      rw [show HT.sIx zx.length 0 (some 1) = min 1 zx.length from HT.sIx_nat zx.length 0 1] at h0
      omega
    rw [cutV_from (α := V) zx (by decide), show Int.toNat 1 = 1 from rfl]
    obtain ⟨_, e1, hs1⟩ := alT (T := T) nsp (zx.drop 1)
    show ∃ a, _ ∧ ((_ ∧ LcG _ _ _ _ _ _ (upd H sp (.tup (zx.drop 1))) _) ∨ (_ ∧ LcG _ _ _ _ _ _ (upd H sp (.tup (zx.drop 1))) _))
    generalize upd H sp _ = H1 at e1 hs1 ⊢
    have hi1 := (hzi.drop 1).x e1
    have ed : R.zs.drop 1 = R.zs.tail := List.drop_one
    rw [← List.map_drop, ed] at hi1
    generalize zx.drop 1 = ys at hi1 hs1
    refine ⟨sp, rfl, .inr ⟨⟨_, SqT.of hs1⟩, ?_⟩⟩
    have hyl : ys.length = R.zs.tail.length := by rw [hi1.len, List.length_map]
    have htl : R.zs.tail.length ≤ 5 ∧ 0 < R.zs.tail.length := by
      rw [List.length_tail]
      have := hR.len
      omega
    refine lcg_rel T [] walk_tup ys rfl (fun i H x H' y => y) (by simp) (fun H' e => SqT.of (tup.x hs1 e)) (Nat.lt_of_le_of_lt (show ys.length ≤ 100 by omega) (by decide)) (fun _ => true) (fun v x => ∃ r, Im H1 x (siD r) ∧ v = .str r.1) (fun i x hx H' e' R' S h1 h2 => ?_) (fun D H2 us nD e2 hD hus => ?_)
    · obtain ⟨dr, hdr, hxr⟩ := hi1.get' hx
      rw [List.getElem?_map] at hdr
      obtain ⟨r, hr, rfl⟩ := Option.map_eq_some_iff.mp hdr
      refine rd_gpair (d1 := .str r.1) (d2 := .int r.2) (hxr.x e') fun v1 v2 g1 g2 => ?_
      rw [g1.str', g2.int']
      refine ⟨rfl, ?_⟩
      walk_at "rd_2"
      exact h1 rfl _ _ .refl ⟨r, hxr, rfl⟩
    · rw [filtT] at hus
      have hu2 : us = (R.zs.tail.map (·.1)).map V.str := by
        have key : ∀ {us ys : List V} {rs : List (Str × Int)}, ImAll H1 ys (rs.map siD) → PySem.W.EachIs (fun v x => ∃ r, Im H1 x (siD r) ∧ v = .str r.1) us ys → us = (rs.map (·.1)).map V.str := by
          intro us ys rs
          induction rs generalizing us ys with
          | nil =>
            intro h1 h2
            cases h1
            cases h2
            rfl
          | cons r rs ih =>
            intro h1 h2
            cases h1 with
            | cons a b =>
              cases h2 with
              | cons c d =>
                obtain ⟨r', c1, c2⟩ := c
                have e := Im.inj _ _ _ a c1
                injection e with e
                injection e with e _
                injection e with e
                rw [ih b d, c2, List.map_cons, List.map_cons, e]
        exact key hi1 hus
      subst hu2
      have hDn : Nw H D := e1.back (by simp) nD
      have T2 := (hT.ext e1).ext e2
      have e02 := e1.trans e2
      have hDt := (hT.ne hDn).1
      have hu2 := hu.x e02
      clear hv hu hT e1 hi1 hs1 hzp hzi e2
      walk_at "rd_2"
      refine ⟨l, t, _, rfl, ?_, ?_, T2, fun d0 H3 h00 h01 e3 T3 => ?_⟩
      · rw [List.length_map, List.length_map]
        omega
      · rw [List.length_map, List.length_map]
        omega
      have hD3 := lst.y hD e3 hDt
      have hu3 := hu2.y e3 T2
      obtain ⟨c, hc1, hc2, hc3⟩ := at_in (l := (R.zs.tail.map (·.1)).map V.str) h00 h01
      obtain ⟨z, hz, rfl⟩ := List.mem_map.mp hc3
      have hzz := zin hR hz
      refine rd_ixL (SqL.of hD3) hc1 ?_
      walk_at "rd_2"
      refine ⟨by show 4 ≤ sizeLine; decide, fun la nla => ?_⟩
      obtain ⟨nla, e4, hla⟩ := alL (T := T) nla (s4L.map V.str)
      have hlat := (T3.ne nla).1
      show tCall _ _ _ _ _ (upd H3 la (.lst (s4L.map V.str))) _
      generalize upd H3 la _ = H4 at e4 hla ⊢
      have T4 := T3.ext e4
      walk_at "rd_2"
      refine ⟨l, t, 4, rfl, by decide, by decide, T4, fun d1 H5 h10 h11 e5 T5 => ?_⟩
      obtain ⟨c, hc1, hc2, hc3⟩ := at_in (l := s4L.map V.str) h10 (by show d1 < 4; omega)
      obtain ⟨x, hx, rfl⟩ := List.mem_map.mp hc3
      have hxo := s4_ok x hx
      refine rd_ixL (SqL.of (lst.y hla e5 hlat)) hc1 ?_
      have hu5 := (hu3.x e4).y e5 T4
      have e05 := ((e02.any.trans e3).trans e4.any).trans e5
      clear e02 hu2 T2 hD e3 T3 hD3 hu3 e4 T4 hla e5
      walk_at "rd_2"
      refine ⟨l, t, 2, rfl, by decide, by decide, T5, fun d2 H6 h20 h21 e6 T6 => ?_⟩
      have hu6 := hu5.y e6 T5
      have e06 := e05.trans e6
      walk_at "rd_2"
      refine rd_ite (fun hd => ?_) (fun hd => ?_)
      · walk_at "rd_2"
        refine ⟨by show 2 ≤ sizeLine; decide, fun tr ntr => ?_⟩
        obtain ⟨_, e7, htr⟩ := alT (T := T) ntr [.str x, .str z]
        show tOp _ _ _ _ (upd H6 tr (.tup [.str x, .str z])) _
        generalize upd H6 tr _ = H7 at e7 htr ⊢
        have hu7 := hu6.x e7
        obtain ⟨a, ia, oa, xs, o, rfl, ha, hia, hod, hxi, hoa⟩ := hu7
        walk_at "rd_2"
        refine rd_ixT (v := oa) (SqT.of ha) rfl ?_
        have hrow : Im H7 (.ref tr) (ssD (x, z)) := Im.new2 (.str _ (id_ok hxo)) (.str _ (name_ok hzz.1)) htr
        have hdep : PyData.depth (.tuple (s.on.map ssD)) ≤ 64 := by
          show PyData.depthAll (s.on.map ssD) + 1 ≤ 64
          have := dep_map dep_ss s.on
          omega
        refine rd_inWI (b := decide ((x, z) ∈ s.on)) hrow hoa (Nat.le_trans (dep_ss _) (by decide)) hdep (mem_ssD.trans decide_eq_true_iff.symm) ?_
        refine ⟨_, rfl, ?_⟩
        have e07 := e06.trans e7.any
        have T7 := T6.ext e7
        refine rd_ite (fun hin => ?_) (fun hin => ?_)
        · walk_at "rd_2"
          refine ⟨by show 3 ≤ sizeLine; decide, fun r nr => ?_⟩
          obtain ⟨_, e8, hr8⟩ := alT (T := T) nr [.str (Str.ofString "off"), .str x, .str z]
          generalize upd H7 r _ = H8 at e8 hr8 ⊢
          exact q _ (.off x z) H8 ⟨hxo, hz⟩ hin (.new3 (.str _ (by decide +kernel)) (.str _ (id_ok hxo)) (.str _ (name_ok hzz.1)) hr8) (e07.trans e8.any) (T7.ext e8)
        · walk_at "rd_2"
          refine ⟨by show 3 ≤ sizeLine; decide, fun r nr => ?_⟩
          obtain ⟨_, e8, hr8⟩ := alT (T := T) nr [.str (Str.ofString "on"), .str x, .str z]
          generalize upd H7 r _ = H8 at e8 hr8 ⊢
          exact q _ (.on x z) H8 ⟨hxo, hz⟩ hin (.new3 (.str _ (by decide +kernel)) (.str _ (id_ok hxo)) (.str _ (name_ok hzz.1)) hr8) (e07.trans e8.any) (T7.ext e8)
      · walk_at "rd_2"
        refine ⟨by show 2 ≤ sizeLine; decide, fun tr ntr => ?_⟩
        obtain ⟨_, e7, htr⟩ := alT (T := T) ntr [.str (Str.ofString "hosts"), .str z]
        show gName 7 _ _ (upd H6 tr (.tup [.str (Str.ofString "hosts"), .str z])) _
        generalize upd H6 tr _ = H7 at e7 htr ⊢
        have T7 := T6.ext e7
        have e07 := e06.trans e7.any
        have hslo : Im H7 (.ref tr) (slD (.h z)) := Im.new2 (.str _ kw_ok.2.2.1) (.str _ (name_ok hzz.1)) htr
        walk_at "rd_2"
        refine ⟨by show 1 ≤ sizeLine; decide, fun a1 n1 => ?_⟩
        obtain ⟨m1, x1, h1⟩ := alL (T := T) n1 [.str (Str.ofString "s1")]
        show tCons _ _ _ (upd H7 a1 (.lst [.str (Str.ofString "s1")])) _
        generalize upd H7 a1 _ = G1 at x1 h1 ⊢
        walk_at "rd_2"
        refine ⟨by show 1 ≤ sizeLine; decide, fun a2 n2 => ?_⟩
        obtain ⟨m2, x2, h2⟩ := alL (T := T) n2 [.str (Str.ofString "s2")]
        show tCons _ _ _ (upd G1 a2 (.lst [.str (Str.ofString "s2")])) _
        generalize upd G1 a2 _ = G2 at x2 h2 ⊢
        walk_at "rd_2"
        refine ⟨by show 2 ≤ sizeLine; decide, fun a3 n3 => ?_⟩
        obtain ⟨m3, x3, h3⟩ := alL (T := T) n3 [.str (Str.ofString "s1"), .str (Str.ofString "s3")]
        show tCons _ _ _ (upd G2 a3 (.lst [.str (Str.ofString "s1"), .str (Str.ofString "s3")])) _
        generalize upd G2 a3 _ = G3 at x3 h3 ⊢
        walk_at "rd_2"
        refine ⟨by show 1 ≤ sizeLine; decide, fun a4 n4 => ?_⟩
        obtain ⟨m4, x4, h4⟩ := alL (T := T) n4 [.str (Str.ofString "s3")]
        show tCons _ _ _ (upd G3 a4 (.lst [.str (Str.ofString "s3")])) _
        generalize upd G3 a4 _ = G4 at x4 h4 ⊢
        walk_at "rd_2"
        refine ⟨by show 2 ≤ sizeLine; decide, fun a5 n5 => ?_⟩
        obtain ⟨m5, x5, h5⟩ := alL (T := T) n5 [.str (Str.ofString "s2"), .str (Str.ofString "t9")]
        show tNil _ (upd G4 a5 (.lst [.str (Str.ofString "s2"), .str (Str.ofString "t9")])) _
        generalize upd G4 a5 _ = G5 at x5 h5 ⊢
        walk_at "rd_2"
        refine ⟨by show 5 ≤ sizeLine; decide, fun a6 n6 => ?_⟩
        obtain ⟨m6, x6, h6⟩ := alL (T := T) n6 [.ref a1, .ref a2, .ref a3, .ref a4, .ref a5]
        show tCall _ _ _ _ _ (upd G5 a6 (.lst [.ref a1, .ref a2, .ref a3, .ref a4, .ref a5])) _
        generalize upd G5 a6 _ = G6 at x6 h6 ⊢
        have T1' := T7.ext x1
        have T2' := T1'.ext x2
        have T3' := T2'.ext x3
        have T4' := T3'.ext x4
        have T5' := T4'.ext x5
        have T6' := T5'.ext x6
        have xx := ((((x1.trans x2).trans x3).trans x4).trans x5).trans x6
        walk_at "rd_2"
        refine ⟨l, t, 5, rfl, by decide, by decide, T6', fun d3 G7 h30 h31 x7 T7' => ?_⟩
        have h67 := lst.y h6 x7 (T5'.ne m6).1
        have slo7 := (hslo.x xx).y x7 T6'
        have e0g := (e07.trans xx.any).trans x7
        have pick : ∃ (ca : Addr) (cs : List Str), cs ∈ hostL ∧ G7 ca = some (.lst (cs.map V.str)) ∧ atI [V.ref a1, .ref a2, .ref a3, .ref a4, .ref a5] d3 = some (.ref ca) := by
          obtain ⟨c, hc1, hc2⟩ := at_inV (xs := [V.ref a1, .ref a2, .ref a3, .ref a4, .ref a5]) h30 (by show d3 < 5; omega)
          have hm := List.mem_of_getElem? hc2
          simp only [List.mem_cons, List.not_mem_nil, or_false] at hm
          rcases hm with rfl | rfl | rfl | rfl | rfl
          · exact ⟨a1, ["s1"], by simp [hostL], lst.y (lst.x (lst.x (lst.x (lst.x (lst.x h1 x2) x3) x4) x5) x6) x7 (T7.ne m1).1, hc1⟩
          · exact ⟨a2, ["s2"], by simp [hostL], lst.y (lst.x (lst.x (lst.x (lst.x h2 x3) x4) x5) x6) x7 (T1'.ne m2).1, hc1⟩
          · exact ⟨a3, ["s1", "s3"], by simp [hostL], lst.y (lst.x (lst.x (lst.x h3 x4) x5) x6) x7 (T2'.ne m3).1, hc1⟩
          · exact ⟨a4, ["s3"], by simp [hostL], lst.y (lst.x (lst.x h4 x5) x6) x7 (T3'.ne m4).1, hc1⟩
          · exact ⟨a5, ["s2", "t9"], by simp [hostL], lst.y (lst.x h5 x6) x7 (T4'.ne m5).1, hc1⟩
        obtain ⟨ca, cs, hcs, hca, hat⟩ := pick
        obtain ⟨hc1, hc2, hc3⟩ := host_ok cs hcs
        have hct : ca ≠ t := fun e => by
          obtain ⟨ns', pos, rs', st', bud, q1, _⟩ := T7'
          rw [e, q1] at hca
          injection hca with hca
          injection hca with hca
          match cs, hca with
          | [], hca => cases hca
          | y :: cs, hca =>
            rw [List.map_cons] at hca
            injection hca with hca _
            cases hca
        refine rd_ixL (SqL.of h67) hat ?_
        walk_at "rd_2"
        refine ⟨l, t, rfl, T7', fun li G8 hl0 hl1 x8 T8' => ?_⟩
        have hca8 := lst.y hca x8 hct
        have slo8 := slo7.y x8 T7'
        walk_at "rd_2"
        refine ⟨by show 0 ≤ sizeLine; decide, fun ea nea => ?_⟩
        obtain ⟨_, x9, h9⟩ := alL (T := T) nea []
        refine rd_nil ?_
        generalize upd G8 ea _ = G9 at x9 h9 ⊢
        refine ⟨ca, ea, cs, [], li, rfl, lst.x hca8 x9, h9, hc2, by simp, fun y G10 x10 hy => ?_⟩
        walk_at "rd_2"
        refine ⟨by show 3 ≤ sizeLine; decide, fun r nr => ?_⟩
        obtain ⟨_, x11, h11⟩ := alT (T := T) nr [.str (Str.ofString "put"), .ref tr, y]
        generalize upd G10 r _ = G11 at x11 h11 ⊢
        refine q _ (.put (.h z) ⟨srtS cs, li, srtS [], 0, 10000⟩) G11 ⟨hzz.2, ⟨cs, rfl, hc1, hc2, hc3⟩, ⟨[], rfl, by simp, by simp, by simp⟩, ⟨hl0, hl1⟩, ⟨show (0 : Int) ≤ 0 by decide, show (0 : Int) ≤ 10000 by decide, show (10000 : Int) ≤ 10000 by decide⟩, fun _ _ => ⟨srtS_nil, rfl, rfl⟩, fun z e => by cases e⟩ trivial ?_ ((((e0g.trans x8).trans x9.any).trans x10.any).trans x11.any) (((T8'.ext x9).ext x10).ext x11)
        exact .new3 (.str _ (by decide +kernel)) (((slo8.x x9).x x10).x x11) (hy.x x11) h11
end
section
variable {T : List (Addr × Str)} {P : Program} {w : World} {K : PySem.W.Frag} {mg : Str → Option Value} {base : Heap}
theorem cut_ne {ks : List Str} (h : ks.length = 3) : ks.take 2 ≠ [] ∧ (ks.take 2).drop 1 ≠ [] ∧ ks.take 3 ≠ [] := by
  match ks, h with
  | [a, b, c], _ => exact ⟨by simp, by simp, by simp⟩
theorem at_one {α : Type} (x y : α) (l : List α) : atI (x :: y :: l) 1 = some y := atI_nat (j := 1) rfl
theorem ok_law_mixed (D : Def K mg "_law_mixed" s_law_mixed ["tape", "realm", "pools", "slot", "item"]) (mb : ∀ x ∈ bltns, mg x = none) (G_law_take : Ok P w K mg base 2 "_law_take" ["tape", "many"] (spTake T)) (G_law_life : Ok P w K mg base 3 "_law_life" ["tape"] (spInt T 1 1000))
    (G_law_home : Ok P w K mg base 2 "_law_home" ["realm", "slot"] (spHome T)) (G_law_pool : Ok P w K mg base 1 "_law_pool" ["pools", "zone"] (spPool T)) (G_law_ids : Ok P w K mg base 4 "_law_ids" ["tape", "many"] (spIds T)) :
    Ok P w K mg base 5 "_law_mixed" ["tape", "realm", "pools", "slot", "item"] (spMixed T) := by
  refine D.ok sc_law_mixed (fun vs H Q E h => ?_) (fun cdv f A outer s H vs Q E hr h => ?_)
  · obtain ⟨l, t, pa, v, u, x, R, ps, sl, i, rfl, _⟩ := h
    rfl
  · obtain ⟨l, t, pa, v, u, x, R, ps, sl, i, rfl, hT, hv, hR, hP, hps, hu, hs, hnh, hx, hi, q⟩ := h
    refine ⟨_, (pss_cons (ps_set (i := 5) sc_law_mixed.nd rfl (.inl rfl) (pe_callO G_law_pool (hr.mono (by decide)) (by rfl) (pa_cons (pv 2) (pa_cons (pe_callO G_law_home (hr.mono (by decide)) (by rfl) (pa_cons (pv 1) (pa_cons (pv 3) pa_nil))) pa_nil))))
   (pss_cons (ps_set (i := 6) sc_law_mixed.nd rfl (.inl rfl) (pe_ifExp (pt_cmpR (op_eqU K rfl hr.units) (pe_ix (ix_U K rfl) (pv 3) pe_int (fun _ _ => rfl)) pe_str (nomark _)) (pe_callO G_law_pool (hr.mono (by decide)) (by rfl) (pa_cons (pv 2) (pa_cons (pe_ix (ix_U K rfl) (pv 3) pe_int (fun _ _ => rfl)) pa_nil))) (pv 5)))
   (pss_cons (ps_set (i := 7) sc_law_mixed.nd rfl (.inl rfl) (pe_callTy (call_listU K rfl) (by rfl) (mb _ (by decide)) (by decide +kernel) (pa_cons (pe_ix (ix_U K rfl) (pv 4) pe_int (fun _ _ => rfl)) pa_nil)))
   (pss_cons (ps_set (i := 8) sc_law_mixed.nd rfl (.inl rfl) (pe_callTy (call_listU K rfl) (by rfl) (mb _ (by decide)) (by decide +kernel) (pa_cons (pe_ix (ix_U K rfl) (pv 4) pe_int (fun _ _ => rfl)) pa_nil)))
   (pss_cons (ps_set (i := 9) sc_law_mixed.nd rfl (.inl rfl) (pe_callO G_law_take (hr.mono (by decide)) (by rfl) (pa_cons (pv 0) (pa_cons pe_int pa_nil))))
   (pss_cons (ps_if (pt_cmpR (op_eqU K rfl hr.units) (pe_ix (ix_U K rfl) (pv 3) pe_int (fun _ _ => rfl)) pe_str (nomark _)) (pss_cons (ps_set (i := 7) sc_law_mixed.nd rfl (.inl rfl) (pe_ifExp (pt_cmpR (op_eqU K rfl hr.units) (pv 9) pe_int (nomark _)) (pe_callO G_law_ids (hr.mono (by decide)) (by rfl) (pa_cons (pv 0) (pa_cons (pe_callO G_law_take (hr.mono (by decide)) (by rfl) (pa_cons (pv 0) (pa_cons pe_int pa_nil))) pa_nil))) (pv 7)))
   (pss_one (ps_set (i := 8) sc_law_mixed.nd rfl (.inl rfl) (pe_ix (ix_U K rfl) (pe_lst (pa_cons (pe_slice (sl_U K rfl) (pv 5) po_none (po_some pe_int)) (pa_cons (pe_slice (sl_U K rfl) (pv 5) (po_some pe_int) (po_some pe_int)) (pa_cons (pe_slice (sl_U K rfl) (pv 5) po_none (po_some pe_int)) (pa_cons (pe_slice (sl_U K rfl) (pv 5) (po_some pe_int) (po_some pe_int)) (pa_cons (pv 8) (pa_cons (pe_slice (sl_U K rfl) (pv 5) po_none (po_some pe_int)) pa_nil))))))) (pe_callO G_law_take (hr.mono (by decide)) (by rfl) (pa_cons (pv 0) (pa_cons pe_int pa_nil))) (fun _ _ => rfl))))) (pss_one (ps_if (pt_cmpR op_lt (pv 9) pe_int (nomark _)) (pss_one (ps_set (i := 7) sc_law_mixed.nd rfl (.inl rfl) (pe_ix (ix_U K rfl) (pe_lst (pa_cons (pe_slice (sl_U K rfl) (pv 6) po_none (po_some pe_int)) (pa_cons (pe_slice (sl_U K rfl) (pv 6) (po_some pe_int) (po_some pe_int)) (pa_cons (pe_slice (sl_U K rfl) (pv 6) po_none (po_some pe_int)) pa_nil)))) (pv 9) (fun _ _ => rfl)))) (pss_one (ps_if (pt_cmpR (op_eqU K rfl hr.units) (pv 9) pe_int (nomark _)) (pss_one (ps_set (i := 7) sc_law_mixed.nd rfl (.inl rfl) (pe_op (op_plus K rfl) (pe_slice (sl_U K rfl) (pv 6) (po_some pe_int) (po_some pe_int)) (pe_slice (sl_U K rfl) (pv 6) (po_some pe_int) (po_some pe_int))))) pss_nil)))))
   (pss_cons (ps_if (PW.pt (pw_and (pt_cmpR (op_neU K rfl hr.units) (pe_ix (ix_U K rfl) (pv 3) pe_int (fun _ _ => rfl)) pe_str (nomark _)) (pw_and1 (pt_cmpR (op_eqU K rfl hr.units) (pe_callO G_law_take (hr.mono (by decide)) (by rfl) (pa_cons (pv 0) (pa_cons pe_int pa_nil))) pe_int (nomark _))))) (pss_one (ps_set (i := 8) sc_law_mixed.nd rfl (.inl rfl) (pe_ix (ix_U K rfl) (pe_lst (pa_cons (pe_slice (sl_U K rfl) (pv 5) po_none (po_some pe_int)) (pa_cons (pe_slice (sl_U K rfl) (pv 5) (po_some pe_int) (po_some pe_int)) (pa_cons (pe_slice (sl_U K rfl) (pv 5) po_none (po_some pe_int)) pa_nil)))) (pe_callO G_law_take (hr.mono (by decide)) (by rfl) (pa_cons (pv 0) (pa_cons pe_int pa_nil))) (fun _ _ => rfl)))) pss_nil)
   (pss_cons (ps_set (i := 10) sc_law_mixed.nd rfl (.inl rfl) (pe_ifExp (pt_cmpR (op_eqU K rfl hr.units) (pe_callO G_law_take (hr.mono (by decide)) (by rfl) (pa_cons (pv 0) (pa_cons pe_int pa_nil))) pe_int (nomark _)) (pe_ix (ix_U K rfl) (pv 4) pe_int (fun _ _ => rfl)) (pe_callO G_law_life (hr.mono (by decide)) (by rfl) (pa_cons (pv 0) pa_nil))))
   (pss_one (ps_ret (pe_tup (pa_cons (pe_callTy (call_tupU K rfl) (by rfl) (mb _ (by decide)) (by decide +kernel) (pa_cons (pe_callB (call_sortedU K rfl hr.units) (by rfl) (mb _ (by decide)) (by decide +kernel) (pa_cons (pv 7) pa_nil)) pa_nil)) (pa_cons (pv 10) (pa_cons (pe_callTy (call_tupU K rfl) (by rfl) (mb _ (by decide)) (by decide +kernel) (pa_cons (pe_callB (call_sortedU K rfl hr.units) (by rfl) (mb _ (by decide)) (by decide +kernel) (pa_cons (pv 8) pa_nil)) pa_nil)) (pa_cons (pe_ix (ix_U K rfl) (pv 4) pe_int (fun _ _ => rfl)) (pa_cons (pe_ix (ix_U K rfl) (pv 4) pe_int (fun _ _ => rfl)) pa_nil)))))))))))))))), ?_⟩
    refine rd_seq ?_
    walk_at "rdn_2"
    refine ⟨v, u, R, sl, rfl, hv, hu, hR, hs, fun H1 e1 hh => ?_⟩
    have hpn : (ps.map (·.1)).Nodup := by rw [hps.nm]; exact hR.nd
    have hpl : ps.length ≤ 6 := by
      have := congrArg List.length hps.nm
      rw [List.length_map, List.length_map] at this
      have := hR.len
      omega
    have pick : ∀ z ∈ R.zs.map (·.1), ∃ ks, (z, ks) ∈ ps := fun z hz => by
      rw [← hps.nm] at hz
      obtain ⟨p, hp, e⟩ := List.mem_map.mp hz
      exact ⟨p.2, by rw [← e]; exact hp⟩
    obtain ⟨ks, hks⟩ := pick _ hh
    have hP1 := hP.ext0 e1
    walk_at "rdn_2"
    refine ⟨t, pa, ps, _, ks, rfl, hP1, hpl, hpn, hks, fun oa H2 hot hoa e2 => ?_⟩
    have cl : ∀ (z : Str) (k2 : List Str) (H' : Hp) (b : Addr), (z, k2) ∈ ps → H' b = some (.lst (k2.map V.str)) → b ≠ t → CL H' t b 3 k2 := fun z k2 H' b hm hb hn => ⟨hb, hn, hps.nd _ hm, hps.ok _ hm, Nat.le_of_eq (hps.len _ hm)⟩
    have ho2 := cl _ ks H2 oa hks (lst.x hoa e2) hot
    have e02 := e1.trans e2
    have T2 := hT.ext e02
    have hu2 := hu.x e02
    have hx2 := hx.x e02
    have hP2 := hP1.ext0 e2
    clear hoa hP1 hP hT e1 e2
    obtain ⟨kw, zz, rr, hsl, hkl, hks', hzz⟩ := sl_word sl
    rw [hsl] at hu hu2
    walk_at "rdn_2"
    -- the keys
    refine rd_cut (fun σ H3 => Ext T [] H2 H3 ∧ ∃ (ka : Addr) (k2 : List Str), σ = [some (.ref t), some v, some (.ref pa), some u, some x, some (.ref oa), some (.ref ka), none, none, none, none] ∧ CL H3 t ka 3 k2 ∧ k2.length = 3) (fun nx' hnx => ?_) (fun σ H3 h => ?_)
    · walk_at "rd_2"
      refine rd_ixSs hu2 (at_zero _ _) ?_
      walk_at "rd_2"
      refine rd_ite (fun hk => ?_) (fun hk => ?_)
      · walk_at "rd_2"
        refine rd_ixSs (z := zz) hu2 (at_one _ _ _) ?_
        walk_at "rd_2"
        obtain ⟨z, rfl⟩ := hkl.mp hk
        have hz := hzz z rfl
        subst hz
        have hzm : zz ∈ R.zs.map (·.1) := by
          unfold slotsR at hs
          rcases List.mem_append.mp hs with hs | hs
          · rcases List.mem_cons.mp hs with hs | hs
            · cases hs
            · obtain ⟨y, hy, h⟩ := List.mem_flatMap.mp hs
              simp at h
              rw [h]
              exact List.mem_map_of_mem (List.mem_of_mem_tail hy)
          · obtain ⟨p, _, h⟩ := List.mem_map.mp hs
            cases h
        obtain ⟨k2, hk2⟩ := pick _ hzm
        refine ⟨t, pa, ps, zz, k2, rfl, hP2, hpl, hpn, hk2, fun pa2 H3 hpt2 hpa2 e3 => ?_⟩
        walk_at "rd_2"
        exact hnx _ _ ⟨e3, pa2, k2, rfl, cl _ _ _ _ hk2 (lst.x hpa2 e3) hpt2, hps.len _ hk2⟩
      · walk_at "rd_2"
        exact hnx _ _ ⟨.refl, oa, ks, rfl, ho2, hps.len _ hks⟩
    · obtain ⟨e3, ka, k2, rfl, hk3, hk3l⟩ := h
      have T3 := T2.ext e3
      have hu3 := hu2.x e3
      have hx3 := hx2.x e3
      have ho3 := ho2.x e3
      have e03 := e02.trans e3
      clear e02 T2 hu2 hx2 ho2 e3 hP2
      have hx3 : Im H3 x (.tuple [.tuple (i.c.map .str), .int i.li, .tuple (i.g.map .str), .int i.a, .int i.b]) := hx3
      obtain ⟨ic1, ic2, ic3⟩ := itm_c hi
      obtain ⟨ig1, ig2, ig3⟩ := itm_g hi
      refine rd_seq ?_
      walk_at "rdn_2"
      refine rd_ixI (d := .tuple (i.c.map .str)) hx3 rfl fun u1 hu1 => ?_
      obtain ⟨ct, cx, rfl, hct, hcx⟩ := hu1.tup'
      have hcx2 := hcx.strs'
      subst hcx2
      walk_at "rdn_2"
      refine rd_listA T (SqP.sq hct) fun ca H4 nca e4 hca => ?_
      have hc4 : CL H4 t ca 4 i.c := ⟨hca, (T3.ne nca).1, ic1, ic2, ic3⟩
      have T4 := T3.ext e4
      have hk4 := hk3.x e4
      have hu4 := hu3.x e4
      have hx4 := hx3.x e4
      have ho4 := ho3.x e4
      have e04 := e03.trans e4
      clear hct hcx hca hu1 e03 T3 hk3 hu3 hx3 ho3 e4
      walk_at "rdn_2"
      refine rd_seq ?_
      walk_at "rdn_2"
      refine rd_ixI (d := .tuple (i.g.map .str)) hx4 rfl fun u1 hu1 => ?_
      obtain ⟨ct, cx, rfl, hct, hcx⟩ := hu1.tup'
      have hcx2 := hcx.strs'
      subst hcx2
      walk_at "rdn_2"
      refine rd_listA T (SqP.sq hct) fun sa H5 nsa e5 hsa => ?_
      have hs5 : CL H5 t sa 3 i.g := ⟨hsa, (T4.ne nsa).1, ig1, ig2, ig3⟩
      have T5 := T4.ext e5
      have hc5 := hc4.x e5
      have hk5 := hk4.x e5
      have hu5 := hu4.x e5
      have hx5 := hx4.x e5
      have ho5 := ho4.x e5
      have e05 := e04.trans e5
      clear hct hcx hsa hu1 e04 T4 hc4 hk4 hu4 hx4 ho4 e5
      walk_at "rdn_2"
      refine rd_seq ?_
      walk_at "rdn_2"
      refine ⟨l, t, 6, rfl, by decide, by decide, T5, fun d H6 h0 h1 e6 T6 => ?_⟩
      have hs6 := hs5.y e6
      have hc6 := hc5.y e6
      have hk6 := hk5.y e6
      have hu6 := hu5.y e6 T5
      have hx6 := hx5.y e6 T5
      have ho6 := ho5.y e6
      have e06 := e05.any.trans e6
      clear e05 T5 hs5 hc5 hk5 hu5 hx5 ho5 e6
      walk_at "rdn_2"
      refine rd_cut (fun σ H7 => Ext T [t] H H7 ∧ Tape l H7 t ∧ ∃ (ca sa : Addr) (cs gs : List Str), σ = [some (.ref t), some v, some (.ref pa), some u, some x, some (.ref oa), some (.ref ka), some (.ref ca), some (.ref sa), some (.int d), none] ∧ (∀ z, sl = .k z → cs ≠ []) ∧ CL H7 t ca 4 cs ∧ CL H7 t sa 3 gs ∧ Im H7 u (.tuple (.str kw :: .str zz :: rr)) ∧ Im H7 x (.tuple [.tuple (i.c.map .str), .int i.li, .tuple (i.g.map .str), .int i.a, .int i.b]) ∧ CL H7 t oa 3 ks) (fun nx' hnx => ?_) (fun σ H7 h => ?_)
      · walk_at "rd_2"
        refine rd_ixSs hu6 (at_zero _ _) ?_
        walk_at "rd_2"
        refine rd_ite (fun hk => ?_) (fun hk => ?_)
        · -- a set
          refine rd_cut (fun σ H7 => Ext T [t] H H7 ∧ Tape l H7 t ∧ ∃ (ca : Addr) (cs : List Str), σ = [some (.ref t), some v, some (.ref pa), some u, some x, some (.ref oa), some (.ref ka), some (.ref ca), some (.ref sa), some (.int d), none] ∧ CL H7 t ca 4 cs ∧ CL H7 t sa 3 i.g ∧ Im H7 u (.tuple (.str kw :: .str zz :: rr)) ∧ Im H7 x (.tuple [.tuple (i.c.map .str), .int i.li, .tuple (i.g.map .str), .int i.a, .int i.b]) ∧ CL H7 t oa 3 ks) (fun nx2 hnx2 => ?_) (fun σ H7 h => ?_)
          · walk_at "rd_2"
            refine rd_ite (fun hd => ?_) (fun hd => ?_)
            · walk_at "rd_2"
              refine ⟨l, t, 5, rfl, by decide, by decide, T6, fun d2 H7 h20 h21 e7 T7 => ?_⟩
              walk_at "rd_2"
              refine ⟨l, t, d2, rfl, h20, by omega, T7, fun ca2 ids H8 nca2 hil hin hid hca2 e8 T8 => ?_⟩
              walk_at "rd_2"
              have e78 := e7.trans e8
              exact hnx2 _ _ ⟨e06.trans e78, T8, ca2, ids, rfl, ⟨hca2, (T7.ne nca2).1, hin, hid, by omega⟩, hs6.y e78, hu6.y e78 T6, hx6.y e78 T6, ho6.y e78⟩
            · walk_at "rd_2"
              exact hnx2 _ _ ⟨e06, T6, ca, i.c, rfl, hc6, hs6, hu6, hx6, ho6⟩
          · obtain ⟨e7, T7, ca, cs, rfl, hc7, hs7, hu7, hx7, ho7⟩ := h
            walk_at "rd_2"
            refine ho7.take (T := T) T7 (by decide) fun p1 G1 _ x1 g1 => ?_
            walk_at "rd_2"
            refine (ho7.x x1).mid (T := T) (T7.ext x1) (by decide) (by decide) fun p2 G2 _ x2 g2 => ?_
            walk_at "rd_2"
            have x12 := x1.trans x2
            refine (ho7.x x12).take (T := T) (T7.ext x12) (by decide) fun p3 G3 _ x3 g3 => ?_
            walk_at "rd_2"
            have x13 := x12.trans x3
            refine (ho7.x x13).mid (T := T) (T7.ext x13) (by decide) (by decide) fun p4 G4 _ x4 g4 => ?_
            walk_at "rd_2"
            have x14 := x13.trans x4
            refine (ho7.x x14).take (T := T) (T7.ext x14) (by decide) fun p5 G5 _ x5 g5 => ?_
            walk_at "rd_2"
            have x15 := x14.trans x5
            refine ⟨by show 6 ≤ sizeLine; decide, fun la nla => ?_⟩
            obtain ⟨nla, x6, g6⟩ := alL (T := T) nla ([p1, p2, p3, p4, sa, p5].map V.ref)
            show tCall _ _ _ _ _ (upd G5 la (.lst ([p1, p2, p3, p4, sa, p5].map V.ref))) _
            generalize upd G5 la _ = G6 at x6 g6 ⊢
            have x16 := x15.trans x6
            have T16 := T7.ext x16
            have hlt := ((T7.ext x15).ne nla).1
            walk_at "rd_2"
            refine ⟨l, t, 6, rfl, by decide, by decide, T16, fun d2 G7 h20 h21 x7 T17 => ?_⟩
            obtain ⟨a, gs, ha1, ha2⟩ := pick_cl (H := G7) (t := t) (n := 3) (as := [p1, p2, p3, p4, sa, p5]) (fun a ha => by
              simp only [List.mem_cons, List.not_mem_nil, or_false] at ha
              rcases ha with rfl | rfl | rfl | rfl | rfl | rfl
              · exact ⟨_, (((((g1.x x2).x x3).x x4).x x5).x x6).y x7⟩
              · exact ⟨_, ((((g2.x x3).x x4).x x5).x x6).y x7⟩
              · exact ⟨_, (((g3.x x4).x x5).x x6).y x7⟩
              · exact ⟨_, ((g4.x x5).x x6).y x7⟩
              · exact ⟨_, (hs7.x x16).y x7⟩
              · exact ⟨_, (g5.x x6).y x7⟩) h20 (by show d2 < 6; omega)
            refine rd_ixL (SqL.of (lst.y g6 x7 hlt)) ha1 ?_
            walk_at "rd_2"
            exact hnx _ _ ⟨(e7.trans x16.any).trans x7, T17, ca, a, cs, gs, rfl, (fun z e => by obtain ⟨n, k, e2⟩ := hks'.mp hk; rw [e] at e2; cases e2), (hc7.x x16).y x7, ha2, (hu7.x x16).y x7 T16, (hx7.x x16).y x7 T16, (ho7.x x16).y x7⟩
        · walk_at "rd_2"
          refine rd_ite (fun hd => ?_) (fun hd => ?_)
          · walk_at "rd_2"
            refine hk6.take (T := T) T6 (by decide) fun p1 G1 _ x1 g1 => ?_
            walk_at "rd_2"
            refine (hk6.x x1).mid (T := T) (T6.ext x1) (by decide) (by decide) fun p2 G2 _ x2 g2 => ?_
            walk_at "rd_2"
            have x12 := x1.trans x2
            refine (hk6.x x12).take (T := T) (T6.ext x12) (by decide) fun p3 G3 _ x3 g3 => ?_
            walk_at "rd_2"
            have x13 := x12.trans x3
            refine ⟨by show 3 ≤ sizeLine; decide, fun la nla => ?_⟩
            obtain ⟨nla, x6, g6⟩ := alL (T := T) nla ([p1, p2, p3].map V.ref)
            show tVar _ _ (upd G3 la (.lst ([p1, p2, p3].map V.ref))) _
            generalize upd G3 la _ = G6 at x6 g6 ⊢
            have x16 := x13.trans x6
            walk_at "rd_2"
            obtain ⟨a, gs, ha1, ha2, hga⟩ := pick_clP (p := fun gs => gs ≠ []) (H := G6) (t := t) (n := 3) (as := [p1, p2, p3]) (fun a ha => by
              simp only [List.mem_cons, List.not_mem_nil, or_false] at ha
              rcases ha with rfl | rfl | rfl
              · exact ⟨_, ((g1.x x2).x x3).x x6, (cut_ne hk3l).1⟩
              · exact ⟨_, (g2.x x3).x x6, (cut_ne hk3l).2.1⟩
              · exact ⟨_, g3.x x6, (cut_ne hk3l).2.2⟩) h0 (by show d < 3; omega)
            refine rd_ixL (SqL.of g6) ha1 ?_
            walk_at "rd_2"
            exact hnx _ _ ⟨e06.trans x16.any, T6.ext x16, a, sa, gs, i.g, rfl, fun _ _ => hga, ha2.wide (by decide), hs6.x x16, hu6.x x16, hx6.x x16, ho6.x x16⟩
          · walk_at "rd_2"
            refine rd_ite (fun hd3 => ?_) (fun hd3 => ?_)
            · walk_at "rd_2"
              refine hk6.mid (T := T) T6 (by decide) (by decide) fun p1 G1 np1 x1 g1 => ?_
              walk_at "rd_2"
              refine (hk6.x x1).mid (T := T) (T6.ext x1) (by decide) (by decide) fun p2 G2 np2 x2 g2 => ?_
              have g1' := g1.x x2
              refine rd_catA T g1'.at_ g2.at_ ?_ fun p3 G3 np3 x3 hp3 => ?_
              · rw [List.length_map, List.length_map]
                have := g1'.len
                have := g2.len
                omega
              walk_at "rd_2"
              have x13 := (x1.trans x2).trans x3
              rw [← List.map_append] at hp3
              refine hnx _ _ ⟨e06.trans x13.any, T6.ext x13, p3, sa, _, i.g, rfl, fun _ _ e => (cut_ne hk3l).2.1 (List.append_eq_nil_iff.mp e).2, ⟨hp3, (((T6.ext x1).ext x2).ne np3).1, ?_, fun y hy => ?_, ?_⟩, hs6.x x13, hu6.x x13, hx6.x x13, ho6.x x13⟩
              · have hn := hk6.nd
                match k2, hn with
                | [], _ => simp
                | [a], _ => simp
                | [a, b], _ => simp
                | a :: b :: c :: r, hn =>
                  simp only [List.nodup_cons, List.mem_cons, not_or] at hn
                  show ([c] ++ [b]).Nodup
                  simp
                  exact fun e => hn.2.1.1 e.symm
              · rcases List.mem_append.mp hy with h | h
                · exact g1.ok y h
                · exact g2.ok y h
              · rw [List.length_append]
                have := hk6.len
                rw [List.length_drop, List.length_take, List.length_drop, List.length_take]
                show min 3 k2.length - 2 + (min 2 k2.length - 1) ≤ 4
                omega
            · walk_at "rd_2"
              exact hnx _ _ ⟨e06, T6, ca, sa, i.c, i.g, rfl, hi.kc, hc6, hs6, hu6, hx6, ho6⟩
      · obtain ⟨e7, T7, ca, sa, cs, gs, rfl, hcn7, hc7, hs7, hu7, hx7, ho7⟩ := h
        clear e06 T6 hs6 hc6 hk6 hu6 hx6 ho6
        refine rd_cut (fun σ H8 => Ext T [t] H H8 ∧ Tape l H8 t ∧ ∃ (sa : Addr) (gs : List Str), σ = [some (.ref t), some v, some (.ref pa), some u, some x, some (.ref oa), some (.ref ka), some (.ref ca), some (.ref sa), some (.int d), none] ∧ CL H8 t ca 4 cs ∧ CL H8 t sa 3 gs ∧ Im H8 x (.tuple [.tuple (i.c.map .str), .int i.li, .tuple (i.g.map .str), .int i.a, .int i.b])) (fun nx' hnx => ?_) (fun σ H8 h => ?_)
        · walk_at "rd_2"
          refine rd_ixSs hu7 (at_zero _ _) ?_
          walk_at "rd_2"
          refine rd_itn (fun hk => ?_) (fun hk => ?_)
          · walk_at "rd_2"
            exact hnx _ _ ⟨e7, T7, sa, gs, rfl, hc7, hs7, hx7⟩
          · walk_at "rd_2"
            refine ⟨l, t, 2, rfl, by decide, by decide, T7, fun d2 H8 h20 h21 e8 T8 => ?_⟩
            have hc8 := hc7.y e8
            have hs8 := hs7.y e8
            have hx8 := hx7.y e8 T7
            have ho8 := ho7.y e8
            have e08 := e7.trans e8
            walk_at "rd_2"
            refine rd_ite (fun hd => ?_) (fun hd => ?_)
            · walk_at "rd_2"
              refine ho8.take (T := T) T8 (by decide) fun p1 G1 _ x1 g1 => ?_
              walk_at "rd_2"
              refine (ho8.x x1).mid (T := T) (T8.ext x1) (by decide) (by decide) fun p2 G2 _ x2 g2 => ?_
              walk_at "rd_2"
              have x12 := x1.trans x2
              refine (ho8.x x12).take (T := T) (T8.ext x12) (by decide) fun p3 G3 _ x3 g3 => ?_
              walk_at "rd_2"
              have x13 := x12.trans x3
              refine ⟨by show 3 ≤ sizeLine; decide, fun la nla => ?_⟩
              obtain ⟨nla, x6, g6⟩ := alL (T := T) nla ([p1, p2, p3].map V.ref)
              show tCall _ _ _ _ _ (upd G3 la (.lst ([p1, p2, p3].map V.ref))) _
              generalize upd G3 la _ = G6 at x6 g6 ⊢
              have x16 := x13.trans x6
              have T16 := T8.ext x16
              have hlt := ((T8.ext x13).ne nla).1
              walk_at "rd_2"
              refine ⟨l, t, 3, rfl, by decide, by decide, T16, fun d3 G7 h30 h31 x7 T17 => ?_⟩
              obtain ⟨a, gs, ha1, ha2⟩ := pick_cl (H := G7) (t := t) (n := 3) (as := [p1, p2, p3]) (fun a ha => by
                simp only [List.mem_cons, List.not_mem_nil, or_false] at ha
                rcases ha with rfl | rfl | rfl
                · exact ⟨_, (((g1.x x2).x x3).x x6).y x7⟩
                · exact ⟨_, ((g2.x x3).x x6).y x7⟩
                · exact ⟨_, (g3.x x6).y x7⟩) h30 (by show d3 < 3; omega)
              refine rd_ixL (SqL.of (lst.y g6 x7 hlt)) ha1 ?_
              walk_at "rd_2"
              exact hnx _ _ ⟨(e08.trans x16.any).trans x7, T17, a, gs, rfl, (hc8.x x16).y x7, ha2, (hx8.x x16).y x7 T16⟩
            · walk_at "rd_2"
              exact hnx _ _ ⟨e08, T8, sa, gs, rfl, hc8, hs8, hx8⟩
        · obtain ⟨e8, T8, sa, gs, rfl, hc8, hs8, hx8⟩ := h
          clear e7 T7 hc7 hs7 hu7 hx7 ho7
          refine rd_cut (fun σ H9 => Ext T [t] H H9 ∧ Tape l H9 t ∧ ∃ (li : Int), σ = [some (.ref t), some v, some (.ref pa), some u, some x, some (.ref oa), some (.ref ka), some (.ref ca), some (.ref sa), some (.int d), some (.int li)] ∧ 1 ≤ li ∧ li ≤ 1000 ∧ CL H9 t ca 4 cs ∧ CL H9 t sa 3 gs ∧ Im H9 x (.tuple [.tuple (i.c.map .str), .int i.li, .tuple (i.g.map .str), .int i.a, .int i.b])) (fun nx' hnx => ?_) (fun σ H9 h => ?_)
          · walk_at "rd_2"
            refine ⟨l, t, 2, rfl, by decide, by decide, T8, fun d2 H9 h20 h21 e9 T9 => ?_⟩
            have hx9 := hx8.y e9 T8
            walk_at "rd_2"
            refine rd_ite (fun hd => ?_) (fun hd => ?_)
            · walk_at "rd_2"
              refine rd_ixI (d := .int i.li) hx9 rfl fun u1 hu1 => ?_
              rw [hu1.int']
              walk_at "rd_2"
              exact hnx _ _ ⟨e8.trans e9, T9, i.li, rfl, hi.li.1, hi.li.2, hc8.y e9, hs8.y e9, hx9⟩
            · walk_at "rd_2"
              refine ⟨l, t, rfl, T9, fun li H10 hl0 hl1 e10 T10 => ?_⟩
              walk_at "rd_2"
              exact hnx _ _ ⟨(e8.trans e9).trans e10, T10, li, rfl, hl0, hl1, (hc8.y e9).y e10, (hs8.y e9).y e10, hx9.y e10 T9⟩
          · obtain ⟨e9, T9, li, rfl, hl0, hl1, hc9, hs9, hx9⟩ := h
            walk_at "rd_2"
            refine rd_sortA T (ds := cs.map .str) ⟨_, hc9.at_, ImAll.strs fun z hz => id_ok (hc9.ok z hz)⟩ (alike_s cs) (sortable_s cs) (depth_s cs) fun s1 G1 ys n1 x1 hs1 hys => ?_
            rw [srtS_eq] at hys
            walk_at "rd_2"
            refine rd_tupA T hs1 fun t1 G2 nt1 x2 ht1 => ?_
            have hct := Im.tup ht1 (hys.x x2)
            have x12 := x1.trans x2
            walk_at "rd_2"
            refine rd_sortA T (ds := gs.map .str) ⟨_, (hs9.x x12).at_, ImAll.strs fun z hz => id_ok (hs9.ok z hz)⟩ (alike_s gs) (sortable_s gs) (depth_s gs) fun s3 G3 zs n3 x3 hs3 hzs => ?_
            rw [srtS_eq] at hzs
            walk_at "rd_2"
            refine rd_tupA T hs3 fun t3 G4 nt3 x4 ht3 => ?_
            have hgt := Im.tup ht3 (hzs.x x4)
            have x14 := (x12.trans x3).trans x4
            have hx10 := hx9.x x14
            walk_at "rd_2"
            refine rd_ixI (d := .int i.a) hx10 rfl fun u1 hu1 => ?_
            rw [hu1.int']
            walk_at "rd_2"
            refine rd_ixI (d := .int i.b) hx10 rfl fun u1 hu1 => ?_
            rw [hu1.int']
            walk_at "rd_2"
            refine ⟨by show 5 ≤ sizeLine; decide, fun r nr => ?_⟩
            obtain ⟨_, x5, h5⟩ := alT (T := T) nr [.ref t1, .int li, .ref t3, .int i.a, .int i.b]
            generalize upd G4 r _ = G5 at x5 h5 ⊢
            have x15 := x14.trans x5
            refine q _ ⟨srtS cs, li, srtS gs, i.a, i.b⟩ G5 ⟨⟨cs, rfl, hc9.nd, hc9.ok, hc9.len⟩, ⟨gs, rfl, hs9.nd, hs9.ok, hs9.len⟩, ⟨hl0, hl1⟩, hi.ab, fun z e => absurd e (hnh z), fun z e => srtS_ne (hcn7 z e)⟩ (.tup h5 (.cons (((hct.x x3).x x4).x x5) (.cons (.int _) (.cons (hgt.x x5) (.cons (.int _) (.cons (.int _) .nil)))))) (e9.trans x15.any) (T9.ext x15)
end
section
variable {T : List (Addr × Str)} {P : Program} {w : World} {K : PySem.W.Frag} {mg : Str → Option Value} {base : Heap}
theorem ok_law_deed (D : Def K mg "_law_deed" s_law_deed ["tape", "realm", "pools", "state"]) (mb : ∀ x ∈ bltns, mg x = none) (G_law_take : Ok P w K mg base 2 "_law_take" ["tape", "many"] (spTake T)) (G_law_slots : Ok P w K mg base 1 "_law_slots" ["realm"] (spSlots T))
    (G_law_server_deed : Ok P w K mg base 4 "_law_server_deed" ["tape", "realm", "state"] (spServer T)) (G_law_life : Ok P w K mg base 3 "_law_life" ["tape"] (spInt T 1 1000)) (G_law_item : Ok P w K mg base 1 "_law_item" ["content", "life", "signers"] (spItem T))
    (G_law_at : Ok P w K mg base 1 "_law_at" ["state", "slot"] (spAt T)) (G_law_mixed : Ok P w K mg base 5 "_law_mixed" ["tape", "realm", "pools", "slot", "item"] (spMixed T)) : Ok P w K mg base 6 "_law_deed" ["tape", "realm", "pools", "state"] (spDeed T) := by
  refine D.ok sc_law_deed (fun vs H Q E h => ?_) (fun cdv f A outer s H vs Q E hr h => ?_)
  · obtain ⟨l, t, pa, v, u, R, ps, s, rfl, _⟩ := h
    rfl
  · obtain ⟨l, t, pa, v, u, R, ps, s, rfl, hT, hv, hR, hP, hps, hu, hs, q⟩ := h
    refine ⟨_, (pss_cons (ps_set (i := 4) sc_law_deed.nd rfl (.inl rfl) (pe_callO G_law_slots (hr.mono (by decide)) (by rfl) (pa_cons (pv 1) pa_nil)))
   (pss_cons (ps_if (PW.pt (pw_and (pt_cmpR op_gt (pe_callB (call_lenU K rfl) (by rfl) (mb _ (by decide)) (by decide +kernel) (pa_cons (pe_ix (ix_U K rfl) (pv 1) pe_int (fun _ _ => rfl)) pa_nil)) pe_int (nomark _)) (pw_and1 (pt_cmpR (op_eqU K rfl hr.units) (pe_callO G_law_take (hr.mono (by decide)) (by rfl) (pa_cons (pv 0) (pa_cons pe_int pa_nil))) pe_int (nomark _))))) (pss_one (ps_ret (pe_callO G_law_server_deed (hr.mono (by decide)) (by rfl) (pa_cons (pv 0) (pa_cons (pv 1) (pa_cons (pv 3) pa_nil)))))) pss_nil)
   (pss_cons (ps_set (i := 5) sc_law_deed.nd rfl (.inl rfl) (pe_ix (ix_U K rfl) (pv 4) (pe_callO G_law_take (hr.mono (by decide)) (by rfl) (pa_cons (pv 0) (pa_cons (pe_callB (call_lenU K rfl) (by rfl) (mb _ (by decide)) (by decide +kernel) (pa_cons (pv 4) pa_nil)) pa_nil))) (fun _ _ => rfl)))
   (pss_cons (ps_if (pt_cmpR (op_eqU K rfl hr.units) (pe_ix (ix_U K rfl) (pv 5) pe_int (fun _ _ => rfl)) pe_str (nomark _)) (pss_one (ps_ret (pe_tup (pa_cons pe_str (pa_cons (pv 5) (pa_cons (pe_callO G_law_item (hr.mono (by decide)) (by rfl) (pa_cons (pe_lst (pa_cons pe_str (pa_cons pe_str pa_nil))) (pa_cons (pe_callO G_law_life (hr.mono (by decide)) (by rfl) (pa_cons (pv 0) pa_nil)) (pa_cons (pe_lst pa_nil) pa_nil)))) pa_nil)))))) pss_nil)
   (pss_cons (ps_set (i := 6) sc_law_deed.nd rfl (.inl rfl) (pe_callO G_law_mixed (hr.mono (by decide)) (by rfl) (pa_cons (pv 0) (pa_cons (pv 1) (pa_cons (pv 2) (pa_cons (pv 5) (pa_cons (pe_callO G_law_at (hr.mono (by decide)) (by rfl) (pa_cons (pv 3) (pa_cons (pv 5) pa_nil))) pa_nil)))))))
   (pss_cons (ps_if (pt_cmpR (op_eqU K rfl hr.units) (pe_callO G_law_take (hr.mono (by decide)) (by rfl) (pa_cons (pv 0) (pa_cons pe_int pa_nil))) pe_int (nomark _)) (pss_cons (ps_set (i := 7) sc_law_deed.nd rfl (.inl rfl) (pe_callO G_law_take (hr.mono (by decide)) (by rfl) (pa_cons (pv 0) (pa_cons pe_int pa_nil))))
   (pss_one (ps_set (i := 6) sc_law_deed.nd rfl (.inl rfl) (pe_op (op_plus K rfl) (pe_slice (sl_U K rfl) (pv 6) po_none (po_some pe_int)) (pe_tup (pa_cons (pv 7) (pa_cons (pe_op (op_plus K rfl) (pv 7) (pe_callO G_law_take (hr.mono (by decide)) (by rfl) (pa_cons (pv 0) (pa_cons pe_int pa_nil)))) pa_nil))))))) pss_nil)
   (pss_one (ps_ret (pe_tup (pa_cons pe_str (pa_cons (pv 5) (pa_cons (pv 6) pa_nil)))))))))))), ?_⟩
    refine rd_seq ?_
    walk_at "rdn_2"
    refine ⟨v, R, rfl, hv, hR, fun sp H1 nsp e1 hsp => ?_⟩
    have hspt := (hT.ne nsp).1
    have hv1 := hv.x e1
    have hP1 := hP.ext0 e1
    have hu1 := hu.x e1
    have T1 := hT.ext e1
    clear hv hP hu hT
    walk_at "rdn_2"
    have hsl := slots_len hR
    -- the rest of it, behind the first draw
    refine rd_cut (fun σ H2 => Ext T [t] H H2 ∧ Tape l H2 t ∧ σ = [some (.ref t), some v, some (.ref pa), some u, some (.ref sp), none, none, none] ∧ Im H2 v (rmD R) ∧ Pools H2 t pa ps ∧ StAt H2 u s ∧ Ls H2 sp ((slotsR R).map slD)) (fun nx' hnx => ?_) (fun σ H2 h => ?_)
    · walk_at "rd_2"
      refine rd_ixI (d := .tuple (R.zs.map siD)) hv1 rfl fun u1 hu2 => ?_
      obtain ⟨zp, zx, rfl, hzp, hzi⟩ := hu2.tup'
      walk_at "rd_2"
      refine rd_lenT (SqP.sq hzp) ?_
      walk_at "rd_2"
      refine rd_ite (fun hz => ?_) (fun hz => ?_)
      · walk_at "rd_2"
        refine ⟨l, t, 4, rfl, by decide, by decide, T1, fun d H2 h0 h1 e2 T2 => ?_⟩
        walk_at "rd_2"
        refine rd_ite (fun hd => ?_) (fun hd => ?_)
        · walk_at "rd_2"
          refine ⟨l, t, v, u, R, s, rfl, T2, hv1.y e2 T1, hR, ?_, hu1.y e2 T1, hs.on, fun x d H3 hd hod hx e3 T3 => ?_⟩
          · rw [hzi.len, List.length_map] at hz
            have hz : (1 : Int) < (R.zs.length : Int) := hz
            omega
          · exact q x d H3 hd hod hx ((e1.any.trans e2).trans e3) T3
        · walk_at "rd_2"
          exact hnx _ _ ⟨e1.any.trans e2, T2, rfl, hv1.y e2 T1, hP1.ext e2 T1, hu1.y e2 T1, hsp.y e2 hspt T1⟩
      · walk_at "rd_2"
        exact hnx _ _ ⟨e1.any, T1, rfl, hv1, hP1, hu1, hsp⟩
    · obtain ⟨e2, T2, rfl, hv2, hP2, hu2, hsp2⟩ := h
      clear e1 T1 hv1 hP1 hu1 hsp
      obtain ⟨sx, hsx, hsi⟩ := hsp2.list
      have hsxl : sx.length = (slotsR R).length := by rw [hsi.len, List.length_map]
      have hpos : 0 < (slotsR R).length := by
        unfold slotsR
        simp
      refine rd_seq ?_
      walk_at "rdn_2"
      refine ⟨l, t, _, rfl, by omega, by omega, T2, fun d H3 h0 h1 e3 T3 => ?_⟩
      have hsp3 := hsp2.y e3 hspt T2
      have hv3 := hv2.y e3 T2
      have hP3 := hP2.ext e3 T2
      have hu3 := hu2.y e3 T2
      have e03 := e2.trans e3
      obtain ⟨c, hc1, hc2, hc3⟩ := at_in (l := (slotsR R).map slD) h0 (by rw [List.length_map]; omega)
      obtain ⟨sl, hslm, rfl⟩ := List.mem_map.mp hc3
      clear e2 T2 hv2 hP2 hu2 hsp2 hsx hsi e3
      refine rd_ixLs hsp3 hc1 fun y hy => ?_
      walk_at "rdn_2"
      by_cases hh : ∃ z, sl = .h z
      · obtain ⟨z, hz⟩ := hh
        subst hz
        have hy' : Im H3 y (.tuple [.str (Str.ofString "hosts"), .str z]) := hy
        refine rd_seq ?_
        walk_at "rdn_2"
        refine rd_ixSs hy' rfl ?_
        walk_at "rd_2"
        refine rd_ite (fun _ => ?_) (fun h => absurd rfl h)
        walk_at "rd_2"
        refine ⟨by show 2 ≤ sizeLine; decide, fun la nla => ?_⟩
        obtain ⟨nla, x1, hla⟩ := alL (T := T) nla (sL.map V.str)
        show tCons _ _ _ (upd H3 la (.lst (sL.map V.str))) _
        generalize upd H3 la _ = G1 at x1 hla ⊢
        have hlt := (T3.ne nla).1
        walk_at "rd_2"
        refine ⟨l, t, rfl, T3.ext x1, fun li G2 hl0 hl1 x2 T4 => ?_⟩
        walk_at "rd_2"
        refine ⟨by show 0 ≤ sizeLine; decide, fun ea nea => ?_⟩
        obtain ⟨_, x3, hea⟩ := alL (T := T) nea []
        refine rd_nil ?_
        generalize upd G2 ea _ = G3 at x3 hea ⊢
        refine ⟨la, ea, sL, [], li, rfl, lst.x (lst.y hla x2 hlt) x3, hea, sL_ok.2, by simp, fun it G4 x4 hit => ?_⟩
        walk_at "rd_2"
        refine ⟨by show 3 ≤ sizeLine; decide, fun r nr => ?_⟩
        obtain ⟨_, x5, hr5⟩ := alT (T := T) nr [.str (Str.ofString "put"), y, it]
        generalize upd G4 r _ = G5 at x5 hr5 ⊢
        refine q _ (.put (.h z) ⟨srtS sL, li, srtS [], 0, 10000⟩) G5 ⟨hslm, ⟨sL, rfl, sL_ok.1, sL_ok.2, by decide⟩, ⟨[], rfl, by simp, by simp, by simp⟩, ⟨hl0, hl1⟩, ⟨show (0 : Int) ≤ 0 by decide, show (0 : Int) ≤ 10000 by decide, show (10000 : Int) ≤ 10000 by decide⟩, fun _ _ => ⟨srtS_nil, rfl, rfl⟩, fun z e => by cases e⟩ trivial ?_ (((((e03.trans x1.any).trans x2).trans x3.any).trans x4.any).trans x5.any) (((T4.ext x3).ext x4).ext x5)
        exact .new3 (.str _ (by decide +kernel)) (((((hy.x x1).y x2 (T3.ext x1)).x x3).x x4).x x5) (hit.x x5) hr5
      · have hnh : ∀ z, sl ≠ .h z := fun z e => hh ⟨z, e⟩
        obtain ⟨kw, rr, hsl2, hkw⟩ : ∃ (kw : Str) (rr : List PyData), slD sl = .tuple (.str kw :: rr) ∧ ¬ kw = Str.ofString "hosts" := by
          cases sl with
          | k z => exact ⟨_, _, rfl, by decide +kernel⟩
          | l z => exact ⟨_, _, rfl, by decide +kernel⟩
          | h z => exact absurd rfl (hnh z)
          | s n k => exact ⟨_, _, rfl, by decide +kernel⟩
        have hy' : Im H3 y (.tuple (.str kw :: rr)) := by rw [← hsl2]; exact hy
        refine rd_seq ?_
        walk_at "rdn_2"
        refine rd_ixSs hy' (at_zero _ _) ?_
        walk_at "rdn_2"
        refine rd_ite (fun h => absurd h hkw) (fun _ => ?_)
        walk_at "rdn_2"
        refine rd_seq ?_
        walk_at "rdn_2"
        obtain ⟨it0, hit0⟩ := sta_find hs hslm
        refine ⟨u, y, s, sl, it0, rfl, hu3, hy, hit0, sta_nodup hR hs, sta_len hR hs hsl, fun x0 G1 x1 hx0 => ?_⟩
        walk_at "rdn_2"
        have T31 := T3.ext x1
        refine ⟨l, t, pa, v, y, x0, R, ps, sl, it0, rfl, T31, hv3.x x1, hR, hP3.ext0 x1, hps, hy.x x1, hslm, hnh, hx0, hs.ok _ hit0, fun x2 it G2 hit hx2 x3 T4 => ?_⟩
        have hy2 := (hy.x x1).y x3 T31
        have e02 := (e03.trans x1.any).trans x3
        walk_at "rdn_2"
        refine rd_cut (fun σ G3 => Ext T [t] H G3 ∧ Tape l G3 t ∧ ∃ (x : V) (it : Itm) (a : Option V), σ = [some (.ref t), some v, some (.ref pa), some u, some (.ref sp), some y, some x, a] ∧ ItmOk sl it ∧ Im G3 x (itD it) ∧ Im G3 y (slD sl)) (fun nx' hnx => ?_) (fun σ G3 h => ?_)
        · walk_at "rd_2"
          refine ⟨l, t, 8, rfl, by decide, by decide, T4, fun d2 G3 h20 h21 x4 T5 => ?_⟩
          have hx3 := hx2.y x4 T4
          have hy3 := hy2.y x4 T4
          walk_at "rd_2"
          refine rd_ite (fun hd => ?_) (fun hd => ?_)
          · walk_at "rd_2"
            refine ⟨l, t, 60, rfl, by decide, by decide, T5, fun d3 G4 h30 h31 x5 T6 => ?_⟩
            have hx4 := hx3.y x5 T5
            have hy4 := hy3.y x5 T5
            obtain ⟨xa, xx, rfl, hxa, hxx⟩ := hx4.tup'
            have hx5 : xx.length = 5 := hxx.len
            walk_at "rd_2"
            refine rd_slT (SqP.sq hxa) (fun h => ?_) fun sa nsa => ?_
            · have h0 := h.2
              rw [show HT.sIx xx.length xx.length (some 3) = min 3 xx.length from HT.sIx_nat xx.length xx.length 3] at h0
              omega
            rw [cutV_to _ (by decide), show Int.toNat 3 = 3 from rfl]
            obtain ⟨_, x6, hsa⟩ := alT (T := T) nsa (xx.take 3)
            show tTup _ _ (upd G4 sa (.tup (xx.take 3))) _
            generalize upd G4 sa _ = G5 at x6 hsa ⊢
            walk_at "rd_2"
            refine ⟨l, t, 200, rfl, by decide, by decide, T6.ext x6, fun d4 G6 h40 h41 x7 T7 => ?_⟩
            walk_at "rd_2"
            refine ⟨by show 2 ≤ sizeLine; decide, fun tb ntb => ?_⟩
            obtain ⟨_, x8, htb⟩ := alT (T := T) ntb [.int d3, .int (d3 + d4)]
            show rPlus _ _ _ (upd G6 tb (.tup [.int d3, .int (d3 + d4)])) _
            generalize upd G6 tb _ = G7 at x8 htb ⊢
            have hsa7 : SqP G7 sa (xx.take 3) := SqP.x (.inl (tup.ext hsa x7 (T6.ext x6).lsts)) x8
            refine rd_catT (SqP.sq hsa7) (SqT.of htb) (fun e => ?_) (by simp) ?_ fun tc ntc => ?_
            · have := congrArg List.length e
              rw [List.length_take] at this
              simp only [List.length_nil] at this
              omega
            · rw [List.length_take]
              exact Nat.le_trans (show _ ≤ 100 by simp only [List.length_cons, List.length_nil]; omega) (by decide)
            obtain ⟨_, x9, htc⟩ := alT (T := T) ntc (xx.take 3 ++ [.int d3, .int (d3 + d4)])
            show gName 6 _ _ (upd G7 tc (.tup (xx.take 3 ++ [.int d3, .int (d3 + d4)]))) _
            generalize upd G7 tc _ = G8 at x9 htc ⊢
            refine rd_name ?_
            have hx8 : ImAll G8 (xx.take 3 ++ [.int d3, .int (d3 + d4)]) [.tuple (it.c.map .str), .int it.li, .tuple (it.g.map .str), .int d3, .int (d3 + d4)] :=
              (((((hxx.take 3).x x6).y x7 (T6.ext x6)).x x8).x x9).app (.cons (.int _) (.cons (.int _) .nil))
            refine hnx _ _ ⟨(((((e02.trans x4).trans x5).trans x6.any).trans x7).trans x8.any).trans x9.any, (T7.ext x8).ext x9, .ref tc, ⟨it.c, it.li, it.g, d3, d3 + d4⟩, _, rfl, ⟨hit.c, hit.g, hit.li, ⟨h30, show d3 ≤ d3 + d4 by omega, show d3 + d4 ≤ 10000 by omega⟩, fun z e => absurd e (hnh z), hit.kc⟩, .tup htc hx8, (((hy4.x x6).y x7 (T6.ext x6)).x x8).x x9⟩
          · walk_at "rd_2"
            exact hnx _ _ ⟨e02.trans x4, T5, x2, it, _, rfl, hit, hx3, hy3⟩
        · obtain ⟨e4, T5, x, it', a, rfl, hit', hx, hy5⟩ := h
          walk_at "rd_2"
          refine ⟨by show 3 ≤ sizeLine; decide, fun r nr => ?_⟩
          obtain ⟨_, x5, hr5⟩ := alT (T := T) nr [.str (Str.ofString "put"), y, x]
          generalize upd G3 r _ = G5 at x5 hr5 ⊢
          exact q _ (.put sl it') G5 ⟨hslm, hit'⟩ trivial (.new3 (.str _ (by decide +kernel)) (hy5.x x5) (hx.x x5) hr5) (e4.trans x5.any) (T5.ext x5)
end
section
variable {T : List (Addr × Str)} {P : Program} {w : World} {K : PySem.W.Frag} {mg : Str → Option Value} {base : Heap}
local macro_rules | `(tactic| walk_at "tr_2") => `(tactic| first
  | assumption
  | exact Ext.refl
  | ((with_reducible refine' Im.x (T := T) (H := ?trH) ?tra ?tre); (case tre => assumption); (case tra => walk_at "tr_2"))
  | ((with_reducible refine' Im.y (T := T) (H := ?trH) ?tra ?tre ?trt); (case tre => assumption); (case trt => walk_at "tr_2"); (case tra => walk_at "tr_2"))
  | ((with_reducible refine' ImAll.x (T := T) (H := ?trH) ?tra ?tre); (case tre => assumption); (case tra => walk_at "tr_2"))
  | ((with_reducible refine' ImAll.y (T := T) (H := ?trH) ?tra ?tre ?trt); (case tre => assumption); (case trt => walk_at "tr_2"); (case tra => walk_at "tr_2"))
  | ((with_reducible refine' Ls.x (T := T) (H := ?trH) ?tra ?tre); (case tre => assumption); (case tra => walk_at "tr_2"))
  | ((with_reducible refine' Ls.y (T := T) (H := ?trH) ?tra ?tre ?trn ?trt); (case tre => assumption); (case trt => walk_at "tr_2"); (case trn => walk_at "tr_2"); (case tra => walk_at "tr_2"))
  | ((with_reducible refine' SqP.x (T := T) (H := ?trH) ?tra ?tre); (case tre => assumption); (case tra => walk_at "tr_2"))
  | ((with_reducible refine' SqP.y (T := T) (H := ?trH) ?tra ?tre ?trt); (case tre => assumption); (case trt => walk_at "tr_2"); (case tra => walk_at "tr_2"))
  | ((with_reducible refine' StAt.x (T := T) (H := ?trH) ?tra ?tre); (case tre => assumption); (case tra => walk_at "tr_2"))
  | ((with_reducible refine' StAt.y (T := T) (H := ?trH) ?tra ?tre ?trt); (case tre => assumption); (case trt => walk_at "tr_2"); (case tra => walk_at "tr_2"))
  | ((with_reducible refine' Pools.ext0 (T := T) (H := ?trH) ?tra ?tre); (case tre => assumption); (case tra => walk_at "tr_2"))
  | ((with_reducible refine' Pools.ext (T := T) (H := ?trH) ?tra ?tre ?trt); (case tre => assumption); (case trt => walk_at "tr_2"); (case tra => walk_at "tr_2"))
  | ((with_reducible refine' CL.x (T := T) (H := ?trH) ?tra ?tre); (case tre => assumption); (case tra => walk_at "tr_2"))
  | ((with_reducible refine' CL.y (T := T) (H := ?trH) ?tra ?tre); (case tre => assumption); (case tra => walk_at "tr_2"))
  | ((with_reducible refine' Tape.ext (T := T) (H := ?trH) ?tra ?tre); (case tre => assumption); (case tra => walk_at "tr_2"))
  | ((with_reducible refine' lst.x (T := T) (H := ?trH) ?tra ?tre); (case tre => assumption); (case tra => walk_at "tr_2"))
  | ((with_reducible refine' lst.y (T := T) (H := ?trH) ?tra ?tre ?trn); (case tre => assumption); (case trn => walk_at "tr_2"); (case tra => walk_at "tr_2"))
  | ((with_reducible refine' tup.x (T := T) (H := ?trH) ?tra ?tre); (case tre => assumption); (case tra => walk_at "tr_2"))
  | ((with_reducible refine' tup.y (T := T) (H := ?trH) ?tra ?tre ?trt); (case tre => assumption); (case trt => walk_at "tr_2"); (case tra => walk_at "tr_2"))
  | ((with_reducible refine' frz.x (T := T) (H := ?trH) ?tra ?tre); (case tre => assumption); (case tra => walk_at "tr_2"))
  | ((with_reducible refine' frz.y (T := T) (H := ?trH) ?tra ?tre ?trt); (case tre => assumption); (case trt => walk_at "tr_2"); (case tra => walk_at "tr_2"))
  | ((with_reducible refine' Tape.ne1 (H := ?trH) ?trt ?trn); (case trn => assumption); (case trt => walk_at "tr_2"))
  | ((with_reducible refine' Ext.trans (H1 := ?trH) ?tra (Ext.any ?tre)); (case tre => assumption); (case tra => walk_at "tr_2"))
  | ((with_reducible refine' Ext.trans (H1 := ?trH) ?tra ?tre); (case tre => assumption); (case tra => walk_at "tr_2"))
  | ((with_reducible refine' Ext.back1 (T := T) (H1 := ?trH) ?tre ?trn ?tra); (case tra => assumption); (case trn => walk_at "tr_2"); (case tre => walk_at "tr_2"))
  | ((with_reducible refine' Ext.back0 (T := T) (H1 := ?trH) ?tre ?tra); (case tra => assumption); (case tre => walk_at "tr_2"))
  | ((with_reducible refine' SqT.of ?tra); (case tra => walk_at "tr_2"))
  | ((with_reducible refine' SqL.of ?tra); (case tra => walk_at "tr_2")))
local macro_rules | `(tactic| walk_at "al_2") => `(tactic| (refine ⟨by first | (show _ ≤ sizeLine; decide) | walk_at "sz_2", ?_⟩; intro alp aln; generalize alG : upd _ alp _ = alH; obtain ⟨aln2, alx, alh⟩ := al_of (T := T) aln alG; clear alG aln))
local macro_rules | `(tactic| walk_at "al0_2") => `(tactic| (intro alp aln; generalize alG : upd _ alp _ = alH; obtain ⟨aln2, alx, alh⟩ := al_of (T := T) aln alG; clear alG aln))
theorem ok_law_deeds (D : Def K mg "_law_deeds" s_law_deeds ["tape", "realm", "pools", "state", "many"]) (mb : ∀ x ∈ bltns, mg x = none) (G_law_deed : Ok P w K mg base 6 "_law_deed" ["tape", "realm", "pools", "state"] (spDeed T)) (G_law_after : Ok P w K mg base 1 "_law_after" ["state", "deed"] (spAfter T)) :
    Ok P w K mg base 7 "_law_deeds" ["tape", "realm", "pools", "state", "many"] (spDeeds T) := by
  refine D.ok sc_law_deeds (fun vs H Q E h => ?_) (fun cdv f A outer s H vs Q E hr h => ?_)
  · obtain ⟨l, t, pa, v, u, R, ps, s, m, rfl, _⟩ := h
    rfl
  · obtain ⟨l, t, pa, v, u, R, ps, s, m, rfl, hT, hv, hR, hP, hps, hu, hs, hon, hm0, hm, q⟩ := h
    refine ⟨_, (pss_cons (ps_set (i := 5) sc_law_deeds.nd rfl (.inl rfl) (pe_lst pa_nil))
   (pss_cons (ps_for PassesOwn.never rfl (pi_range1 (by rfl) (mb _ (by decide)) (pa_cons (pv 4) pa_nil)) (pg_name (i := 6) sc_law_deeds.nd rfl (.inl rfl)) (pss_cons (ps_set (i := 7) sc_law_deeds.nd rfl (.inl rfl) (pe_callO G_law_deed (hr.mono (by decide)) (by rfl) (pa_cons (pv 0) (pa_cons (pv 1) (pa_cons (pv 2) (pa_cons (pv 3) pa_nil))))))
   (pss_cons (ps_expr (pe_bm PySem.F.plainAttrs_list PySem.F.slot_list_append PySem.F.type_list_append mt_append (pv 5) (pa_cons (pv 7) pa_nil)))
   (pss_one (ps_set (i := 3) sc_law_deeds.nd rfl (.inl rfl) (pe_callO G_law_after (hr.mono (by decide)) (by rfl) (pa_cons (pv 3) (pa_cons (pv 7) pa_nil))))))))
   (pss_one (ps_ret (pe_callTy (call_tupU K rfl) (by rfl) (mb _ (by decide)) (by decide +kernel) (pa_cons (pv 5) pa_nil)))))), ?_⟩
    refine rd_seq ?_
    walk_at "rdn_2"
    walk_at "al_2"
    rename_i dp H1 ndp e1 hdp
    have hdt : dp ≠ t := by walk_at "tr_2"
    walk_at "rdn_2"
    refine rd_cut (fun σ H2 => Ext T [t] H H2 ∧ Tape l H2 t ∧ ∃ (ds : List Dd) (u : V) (a b : Option V), σ = [some (.ref t), some v, some (.ref pa), some u, some (.int m), some (.ref dp), a, b] ∧ Ls H2 dp (ds.map ddD) ∧ (∀ d ∈ ds, DdOk R d) ∧ OnOk s ds ∧ (ds.length : Int) = m) (fun nx' hnx => ?_) (fun σ H2 h => ?_)
    · walk_at "rd_2"
      refine ⟨Int.le_trans (by decide) hm0, Int.lt_of_le_of_lt hm (by decide), ?_⟩
      refine forg_range (n := m.toNat) (fun i σ H2 => Ext T [t] H H2 ∧ Tape l H2 t ∧ ∃ (ds : List Dd) (u : V) (s1 : Sta) (a b : Option V), σ = [some (.ref t), some v, some (.ref pa), some u, some (.int m), some (.ref dp), a, b] ∧ Ls H2 dp (ds.map ddD) ∧ (∀ d ∈ ds, DdOk R d) ∧ ds.length = i ∧ StAt H2 u s1 ∧ StaOk R s1 ∧ s1.on.length ≤ 50 + i ∧ OnOk s ds ∧ s1 = ds.foldl aft s)
        ⟨by walk_at "tr_2", by walk_at "tr_2", [], u, s, none, none, rfl, ⟨_, hdp, .nil⟩, by simp, rfl, by walk_at "tr_2", hs, by omega, trivial, rfl⟩ (fun i σ H2 hi h => ?_) (fun σ H2 h => ?_)
      · obtain ⟨e2, T2, ds, u', s', a, b, rfl, hds, hok, hl, hu2, hs2, hon2, hoo, hse⟩ := h
        walk_at "rd_2"
        refine ⟨l, t, pa, v, u', R, ps, s', rfl, T2, by walk_at "tr_2", hR, by walk_at "tr_2", hps, hu2, hs2, fun x d H3 hd hod hx e3 T3 => ?_⟩
        have hds3 : Ls H3 dp (ds.map ddD) := by walk_at "tr_2"
        obtain ⟨dx, hdx, hdi⟩ := hds3.list
        refine rd_name ?_
        refine rd_seq ?_
        refine rd_drop ?_
        refine rd_bm ?_
        refine rd_var rfl ?_
        refine rd_tyL hdx ?_
        refine rd_cons ?_
        refine rd_var rfl ?_
        refine rd_nil ?_
        refine rd_appLs hds3 hx ?_ fun ys hy hds4 => ?_
        · rw [List.length_map, hl]
          exact Nat.lt_of_le_of_lt (show i ≤ 100 by omega) (by decide)
        · have hlsts := lsts_one hy
          have e4 : Ext T [dp] H3 (upd H3 dp (.lst (ys ++ [x]))) := Ext.mut (by simp) hy
          have e04 : Ext T [t] H (upd H3 dp (.lst (ys ++ [x]))) := (e2.trans e3).own ndp hy
          have T4 : Tape l (upd H3 dp (.lst (ys ++ [x]))) t := T3.own hdt (hT.ne ndp).2
          have hx4 := Im.ext e4 hlsts _ _ hx
          have hu4 := StAt.ext (show StAt H3 u' s' by walk_at "tr_2") e4 hlsts
          clear e4 hlsts hy
          generalize upd H3 dp (.lst (ys ++ [x])) = H4 at e04 T4 hx4 hu4 hds4 ⊢
          walk_at "rd_2"
          refine ⟨u', x, s', d, rfl, hu4, hx4, sta_len hR hs2 (slots_len hR), by omega, fun y H5 e5 hy5 => ?_⟩
          walk_at "rd_2"
          refine ⟨by walk_at "tr_2", by walk_at "tr_2", ds ++ [d], y, aft s' d, _, _, rfl, ?_, fun d' hd' => ?_, by rw [List.length_append, hl]; rfl, hy5, aft_ok hs2 hd (by omega), ?_, onOk_snoc hoo (by rw [← hse]; exact hod), by rw [List.foldl_append, ← hse]; rfl⟩
          · rw [List.map_append]
            walk_at "tr_2"
          · rcases List.mem_append.mp hd' with h | h
            · exact hok d' h
            · rw [List.mem_singleton.mp h]
              exact hd
          · have := aft_on s' d
            omega
      · obtain ⟨e2, T2, ds, u', s', a, b, rfl, hds, hok, hl, hu2, hs2, hon2, hoo, hse⟩ := h
        exact hnx _ _ ⟨e2, T2, ds, u', a, b, rfl, hds, hok, hoo, by omega⟩
    · obtain ⟨e2, T2, ds, u', a, b, rfl, hds, hok, hoo, hl⟩ := h
      obtain ⟨dx, hdx, hdi⟩ := hds.list
      walk_at "rd_2"
      refine rd_tupA T hdx fun r H3 nr e3 hr3 => ?_
      exact q _ ds H3 hok hoo hl (.tup hr3 (hdi.x e3)) (by walk_at "tr_2") (by walk_at "tr_2")
end
section
variable {T : List (Addr × Str)} {P : Program} {w : World} {K : PySem.W.Frag} {mg : Str → Option Value} {base : Heap}
local macro_rules | `(tactic| walk_at "tr_2") => `(tactic| first
  | assumption
  | exact Ext.refl
  | ((with_reducible refine' Im.x (T := T) (H := ?trH) ?tra ?tre); (case tre => assumption); (case tra => walk_at "tr_2"))
  | ((with_reducible refine' Im.y (T := T) (H := ?trH) ?tra ?tre ?trt); (case tre => assumption); (case trt => walk_at "tr_2"); (case tra => walk_at "tr_2"))
  | ((with_reducible refine' ImAll.x (T := T) (H := ?trH) ?tra ?tre); (case tre => assumption); (case tra => walk_at "tr_2"))
  | ((with_reducible refine' ImAll.y (T := T) (H := ?trH) ?tra ?tre ?trt); (case tre => assumption); (case trt => walk_at "tr_2"); (case tra => walk_at "tr_2"))
  | ((with_reducible refine' Ls.x (T := T) (H := ?trH) ?tra ?tre); (case tre => assumption); (case tra => walk_at "tr_2"))
  | ((with_reducible refine' Ls.y (T := T) (H := ?trH) ?tra ?tre ?trn ?trt); (case tre => assumption); (case trt => walk_at "tr_2"); (case trn => walk_at "tr_2"); (case tra => walk_at "tr_2"))
  | ((with_reducible refine' SqP.x (T := T) (H := ?trH) ?tra ?tre); (case tre => assumption); (case tra => walk_at "tr_2"))
  | ((with_reducible refine' SqP.y (T := T) (H := ?trH) ?tra ?tre ?trt); (case tre => assumption); (case trt => walk_at "tr_2"); (case tra => walk_at "tr_2"))
  | ((with_reducible refine' StAt.x (T := T) (H := ?trH) ?tra ?tre); (case tre => assumption); (case tra => walk_at "tr_2"))
  | ((with_reducible refine' StAt.y (T := T) (H := ?trH) ?tra ?tre ?trt); (case tre => assumption); (case trt => walk_at "tr_2"); (case tra => walk_at "tr_2"))
  | ((with_reducible refine' Pools.ext0 (T := T) (H := ?trH) ?tra ?tre); (case tre => assumption); (case tra => walk_at "tr_2"))
  | ((with_reducible refine' Pools.ext (T := T) (H := ?trH) ?tra ?tre ?trt); (case tre => assumption); (case trt => walk_at "tr_2"); (case tra => walk_at "tr_2"))
  | ((with_reducible refine' CL.x (T := T) (H := ?trH) ?tra ?tre); (case tre => assumption); (case tra => walk_at "tr_2"))
  | ((with_reducible refine' CL.y (T := T) (H := ?trH) ?tra ?tre); (case tre => assumption); (case tra => walk_at "tr_2"))
  | ((with_reducible refine' Tape.ext (T := T) (H := ?trH) ?tra ?tre); (case tre => assumption); (case tra => walk_at "tr_2"))
  | ((with_reducible refine' lst.x (T := T) (H := ?trH) ?tra ?tre); (case tre => assumption); (case tra => walk_at "tr_2"))
  | ((with_reducible refine' lst.y (T := T) (H := ?trH) ?tra ?tre ?trn); (case tre => assumption); (case trn => walk_at "tr_2"); (case tra => walk_at "tr_2"))
  | ((with_reducible refine' tup.x (T := T) (H := ?trH) ?tra ?tre); (case tre => assumption); (case tra => walk_at "tr_2"))
  | ((with_reducible refine' tup.y (T := T) (H := ?trH) ?tra ?tre ?trt); (case tre => assumption); (case trt => walk_at "tr_2"); (case tra => walk_at "tr_2"))
  | ((with_reducible refine' frz.x (T := T) (H := ?trH) ?tra ?tre); (case tre => assumption); (case tra => walk_at "tr_2"))
  | ((with_reducible refine' frz.y (T := T) (H := ?trH) ?tra ?tre ?trt); (case tre => assumption); (case trt => walk_at "tr_2"); (case tra => walk_at "tr_2"))
  | ((with_reducible refine' Tape.ne1 (H := ?trH) ?trt ?trn); (case trn => assumption); (case trt => walk_at "tr_2"))
  | ((with_reducible refine' Ext.trans (H1 := ?trH) ?tra (Ext.any ?tre)); (case tre => assumption); (case tra => walk_at "tr_2"))
  | ((with_reducible refine' Ext.trans (H1 := ?trH) ?tra ?tre); (case tre => assumption); (case tra => walk_at "tr_2"))
  | ((with_reducible refine' Ext.back1 (T := T) (H1 := ?trH) ?tre ?trn ?tra); (case tra => assumption); (case trn => walk_at "tr_2"); (case tre => walk_at "tr_2"))
  | ((with_reducible refine' Ext.back0 (T := T) (H1 := ?trH) ?tre ?tra); (case tra => assumption); (case tre => walk_at "tr_2"))
  | ((with_reducible refine' SqT.of ?tra); (case tra => walk_at "tr_2"))
  | ((with_reducible refine' SqL.of ?tra); (case tra => walk_at "tr_2")))
local macro_rules | `(tactic| walk_at "al_2") => `(tactic| (refine ⟨by first | (show _ ≤ sizeLine; decide) | walk_at "sz_2", ?_⟩; intro alp aln; generalize alG : upd _ alp _ = alH; obtain ⟨aln2, alx, alh⟩ := al_of (T := T) aln alG; clear alG aln))
local macro_rules | `(tactic| walk_at "al0_2") => `(tactic| (intro alp aln; generalize alG : upd _ alp _ = alH; obtain ⟨aln2, alx, alh⟩ := al_of (T := T) aln alG; clear alG aln))
theorem two_in {ks : List Str} (h : ks.length = 3) : ks.take 2 ≠ [] ∧ ∃ x, (ks.take 2).drop 1 = [x] ∧ x ∈ ks.take 2 := by
  match ks, h with
  | [a, b, c], _ => exact ⟨by simp, b, by simp, by simp⟩
theorem seal_put {s : Sta} {sl : Sl} {it0 it : Itm} (hn : (s.its.map (·.1)).Nodup) (h0 : (sl, it0) ∈ s.its) (h : sl = .k dotS → Seal it0 → Seal it) : SealR s → SealR (aft s (.put sl it)) := fun hs i hi => by
  obtain ⟨y, hy, e⟩ := List.mem_map.mp (show (Sl.k dotS, i) ∈ s.its.map (fun r => (r.1, if r.1 = sl then it else r.2)) from hi)
  injection e with e1 e2
  rw [← e2]
  by_cases h2 : y.1 = sl
  · rw [if_pos h2]
    have e3 : sl = .k dotS := h2.symm.trans e1
    exact h e3 (hs _ (by rw [← e3]; exact h0))
  · rw [if_neg h2]
    exact hs _ (by rw [← e1]; exact hy)
theorem srv_put {R : Rm} {s : Sta} {sl : Sl} {it : Itm} (h : ∀ z, sl = .h z → (it.hd = "s1" ∨ it.hd = "s3") ∧ it.c.length ≤ 3) : SrvOk R s → SrvOk R (aft s (.put sl it)) := fun hs => by
  refine ⟨hs.s1, hs.s3, fun z j hm => ?_⟩
  obtain ⟨y, hy, e⟩ := List.mem_map.mp (show (Sl.h z, j) ∈ s.its.map (fun r => (r.1, if r.1 = sl then it else r.2)) from hm)
  injection e with e1 e2
  by_cases h2 : y.1 = sl
  · rw [if_pos h2] at e2
    rw [← e2]
    exact h z (by rw [← h2, e1])
  · rw [if_neg h2] at e2
    exact hs.h z j (by rw [← e1, ← e2]; exact hy)
theorem ok_law_bent_start (D : Def K mg "_law_bent_start" s_law_bent_start ["tape", "realm", "pools", "state"]) (mb : ∀ x ∈ bltns, mg x = none) (G_law_take : Ok P w K mg base 2 "_law_take" ["tape", "many"] (spTake T)) (G_law_slots : Ok P w K mg base 1 "_law_slots" ["realm"] (spSlots T))
    (G_law_at : Ok P w K mg base 1 "_law_at" ["state", "slot"] (spAt T)) (G_law_item : Ok P w K mg base 1 "_law_item" ["content", "life", "signers"] (spItem T)) (G_law_pool : Ok P w K mg base 1 "_law_pool" ["pools", "zone"] (spPool T))
    (G_law_mixed : Ok P w K mg base 5 "_law_mixed" ["tape", "realm", "pools", "slot", "item"] (spMixed T)) (G_law_after : Ok P w K mg base 1 "_law_after" ["state", "deed"] (spAfter T)) : Ok P w K mg base 6 "_law_bent_start" ["tape", "realm", "pools", "state"] (spBent T) := by
  refine D.ok sc_law_bent_start (fun vs H Q E h => ?_) (fun cdv f A outer s H vs Q E hr h => ?_)
  · obtain ⟨l, t, pa, v, u, R, ps, s, rfl, _⟩ := h
    rfl
  · obtain ⟨l, t, pa, v, u, R, ps, s, rfl, hT, hv, hR, hP, hps, hu, hs, hon, q⟩ := h
    refine ⟨_, (pss_cons (ps_if (pt_cmpR op_gt (pe_callO G_law_take (hr.mono (by decide)) (by rfl) (pa_cons (pv 0) (pa_cons pe_int pa_nil))) pe_int (nomark _)) (pss_one (ps_ret (pv 3))) pss_nil)
   (pss_cons (ps_set (i := 4) sc_law_bent_start.nd rfl (.inl rfl) (pe_callO G_law_slots (hr.mono (by decide)) (by rfl) (pa_cons (pv 1) pa_nil)))
   (pss_cons (ps_set (i := 5) sc_law_bent_start.nd rfl (.inl rfl) (pe_ix (ix_U K rfl) (pv 4) (pe_callO G_law_take (hr.mono (by decide)) (by rfl) (pa_cons (pv 0) (pa_cons (pe_callB (call_lenU K rfl) (by rfl) (mb _ (by decide)) (by decide +kernel) (pa_cons (pv 4) pa_nil)) pa_nil))) (fun _ _ => rfl)))
   (pss_cons (ps_set (i := 6) sc_law_bent_start.nd rfl (.inl rfl) (pe_callO G_law_at (hr.mono (by decide)) (by rfl) (pa_cons (pv 3) (pa_cons (pv 5) pa_nil))))
   (pss_cons (ps_if (pt_cmpR (op_eqU K rfl hr.units) (pe_ix (ix_U K rfl) (pv 5) pe_int (fun _ _ => rfl)) pe_str (nomark _)) (pss_one (ps_set (i := 6) sc_law_bent_start.nd rfl (.inl rfl) (pe_callO G_law_item (hr.mono (by decide)) (by rfl) (pa_cons (pe_ix (ix_U K rfl) (pe_lst (pa_cons (pe_lst pa_nil) (pa_cons (pe_lst (pa_cons pe_str pa_nil)) (pa_cons (pe_lst (pa_cons pe_str (pa_cons pe_str pa_nil))) pa_nil)))) (pe_callO G_law_take (hr.mono (by decide)) (by rfl) (pa_cons (pv 0) (pa_cons pe_int pa_nil))) (fun _ _ => rfl)) (pa_cons (pe_ix (ix_U K rfl) (pv 6) pe_int (fun _ _ => rfl)) (pa_cons (pe_lst pa_nil) pa_nil)))))) (pss_one (ps_if (pt_cmpR (op_eqU K rfl hr.units) (pe_callO G_law_take (hr.mono (by decide)) (by rfl) (pa_cons (pv 0) (pa_cons pe_int pa_nil))) pe_int (nomark _)) (pss_cons (ps_set (i := 7) sc_law_bent_start.nd rfl (.inl rfl) (pe_op op_mul (pe_callO G_law_take (hr.mono (by decide)) (by rfl) (pa_cons (pv 0) (pa_cons pe_int pa_nil))) (pe_callO G_law_take (hr.mono (by decide)) (by rfl) (pa_cons (pv 0) (pa_cons pe_int pa_nil)))))
   (pss_one (ps_set (i := 6) sc_law_bent_start.nd rfl (.inl rfl) (pe_op (op_plus K rfl) (pe_slice (sl_U K rfl) (pv 6) po_none (po_some pe_int)) (pe_tup (pa_cons (pv 7) (pa_cons (pe_op (op_plus K rfl) (pv 7) (pe_callO G_law_take (hr.mono (by decide)) (by rfl) (pa_cons (pv 0) (pa_cons pe_int pa_nil)))) pa_nil))))))) (pss_one (ps_if (pt_cmpR (op_eqU K rfl hr.units) (pv 5) (pe_tup (pa_cons pe_str (pa_cons pe_str pa_nil))) (nomark _)) (pss_cons (ps_set (i := 8) sc_law_bent_start.nd rfl (.inl rfl) (pe_callO G_law_pool (hr.mono (by decide)) (by rfl) (pa_cons (pv 2) (pa_cons pe_str pa_nil))))
   (pss_one (ps_set (i := 6) sc_law_bent_start.nd rfl (.inl rfl) (pe_callO G_law_item (hr.mono (by decide)) (by rfl) (pa_cons (pe_slice (sl_U K rfl) (pv 8) po_none (po_some pe_int)) (pa_cons (pe_ix (ix_U K rfl) (pv 6) pe_int (fun _ _ => rfl)) (pa_cons (pe_slice (sl_U K rfl) (pv 8) (po_some pe_int) (po_some pe_int)) pa_nil))))))) (pss_one (ps_set (i := 6) sc_law_bent_start.nd rfl (.inl rfl) (pe_callO G_law_mixed (hr.mono (by decide)) (by rfl) (pa_cons (pv 0) (pa_cons (pv 1) (pa_cons (pv 2) (pa_cons (pv 5) (pa_cons (pv 6) pa_nil)))))))))))))
   (pss_one (ps_ret (pe_callO G_law_after (hr.mono (by decide)) (by rfl) (pa_cons (pv 3) (pa_cons (pe_tup (pa_cons pe_str (pa_cons (pv 5) (pa_cons (pv 6) pa_nil)))) pa_nil)))))))))), ?_⟩
    have hsl := slots_len hR
    refine rd_seq ?_
    walk_at "rdn_2"
    refine ⟨l, t, 6, rfl, by decide, by decide, hT, fun d0 H1 _ _ e1 T1 => ?_⟩
    walk_at "rdn_2"
    refine rd_ite (fun hd => ?_) (fun hd => ?_)
    · walk_at "rd_2"
      exact q u s H1 hs id id rfl (by walk_at "tr_2") e1 T1
    · walk_at "rdn_2"
      refine rd_seq ?_
      walk_at "rdn_2"
      refine ⟨v, R, rfl, by walk_at "tr_2", hR, fun sp H2 nsp e2 hsp => ?_⟩
      have hspt : sp ≠ t := by walk_at "tr_2"
      obtain ⟨sx, hsx, hsi⟩ := hsp.list
      have hsxl : sx.length = (slotsR R).length := by rw [hsi.len, List.length_map]
      have hpos : 0 < (slotsR R).length := by
        unfold slotsR
        simp
      have T2 : Tape l H2 t := by walk_at "tr_2"
      walk_at "rdn_2"
      refine rd_seq ?_
      walk_at "rdn_2"
      refine ⟨l, t, _, rfl, by omega, by omega, T2, fun d1 H3 h10 h11 e3 T3 => ?_⟩
      obtain ⟨c, hc1, hc2, hc3⟩ := at_in (l := (slotsR R).map slD) h10 (by rw [List.length_map]; omega)
      obtain ⟨sl, hslm, rfl⟩ := List.mem_map.mp hc3
      refine rd_ixLs (show Ls H3 sp _ by walk_at "tr_2") hc1 fun y hy => ?_
      walk_at "rdn_2"
      refine rd_seq ?_
      walk_at "rdn_2"
      obtain ⟨it0, hit0⟩ := sta_find hs hslm
      have hok0 := hs.ok _ hit0
      refine ⟨u, y, s, sl, it0, rfl, by walk_at "tr_2", hy, hit0, sta_nodup hR hs, sta_len hR hs hsl, fun x0 H4 e4 hx0 => ?_⟩
      walk_at "rdn_2"
      have T4 : Tape l H4 t := by walk_at "tr_2"
      have hy4 : Im H4 y (slD sl) := by walk_at "tr_2"
      have hP4 : Pools H4 t pa ps := by walk_at "tr_2"
      have hv4 : Im H4 v (rmD R) := by walk_at "tr_2"
      have e04 : Ext T [t] H H4 := by walk_at "tr_2"
      have hu4 : StAt H4 u s := by walk_at "tr_2"
      clear hc1 hc2 hc3 hsx hsi hsp e1 T1 e2 e3 T2 T3 e4
      have hpn : (ps.map (·.1)).Nodup := by rw [hps.nm]; exact hR.nd
      have hpl : ps.length ≤ 6 := by
        have := congrArg List.length hps.nm
        rw [List.length_map, List.length_map] at this
        have := hR.len
        omega
      refine rd_cut (fun σ H5 => Ext T [t] H4 H5 ∧ Tape l H5 t ∧ ∃ (x : V) (it : Itm) (a b : Option V), σ = [some (.ref t), some v, some (.ref pa), some u, some (.ref sp), some y, some x, a, b] ∧ ItmOk sl it ∧ (sl = .k dotS → Seal it0 → Seal it) ∧ (∀ z, sl = .h z → (it.hd = "s1" ∨ it.hd = "s3") ∧ it.c.length ≤ 3) ∧ Im H5 x (itD it)) (fun nx' hnx => ?_) (fun σ H5 h => ?_)
      · by_cases hh : ∃ z, sl = .h z
        · obtain ⟨z, hz⟩ := hh
          subst hz
          have hy' : Im H4 y (.tuple [.str (Str.ofString "hosts"), .str z]) := hy4
          walk_at "rd_2"
          refine rd_ixSs hy' rfl ?_
          walk_at "rd_2"
          refine rd_ite (fun _ => ?_) (fun h => absurd rfl h)
          walk_at "rd_2"
          walk_at "al_2"
          rename_i p1 G1 n1 x1 g1
          walk_at "rd_2"
          walk_at "al_2"
          rename_i p2 G2 n2 x2 g2
          walk_at "rd_2"
          walk_at "al_2"
          rename_i p3 G3 n3 x3 g3
          walk_at "rd_2"
          walk_at "al_2"
          rename_i pl G4 n4 x4 g4
          have hplt : pl ≠ t := by walk_at "tr_2"
          walk_at "rd_2"
          refine ⟨l, t, 3, rfl, by decide, by decide, by walk_at "tr_2", fun d G5 h0 h1 x5 T5 => ?_⟩
          have k1 : CL G1 t p1 4 [] := ⟨g1, by walk_at "tr_2", by simp, by simp, by simp⟩
          have k2 : CL G2 t p2 4 ["s3"] := ⟨g2, by walk_at "tr_2", (bent_ok _ (by simp [bentL])).1, (bent_ok _ (by simp [bentL])).2.1, by decide⟩
          have k3 : CL G3 t p3 4 ["s1", "t9"] := ⟨g3, by walk_at "tr_2", (bent_ok _ (by simp [bentL])).1, (bent_ok _ (by simp [bentL])).2.1, by decide⟩
          obtain ⟨a, gs, ha1, ha2, ha3⟩ := pick_clP (p := fun gs => ((srtS gs).headD "s1" = "s1" ∨ (srtS gs).headD "s1" = "s3") ∧ (srtS gs).length ≤ 3) (H := G5) (t := t) (n := 4) (as := [p1, p2, p3]) (fun a ha => by
            simp only [List.mem_cons, List.not_mem_nil, or_false] at ha
            rcases ha with rfl | rfl | rfl
            · exact ⟨_, show CL G5 t a 4 [] by walk_at "tr_2", .inl (by rw [show srtS [] = [] from List.mergeSort_nil]; rfl), by rw [(srtS_perm _).length_eq]; decide⟩
            · exact ⟨_, show CL G5 t a 4 ["s3"] by walk_at "tr_2", .inr (by rw [srtS_oneL]; rfl), by rw [(srtS_perm _).length_eq]; decide⟩
            · exact ⟨_, show CL G5 t a 4 ["s1", "t9"] by walk_at "tr_2", .inl (by rw [srt_two']; rfl), by rw [(srtS_perm _).length_eq]; decide⟩) h0 (by show d < 3; omega)
          refine rd_ixL (SqL.of (show G5 pl = some (.lst ([p1, p2, p3].map V.ref)) by walk_at "tr_2")) ha1 ?_
          walk_at "rd_2"
          refine rd_ixI (d := .int it0.li) (show Im G5 x0 (itD it0) by walk_at "tr_2") rfl fun u1 hu1 => ?_
          rw [hu1.int']
          walk_at "rd_2"
          walk_at "al_2"
          rename_i p5 G6 n6 x6 g6
          walk_at "rd_2"
          refine ⟨a, p5, gs, [], it0.li, rfl, (show CL G6 t a 4 gs by walk_at "tr_2").at_, g6, ha2.ok, by simp, fun it G7 x7 hit => ?_⟩
          walk_at "rd_2"
          exact hnx _ _ ⟨by walk_at "tr_2", by walk_at "tr_2", it, ⟨srtS gs, it0.li, srtS [], 0, 10000⟩, _, _, rfl, ⟨⟨gs, rfl, ha2.nd, ha2.ok, ha2.len⟩, ⟨[], rfl, by simp, by simp, by simp⟩, hok0.li, ⟨show (0 : Int) ≤ 0 by decide, show (0 : Int) ≤ 10000 by decide, show (10000 : Int) ≤ 10000 by decide⟩, fun _ _ => ⟨srtS_nil, rfl, rfl⟩, fun z e => by cases e⟩, (fun e => by cases e), (fun _ _ => ha3), hit⟩
        · have hnh : ∀ z, sl ≠ .h z := fun z e => hh ⟨z, e⟩
          obtain ⟨kw, rr, hsl2, hkw⟩ : ∃ (kw : Str) (rr : List PyData), slD sl = .tuple (.str kw :: rr) ∧ ¬ kw = Str.ofString "hosts" := by
            cases sl with
            | k z => exact ⟨_, _, rfl, by decide +kernel⟩
            | l z => exact ⟨_, _, rfl, by decide +kernel⟩
            | h z => exact absurd rfl (hnh z)
            | s n k => exact ⟨_, _, rfl, by decide +kernel⟩
          have hy' : Im H4 y (.tuple (.str kw :: rr)) := by rw [← hsl2]; exact hy4
          walk_at "rd_2"
          refine rd_ixSs hy' (at_zero _ _) ?_
          walk_at "rd_2"
          refine rd_ite (fun h => absurd h hkw) (fun _ => ?_)
          walk_at "rd_2"
          refine ⟨l, t, 3, rfl, by decide, by decide, T4, fun d1 G1 _ _ x1 T1 => ?_⟩
          walk_at "rd_2"
          refine rd_ite (fun hd1 => ?_) (fun hd1 => ?_)
          · walk_at "rd_2"
            refine ⟨l, t, 3, rfl, by decide, by decide, T1, fun d3 G2 h30 h31 x2 T2 => ?_⟩
            walk_at "rd_2"
            refine ⟨l, t, 9, rfl, by decide, by decide, T2, fun d4 G3 h40 h41 x3 T3 => ?_⟩
            have hf : 0 ≤ d3 * d4 ∧ d3 * d4 ≤ 16 := ⟨Int.mul_nonneg h30 h40, Int.le_trans (Int.mul_le_mul (show d3 ≤ 2 by omega) (show d4 ≤ 8 by omega) h40 (by decide)) (by decide)⟩
            obtain ⟨xa, xx, rfl, hxa, hxx⟩ := hx0.tup'
            have hx5 : xx.length = 5 := hxx.len
            walk_at "rd_2"
            refine rd_slT (SqP.sq (show SqP G3 xa xx by walk_at "tr_2")) (fun h => ?_) ?_
            · have h0 := h.2
              rw [show HT.sIx xx.length xx.length (some 3) = min 3 xx.length from HT.sIx_nat xx.length xx.length 3] at h0
              omega
            walk_at "al0_2"
            rename_i sa G4 _ x4 hsa
            rw [cutV_to _ (by decide), show Int.toNat 3 = 3 from rfl] at hsa
            walk_at "rd_2"
            refine ⟨l, t, 200, rfl, by decide, by decide, by walk_at "tr_2", fun d5 G5 h50 h51 x5 T5 => ?_⟩
            walk_at "rd_2"
            walk_at "al_2"
            rename_i tb G6 _ x6 htb
            refine rd_catT (SqT.of (show G6 sa = some (.tup (xx.take 3)) by walk_at "tr_2")) (SqT.of htb) (fun e => ?_) (by simp) ?_ ?_
            · have := congrArg List.length e
              rw [List.length_take] at this
              simp only [List.length_nil] at this
              omega
            · rw [List.length_take]
              exact Nat.le_trans (show _ ≤ 100 by simp only [List.length_cons, List.length_nil]; omega) (by decide)
            walk_at "al0_2"
            rename_i tc G7 _ x7 htc
            walk_at "rd_2"
            have hx3 : ImAll G7 (xx.take 3) [.tuple (it0.c.map .str), .int it0.li, .tuple (it0.g.map .str)] := by
              have h := hxx.take 3
              have h : ImAll H4 (xx.take 3) [.tuple (it0.c.map .str), .int it0.li, .tuple (it0.g.map .str)] := h
              walk_at "tr_2"
            have hx8 : ImAll G7 (xx.take 3 ++ [.int (d3 * d4), .int (d3 * d4 + d5)]) [.tuple (it0.c.map .str), .int it0.li, .tuple (it0.g.map .str), .int (d3 * d4), .int (d3 * d4 + d5)] := hx3.app (.cons (.int _) (.cons (.int _) .nil))
            exact hnx _ _ ⟨by walk_at "tr_2", by walk_at "tr_2", .ref tc, ⟨it0.c, it0.li, it0.g, d3 * d4, d3 * d4 + d5⟩, _, _, rfl, ⟨hok0.c, hok0.g, hok0.li, ⟨hf.1, show d3 * d4 ≤ d3 * d4 + d5 by omega, show d3 * d4 + d5 ≤ 10000 by omega⟩, fun z e => absurd e (hnh z), hok0.kc⟩, (fun _ h => h), (fun z e => absurd e (hnh z)), .tup htc hx8⟩
          · walk_at "rd_2"
            walk_at "al_2"
            rename_i ty G2 _ x2 hty
            have hdot : Im G2 (.ref ty) (slD (.k dotS)) := .new2 (.str _ (by decide +kernel)) (.str _ (by decide +kernel)) hty
            walk_at "rd_2"
            refine rd_eqI (b := decide (sl = .k dotS)) (show Im G2 y (slD sl) by walk_at "tr_2") hdot (Nat.le_trans (dep_sl _) (by decide)) (Nat.le_trans (dep_sl _) (by decide)) (Iff.trans ⟨fun e => slD_inj e, fun e => by rw [e]⟩ decide_eq_true_iff.symm) ?_
            refine ⟨_, rfl, ?_⟩
            refine rd_ite (fun hz => ?_) (fun hz => ?_)
            · subst hz
              obtain ⟨ks, hks⟩ : ∃ ks, (dotS, ks) ∈ ps := by
                obtain ⟨lag, rest, e, _⟩ := hR.ne
                have hm : dotS ∈ ps.map (·.1) := by
                  rw [hps.nm, e]
                  exact List.mem_cons_self
                obtain ⟨p, hp, e⟩ := List.mem_map.mp hm
                exact ⟨p.2, by rw [← e]; exact hp⟩
              walk_at "rd_2"
              refine ⟨t, pa, ps, dotS, ks, rfl, by walk_at "tr_2", hpl, hpn, hks, fun oa G3 hot hoa x3 => ?_⟩
              have hc3 : CL G3 t oa 3 ks := ⟨by walk_at "tr_2", hot, hps.nd _ hks, hps.ok _ hks, Nat.le_of_eq (hps.len _ hks)⟩
              walk_at "rd_2"
              refine hc3.take (T := T) (show Tape l G3 t by walk_at "tr_2") (by decide) fun q1 G4 _ x4 g1 => ?_
              walk_at "rd_2"
              refine rd_ixI (d := .int it0.li) (show Im G4 x0 (itD it0) by walk_at "tr_2") rfl fun u1 hu1 => ?_
              rw [hu1.int']
              walk_at "rd_2"
              refine CL.mid (T := T) (show CL G4 t oa 3 ks by walk_at "tr_2") (show Tape l G4 t by walk_at "tr_2") (by decide) (by decide) fun q2 G5 _ x5 g2 => ?_
              walk_at "rd_2"
              have g1' : CL G5 t q1 3 (ks.take 2) := g1.x x5
              refine ⟨q1, q2, _, _, it0.li, rfl, g1'.at_, g2.at_, g1.ok, g2.ok, fun it G6 x6 hit => ?_⟩
              walk_at "rd_2"
              exact hnx _ _ ⟨by walk_at "tr_2", by walk_at "tr_2", it, ⟨srtS _, it0.li, srtS _, 0, 10000⟩, _, _, rfl, ⟨⟨_, rfl, g1.nd, g1.ok, Nat.le_trans g1.len (by decide)⟩, ⟨_, rfl, g2.nd, g2.ok, g2.len⟩, hok0.li, ⟨show (0 : Int) ≤ 0 by decide, show (0 : Int) ≤ 10000 by decide, show (10000 : Int) ≤ 10000 by decide⟩, fun z e => absurd e (by simp), fun _ _ => srtS_ne (two_in (hps.len _ hks)).1⟩, (fun _ _ => seal_srt (two_in (hps.len _ hks)).2), (fun z e => absurd e (hnh z)), hit⟩
            · walk_at "rd_2"
              refine ⟨l, t, pa, v, y, x0, R, ps, sl, it0, rfl, by walk_at "tr_2", by walk_at "tr_2", hR, by walk_at "tr_2", hps, by walk_at "tr_2", hslm, hnh, by walk_at "tr_2", hok0, fun x3 it G3 hit hx3 x4 T5 => ?_⟩
              walk_at "rd_2"
              exact hnx _ _ ⟨by walk_at "tr_2", T5, x3, it, _, _, rfl, hit, (fun e => absurd e hz), (fun z e => absurd e (hnh z)), hx3⟩
      · obtain ⟨e5, T5, x, it', a, b, rfl, hit', hsl', hhd', hx⟩ := h
        walk_at "rd_2"
        walk_at "al_2"
        rename_i r H6 _ e6 hr6
        refine ⟨u, .ref r, s, .put sl it', rfl, by walk_at "tr_2", .new3 (.str _ (by decide +kernel)) (by walk_at "tr_2") (by walk_at "tr_2") hr6, sta_len hR hs hsl, by omega, fun z H7 e7 hz7 => ?_⟩
        exact q z (aft s (.put sl it')) H7 (aft_ok hs ⟨hslm, hit'⟩ (by omega)) (seal_put (sta_nodup hR hs) hit0 hsl') (srv_put hhd') rfl hz7 (by walk_at "tr_2") (by walk_at "tr_2")
end
section
variable {T : List (Addr × Str)} {P : Program} {w : World} {K : PySem.W.Frag} {mg : Str → Option Value} {base : Heap}
local macro_rules | `(tactic| walk_at "tr_2") => `(tactic| first
  | assumption
  | exact Ext.refl
  | ((with_reducible refine' Im.x (T := T) (H := ?trH) ?tra ?tre); (case tre => assumption); (case tra => walk_at "tr_2"))
  | ((with_reducible refine' Im.y (T := T) (H := ?trH) ?tra ?tre ?trt); (case tre => assumption); (case trt => walk_at "tr_2"); (case tra => walk_at "tr_2"))
  | ((with_reducible refine' ImAll.x (T := T) (H := ?trH) ?tra ?tre); (case tre => assumption); (case tra => walk_at "tr_2"))
  | ((with_reducible refine' ImAll.y (T := T) (H := ?trH) ?tra ?tre ?trt); (case tre => assumption); (case trt => walk_at "tr_2"); (case tra => walk_at "tr_2"))
  | ((with_reducible refine' Ls.x (T := T) (H := ?trH) ?tra ?tre); (case tre => assumption); (case tra => walk_at "tr_2"))
  | ((with_reducible refine' Ls.y (T := T) (H := ?trH) ?tra ?tre ?trn ?trt); (case tre => assumption); (case trt => walk_at "tr_2"); (case trn => walk_at "tr_2"); (case tra => walk_at "tr_2"))
  | ((with_reducible refine' SqP.x (T := T) (H := ?trH) ?tra ?tre); (case tre => assumption); (case tra => walk_at "tr_2"))
  | ((with_reducible refine' SqP.y (T := T) (H := ?trH) ?tra ?tre ?trt); (case tre => assumption); (case trt => walk_at "tr_2"); (case tra => walk_at "tr_2"))
  | ((with_reducible refine' StAt.x (T := T) (H := ?trH) ?tra ?tre); (case tre => assumption); (case tra => walk_at "tr_2"))
  | ((with_reducible refine' StAt.y (T := T) (H := ?trH) ?tra ?tre ?trt); (case tre => assumption); (case trt => walk_at "tr_2"); (case tra => walk_at "tr_2"))
  | ((with_reducible refine' Pools.ext0 (T := T) (H := ?trH) ?tra ?tre); (case tre => assumption); (case tra => walk_at "tr_2"))
  | ((with_reducible refine' Pools.ext (T := T) (H := ?trH) ?tra ?tre ?trt); (case tre => assumption); (case trt => walk_at "tr_2"); (case tra => walk_at "tr_2"))
  | ((with_reducible refine' CL.x (T := T) (H := ?trH) ?tra ?tre); (case tre => assumption); (case tra => walk_at "tr_2"))
  | ((with_reducible refine' CL.y (T := T) (H := ?trH) ?tra ?tre); (case tre => assumption); (case tra => walk_at "tr_2"))
  | ((with_reducible refine' Tape.ext (T := T) (H := ?trH) ?tra ?tre); (case tre => assumption); (case tra => walk_at "tr_2"))
  | ((with_reducible refine' lst.x (T := T) (H := ?trH) ?tra ?tre); (case tre => assumption); (case tra => walk_at "tr_2"))
  | ((with_reducible refine' lst.y (T := T) (H := ?trH) ?tra ?tre ?trn); (case tre => assumption); (case trn => walk_at "tr_2"); (case tra => walk_at "tr_2"))
  | ((with_reducible refine' tup.x (T := T) (H := ?trH) ?tra ?tre); (case tre => assumption); (case tra => walk_at "tr_2"))
  | ((with_reducible refine' tup.y (T := T) (H := ?trH) ?tra ?tre ?trt); (case tre => assumption); (case trt => walk_at "tr_2"); (case tra => walk_at "tr_2"))
  | ((with_reducible refine' frz.x (T := T) (H := ?trH) ?tra ?tre); (case tre => assumption); (case tra => walk_at "tr_2"))
  | ((with_reducible refine' frz.y (T := T) (H := ?trH) ?tra ?tre ?trt); (case tre => assumption); (case trt => walk_at "tr_2"); (case tra => walk_at "tr_2"))
  | ((with_reducible refine' Im.z (T := T) (H := ?trH) ?tra ?tre ?trt); (case tre => assumption); (case trt => assumption); (case tra => walk_at "tr_2"))
  | ((with_reducible refine' ImAll.z (T := T) (H := ?trH) ?tra ?tre ?trt); (case tre => assumption); (case trt => assumption); (case tra => walk_at "tr_2"))
  | ((with_reducible refine' StAt.z (T := T) (H := ?trH) ?tra ?tre ?trt); (case tre => assumption); (case trt => assumption); (case tra => walk_at "tr_2"))
  | ((with_reducible refine' SqP.z (T := T) (H := ?trH) ?tra ?tre ?trt); (case tre => assumption); (case trt => assumption); (case tra => walk_at "tr_2"))
  | ((with_reducible refine' tup.z (T := T) (H := ?trH) ?tra ?tre ?trt); (case tre => assumption); (case trt => assumption); (case tra => walk_at "tr_2"))
  | ((with_reducible refine' Ls.z (T := T) (H := ?trH) ?tra ?tre ?trt ?trn); (case tre => assumption); (case trt => assumption); (case trn => assumption); (case tra => walk_at "tr_2"))
  | ((with_reducible refine' lst.z (T := T) (H := ?trH) ?tra ?tre ?trn); (case tre => assumption); (case trn => assumption); (case tra => walk_at "tr_2"))
  | ((with_reducible refine' CL.z (T := T) (H := ?trH) ?tra ?tre ?trn); (case tre => assumption); (case trn => assumption); (case tra => walk_at "tr_2"))
  | ((with_reducible refine' Tape.ne1 (H := ?trH) ?trt ?trn); (case trn => assumption); (case trt => walk_at "tr_2"))
  | ((with_reducible refine' Ext.trans (H1 := ?trH) ?tra (Ext.any ?tre)); (case tre => assumption); (case tra => walk_at "tr_2"))
  | ((with_reducible refine' Ext.trans (H1 := ?trH) ?tra ?tre); (case tre => assumption); (case tra => walk_at "tr_2"))
  | ((with_reducible refine' Ext.back1 (T := T) (H1 := ?trH) ?tre ?trn ?tra); (case tra => assumption); (case trn => walk_at "tr_2"); (case tre => walk_at "tr_2"))
  | ((with_reducible refine' Ext.back0 (T := T) (H1 := ?trH) ?tre ?tra); (case tra => assumption); (case tre => walk_at "tr_2"))
  | ((with_reducible refine' SqT.of ?tra); (case tra => walk_at "tr_2"))
  | ((with_reducible refine' SqL.of ?tra); (case tra => walk_at "tr_2")))
local macro_rules | `(tactic| walk_at "al_2") => `(tactic| (refine ⟨by first | (show _ ≤ sizeLine; decide) | walk_at "sz_2", ?_⟩; intro alp aln; generalize alG : upd _ alp _ = alH; obtain ⟨aln2, alx, alh⟩ := al_of (T := T) aln alG; clear alG aln))
local macro_rules | `(tactic| walk_at "al0_2") => `(tactic| (intro alp aln; generalize alG : upd _ alp _ = alH; obtain ⟨aln2, alx, alh⟩ := al_of (T := T) aln alG; clear alG aln))
theorem erase_map {α β : Type} (f : α → β) : ∀ (l : List α) (k : Nat), (l.map f).eraseIdx k = (l.eraseIdx k).map f
  | [], _ => rfl
  | _ :: _, 0 => rfl
  | a :: l, k + 1 => by
    show f a :: (l.map f).eraseIdx k = f a :: (l.eraseIdx k).map f
    rw [erase_map f l k]
theorem ok_law_change (D : Def K mg "_law_change" s_law_change ["tape", "realm", "pools", "state"]) (mb : ∀ x ∈ bltns, mg x = none) (G_law_take : Ok P w K mg base 2 "_law_take" ["tape", "many"] (spTake T)) (G_law_slots : Ok P w K mg base 1 "_law_slots" ["realm"] (spSlots T))
    (G_law_life : Ok P w K mg base 3 "_law_life" ["tape"] (spInt T 1 1000)) (G_law_home : Ok P w K mg base 2 "_law_home" ["realm", "slot"] (spHome T))
    (G_law_at : Ok P w K mg base 1 "_law_at" ["state", "slot"] (spAt T)) (G_law_item : Ok P w K mg base 1 "_law_item" ["content", "life", "signers"] (spItem T)) (G_law_pool : Ok P w K mg base 1 "_law_pool" ["pools", "zone"] (spPool T)) :
    Ok P w K mg base 4 "_law_change" ["tape", "realm", "pools", "state"] (spRow T) := by
  refine D.ok sc_law_change (fun vs H Q E h => ?_) (fun cdv f A outer s H vs Q E hr h => ?_)
  · obtain ⟨l, t, pa, v, u, R, ps, s, rfl, _⟩ := h
    rfl
  · obtain ⟨l, t, pa, v, u, R, ps, s, rfl, hT, hv, hR, hP, hps, hu, hs, hsv, hon, q⟩ := h
    refine ⟨_, (pss_cons (ps_setLc (i := 5) (own := [("zone", 4), ("lag", 17)]) (tt := tYes) rfl sc_law_change.nd rfl rfl (sw_true rfl rfl rfl (by decide +kernel)) (pi_seq K rfl (pe_ix (ix_U K rfl) (pv 1) pe_int (fun _ _ => rfl))) (blkOk_by (N := N_law_change) (sc := defScope s_law_change) (by decide +kernel)) (fun _ _ _ _ _ => (pg_tupU (n := 2) K rfl rfl (pgs_cons (pg_name (i := 4) sc_law_change.nd rfl (Or.inl rfl)) (pgs_cons (pg_name (i := 17) sc_law_change.nd rfl (Or.inl rfl)) pgs_nil)))) (fun _ _ _ _ _ => pts_nil) (fun _ _ _ _ _ => (pv 4)))
   (pss_cons (ps_set (i := 4) sc_law_change.nd rfl (.inr rfl) (pe_ix (ix_U K rfl) (pv 5) (pe_callO G_law_take (hr.mono (by decide)) (by rfl) (pa_cons (pv 0) (pa_cons (pe_callB (call_lenU K rfl) (by rfl) (mb _ (by decide)) (by decide +kernel) (pa_cons (pv 5) pa_nil)) pa_nil))) (fun _ _ => rfl)))
   (pss_cons (ps_asg (pe_slice (sl_U K rfl) (pe_callO G_law_pool (hr.mono (by decide)) (by rfl) (pa_cons (pv 2) (pa_cons (pv 4) pa_nil))) po_none (po_some pe_int)) (pg_tupU (n := 2) K rfl rfl (pgs_cons (pg_name (i := 6) sc_law_change.nd rfl (.inl rfl)) (pgs_cons (pg_name (i := 7) sc_law_change.nd rfl (.inl rfl)) pgs_nil))))
   (pss_cons (ps_set (i := 8) sc_law_change.nd rfl (.inl rfl) (pe_callO G_law_life (hr.mono (by decide)) (by rfl) (pa_cons (pv 0) pa_nil)))
   (pss_cons (ps_set (i := 9) sc_law_change.nd rfl (.inl rfl) (pe_callTy (call_listU K rfl) (by rfl) (mb _ (by decide)) (by decide +kernel) (pa_cons (pe_ix (ix_U K rfl) (pv 1) pe_int (fun _ _ => rfl)) pa_nil)))
   (pss_cons (ps_set (i := 11) sc_law_change.nd rfl (.inl rfl) (pe_callB (call_sortedU K rfl hr.units) (by rfl) (mb _ (by decide)) (by decide +kernel) (pa_cons (pe_lc (own := [("slot", 10)]) (g := gName 10) rfl sc_law_change.nd (pi_seq K rfl (pe_callO G_law_slots (hr.mono (by decide)) (by rfl) (pa_cons (pv 1) pa_nil))) (blkOk_by (N := N_law_change) (sc := defScope s_law_change) (by decide +kernel)) (fun _ _ _ _ _ => (pg_name (i := 10) sc_law_change.nd rfl (Or.inl rfl))) (fun _ _ _ _ _ => (pts_one (PW.pt (pw_and (pt_cmpR (op_inW K rfl (Room.units65 hr)) (pe_ix (ix_U K rfl) (pv 10) pe_int (fun _ _ => rfl)) (pe_tup (pa_cons pe_str (pa_cons pe_str pa_nil))) rfl) (pw_and1 (pt_cmpR (op_eqU K rfl hr.units) (pe_callO G_law_home (hr.mono (by decide)) (by rfl) (pa_cons (pv 1) (pa_cons (pv 10) pa_nil))) (pv 4) (nomark _))))))) (fun _ _ _ _ _ => (pv 10))) pa_nil)))
   (pss_cons (ps_set (i := 12) sc_law_change.nd rfl (.inl rfl) (pe_ifExp (pt_cmpR (op_eqU K rfl hr.units) (pv 4) pe_str (nomark _)) (pe_slice (sl_U K rfl) (pv 9) po_none (po_some pe_int)) (pe_lst (pa_cons (pv 6) pa_nil))))
   (pss_cons (ps_set (i := 13) sc_law_change.nd rfl (.inl rfl) (pe_lst (pa_cons (pe_tup (pa_cons pe_str (pa_cons (pe_tup (pa_cons pe_str (pa_cons (pv 4) pa_nil))) (pa_cons (pe_callO G_law_item (hr.mono (by decide)) (by rfl) (pa_cons (pe_lst (pa_cons (pv 6) (pa_cons (pv 7) pa_nil))) (pa_cons (pv 8) (pa_cons (pv 12) pa_nil)))) pa_nil)))) pa_nil)))
   (pss_cons (ps_for PassesOwn.never rfl (pi_seq K rfl (pe_slice (sl_U K rfl) (pv 11) po_none (po_some pe_int))) (pg_name (i := 10) sc_law_change.nd rfl (.inl rfl)) (pss_cons (ps_set (i := 14) sc_law_change.nd rfl (.inl rfl) (pe_callO G_law_at (hr.mono (by decide)) (by rfl) (pa_cons (pv 3) (pa_cons (pv 10) pa_nil))))
   (pss_one (ps_expr (pe_bm PySem.F.plainAttrs_list PySem.F.slot_list_append PySem.F.type_list_append mt_append (pv 13) (pa_cons (pe_tup (pa_cons pe_str (pa_cons (pv 10) (pa_cons (pe_tup (pa_cons (pe_ix (ix_U K rfl) (pv 14) pe_int (fun _ _ => rfl)) (pa_cons (pe_ix (ix_U K rfl) (pv 14) pe_int (fun _ _ => rfl)) (pa_cons (pe_tup (pa_cons (pv 7) pa_nil)) (pa_cons (pe_ix (ix_U K rfl) (pv 14) pe_int (fun _ _ => rfl)) (pa_cons (pe_ix (ix_U K rfl) (pv 14) pe_int (fun _ _ => rfl)) pa_nil)))))) pa_nil)))) pa_nil))))))
   (pss_cons (ps_if (pt_cmpR (op_neU K rfl hr.units) (pv 4) pe_str (nomark _)) (pss_cons (ps_set (i := 15) sc_law_change.nd rfl (.inl rfl) (pe_callO G_law_at (hr.mono (by decide)) (by rfl) (pa_cons (pv 3) (pa_cons (pe_tup (pa_cons pe_str (pa_cons (pv 4) pa_nil))) pa_nil))))
   (pss_cons (ps_expr (pe_bm PySem.F.plainAttrs_list PySem.F.slot_list_append PySem.F.type_list_append mt_append (pv 13) (pa_cons (pe_tup (pa_cons pe_str (pa_cons (pe_tup (pa_cons pe_str (pa_cons (pv 4) pa_nil))) (pa_cons (pe_callO G_law_item (hr.mono (by decide)) (by rfl) (pa_cons (pe_lst (pa_cons (pv 6) (pa_cons (pv 7) pa_nil))) (pa_cons (pe_ix (ix_U K rfl) (pv 15) pe_int (fun _ _ => rfl)) (pa_cons (pe_callTy (call_listU K rfl) (by rfl) (mb _ (by decide)) (by decide +kernel) (pa_cons (pe_ix (ix_U K rfl) (pv 15) pe_int (fun _ _ => rfl)) pa_nil)) pa_nil)))) pa_nil)))) pa_nil)))
   (pss_one (ps_set (i := 12) sc_law_change.nd rfl (.inl rfl) (pe_lst (pa_cons (pv 7) pa_nil)))))) pss_nil)
   (pss_cons (ps_expr (pe_bm PySem.F.plainAttrs_list PySem.F.slot_list_append PySem.F.type_list_append mt_append (pv 13) (pa_cons (pe_tup (pa_cons pe_str (pa_cons (pe_tup (pa_cons pe_str (pa_cons (pv 4) pa_nil))) (pa_cons (pe_callO G_law_item (hr.mono (by decide)) (by rfl) (pa_cons (pe_lst (pa_cons (pv 7) pa_nil)) (pa_cons (pv 8) (pa_cons (pv 12) pa_nil)))) pa_nil)))) pa_nil)))
   (pss_cons (ps_if (pt_cmpR (op_eqU K rfl hr.units) (pe_callO G_law_take (hr.mono (by decide)) (by rfl) (pa_cons (pv 0) (pa_cons pe_int pa_nil))) pe_int (nomark _)) (pss_one (ps_expr (pe_bm PySem.F.plainAttrs_list PySem.F.slot_list_pop PySem.F.type_list_pop mt_popAt (pv 13) (pa_cons (pe_callO G_law_take (hr.mono (by decide)) (by rfl) (pa_cons (pv 0) (pa_cons (pe_callB (call_lenU K rfl) (by rfl) (mb _ (by decide)) (by decide +kernel) (pa_cons (pv 13) pa_nil)) pa_nil))) pa_nil)))) pss_nil)
   (pss_cons (ps_if (PW.pt (pw_and (pt_cmpR op_gt (pe_callB (call_lenU K rfl) (by rfl) (mb _ (by decide)) (by decide +kernel) (pa_cons (pv 13) pa_nil)) pe_int (nomark _)) (pw_and1 (pt_cmpR (op_eqU K rfl hr.units) (pe_callO G_law_take (hr.mono (by decide)) (by rfl) (pa_cons (pv 0) (pa_cons pe_int pa_nil))) pe_int (nomark _))))) (pss_cons (ps_set (i := 16) sc_law_change.nd rfl (.inl rfl) (pe_callO G_law_take (hr.mono (by decide)) (by rfl) (pa_cons (pv 0) (pa_cons (pe_op op_sub (pe_callB (call_lenU K rfl) (by rfl) (mb _ (by decide)) (by decide +kernel) (pa_cons (pv 13) pa_nil)) pe_int) pa_nil))))
   (pss_one (ps_asg (pe_tup (pa_cons (pe_ix (ix_U K rfl) (pv 13) (pe_op (op_plus K rfl) (pv 16) pe_int) (fun _ _ => rfl)) (pa_cons (pe_ix (ix_U K rfl) (pv 13) (pv 16) (fun _ _ => rfl)) pa_nil))) (pg_tupU (n := 2) K rfl rfl (pgs_cons (pg_sub (pv 13) (pv 16) set_list) (pgs_cons (pg_sub (pv 13) (pe_op (op_plus K rfl) (pv 16) pe_int) set_list) pgs_nil)))))) pss_nil)
   (pss_one (ps_ret (pe_callTy (call_tupU K rfl) (by rfl) (mb _ (by decide)) (by decide +kernel) (pa_cons (pe_slice (sl_U K rfl) (pv 13) po_none (po_some pe_int)) pa_nil))))))))))))))))), ?_⟩
    have hsl := slots_len hR
    have hpn : (ps.map (·.1)).Nodup := by rw [hps.nm]; exact hR.nd
    have hpl : ps.length ≤ 6 := by
      have := congrArg List.length hps.nm
      rw [List.length_map, List.length_map] at this
      have := hR.len
      omega
    refine rd_seq ?_
    walk_at "rdn_2"
    refine rd_ixI (d := .tuple (R.zs.map siD)) hv rfl fun u1 hu1 => ?_
    obtain ⟨zp, zx, rfl, hzp, hzi⟩ := hu1.tup'
    have hzl : zx.length = R.zs.length := by rw [hzi.len, List.length_map]
    have hzl6 := hR.len
    have hz0 : 0 < R.zs.length := by
      obtain ⟨lag, rest, e, _⟩ := hR.ne
      rw [e, List.length_cons]
      omega
    refine ⟨zp, rfl, .inr ⟨⟨_, SqP.sq hzp⟩, ?_⟩⟩
    refine lcg_rel T [] walk_tup zx rfl (fun i H x H' y => y) (by simp) (fun H' e => SqP.sq (SqP.x hzp e)) (Nat.lt_of_le_of_lt (show zx.length ≤ 100 by omega) (by decide)) (fun _ => true) (fun v x => ∃ r, Im H x (siD r) ∧ v = .str r.1) (fun i x hx H' e' R' S h1 h2 => ?_) (fun D H2 us nD e2 hD hus => ?_)
    · obtain ⟨dr, hdr, hxr⟩ := hzi.get' hx
      rw [List.getElem?_map] at hdr
      obtain ⟨r, hr, rfl⟩ := Option.map_eq_some_iff.mp hdr
      refine rd_gpair (d1 := .str r.1) (d2 := .int r.2) (hxr.x e') fun v1 v2 g1 g2 => ?_
      rw [g1.str', g2.int']
      refine ⟨rfl, ?_⟩
      walk_at "rd_2"
      exact h1 rfl _ _ .refl ⟨r, hxr, rfl⟩
    · rw [filtT] at hus
      have hu2 := zn_key hzi hus
      subst hu2
      have hDt : D ≠ t := by walk_at "tr_2"
      have T2 : Tape l H2 t := by walk_at "tr_2"
      clear hzp hzi hus
      walk_at "rdn_2"
      refine rd_seq ?_
      walk_at "rdn_2"
      refine ⟨l, t, _, rfl, ?_, ?_, T2, fun d0 H3 h00 h01 e3 T3 => ?_⟩
      · rw [List.length_map, List.length_map]
        omega
      · rw [List.length_map, List.length_map]
        omega
      obtain ⟨c, hc1, hc2, hc3⟩ := at_in (l := (R.zs.map (·.1)).map V.str) h00 h01
      obtain ⟨z, hz, rfl⟩ := List.mem_map.mp hc3
      refine rd_ixL (SqL.of (show H3 D = _ by walk_at "tr_2")) hc1 ?_
      have e03 : Ext T [t] H H3 := by walk_at "tr_2"
      clear hc1 hc2 hc3 e2 hD nD T2 e3
      walk_at "rdn_2"
      refine rd_seq ?_
      walk_at "rdn_2"
      obtain ⟨ks, hks⟩ : ∃ ks, (z, ks) ∈ ps := by
        have hm := hz
        rw [← hps.nm] at hm
        obtain ⟨p, hp, e⟩ := List.mem_map.mp hm
        exact ⟨p.2, by rw [← e]; exact hp⟩
      refine ⟨t, pa, ps, z, ks, rfl, by walk_at "tr_2", hpl, hpn, hks, fun oa H4 hot hoa e4 => ?_⟩
      obtain ⟨k1, k2, k3, rfl⟩ : ∃ k1 k2 k3, ks = [k1, k2, k3] := by
        have h := hps.len _ hks
        match ks, h with
        | [a, b, c], _ => exact ⟨a, b, c, rfl⟩
      have kn := hps.nd _ hks
      have ko := hps.ok _ hks
      have kn12 : k1 ≠ k2 := fun e => by
        subst e
        simp at kn
      have ko1 := ko k1 (by simp)
      have ko2 := ko k2 (by simp)
      walk_at "rdn_2"
      refine rd_takeS T (zs := [k1, k2, k3]) (by walk_at "tr_2") (by decide) fun p1 H5 _ e5 hp1 => ?_
      refine rd_glst (xs := [.str k1, .str k2]) (SqL.of hp1) rfl ?_
      walk_at "rdn_2"
      refine rd_seq ?_
      walk_at "rdn_2"
      refine ⟨l, t, rfl, by walk_at "tr_2", fun li H6 hl0 hl1 e6 T6 => ?_⟩
      have e06 : Ext T [t] H H6 := by walk_at "tr_2"
      clear e4 hoa e5 hp1 T3 e6 e03
      walk_at "rdn_2"
      refine rd_seq ?_
      walk_at "rdn_2"
      refine rd_ixI (d := .tuple (R.an.map .str)) (show Im H6 v (rmD R) by walk_at "tr_2") rfl fun u1 hu1 => ?_
      obtain ⟨at', ax, rfl, hat, hax⟩ := hu1.tup'
      have hax2 := hax.strs'
      subst hax2
      refine rd_nil ?_
      refine rd_listA T (SqP.sq hat) fun na H7 nna e7 hna => ?_
      have hnat : na ≠ t := by walk_at "tr_2"
      walk_at "rdn_2"
      refine rd_seq ?_
      walk_at "rdn_2"
      refine ⟨v, R, rfl, by walk_at "tr_2", hR, fun sp H8 nsp e8 hsp => ?_⟩
      obtain ⟨sx, hsx, hsi⟩ := hsp.list
      have hsxl : sx.length = (slotsR R).length := by rw [hsi.len, List.length_map]
      walk_at "rdn_2"
      refine lcg_rel T [] walk_list sx rfl (fun i H x H' y => y) (by simp) (fun H' e => SqL.of (lst.x hsx e)) (Nat.lt_of_le_of_lt (show sx.length ≤ 100 by omega) (by decide)) (pIm H8 slD fun sl => slw sl && decide (homeR R sl = z)) (fun v x => v = x) (fun i x hx H' e' R' S h1 h2 => ?_) (fun D2 H9 us nD2 e9 hD2 hus => ?_)
      · obtain ⟨dr, hdr, hxr⟩ := hsi.get' hx
        rw [List.getElem?_map] at hdr
        obtain ⟨sl, hsl', rfl⟩ := Option.map_eq_some_iff.mp hdr
        have hp := pIm_eq (c := fun sl => slw sl && decide (homeR R sl = z)) (fun a b => slD_inj) hxr
        have hslm := List.mem_of_getElem? hsl'
        obtain ⟨kw, zz, rr, e1, e2⟩ := slw_eq sl
        have hxr' := hxr
        rw [e1] at hxr'
        refine rd_name ⟨wipe1, ?_⟩
        walk_at "rd_2"
        refine rd_ixSs (hxr'.x e') (at_zero _ _) ?_
        walk_at "rd_2"
        walk_at "al_2"
        rename_i q1 G1 _ x1 g1
        refine rd_inWt (zs := [Str.ofString "set", Str.ofString "link"]) (SqT.of g1) ?_
        walk_at "rd_2"
        refine rd_ite (fun hk => ?_) (fun hk => ?_)
        · walk_at "rd_2"
          refine ⟨v, x, R, sl, rfl, by walk_at "tr_2", by walk_at "tr_2", hR, hslm, fun G2 x2 hh => ?_⟩
          walk_at "rd_2"
          refine rd_ite (fun hz2 => ?_) (fun hz2 => ?_)
          · walk_at "rd_2"
            exact h1 (hp.trans (by rw [e2.mp hk, decide_eq_true hz2]; rfl)) _ _ (x1.trans x2) rfl
          · exact h2 (hp.trans (by rw [decide_eq_false hz2, Bool.and_false])) _ (x1.trans x2)
        · have hk2 : slw sl = false := by
            cases h : slw sl with
            | false => rfl
            | true => exact absurd (e2.mpr h) hk
          exact h2 (hp.trans (by rw [hk2]; rfl)) _ x1
      · have hus2 := im_filter (fun a b => slD_inj) hsi hus
        have hfm : ∀ s' ∈ (slotsR R).filter (fun sl => slw sl && decide (homeR R sl = z)), s' ∈ slotsR R ∧ slw s' = true := fun s' h => by
          obtain ⟨h1, h2⟩ := List.mem_filter.mp h
          exact ⟨h1, (Bool.and_eq_true _ _ ▸ h2).1⟩
        generalize (slotsR R).filter (fun sl => slw sl && decide (homeR R sl = z)) = fl at hus2 hfm
        walk_at "rdn_2"
        refine rd_sortA T (ds := fl.map slD) ⟨_, hD2, by walk_at "tr_2"⟩ (alike_sl _) (sortable_sl _) (depth_sl _) fun sa H10 ys nsa e10 hsa hys => ?_
        rw [srtSl_eq] at hys
        have hse : Ls H10 sa ((srtSl fl).map slD) := ⟨ys, hsa, hys⟩
        have hsm : ∀ s' ∈ srtSl fl, s' ∈ slotsR R ∧ slw s' = true := fun s' h => hfm s' ((srtSl_perm fl).mem_iff.mp h)
        generalize srtSl fl = sealed at hse hsm
        have T10 : Tape l H10 t := by walk_at "tr_2"
        have e010 : Ext T [t] H H10 := by walk_at "tr_2"
        have hna10 : H10 na = some (.lst (R.an.map V.str)) := by walk_at "tr_2"
        have hsat : sa ≠ t := by walk_at "tr_2"
        clear hsa hys hus2 hfm hus hD2 nD2 e9 e10 e8 hsp hsx hsi hsxl hat hax e7 hna nna T6 e06
        walk_at "rdn_2"
        refine rd_cut (fun σ H11 => Ext T [] H10 H11 ∧ ∃ (ga : Addr) (gs : List Str), σ = [some (.ref t), some v, some (.ref pa), some u, some (.str z), some (.ref D), some (.str k1), some (.str k2), some (.int li), some (.ref na), none, some (.ref sa), some (.ref ga), none, none, none, none, none] ∧ CL H11 t ga 3 gs) (fun nx' hnx => ?_) (fun σ H11 h => ?_)
        · walk_at "rd_2"
          refine rd_ite (fun hz2 => ?_) (fun hz2 => ?_)
          · walk_at "rd_2"
            refine rd_takeS T (zs := R.an) hna10 (by decide) fun p G np x hp => ?_
            walk_at "rd_2"
            obtain ⟨a, r, ea, ha⟩ := hR.an
            have e1 : R.an.take (Int.toNat 1) = [a] := by rw [ea]; rfl
            rw [e1] at hp
            exact hnx _ _ ⟨x, p, [a], rfl, hp, by walk_at "tr_2", by simp, fun y hy => by rw [List.mem_singleton.mp hy]; exact ha, by simp⟩
          · walk_at "rd_2"
            walk_at "al_2"
            rename_i p G np x hp
            walk_at "rd_2"
            exact hnx _ _ ⟨x, p, [k1], rfl, hp, by walk_at "tr_2", by simp, fun y hy => by rw [List.mem_singleton.mp hy]; exact ko1, by simp⟩
        · obtain ⟨x11, ga, gs, rfl, hga⟩ := h
          have hkk : [k1, k2].Nodup ∧ ∀ y ∈ [k1, k2], idB y = true := ⟨by simpa using kn12, fun y hy => ko y (by simp at hy ⊢; rcases hy with h | h <;> simp [h])⟩
          have hzs : PyData.strOk z = true := by
            obtain ⟨y, hy, e⟩ := List.mem_map.mp hz
            rw [← e]
            exact name_ok (hR.nm y hy)
          refine rd_seq ?_
          walk_at "rdn_2"
          walk_at "al_2"
          rename_i kt G1 nkt y1 hkt
          walk_at "rdn_2"
          walk_at "al_2"
          rename_i la G2 nla y2 hla
          walk_at "rdn_2"
          refine ⟨la, ga, [k1, k2], gs, li, rfl, hla, (show CL G2 t ga 3 gs by walk_at "tr_2").at_, hkk.2, hga.ok, fun it G3 y3 hit => ?_⟩
          walk_at "rdn_2"
          walk_at "al_2"
          rename_i pt G4 npt y4 hpt
          have hd0 : Im G4 (.ref pt) (ddD (.put (.k z) ⟨srtS [k1, k2], li, srtS gs, 0, 10000⟩)) := .new3 (.str _ (by decide +kernel)) (show Im G4 (.ref kt) (slD (.k z)) from Im.new2 (.str _ (by decide +kernel)) (.str _ hzs) (by walk_at "tr_2")) (by walk_at "tr_2") hpt
          have hok0 : DdP R (.put (.k z) ⟨srtS [k1, k2], li, srtS gs, 0, 10000⟩) := ⟨trivial, k_mem hR hz, ⟨[k1, k2], rfl, hkk.1, hkk.2, by simp⟩, ⟨gs, rfl, hga.nd, hga.ok, hga.len⟩, ⟨hl0, hl1⟩, ⟨show (0 : Int) ≤ 0 by decide, show (0 : Int) ≤ 10000 by decide, show (10000 : Int) ≤ 10000 by decide⟩, (fun z e => by cases e), fun _ _ => srtS_ne (by simp)⟩
          have T4 : Tape l G4 t := by walk_at "tr_2"
          have e04 : Ext T [t] H G4 := by walk_at "tr_2"
          have hse4 : Ls G4 sa (sealed.map slD) := by walk_at "tr_2"
          have hga4 : CL G4 t ga 3 gs := by walk_at "tr_2"
          have hu4 : StAt G4 u s := by walk_at "tr_2"
          generalize Dd.put (.k z) ⟨srtS [k1, k2], li, srtS gs, 0, 10000⟩ = dd0 at hd0 hok0
          clear hna10 hse T10 e010 hpt hit y4 y3 hla y2 hkt y1 hga x11
          walk_at "rdn_2"
          walk_at "al_2"
          rename_i dp G5 ndp y5 hdp
          walk_at "rdn_2"
          have hds5 : Ls G5 dp ([dd0].map ddD) := ⟨_, hdp, .cons (hd0.x y5) .nil⟩
          have hse5 : Ls G5 sa (sealed.map slD) := by walk_at "tr_2"
          refine rd_cut (fun σ H7 => Ext T [t] G4 H7 ∧ Tape l H7 t ∧ ∃ (ds : List Dd) (a b : Option V), σ = [some (.ref t), some v, some (.ref pa), some u, some (.str z), some (.ref D), some (.str k1), some (.str k2), some (.int li), some (.ref na), a, some (.ref sa), some (.ref ga), some (.ref dp), b, none, none, none] ∧ Ls H7 dp (ds.map ddD) ∧ (∀ d ∈ ds, DdP R d) ∧ 1 ≤ ds.length ∧ ds.length ≤ 4) (fun nx' hnx => ?_) (fun σ H7 h => ?_)
          · obtain ⟨xs, hxs, hxi⟩ := hse5.list
            walk_at "rd_2"
            refine rd_slL (SqL.of hxs) ?_
            walk_at "al0_2"
            rename_i qa G6 nqa y6 hqa
            rw [cutV_to _ (by decide), show Int.toNat 3 = 3 from rfl] at hqa
            have hxi6 : ImAll G6 (xs.take 3) ((sealed.take 3).map slD) := by
              have h := hxi.take 3
              rw [← List.map_take] at h
              walk_at "tr_2"
            have hqdp : qa ≠ dp := fun e => nqa.lst hdp e.symm
            have hqt : qa ≠ t := by walk_at "tr_2"
            have e46 : Ext T [t] G4 G6 := by walk_at "tr_2"
            have T6 : Tape l G6 t := by walk_at "tr_2"
            have hds6 : Ls G6 dp ([dd0].map ddD) := by walk_at "tr_2"
            clear hse5 hxs hxi y6 y5 hds5
            refine ⟨qa, rfl, .inl ⟨⟨_, SqL.of hqa⟩, ?_⟩⟩
            refine forg_list (xs := xs.take 3) (fun i σ H7 => Ext T [t] G4 H7 ∧ Tape l H7 t ∧ H7 qa = some (.lst (xs.take 3)) ∧ ImAll H7 (xs.take 3) ((sealed.take 3).map slD) ∧ ∃ (ds : List Dd) (a b : Option V), σ = [some (.ref t), some v, some (.ref pa), some u, some (.str z), some (.ref D), some (.str k1), some (.str k2), some (.int li), some (.ref na), a, some (.ref sa), some (.ref ga), some (.ref dp), b, none, none, none] ∧ Ls H7 dp (ds.map ddD) ∧ (∀ d ∈ ds, DdP R d) ∧ 1 ≤ ds.length ∧ ds.length ≤ 1 + i)
              ⟨e46, T6, hqa, hxi6, [dd0], none, none, rfl, hds6, fun d hd => by rw [List.mem_singleton.mp hd]; exact hok0, by simp, by simp⟩ (fun i σ H5 _ h => SqL.of h.2.2.1) (fun i x σ H7 hx h => ?_) (fun σ H7 h => ?_)
            · obtain ⟨e7, T7, hqa7, hxi7, ds, a, b, rfl, hds7, hok7, hl7, hl7'⟩ := h
              obtain ⟨dr, hdr, hxr⟩ := hxi7.get' hx
              rw [List.getElem?_map] at hdr
              obtain ⟨sl, hsl', rfl⟩ := Option.map_eq_some_iff.mp hdr
              have hi3 : i < 3 := by
                have h := (List.getElem?_eq_some_iff.mp hsl').1
                rw [List.length_take] at h
                omega
              have hslm := hsm sl (List.mem_of_mem_take (List.mem_of_getElem? hsl'))
              obtain ⟨it0, hit0⟩ := sta_find hs hslm.1
              have hok0' := hs.ok _ hit0
              walk_at "rd_2"
              refine ⟨u, x, s, sl, it0, rfl, by walk_at "tr_2", hxr, hit0, sta_nodup hR hs, sta_len hR hs hsl, fun x0 H8 z1 hx0 => ?_⟩
              have hds8 : Ls H8 dp (ds.map ddD) := by walk_at "tr_2"
              obtain ⟨dx, hdx, _⟩ := hds8.list
              walk_at "rd_2"
              refine rd_ixI (d := .tuple (it0.c.map .str)) hx0 rfl fun c0 hc0 => ?_
              walk_at "rd_2"
              refine rd_ixI (d := .int it0.li) hx0 rfl fun u1 hu1 => ?_
              rw [hu1.int']
              walk_at "rd_2"
              walk_at "al_2"
              rename_i nt G8 _ z2 hnt
              walk_at "rd_2"
              refine rd_ixI (d := .int it0.a) (show Im G8 x0 (itD it0) by walk_at "tr_2") rfl fun u1 hu1 => ?_
              rw [hu1.int']
              walk_at "rd_2"
              refine rd_ixI (d := .int it0.b) (show Im G8 x0 (itD it0) by walk_at "tr_2") rfl fun u1 hu1 => ?_
              rw [hu1.int']
              walk_at "rd_2"
              walk_at "al_2"
              rename_i it5 G9 _ z3 hit5
              walk_at "rd_2"
              walk_at "al_2"
              rename_i pu G10 _ z4 hpu
              have hc9 : Im G9 c0 (.tuple (it0.c.map .str)) := by walk_at "tr_2"
              have hn9 : Im G9 (.ref nt) (.tuple ([k2].map .str)) := .tup (by walk_at "tr_2") (.cons (.str _ (id_ok ko2)) .nil)
              have hI : Im G9 (.ref it5) (itD ⟨it0.c, it0.li, [k2], it0.a, it0.b⟩) := .tup hit5 (.cons hc9 (.cons (.int _) (.cons hn9 (.cons (.int _) (.cons (.int _) .nil)))))
              have hD' : Im G10 (.ref pu) (ddD (.put sl ⟨it0.c, it0.li, [k2], it0.a, it0.b⟩)) := .new3 (.str _ (by decide +kernel)) (by walk_at "tr_2") (by walk_at "tr_2") hpu
              have hdk : DdP R (.put sl ⟨it0.c, it0.li, [k2], it0.a, it0.b⟩) := ⟨trivial, hslm.1, hok0'.c, ⟨[k2], (srtS_one _).symm, by simp, fun y hy => by rw [List.mem_singleton.mp hy]; exact ko2, by simp⟩, hok0'.li, hok0'.ab, (fun z' e => by
                rw [e] at hslm
                cases hslm.2), hok0'.kc⟩
              refine rd_nil ?_
              refine push_step (Hb := G4) (t := t) (l := l) (by walk_at "tr_2") ndp T4 (by walk_at "tr_2") (show Ls G10 dp (ds.map ddD) by walk_at "tr_2") hD' (by rw [List.length_map]; omega) fun H11 e11 T11 z5 z6 hds11 => ?_
              walk_at "rd_2"
              refine ⟨e11, T11, by walk_at "tr_2", by walk_at "tr_2", ds ++ [_], _, _, rfl, by rw [List.map_append]; exact hds11, fun d hd => ?_, by rw [List.length_append]; omega, by rw [List.length_append]; show ds.length + 1 ≤ _; omega⟩
              rcases List.mem_append.mp hd with h | h
              · exact hok7 d h
              · rw [List.mem_singleton.mp h]
                exact hdk
            · obtain ⟨e7, T7, hqa7, hxi7, ds, a, b, rfl, hds7, hok7, hl7, hl7'⟩ := h
              exact hnx _ _ ⟨e7, T7, ds, a, b, rfl, hds7, hok7, hl7, by rw [List.length_take] at hl7'; omega⟩
          · obtain ⟨e7, T7, ds, a, b, rfl, hds7, hok7, hl7, hl7'⟩ := h
            clear hds5 hse5 hdp y5 hd0 hse4 hsm
            refine rd_cut (fun σ H7 => Ext T [t] G4 H7 ∧ Tape l H7 t ∧ ∃ (ds : List Dd) (c : Option V) (ga : Addr) (gs : List Str), σ = [some (.ref t), some v, some (.ref pa), some u, some (.str z), some (.ref D), some (.str k1), some (.str k2), some (.int li), some (.ref na), a, some (.ref sa), some (.ref ga), some (.ref dp), b, c, none, none] ∧ CL H7 t ga 3 gs ∧ Ls H7 dp (ds.map ddD) ∧ (∀ d ∈ ds, DdP R d) ∧ 1 ≤ ds.length ∧ ds.length ≤ 5) (fun nx' hnx => ?_) (fun σ H7 h => ?_)
            · walk_at "rd_2"
              refine rd_itn (fun hz2 => ?_) (fun hz2 => ?_)
              · walk_at "rd_2"
                exact hnx _ _ ⟨e7, T7, ds, none, ga, gs, rfl, by walk_at "tr_2", hds7, hok7, hl7, by omega⟩
              · have hzt : z ∈ R.zs.tail.map (·.1) := (tail_mem hR hz).resolve_left hz2
                obtain ⟨it0, hit0⟩ := sta_find hs (kl_mem hzt).2
                have hok0' := hs.ok _ hit0
                walk_at "rd_2"
                walk_at "al_2"
                rename_i tl H8 _ z1 htl
                have hlk : Im H8 (.ref tl) (slD (.l z)) := .new2 (.str _ (by decide +kernel)) (.str _ hzs) htl
                walk_at "rd_2"
                refine ⟨u, .ref tl, s, .l z, it0, rfl, by walk_at "tr_2", hlk, hit0, sta_nodup hR hs, sta_len hR hs hsl, fun x0 H9 z2 hx0 => ?_⟩
                have hds9 : Ls H9 dp (ds.map ddD) := by walk_at "tr_2"
                obtain ⟨dx, hdx, _⟩ := hds9.list
                walk_at "rd_2"
                walk_at "al_2"
                rename_i tl2 H10 _ z3 htl2
                have hlk2 : Im H10 (.ref tl2) (slD (.l z)) := .new2 (.str _ (by decide +kernel)) (.str _ hzs) htl2
                walk_at "rd_2"
                walk_at "al_2"
                rename_i lb H11 _ z4 hlb
                walk_at "rd_2"
                refine rd_ixI (d := .int it0.li) (show Im H11 x0 (itD it0) by walk_at "tr_2") rfl fun u1 hu1 => ?_
                rw [hu1.int']
                walk_at "rd_2"
                refine rd_ixI (d := .tuple (it0.g.map .str)) (show Im H11 x0 (itD it0) by walk_at "tr_2") rfl fun u1 hu1 => ?_
                obtain ⟨gt, gx, rfl, hgt, hgx⟩ := hu1.tup'
                have hgx2 := hgx.strs'
                subst hgx2
                walk_at "rd_2"
                refine rd_listA T (SqP.sq hgt) fun lc H12 nlc z5 hlc => ?_
                walk_at "rd_2"
                obtain ⟨gn, go, gl⟩ := itm_g hok0'
                refine ⟨lb, lc, [k1, k2], it0.g, it0.li, rfl, show H12 lb = some (.lst ([k1, k2].map V.str)) from lst.x hlb z5, hlc, hkk.2, go, fun it H13 z6 hit => ?_⟩
                walk_at "rd_2"
                walk_at "al_2"
                rename_i pu H14 _ z7 hpu
                have hD' : Im H14 (.ref pu) (ddD (.put (.l z) ⟨srtS [k1, k2], it0.li, srtS it0.g, 0, 10000⟩)) := .new3 (.str _ (by decide +kernel)) (by walk_at "tr_2") (by walk_at "tr_2") hpu
                have hdk : DdP R (.put (.l z) ⟨srtS [k1, k2], it0.li, srtS it0.g, 0, 10000⟩) := ⟨trivial, (kl_mem hzt).2, ⟨[k1, k2], rfl, hkk.1, hkk.2, by simp⟩, ⟨it0.g, rfl, gn, go, gl⟩, hok0'.li, ⟨show (0 : Int) ≤ 0 by decide, show (0 : Int) ≤ 10000 by decide, show (10000 : Int) ≤ 10000 by decide⟩, (fun z e => by cases e), fun z e => by cases e⟩
                refine rd_nil ?_
                refine push_step (Hb := G4) (t := t) (l := l) (by walk_at "tr_2") ndp T4 (by walk_at "tr_2") (show Ls H14 dp (ds.map ddD) by walk_at "tr_2") hD' (by rw [List.length_map]; omega) fun H15 e15 T15 z8 z9 hds15 => ?_
                walk_at "rd_2"
                walk_at "al_2"
                rename_i gn2 H16 ngn2 z10 hgn2
                walk_at "rd_2"
                refine hnx _ _ ⟨by walk_at "tr_2", by walk_at "tr_2", ds ++ [_], _, gn2, [k2], rfl, ⟨hgn2, by walk_at "tr_2", by simp, fun y hy => by rw [List.mem_singleton.mp hy]; exact ko2, by simp⟩, by rw [List.map_append]; walk_at "tr_2", fun d hd => ?_, by rw [List.length_append]; omega, by rw [List.length_append]; show ds.length + 1 ≤ _; omega⟩
                rcases List.mem_append.mp hd with h | h
                · exact hok7 d h
                · rw [List.mem_singleton.mp h]
                  exact hdk
            · clear e7 T7 hds7 hok7 hl7 hl7' hga4
              obtain ⟨e7, T7, ds, c, ga, gs, rfl, hga, hds7, hok7, hl7, hl7'⟩ := h
              have hk2 : [k2].Nodup ∧ ∀ y ∈ [k2], idB y = true := ⟨by simp, fun y hy => by rw [List.mem_singleton.mp hy]; exact ko2⟩
              refine rd_cut (fun σ H7 => Ext T [t] G4 H7 ∧ Tape l H7 t ∧ ∃ (ds : List Dd), σ = [some (.ref t), some v, some (.ref pa), some u, some (.str z), some (.ref D), some (.str k1), some (.str k2), some (.int li), some (.ref na), a, some (.ref sa), some (.ref ga), some (.ref dp), b, c, none, none] ∧ Ls H7 dp (ds.map ddD) ∧ (∀ d ∈ ds, DdP R d) ∧ 2 ≤ ds.length ∧ ds.length ≤ 6) (fun nx' hnx => ?_) (fun σ H8 h => ?_)
              · obtain ⟨dx, hdx, _⟩ := hds7.list
                walk_at "rd_2"
                walk_at "al_2"
                rename_i kt H8 _ z1 hkt
                have hlk : Im H8 (.ref kt) (slD (.k z)) := .new2 (.str _ (by decide +kernel)) (.str _ hzs) hkt
                walk_at "rd_2"
                walk_at "al_2"
                rename_i lb H9 _ z2 hlb
                walk_at "rd_2"
                refine ⟨lb, ga, [k2], gs, li, rfl, hlb, (show CL H9 t ga 3 gs by walk_at "tr_2").at_, hk2.2, hga.ok, fun it H10 z3 hit => ?_⟩
                walk_at "rd_2"
                walk_at "al_2"
                rename_i pu H11 _ z4 hpu
                have hD' : Im H11 (.ref pu) (ddD (.put (.k z) ⟨srtS [k2], li, srtS gs, 0, 10000⟩)) := .new3 (.str _ (by decide +kernel)) (by walk_at "tr_2") (by walk_at "tr_2") hpu
                have hdk : DdP R (.put (.k z) ⟨srtS [k2], li, srtS gs, 0, 10000⟩) := ⟨trivial, k_mem hR hz, ⟨[k2], rfl, hk2.1, hk2.2, by simp⟩, ⟨gs, rfl, hga.nd, hga.ok, hga.len⟩, ⟨hl0, hl1⟩, ⟨show (0 : Int) ≤ 0 by decide, show (0 : Int) ≤ 10000 by decide, show (10000 : Int) ≤ 10000 by decide⟩, (fun z e => by cases e), fun _ _ => srtS_ne (by simp)⟩
                refine rd_nil ?_
                refine push_step (Hb := G4) (t := t) (l := l) (by walk_at "tr_2") ndp T4 (by walk_at "tr_2") (show Ls H11 dp (ds.map ddD) by walk_at "tr_2") hD' (by rw [List.length_map]; omega) fun H12 e12 T12 z5 z6 hds12 => ?_
                walk_at "rd_2"
                refine hnx _ _ ⟨e12, T12, ds ++ [_], rfl, by rw [List.map_append]; exact hds12, fun d hd => ?_, by rw [List.length_append]; show 2 ≤ ds.length + 1; omega, by rw [List.length_append]; show ds.length + 1 ≤ _; omega⟩
                rcases List.mem_append.mp hd with h | h
                · exact hok7 d h
                · rw [List.mem_singleton.mp h]
                  exact hdk
              · clear e7 T7 hds7 hok7 hl7 hl7' hga
                obtain ⟨e7, T7, ds, rfl, hds7, hok7, hl7, hl7'⟩ := h
                refine rd_cut (fun σ H7 => Ext T [t] G4 H7 ∧ Tape l H7 t ∧ ∃ (ds : List Dd), σ = [some (.ref t), some v, some (.ref pa), some u, some (.str z), some (.ref D), some (.str k1), some (.str k2), some (.int li), some (.ref na), a, some (.ref sa), some (.ref ga), some (.ref dp), b, c, none, none] ∧ Ls H7 dp (ds.map ddD) ∧ (∀ d ∈ ds, DdP R d) ∧ 1 ≤ ds.length ∧ ds.length ≤ 6) (fun nx' hnx => ?_) (fun σ H9 h => ?_)
                · walk_at "rd_2"
                  refine ⟨l, t, 4, rfl, by decide, by decide, T7, fun d1 H9 _ _ x1 T9 => ?_⟩
                  have hdpt : dp ≠ t := (T4.ne ndp).1
                  have hds9 : Ls H9 dp (ds.map ddD) := by walk_at "tr_2"
                  obtain ⟨dx, hdx, hdi⟩ := hds9.list
                  have hdl : dx.length = ds.length := by rw [hdi.len, List.length_map]
                  walk_at "rd_2"
                  refine rd_ite (fun hd => ?_) (fun hd => ?_)
                  · walk_at "rd_2"
                    refine ⟨l, t, _, rfl, by omega, by omega, T9, fun d2 H10 h20 h21 x2 T10 => ?_⟩
                    refine rd_nil ?_
                    refine pop_step (Hb := G4) (t := t) (l := l) (by walk_at "tr_2") ndp T4 T10 (show Ls H10 dp (ds.map ddD) by walk_at "tr_2") h20 (by rw [List.length_map]; omega) (by rw [List.length_map]; omega) fun y H11 e11 T11 z5 z6 hds11 => ?_
                    walk_at "rd_2"
                    refine hnx _ _ ⟨e11, T11, ds.eraseIdx d2.toNat, rfl, by rw [← erase_map]; exact hds11, fun d hd => hok7 d (mem_erase hd), by rw [List.length_eraseIdx]; split <;> omega, Nat.le_trans (List.length_eraseIdx_le _ _) hl7'⟩
                  · walk_at "rd_2"
                    exact hnx _ _ ⟨by walk_at "tr_2", T9, ds, rfl, hds9, hok7, by omega, hl7'⟩
                · clear e7 T7 hds7 hok7 hl7 hl7'
                  obtain ⟨e7, T7, ds, rfl, hds7, hok7, hl7a, hl7'⟩ := h
                  refine rd_cut (fun σ H7 => Ext T [t] G4 H7 ∧ Tape l H7 t ∧ ∃ (ds : List Dd) (e : Option V), σ = [some (.ref t), some v, some (.ref pa), some u, some (.str z), some (.ref D), some (.str k1), some (.str k2), some (.int li), some (.ref na), a, some (.ref sa), some (.ref ga), some (.ref dp), b, c, e, none] ∧ Ls H7 dp (ds.map ddD) ∧ (∀ d ∈ ds, DdP R d) ∧ 1 ≤ ds.length ∧ ds.length ≤ 6) (fun nx' hnx => ?_) (fun σ H10 h => ?_)
                  · have hdpt : dp ≠ t := (T4.ne ndp).1
                    obtain ⟨dx, hdx, hdi⟩ := hds7.list
                    have hdl : dx.length = ds.length := by rw [hdi.len, List.length_map]
                    walk_at "rd_2"
                    refine rd_ite (fun h1 => ?_) (fun h1 => ?_)
                    · walk_at "rd_2"
                      refine ⟨l, t, 4, rfl, by decide, by decide, T7, fun d1 H10 _ _ x1 T10 => ?_⟩
                      have hds10 : Ls H10 dp (ds.map ddD) := by walk_at "tr_2"
                      obtain ⟨dx2, hdx2, hdi2⟩ := hds10.list
                      have hdl2 : dx2.length = ds.length := by rw [hdi2.len, List.length_map]
                      walk_at "rd_2"
                      refine rd_ite (fun h2 => ?_) (fun h2 => ?_)
                      · walk_at "rd_2"
                        refine ⟨l, t, _, rfl, by omega, by omega, T10, fun d2 H11 h20 h21 x2 T11 => ?_⟩
                        have hds11 : Ls H11 dp (ds.map ddD) := by walk_at "tr_2"
                        walk_at "rd_2"
                        obtain ⟨dx3, hdx3, hdi3⟩ := hds11.list
                        have hdl3 : dx3.length = ds.length := by rw [hdi3.len, List.length_map]
                        obtain ⟨j, rfl⟩ := Int.eq_ofNat_of_zero_le h20
                        have hj0 : j < dx3.length := by omega
                        have hj1 : j + 1 < dx3.length := by omega
                        have ha1 : atI dx3 ((j : Int) + 1) = some dx3[j + 1] := by
                          have h := atI_nat (List.getElem?_eq_getElem hj1)
                          rw [show (j : Int) + 1 = ((j + 1 : Nat) : Int) by omega]
                          exact h
                        have ha0 : atI dx3 (j : Int) = some dx3[j] := atI_nat (List.getElem?_eq_getElem hj0)
                        obtain ⟨e1, he1, hi1⟩ := hdi3.get' (List.getElem?_eq_getElem hj1)
                        obtain ⟨e0, he0, hi0⟩ := hdi3.get' (List.getElem?_eq_getElem hj0)
                        rw [List.getElem?_map] at he1 he0
                        obtain ⟨a1, hd1, rfl⟩ := Option.map_eq_some_iff.mp he1
                        obtain ⟨a0, hd0, rfl⟩ := Option.map_eq_some_iff.mp he0
                        refine rd_ixL (SqL.of hdx3) ha1 ?_
                        walk_at "rd_2"
                        refine rd_ixL (SqL.of hdx3) ha0 ?_
                        walk_at "rd_2"
                        walk_at "al_2"
                        rename_i tq H12 _ x3 htq
                        refine rd_gtup (SqT.of htq) rfl ?_
                        have T12 : Tape l H12 t := by walk_at "tr_2"
                        have hds12 : Ls H12 dp (ds.map ddD) := by walk_at "tr_2"
                        walk_at "rd_2"
                        refine set_step (Hb := G4) (t := t) (l := l) (by walk_at "tr_2") ndp T4 T12 hds12 (hi1.x x3) (by omega) (by rw [List.length_map]; omega) fun H13 e13 T13 f13 l13 hds13 => ?_
                        rw [Int.toNat_natCast, mapSet] at hds13
                        walk_at "rd_2"
                        refine set_step (Hb := G4) (t := t) (l := l) e13 ndp T4 T13 hds13 ((hi0.x x3).z f13 l13) (by omega) (by rw [List.length_map, List.length_set]; omega) fun H14 e14 T14 f14 l14 hds14 => ?_
                        rw [show Int.toNat ((j : Int) + 1) = j + 1 by omega, mapSet] at hds14
                        walk_at "rd_2"
                        refine hnx _ _ ⟨e14, T14, _, _, rfl, hds14, fun d hd => ?_, by rw [List.length_set, List.length_set]; exact hl7a, by rw [List.length_set, List.length_set]; exact hl7'⟩
                        rcases List.mem_or_eq_of_mem_set hd with hd | hd
                        · rcases List.mem_or_eq_of_mem_set hd with hd | hd
                          · exact hok7 d hd
                          · rw [hd]
                            exact hok7 a1 (List.mem_of_getElem? hd1)
                        · rw [hd]
                          exact hok7 a0 (List.mem_of_getElem? hd0)
                      · walk_at "rd_2"
                        exact hnx _ _ ⟨by walk_at "tr_2", T10, ds, _, rfl, hds10, hok7, hl7a, hl7'⟩
                    · walk_at "rd_2"
                      exact hnx _ _ ⟨e7, T7, ds, _, rfl, hds7, hok7, hl7a, hl7'⟩
                  · obtain ⟨e10, T10, ds, e, rfl, hds10, hok10, hl10a, hl10⟩ := h
                    obtain ⟨dx, hdx, hdi⟩ := hds10.list
                    walk_at "rd_2"
                    refine rd_slL (SqL.of hdx) ?_
                    walk_at "al0_2"
                    rename_i r1 H11 _ x1 hr1
                    rw [cutV_to _ (by decide), show Int.toNat 6 = 6 from rfl] at hr1
                    have hri : ImAll H11 (dx.take 6) ((ds.take 6).map ddD) := by
                      have h := hdi.take 6
                      rw [← List.map_take] at h
                      walk_at "tr_2"
                    walk_at "rd_2"
                    refine rd_tupA T hr1 fun r2 H12 nr2 x2 hr2 => ?_
                    exact q _ (ds.take 6) H12 (fun d hd => (hok10 d (List.mem_of_mem_take hd)).2) (onOk_puts fun d hd => (hok10 d (List.mem_of_mem_take hd)).1) ⟨by rw [List.length_take]; omega, by rw [List.length_take]; omega⟩ (.tup hr2 (hri.x x2)) (by walk_at "tr_2") (by walk_at "tr_2")
end
section
variable {T : List (Addr × Str)} {P : Program} {w : World} {K : PySem.W.Frag} {mg : Str → Option Value} {base : Heap}
local macro_rules | `(tactic| walk_at "tr_2") => `(tactic| first
  | assumption
  | exact Ext.refl
  | ((with_reducible refine' Im.x (T := T) (H := ?trH) ?tra ?tre); (case tre => assumption); (case tra => walk_at "tr_2"))
  | ((with_reducible refine' Im.y (T := T) (H := ?trH) ?tra ?tre ?trt); (case tre => assumption); (case trt => walk_at "tr_2"); (case tra => walk_at "tr_2"))
  | ((with_reducible refine' ImAll.x (T := T) (H := ?trH) ?tra ?tre); (case tre => assumption); (case tra => walk_at "tr_2"))
  | ((with_reducible refine' ImAll.y (T := T) (H := ?trH) ?tra ?tre ?trt); (case tre => assumption); (case trt => walk_at "tr_2"); (case tra => walk_at "tr_2"))
  | ((with_reducible refine' Ls.x (T := T) (H := ?trH) ?tra ?tre); (case tre => assumption); (case tra => walk_at "tr_2"))
  | ((with_reducible refine' Ls.y (T := T) (H := ?trH) ?tra ?tre ?trn ?trt); (case tre => assumption); (case trt => walk_at "tr_2"); (case trn => walk_at "tr_2"); (case tra => walk_at "tr_2"))
  | ((with_reducible refine' SqP.x (T := T) (H := ?trH) ?tra ?tre); (case tre => assumption); (case tra => walk_at "tr_2"))
  | ((with_reducible refine' SqP.y (T := T) (H := ?trH) ?tra ?tre ?trt); (case tre => assumption); (case trt => walk_at "tr_2"); (case tra => walk_at "tr_2"))
  | ((with_reducible refine' StAt.x (T := T) (H := ?trH) ?tra ?tre); (case tre => assumption); (case tra => walk_at "tr_2"))
  | ((with_reducible refine' StAt.y (T := T) (H := ?trH) ?tra ?tre ?trt); (case tre => assumption); (case trt => walk_at "tr_2"); (case tra => walk_at "tr_2"))
  | ((with_reducible refine' Pools.ext0 (T := T) (H := ?trH) ?tra ?tre); (case tre => assumption); (case tra => walk_at "tr_2"))
  | ((with_reducible refine' Pools.ext (T := T) (H := ?trH) ?tra ?tre ?trt); (case tre => assumption); (case trt => walk_at "tr_2"); (case tra => walk_at "tr_2"))
  | ((with_reducible refine' CL.x (T := T) (H := ?trH) ?tra ?tre); (case tre => assumption); (case tra => walk_at "tr_2"))
  | ((with_reducible refine' CL.y (T := T) (H := ?trH) ?tra ?tre); (case tre => assumption); (case tra => walk_at "tr_2"))
  | ((with_reducible refine' Tape.ext (T := T) (H := ?trH) ?tra ?tre); (case tre => assumption); (case tra => walk_at "tr_2"))
  | ((with_reducible refine' lst.x (T := T) (H := ?trH) ?tra ?tre); (case tre => assumption); (case tra => walk_at "tr_2"))
  | ((with_reducible refine' lst.y (T := T) (H := ?trH) ?tra ?tre ?trn); (case tre => assumption); (case trn => walk_at "tr_2"); (case tra => walk_at "tr_2"))
  | ((with_reducible refine' tup.x (T := T) (H := ?trH) ?tra ?tre); (case tre => assumption); (case tra => walk_at "tr_2"))
  | ((with_reducible refine' tup.y (T := T) (H := ?trH) ?tra ?tre ?trt); (case tre => assumption); (case trt => walk_at "tr_2"); (case tra => walk_at "tr_2"))
  | ((with_reducible refine' frz.x (T := T) (H := ?trH) ?tra ?tre); (case tre => assumption); (case tra => walk_at "tr_2"))
  | ((with_reducible refine' frz.y (T := T) (H := ?trH) ?tra ?tre ?trt); (case tre => assumption); (case trt => walk_at "tr_2"); (case tra => walk_at "tr_2"))
  | ((with_reducible refine' Im.z (T := T) (H := ?trH) ?tra ?tre ?trt); (case tre => assumption); (case trt => assumption); (case tra => walk_at "tr_2"))
  | ((with_reducible refine' ImAll.z (T := T) (H := ?trH) ?tra ?tre ?trt); (case tre => assumption); (case trt => assumption); (case tra => walk_at "tr_2"))
  | ((with_reducible refine' StAt.z (T := T) (H := ?trH) ?tra ?tre ?trt); (case tre => assumption); (case trt => assumption); (case tra => walk_at "tr_2"))
  | ((with_reducible refine' SqP.z (T := T) (H := ?trH) ?tra ?tre ?trt); (case tre => assumption); (case trt => assumption); (case tra => walk_at "tr_2"))
  | ((with_reducible refine' tup.z (T := T) (H := ?trH) ?tra ?tre ?trt); (case tre => assumption); (case trt => assumption); (case tra => walk_at "tr_2"))
  | ((with_reducible refine' Ls.z (T := T) (H := ?trH) ?tra ?tre ?trt ?trn); (case tre => assumption); (case trt => assumption); (case trn => assumption); (case tra => walk_at "tr_2"))
  | ((with_reducible refine' lst.z (T := T) (H := ?trH) ?tra ?tre ?trn); (case tre => assumption); (case trn => assumption); (case tra => walk_at "tr_2"))
  | ((with_reducible refine' CL.z (T := T) (H := ?trH) ?tra ?tre ?trn); (case tre => assumption); (case trn => assumption); (case tra => walk_at "tr_2"))
  | ((with_reducible refine' Tape.ne1 (H := ?trH) ?trt ?trn); (case trn => assumption); (case trt => walk_at "tr_2"))
  | ((with_reducible refine' Ext.trans (H1 := ?trH) ?tra (Ext.any ?tre)); (case tre => assumption); (case tra => walk_at "tr_2"))
  | ((with_reducible refine' Ext.trans (H1 := ?trH) ?tra ?tre); (case tre => assumption); (case tra => walk_at "tr_2"))
  | ((with_reducible refine' Ext.back1 (T := T) (H1 := ?trH) ?tre ?trn ?tra); (case tra => assumption); (case trn => walk_at "tr_2"); (case tre => walk_at "tr_2"))
  | ((with_reducible refine' Ext.back0 (T := T) (H1 := ?trH) ?tre ?tra); (case tra => assumption); (case tre => walk_at "tr_2"))
  | ((with_reducible refine' SqT.of ?tra); (case tra => walk_at "tr_2"))
  | ((with_reducible refine' SqL.of ?tra); (case tra => walk_at "tr_2")))
local macro_rules | `(tactic| walk_at "al_2") => `(tactic| (refine ⟨by first | (show _ ≤ sizeLine; decide) | walk_at "sz_2", ?_⟩; intro alp aln; generalize alG : upd _ alp _ = alH; obtain ⟨aln2, alx, alh⟩ := al_of (T := T) aln alG; clear alG aln))
local macro_rules | `(tactic| walk_at "al0_2") => `(tactic| (intro alp aln; generalize alG : upd _ alp _ = alH; obtain ⟨aln2, alx, alh⟩ := al_of (T := T) aln alG; clear alG aln))
theorem id_s3 : idB (Str.ofString "s3") = true := by decide +kernel
theorem id_s1 : idB (Str.ofString "s1") = true := by decide +kernel
theorem rd_headS {K : PySem.W.Frag} {σ : L2.St} {H : Hp} {Q : VK} {a b : Addr} {c : List Str} {x : Str} (ha : SqT K H a (c.map V.str)) (hb : SqT K H b [V.str x]) (hc : c.length ≤ 100) (ho : ∀ y ∈ c, idB y = true) (hx : idB x = true)
    (q : ∀ y H', y = c.headD x → idB y = true → Ext T [] H H' → Q (.str y) H') : rPlus K (.ref a) (.ref b) H fun x H1 => tC (.int 0) σ H1 fun y H2 => rIx K x y H2 Q := by
  cases c with
  | nil =>
    refine rd_catT0 ha hb ?_
    exact rd_ixT hb (at_zero _ _) (q x H rfl hx .refl)
  | cons y r =>
    refine rd_catT ha hb (by simp) (by simp) (by rw [List.length_map]; exact Nat.le_trans (show _ ≤ 101 by simp at hc ⊢; omega) (by decide)) fun p np => ?_
    obtain ⟨_, e, hp⟩ := alT (T := T) np ((y :: r).map V.str ++ [V.str x])
    exact rd_ixT (SqT.of hp) (at_zero _ _) (q y _ rfl (ho y List.mem_cons_self) e)
theorem ok_law_move (D : Def K mg "_law_move" s_law_move ["tape", "realm", "state"]) (mb : ∀ x ∈ bltns, mg x = none) (G_law_take : Ok P w K mg base 2 "_law_take" ["tape", "many"] (spTake T)) (G_law_life : Ok P w K mg base 3 "_law_life" ["tape"] (spInt T 1 1000))
    (G_law_at : Ok P w K mg base 1 "_law_at" ["state", "slot"] (spAt T)) (G_law_item : Ok P w K mg base 1 "_law_item" ["content", "life", "signers"] (spItem T)) : Ok P w K mg base 4 "_law_move" ["tape", "realm", "state"] (spMove T) := by
  refine D.ok sc_law_move (fun vs H Q E h => ?_) (fun cdv f A outer s H vs Q E hr h => ?_)
  · obtain ⟨l, t, v, u, R, s, rfl, _⟩ := h
    rfl
  · obtain ⟨l, t, v, u, R, s, rfl, hT, hv, hR, hR1, hu, hs, hsv, hon, q⟩ := h
    refine ⟨_, (pss_cons (ps_setLc (i := 4) (own := [("zone", 3), ("lag", 8)]) (tt := tYes) rfl sc_law_move.nd rfl rfl (sw_true rfl rfl rfl (by decide +kernel)) (pi_seq K rfl (pe_slice (sl_U K rfl) (pe_ix (ix_U K rfl) (pv 1) pe_int (fun _ _ => rfl)) (po_some pe_int) po_none)) (blkOk_by (N := N_law_move) (sc := defScope s_law_move) (by decide +kernel)) (fun _ _ _ _ _ => (pg_tupU (n := 2) K rfl rfl (pgs_cons (pg_name (i := 3) sc_law_move.nd rfl (Or.inl rfl)) (pgs_cons (pg_name (i := 8) sc_law_move.nd rfl (Or.inl rfl)) pgs_nil)))) (fun _ _ _ _ _ => pts_nil) (fun _ _ _ _ _ => (pv 3)))
   (pss_cons (ps_set (i := 3) sc_law_move.nd rfl (.inl rfl) (pe_ix (ix_U K rfl) (pv 4) (pe_callO G_law_take (hr.mono (by decide)) (by rfl) (pa_cons (pv 0) (pa_cons (pe_callB (call_lenU K rfl) (by rfl) (mb _ (by decide)) (by decide +kernel) (pa_cons (pv 4) pa_nil)) pa_nil))) (fun _ _ => rfl)))
   (pss_cons (ps_set (i := 5) sc_law_move.nd rfl (.inl rfl) (pe_tup (pa_cons pe_str (pa_cons (pv 3) pa_nil))))
   (pss_cons (ps_set (i := 6) sc_law_move.nd rfl (.inl rfl) (pe_ix (ix_U K rfl) (pe_callO G_law_at (hr.mono (by decide)) (by rfl) (pa_cons (pv 2) (pa_cons (pv 5) pa_nil))) pe_int (fun _ _ => rfl)))
   (pss_cons (ps_set (i := 7) sc_law_move.nd rfl (.inl rfl) (pe_lst (pa_cons (pe_tup (pa_cons pe_str (pa_cons pe_str (pa_cons (pv 3) pa_nil)))) (pa_cons (pe_tup (pa_cons pe_str (pa_cons (pv 5) (pa_cons (pe_callO G_law_item (hr.mono (by decide)) (by rfl) (pa_cons (pe_op (op_plus K rfl) (pe_lc (own := [("word", 9)]) (g := gName 9) rfl sc_law_move.nd (pi_seq K rfl (pv 6)) (blkOk_by (N := N_law_move) (sc := defScope s_law_move) (by decide +kernel)) (fun _ _ _ _ _ => (pg_name (i := 9) sc_law_move.nd rfl (Or.inl rfl))) (fun _ _ _ _ _ => (pts_one (pt_cmpR (op_neU K rfl hr.units) (pv 9) pe_str (nomark _)))) (fun _ _ _ _ _ => (pv 9))) (pe_lst (pa_cons pe_str pa_nil))) (pa_cons (pe_callO G_law_life (hr.mono (by decide)) (by rfl) (pa_cons (pv 0) pa_nil)) (pa_cons (pe_lst pa_nil) pa_nil)))) pa_nil)))) pa_nil))))
   (pss_cons (ps_expr (pe_bm PySem.F.plainAttrs_list PySem.F.slot_list_append PySem.F.type_list_append mt_append (pv 7) (pa_cons (pe_tup (pa_cons pe_str (pa_cons (pv 5) (pa_cons (pe_callO G_law_item (hr.mono (by decide)) (by rfl) (pa_cons (pe_lst (pa_cons pe_str pa_nil)) (pa_cons (pe_callO G_law_life (hr.mono (by decide)) (by rfl) (pa_cons (pv 0) pa_nil)) (pa_cons (pe_lst pa_nil) pa_nil)))) pa_nil)))) pa_nil)))
   (pss_cons (ps_expr (pe_bm PySem.F.plainAttrs_list PySem.F.slot_list_append PySem.F.type_list_append mt_append (pv 7) (pa_cons (pe_tup (pa_cons pe_str (pa_cons (pe_ix (ix_U K rfl) (pe_op (op_plus K rfl) (pv 6) (pe_tup (pa_cons pe_str pa_nil))) pe_int (fun _ _ => rfl)) (pa_cons (pv 3) pa_nil)))) pa_nil)))
   (pss_cons (ps_if (pt_cmpR (op_eqU K rfl hr.units) (pe_callO G_law_take (hr.mono (by decide)) (by rfl) (pa_cons (pv 0) (pa_cons pe_int pa_nil))) pe_int (nomark _)) (pss_one (ps_expr (pe_bm PySem.F.plainAttrs_list PySem.F.slot_list_pop PySem.F.type_list_pop mt_popAt (pv 7) (pa_cons (pe_op (op_plus K rfl) pe_int (pe_callO G_law_take (hr.mono (by decide)) (by rfl) (pa_cons (pv 0) (pa_cons pe_int pa_nil)))) pa_nil)))) pss_nil)
   (pss_one (ps_ret (pe_callTy (call_tupU K rfl) (by rfl) (mb _ (by decide)) (by decide +kernel) (pa_cons (pv 7) pa_nil)))))))))))), ?_⟩
    have hsl := slots_len hR
    refine rd_seq ?_
    walk_at "rdn_2"
    refine rd_ixI (d := .tuple (R.zs.map siD)) hv rfl fun u1 hu1 => ?_
    obtain ⟨zp, zx, rfl, hzp, hzi⟩ := hu1.tup'
    have hzl : zx.length = R.zs.length := by rw [hzi.len, List.length_map]
    walk_at "rdn_2"
    refine rd_slT (SqP.sq hzp) (fun h => ?_) fun sp nsp => ?_
    · have h0 := h.1
      rw [show HT.sIx zx.length 0 (some 1) = min 1 zx.length from HT.sIx_nat zx.length 0 1] at h0
      omega
    rw [cutV_from (α := V) zx (by decide), show Int.toNat 1 = 1 from rfl]
    obtain ⟨_, e1, hs1⟩ := alT (T := T) nsp (zx.drop 1)
    show ∃ a, _ ∧ ((_ ∧ LcG _ _ _ _ _ _ (upd H sp (.tup (zx.drop 1))) _) ∨ (_ ∧ LcG _ _ _ _ _ _ (upd H sp (.tup (zx.drop 1))) _))
    generalize upd H sp _ = H1 at e1 hs1 ⊢
    have hi1 := (hzi.drop 1).x e1
    have ed : R.zs.drop 1 = R.zs.tail := List.drop_one
    rw [← List.map_drop, ed] at hi1
    generalize zx.drop 1 = ys at hi1 hs1
    refine ⟨sp, rfl, .inr ⟨⟨_, SqT.of hs1⟩, ?_⟩⟩
    have hyl : ys.length = R.zs.tail.length := by rw [hi1.len, List.length_map]
    have htl : R.zs.tail.length ≤ 5 ∧ 0 < R.zs.tail.length := by
      rw [List.length_tail]
      have := hR.len
      omega
    refine lcg_rel T [] walk_tup ys rfl (fun i H x H' y => y) (by simp) (fun H' e => SqT.of (tup.x hs1 e)) (Nat.lt_of_le_of_lt (show ys.length ≤ 100 by omega) (by decide)) (fun _ => true) (fun v x => ∃ r, Im H1 x (siD r) ∧ v = .str r.1) (fun i x hx H' e' R' S h1 h2 => ?_) (fun D H2 us nD e2 hD hus => ?_)
    · obtain ⟨dr, hdr, hxr⟩ := hi1.get' hx
      rw [List.getElem?_map] at hdr
      obtain ⟨r, hr, rfl⟩ := Option.map_eq_some_iff.mp hdr
      refine rd_gpair (d1 := .str r.1) (d2 := .int r.2) (hxr.x e') fun v1 v2 g1 g2 => ?_
      rw [g1.str', g2.int']
      refine ⟨rfl, ?_⟩
      walk_at "rd_2"
      exact h1 rfl _ _ .refl ⟨r, hxr, rfl⟩
    · rw [filtT] at hus
      have hu2 := zn_key hi1 hus
      subst hu2
      have hDn : Nw H D := e1.back (by simp) nD
      have T2 := (hT.ext e1).ext e2
      have e02 := e1.trans e2
      have hDt := (hT.ne hDn).1
      have hu2 := hu.x e02
      clear hv hu e1 hi1 hs1 hzp hzi e2
      walk_at "rdn_2"
      refine rd_seq ?_
      walk_at "rdn_2"
      refine ⟨l, t, _, rfl, ?_, ?_, T2, fun d0 H3 h00 h01 e3 T3 => ?_⟩
      · rw [List.length_map, List.length_map]
        omega
      · rw [List.length_map, List.length_map]
        omega
      have hD3 := lst.y hD e3 hDt
      have hu3 := hu2.y e3 T2
      obtain ⟨c, hc1, hc2, hc3⟩ := at_in (l := (R.zs.tail.map (·.1)).map V.str) h00 h01
      obtain ⟨z, hz, rfl⟩ := List.mem_map.mp hc3
      have hzz := zin hR hz
      have hzs := name_ok hzz.1
      obtain ⟨it0, hit0⟩ := sta_find hs hzz.2
      have hok0 := hs.ok _ hit0
      refine rd_ixL (SqL.of hD3) hc1 ?_
      have e03 : Ext T [t] H H3 := by walk_at "tr_2"
      clear hc1 hc2 hc3 e3 hD nD T2 hD3 hu2 e02
      walk_at "rdn_2"
      refine rd_seq ?_
      walk_at "rdn_2"
      walk_at "al_2"
      rename_i tl H4 _ e4 htl
      have hlk : Im H4 (.ref tl) (slD (.h z)) := .new2 (.str _ (by decide +kernel)) (.str _ hzs) htl
      walk_at "rdn_2"
      refine rd_seq ?_
      walk_at "rdn_2"
      refine ⟨u, .ref tl, s, .h z, it0, rfl, by walk_at "tr_2", hlk, hit0, sta_nodup hR hs, sta_len hR hs hsl, fun x0 H5 e5 hx0 => ?_⟩
      walk_at "rdn_2"
      refine rd_ixI (d := .tuple (it0.c.map .str)) hx0 rfl fun c0 hc0 => ?_
      obtain ⟨cp, cx, rfl, hcp, hcx⟩ := hc0.tup'
      have hcx2 := hcx.strs'
      subst hcx2
      obtain ⟨cn, co, cl⟩ := itm_c hok0
      have cl : it0.c.length ≤ 4 := cl
      have cl3 : it0.c.length ≤ 3 := (hsv.h z it0 hit0).2
      have hlk5 : Im H5 (.ref tl) (slD (.h z)) := by walk_at "tr_2"
      have T5 : Tape l H5 t := by walk_at "tr_2"
      have e05 : Ext T [t] H H5 := by walk_at "tr_2"
      clear hx0 hc0 hcx hlk htl e4 e5 T3 hu3 e03
      walk_at "rdn_2"
      refine rd_seq ?_
      walk_at "rdn_2"
      walk_at "al_2"
      rename_i p1 H6 _ e6 hp1
      have hd1 : Im H6 (.ref p1) (ddD (.on "s3" z)) := .new3 (.str _ (by decide +kernel)) (.str _ (by decide +kernel)) (.str _ hzs) hp1
      walk_at "rdn_2"
      refine .inr ⟨⟨_, SqP.sq (SqP.x (xs := it0.c.map V.str) hcp e6)⟩, ?_⟩
      refine lcg_tup T [] (SqP.sq (SqP.x (xs := it0.c.map V.str) hcp e6)) (fun v => match v with | .str y => !decide (y = Str.ofString "s3") | _ => true) (fun v => v) (by rw [List.length_map]; exact Nat.lt_of_le_of_lt cl (by decide)) (by simp) (by simp) (fun x hx H' e R' S h1 h2 => ?_) (fun D2 H7 nD2 e7 hD2 => ?_)
      · obtain ⟨y, hy, rfl⟩ := List.mem_map.mp hx
        walk_at "rd_2"
        refine rd_itn (fun h => ?_) (fun h => ?_)
        · exact h2 (by show (!decide (y = Str.ofString "s3")) = false; rw [decide_eq_true h]; rfl) _ .refl
        · walk_at "rd_2"
          exact h1 (by show (!decide (y = Str.ofString "s3")) = true; rw [decide_eq_false h]; rfl) _ .refl
      · have hD3 : H7 D2 = some (.lst ((it0.c.filter fun y => !decide (y = Str.ofString "s3")).map V.str)) := by
          rw [hD2, List.map_id', List.filter_map]
          rfl
        walk_at "rdn_2"
        walk_at "al_2"
        rename_i l3 H8 _ e8 hl3
        refine rd_catA T (lst.x hD3 e8) (ys := [Str.ofString "s3"].map V.str) hl3 ?_ fun lc H9 nlc e9 hlc => ?_
        · rw [List.length_map, List.length_map]
          have := List.length_filter_le (fun y => !decide (y = Str.ofString "s3")) it0.c
          simp only [List.length_cons, List.length_nil]
          omega
        rw [← List.map_append] at hlc
        generalize hcs : (it0.c.filter fun y => !decide (y = Str.ofString "s3")) ++ [Str.ofString "s3"] = cs at hlc
        have hcsn : cs.Nodup := by
          rw [← hcs]
          refine nodup_snoc (cn.filter _) fun hm => ?_
          have := (List.mem_filter.mp hm).2
          rw [decide_eq_true rfl] at this
          cases this
        have hcso : ∀ y ∈ cs, idB y = true := fun y hy => by
          rw [← hcs] at hy
          rcases List.mem_append.mp hy with hy | hy
          · exact co y (List.mem_filter.mp hy).1
          · rw [List.mem_singleton.mp hy]
            exact id_s3
        have hcsl : cs.length ≤ 4 := by
          rw [← hcs, List.length_append]
          have := List.length_filter_le (fun y => !decide (y = Str.ofString "s3")) it0.c
          simp only [List.length_cons, List.length_nil]
          omega
        have T9 : Tape l H9 t := by walk_at "tr_2"
        have e09 : Ext T [t] H H9 := by walk_at "tr_2"
        have hd19 : Im H9 (.ref p1) (ddD (.on "s3" z)) := by walk_at "tr_2"
        have hlk9 : Im H9 (.ref tl) (slD (.h z)) := by walk_at "tr_2"
        have hcp9 : SqP H9 cp (it0.c.map V.str) := by walk_at "tr_2"
        have hlct : lc ≠ t := by walk_at "tr_2"
        clear hD2 hD3 hl3 hd1 hlk5 hcp T5 e05 hp1 e6 e7 e8 e9 hcs
        walk_at "rdn_2"
        refine ⟨l, t, rfl, T9, fun li H10 hl0 hl1 e10 T10 => ?_⟩
        walk_at "rdn_2"
        walk_at "al_2"
        rename_i ln H11 _ e11 hln
        walk_at "rdn_2"
        refine ⟨lc, ln, cs, [], li, rfl, by walk_at "tr_2", hln, hcso, by simp, fun it H12 e12 hit => ?_⟩
        have hlk12 : Im H12 (.ref tl) (slD (.h z)) := by walk_at "tr_2"
        walk_at "rdn_2"
        walk_at "al_2"
        rename_i p2 H13 _ e13 hp2
        have hd2 : Im H13 (.ref p2) (ddD (.put (.h z) ⟨srtS cs, li, srtS [], 0, 10000⟩)) := .new3 (.str _ (by decide +kernel)) (by walk_at "tr_2") (by walk_at "tr_2") hp2
        have hk2 : DdOk R (.put (.h z) ⟨srtS cs, li, srtS [], 0, 10000⟩) := ⟨hzz.2, ⟨cs, rfl, hcsn, hcso, hcsl⟩, ⟨[], rfl, by simp, by simp, by simp⟩, ⟨hl0, hl1⟩, ⟨Int.le_refl _, (show (0 : Int) ≤ 10000 by decide), Int.le_refl _⟩, fun _ _ => ⟨List.mergeSort_nil, rfl, rfl⟩, fun z e => by cases e⟩
        have hd113 : Im H13 (.ref p1) (ddD (.on "s3" z)) := by walk_at "tr_2"
        walk_at "rdn_2"
        walk_at "al_2"
        rename_i dp H14 ndp e14 hdp
        have T13 : Tape l H13 t := by walk_at "tr_2"
        have e013 : Ext T [t] H H13 := by walk_at "tr_2"
        have hdpt : dp ≠ t := (T13.ne ndp).1
        have hds14 : Ls H14 dp ([Dd.on "s3" z, .put (.h z) ⟨srtS cs, li, srtS [], 0, 10000⟩].map ddD) := ⟨_, hdp, .cons (hd113.x e14) (.cons (hd2.x e14) .nil)⟩
        have hk1 : DdOk R (.on "s3" z) := ⟨id_s3, hz⟩
        have hok : ∀ d ∈ [Dd.on "s3" z, .put (.h z) ⟨srtS cs, li, srtS [], 0, 10000⟩], DdOk R d := fun d hd => by
          rcases List.mem_cons.mp hd with hd | hd
          · rw [hd]
            exact hk1
          · rw [List.mem_singleton.mp hd]
            exact hk2
        have hdl : [Dd.on "s3" z, .put (.h z) ⟨srtS cs, li, srtS [], 0, 10000⟩].length = 2 := rfl
        have hlk14 : Im H14 (.ref tl) (slD (.h z)) := by walk_at "tr_2"
        have hcp14 : SqP H14 cp (it0.c.map V.str) := by walk_at "tr_2"
        have T14 : Tape l H14 t := by walk_at "tr_2"
        have x14 : Ext T [t] H13 H14 := by walk_at "tr_2"
        have hgo : ∀ (j : Itm) (y : Str), (y = "s3" ∨ (y, z) ∈ s.on) → MoveOk s ([Dd.on "s3" z, .put (.h z) ⟨srtS cs, li, srtS [], 0, 10000⟩] ++ [.put (.h z) j, .off y z]) := fun j y h => move_ok (hsv.s3 z) h
        generalize [Dd.on "s3" z, .put (.h z) ⟨srtS cs, li, srtS [], 0, 10000⟩] = ds at hds14 hok hdl hgo
        clear hd2 hd113 hlk12 hln hlc hd19 hlk9 hcp9 T9 T10 e10 e11 e12 e13 hit hp2 e09 hcsn hcso hcsl hk2 hk1
        walk_at "rdn_2"
        refine rd_seq ?_
        walk_at "rdn_2"
        walk_at "al_2"
        rename_i l5 H15 _ e15 hl5
        walk_at "rdn_2"
        refine ⟨l, t, rfl, by walk_at "tr_2", fun li2 H16 hm0 hm1 e16 T16 => ?_⟩
        walk_at "rdn_2"
        walk_at "al_2"
        rename_i ln H17 _ e17 hln
        walk_at "rdn_2"
        have T15 : Tape l H15 t := by walk_at "tr_2"
        have hl5t : l5 ≠ t := by walk_at "tr_2"
        refine ⟨l5, ln, [Str.ofString "s3"], [], li2, rfl, by walk_at "tr_2", hln, (fun y hy => by rw [List.mem_singleton.mp hy]; exact id_s3), by simp, fun it H18 e18 hit => ?_⟩
        walk_at "rdn_2"
        walk_at "al_2"
        rename_i p3 H19 _ e19 hp3
        have hlk18 : Im H18 (.ref tl) (slD (.h z)) := by walk_at "tr_2"
        have hd3 : Im H19 (.ref p3) (ddD (.put (.h z) ⟨srtS [Str.ofString "s3"], li2, srtS [], 0, 10000⟩)) := .new3 (.str _ (by decide +kernel)) (by walk_at "tr_2") (by walk_at "tr_2") hp3
        have hk3 : DdOk R (.put (.h z) ⟨srtS [Str.ofString "s3"], li2, srtS [], 0, 10000⟩) := ⟨hzz.2, ⟨[Str.ofString "s3"], rfl, by simp, (fun y hy => by rw [List.mem_singleton.mp hy]; exact id_s3), by simp⟩, ⟨[], rfl, by simp, by simp, by simp⟩, ⟨hm0, hm1⟩, ⟨Int.le_refl _, (show (0 : Int) ≤ 10000 by decide), Int.le_refl _⟩, fun _ _ => ⟨srtS_nil, rfl, rfl⟩, fun z e => by cases e⟩
        have hcp19 : SqP H19 cp (it0.c.map V.str) := by walk_at "tr_2"
        refine rd_nil ?_
        refine push_step (Hb := H13) (t := t) (l := l) (by walk_at "tr_2") ndp T13 (by walk_at "tr_2") (show Ls H19 dp (ds.map ddD) by walk_at "tr_2") hd3 (by rw [List.length_map]; omega) fun H20 e20 T20 f20 l20 hds20 => ?_
        have hcp20 : SqP H20 cp (it0.c.map V.str) := by walk_at "tr_2"
        clear hds14 hd3 hlk18 hln hl5 hcp19 T14 x14 hlk14 hcp14 e14 e15 e16 e17 e18 e19 T16 T15 hit hp3
        obtain ⟨dx20, hdx20, _⟩ := hds20.list
        walk_at "rdn_2"
        refine rd_seq ?_
        walk_at "rdn_2"
        walk_at "al_2"
        rename_i p4 H21 _ e21 hp4
        refine rd_headS (T := T) (SqP.sq (SqP.x (xs := it0.c.map V.str) hcp20 e21)) (SqT.of hp4) (by omega) co id_s1 fun y H22 hye hy e22 => ?_
        walk_at "rdn_2"
        walk_at "al_2"
        rename_i p5 H23 _ e23 hp5
        have hd4 : Im H23 (.ref p5) (ddD (.off y z)) := .new3 (.str _ (by decide +kernel)) (.str _ (id_ok hy)) (.str _ hzs) hp5
        refine rd_nil ?_
        refine push_step (Hb := H13) (t := t) (l := l) (by walk_at "tr_2") ndp T13 (by walk_at "tr_2") (show Ls H23 dp (ds.map ddD ++ [ddD (.put (.h z) ⟨srtS [Str.ofString "s3"], li2, srtS [], 0, 10000⟩)]) by walk_at "tr_2") hd4 (by rw [List.length_append, List.length_map]; simp; omega) fun H24 e24 T24 f24 l24 hds24 => ?_
        rw [show (ds.map ddD ++ [ddD (.put (.h z) ⟨srtS [Str.ofString "s3"], li2, srtS [], 0, 10000⟩)] ++ [ddD (.off y z)]) = (ds ++ [Dd.put (.h z) ⟨srtS [Str.ofString "s3"], li2, srtS [], 0, 10000⟩, Dd.off y z]).map ddD by simp] at hds24
        have hok4 : ∀ d ∈ ds ++ [Dd.put (.h z) ⟨srtS [Str.ofString "s3"], li2, srtS [], 0, 10000⟩, Dd.off y z], DdOk R d := fun d hd => by
          rcases List.mem_append.mp hd with hd | hd
          · exact hok d hd
          rcases List.mem_cons.mp hd with hd | hd
          · rw [hd]
            exact hk3
          · rw [List.mem_singleton.mp hd]
            exact ⟨hy, hz⟩
        have hl4 : (ds ++ [Dd.put (.h z) ⟨srtS [Str.ofString "s3"], li2, srtS [], 0, 10000⟩, Dd.off y z]).length = 4 := by rw [List.length_append, hdl]; rfl
        have hmo := hgo ⟨srtS [Str.ofString "s3"], li2, srtS [], 0, 10000⟩ y (by
          rcases (hsv.h z it0 hit0).1 with h | h
          · exact .inr (by rw [hye, show it0.c.headD (Str.ofString "s1") = "s1" from h]; exact hsv.s1 z hz)
          · exact .inl (hye.trans h))
        generalize ds ++ [Dd.put (.h z) ⟨srtS [Str.ofString "s3"], li2, srtS [], 0, 10000⟩, Dd.off y z] = ds4 at hds24 hok4 hl4 hmo
        clear hds20 hd4 hcp20 hp4 hp5 e21 e22 e23 hk3 e20 T20 f20 l20 f24 l24 hdx20
        obtain ⟨dx24, hdx24, hdi24⟩ := hds24.list
        walk_at "rdn_2"
        refine rd_cut (fun σ H7 => Ext T [t] H13 H7 ∧ Tape l H7 t ∧ ∃ (ds : List Dd) (a b c d : Option V), σ = [some (.ref t), some v, some u, some (.str z), a, b, c, some (.ref dp), d, none] ∧ Ls H7 dp (ds.map ddD) ∧ (∀ d ∈ ds, DdOk R d) ∧ OnOk s ds ∧ 1 ≤ ds.length ∧ ds.length ≤ 4) (fun nx' hnx => ?_) (fun σ H7 h => ?_)
        · walk_at "rd_2"
          refine ⟨l, t, 4, rfl, by decide, by decide, T24, fun d1 H25 _ _ x1 T25 => ?_⟩
          have hds25 : Ls H25 dp (ds4.map ddD) := by walk_at "tr_2"
          obtain ⟨dx25, hdx25, hdi25⟩ := hds25.list
          walk_at "rd_2"
          refine rd_ite (fun hd => ?_) (fun hd => ?_)
          · walk_at "rd_2"
            refine ⟨l, t, 3, rfl, by decide, by decide, T25, fun d2 H26 h20 h21 x2 T26 => ?_⟩
            walk_at "rd_2"
            refine pop_step (Hb := H13) (t := t) (l := l) (by walk_at "tr_2") ndp T13 T26 (show Ls H26 dp (ds4.map ddD) by walk_at "tr_2") (by omega) (by rw [List.length_map]; omega) (by rw [List.length_map]; omega) fun y H27 e27 T27 f27 l27 hds27 => ?_
            walk_at "rd_2"
            refine hnx _ _ ⟨e27, T27, ds4.eraseIdx (1 + d2).toNat, _, _, _, _, rfl, by rw [← erase_map]; exact hds27, fun d hd => hok4 d (mem_erase hd), hmo.2 _ (by omega) (by omega), by rw [List.length_eraseIdx]; split <;> omega, Nat.le_trans (List.length_eraseIdx_le _ _) (by omega)⟩
          · walk_at "rd_2"
            exact hnx _ _ ⟨by walk_at "tr_2", T25, ds4, _, _, _, _, rfl, hds25, hok4, hmo.1, by omega, by omega⟩
        · obtain ⟨e7, T7, ds7, a, b, c, d, rfl, hds7, hok7, hoo7, hl7a, hl7⟩ := h
          obtain ⟨dx, hdx, hdi⟩ := hds7.list
          walk_at "rd_2"
          refine rd_tupA T hdx fun r2 H12 nr2 x2 hr2 => ?_
          exact q _ ds7 H12 hok7 hoo7 ⟨hl7a, by omega⟩ (.tup hr2 (hdi.x x2)) (by walk_at "tr_2") (by walk_at "tr_2")
end
section
variable {T : List (Addr × Str)} {P : Program} {w : World} {K : PySem.W.Frag} {mg : Str → Option Value} {base : Heap}
local macro_rules | `(tactic| walk_at "tr_2") => `(tactic| first
  | assumption
  | exact Ext.refl
  | ((with_reducible refine' Im.x (T := T) (H := ?trH) ?tra ?tre); (case tre => assumption); (case tra => walk_at "tr_2"))
  | ((with_reducible refine' Im.y (T := T) (H := ?trH) ?tra ?tre ?trt); (case tre => assumption); (case trt => walk_at "tr_2"); (case tra => walk_at "tr_2"))
  | ((with_reducible refine' ImAll.x (T := T) (H := ?trH) ?tra ?tre); (case tre => assumption); (case tra => walk_at "tr_2"))
  | ((with_reducible refine' ImAll.y (T := T) (H := ?trH) ?tra ?tre ?trt); (case tre => assumption); (case trt => walk_at "tr_2"); (case tra => walk_at "tr_2"))
  | ((with_reducible refine' Ls.x (T := T) (H := ?trH) ?tra ?tre); (case tre => assumption); (case tra => walk_at "tr_2"))
  | ((with_reducible refine' Ls.y (T := T) (H := ?trH) ?tra ?tre ?trn ?trt); (case tre => assumption); (case trt => walk_at "tr_2"); (case trn => walk_at "tr_2"); (case tra => walk_at "tr_2"))
  | ((with_reducible refine' SqP.x (T := T) (H := ?trH) ?tra ?tre); (case tre => assumption); (case tra => walk_at "tr_2"))
  | ((with_reducible refine' SqP.y (T := T) (H := ?trH) ?tra ?tre ?trt); (case tre => assumption); (case trt => walk_at "tr_2"); (case tra => walk_at "tr_2"))
  | ((with_reducible refine' StAt.x (T := T) (H := ?trH) ?tra ?tre); (case tre => assumption); (case tra => walk_at "tr_2"))
  | ((with_reducible refine' StAt.y (T := T) (H := ?trH) ?tra ?tre ?trt); (case tre => assumption); (case trt => walk_at "tr_2"); (case tra => walk_at "tr_2"))
  | ((with_reducible refine' Pools.ext0 (T := T) (H := ?trH) ?tra ?tre); (case tre => assumption); (case tra => walk_at "tr_2"))
  | ((with_reducible refine' Pools.ext (T := T) (H := ?trH) ?tra ?tre ?trt); (case tre => assumption); (case trt => walk_at "tr_2"); (case tra => walk_at "tr_2"))
  | ((with_reducible refine' CL.x (T := T) (H := ?trH) ?tra ?tre); (case tre => assumption); (case tra => walk_at "tr_2"))
  | ((with_reducible refine' CL.y (T := T) (H := ?trH) ?tra ?tre); (case tre => assumption); (case tra => walk_at "tr_2"))
  | ((with_reducible refine' Tape.ext (T := T) (H := ?trH) ?tra ?tre); (case tre => assumption); (case tra => walk_at "tr_2"))
  | ((with_reducible refine' lst.x (T := T) (H := ?trH) ?tra ?tre); (case tre => assumption); (case tra => walk_at "tr_2"))
  | ((with_reducible refine' lst.y (T := T) (H := ?trH) ?tra ?tre ?trn); (case tre => assumption); (case trn => walk_at "tr_2"); (case tra => walk_at "tr_2"))
  | ((with_reducible refine' tup.x (T := T) (H := ?trH) ?tra ?tre); (case tre => assumption); (case tra => walk_at "tr_2"))
  | ((with_reducible refine' tup.y (T := T) (H := ?trH) ?tra ?tre ?trt); (case tre => assumption); (case trt => walk_at "tr_2"); (case tra => walk_at "tr_2"))
  | ((with_reducible refine' frz.x (T := T) (H := ?trH) ?tra ?tre); (case tre => assumption); (case tra => walk_at "tr_2"))
  | ((with_reducible refine' frz.y (T := T) (H := ?trH) ?tra ?tre ?trt); (case tre => assumption); (case trt => walk_at "tr_2"); (case tra => walk_at "tr_2"))
  | ((with_reducible refine' Im.z (T := T) (H := ?trH) ?tra ?tre ?trt); (case tre => assumption); (case trt => assumption); (case tra => walk_at "tr_2"))
  | ((with_reducible refine' ImAll.z (T := T) (H := ?trH) ?tra ?tre ?trt); (case tre => assumption); (case trt => assumption); (case tra => walk_at "tr_2"))
  | ((with_reducible refine' StAt.z (T := T) (H := ?trH) ?tra ?tre ?trt); (case tre => assumption); (case trt => assumption); (case tra => walk_at "tr_2"))
  | ((with_reducible refine' SqP.z (T := T) (H := ?trH) ?tra ?tre ?trt); (case tre => assumption); (case trt => assumption); (case tra => walk_at "tr_2"))
  | ((with_reducible refine' tup.z (T := T) (H := ?trH) ?tra ?tre ?trt); (case tre => assumption); (case trt => assumption); (case tra => walk_at "tr_2"))
  | ((with_reducible refine' Ls.z (T := T) (H := ?trH) ?tra ?tre ?trt ?trn); (case tre => assumption); (case trt => assumption); (case trn => assumption); (case tra => walk_at "tr_2"))
  | ((with_reducible refine' lst.z (T := T) (H := ?trH) ?tra ?tre ?trn); (case tre => assumption); (case trn => assumption); (case tra => walk_at "tr_2"))
  | ((with_reducible refine' CL.z (T := T) (H := ?trH) ?tra ?tre ?trn); (case tre => assumption); (case trn => assumption); (case tra => walk_at "tr_2"))
  | ((with_reducible refine' Tape.ne1 (H := ?trH) ?trt ?trn); (case trn => assumption); (case trt => walk_at "tr_2"))
  | ((with_reducible refine' Ext.trans (H1 := ?trH) ?tra (Ext.any ?tre)); (case tre => assumption); (case tra => walk_at "tr_2"))
  | ((with_reducible refine' Ext.trans (H1 := ?trH) ?tra ?tre); (case tre => assumption); (case tra => walk_at "tr_2"))
  | ((with_reducible refine' Ext.back1 (T := T) (H1 := ?trH) ?tre ?trn ?tra); (case tra => assumption); (case trn => walk_at "tr_2"); (case tre => walk_at "tr_2"))
  | ((with_reducible refine' Ext.back0 (T := T) (H1 := ?trH) ?tre ?tra); (case tra => assumption); (case tre => walk_at "tr_2"))
  | ((with_reducible refine' SqT.of ?tra); (case tra => walk_at "tr_2"))
  | ((with_reducible refine' SqL.of ?tra); (case tra => walk_at "tr_2")))
local macro_rules | `(tactic| walk_at "al_2") => `(tactic| (refine ⟨by first | (show _ ≤ sizeLine; decide) | walk_at "sz_2", ?_⟩; intro alp aln; generalize alG : upd _ alp _ = alH; obtain ⟨aln2, alx, alh⟩ := al_of (T := T) aln alG; clear alG aln))
local macro_rules | `(tactic| walk_at "al0_2") => `(tactic| (intro alp aln; generalize alG : upd _ alp _ = alH; obtain ⟨aln2, alx, alh⟩ := al_of (T := T) aln alG; clear alG aln))
theorem ok_law_row (D : Def K mg "_law_row" s_law_row ["tape", "realm", "pools", "state"]) (mb : ∀ x ∈ bltns, mg x = none) (G_law_take : Ok P w K mg base 2 "_law_take" ["tape", "many"] (spTake T)) (G_law_deeds : Ok P w K mg base 7 "_law_deeds" ["tape", "realm", "pools", "state", "many"] (spDeeds T))
    (G_law_move : Ok P w K mg base 4 "_law_move" ["tape", "realm", "state"] (spMove T)) (G_law_change : Ok P w K mg base 4 "_law_change" ["tape", "realm", "pools", "state"] (spRow T)) : Ok P w K mg base 8 "_law_row" ["tape", "realm", "pools", "state"] (spRow T) := by
  refine D.ok sc_law_row (fun vs H Q E h => ?_) (fun cdv f A outer s H vs Q E hr h => ?_)
  · obtain ⟨l, t, pa, v, u, R, ps, s, rfl, _⟩ := h
    rfl
  · obtain ⟨l, t, pa, v, u, R, ps, s, rfl, hT, hv, hR, hP, hps, hu, hs, hsv, hon, q⟩ := h
    refine ⟨_, (pss_cons (ps_set (i := 4) sc_law_row.nd rfl (.inl rfl) (pe_callO G_law_take (hr.mono (by decide)) (by rfl) (pa_cons (pv 0) (pa_cons pe_int pa_nil))))
   (pss_cons (ps_if (pt_cmpR (op_eqU K rfl hr.units) (pv 4) pe_int (nomark _)) (pss_one (ps_ret (pe_callO G_law_deeds (hr.mono (by decide)) (by rfl) (pa_cons (pv 0) (pa_cons (pv 1) (pa_cons (pv 2) (pa_cons (pv 3) (pa_cons (pe_op (op_plus K rfl) pe_int (pe_callO G_law_take (hr.mono (by decide)) (by rfl) (pa_cons (pv 0) (pa_cons pe_int pa_nil)))) pa_nil)))))))) pss_nil)
   (pss_cons (ps_if (PW.pt (pw_and (pt_cmpR (op_eqU K rfl hr.units) (pv 4) pe_int (nomark _)) (pw_and1 (pt_cmpR op_gt (pe_callB (call_lenU K rfl) (by rfl) (mb _ (by decide)) (by decide +kernel) (pa_cons (pe_ix (ix_U K rfl) (pv 1) pe_int (fun _ _ => rfl)) pa_nil)) pe_int (nomark _))))) (pss_one (ps_ret (pe_callO G_law_move (hr.mono (by decide)) (by rfl) (pa_cons (pv 0) (pa_cons (pv 1) (pa_cons (pv 3) pa_nil)))))) pss_nil)
   (pss_one (ps_ret (pe_callO G_law_change (hr.mono (by decide)) (by rfl) (pa_cons (pv 0) (pa_cons (pv 1) (pa_cons (pv 2) (pa_cons (pv 3) pa_nil)))))))))), ?_⟩
    walk_at "rdn_2"
    refine rd_seq ?_
    walk_at "rdn_2"
    refine ⟨l, t, 4, rfl, by decide, by decide, hT, fun d0 H1 h00 h01 e1 T1 => ?_⟩
    walk_at "rdn_2"
    refine rd_seq ?_
    walk_at "rd_2"
    refine rd_ite (fun c => ?_) (fun c => ?_)
    · walk_at "rd_2"
      refine ⟨l, t, 4, rfl, by decide, by decide, T1, fun d1 H2 h10 h11 e2 T2 => ?_⟩
      walk_at "rd_2"
      refine ⟨l, t, pa, v, u, R, ps, s, 1 + d1, rfl, T2, by walk_at "tr_2", hR, by walk_at "tr_2", hps, by walk_at "tr_2", hs, hon, by omega, by omega, fun x ds H3 hok hoo hl hx e3 T3 => ?_⟩
      exact q x ds H3 hok hoo ⟨by omega, by omega⟩ hx (by walk_at "tr_2") T3
    · refine rd_next ?_
      refine rd_cut (fun σ H7 => Ext T [t] H1 H7 ∧ Tape l H7 t ∧ σ = [some (.ref t), some v, some (.ref pa), some u, some (.int d0)]) (fun nx' hnx => ?_) (fun σ H7 h => ?_)
      · walk_at "rd_2"
        refine rd_ite (fun c1 => ?_) (fun c1 => ?_)
        · walk_at "rd_2"
          refine rd_ixI (d := .tuple (R.zs.map siD)) (show Im H1 v (rmD R) by walk_at "tr_2") rfl fun u1 hu1 => ?_
          obtain ⟨zp, zx, rfl, hzp, hzi⟩ := hu1.tup'
          have hzl : zx.length = R.zs.length := by rw [hzi.len, List.length_map]
          walk_at "rd_2"
          refine rd_lenT (SqP.sq hzp) ?_
          walk_at "rd_2"
          refine rd_ite (fun c2 => ?_) (fun c2 => ?_)
          · walk_at "rd_2"
            refine ⟨l, t, v, u, R, s, rfl, T1, by walk_at "tr_2", hR, by omega, by walk_at "tr_2", hs, hsv, hon, fun x ds H3 hok hoo hl hx e3 T3 => ?_⟩
            exact q x ds H3 hok hoo hl hx (by walk_at "tr_2") T3
          · walk_at "rd_2"
            exact hnx _ _ ⟨.refl, T1, rfl⟩
        · walk_at "rd_2"
          exact hnx _ _ ⟨.refl, T1, rfl⟩
      · obtain ⟨e7, T7, rfl⟩ := h
        walk_at "rd_2"
        refine ⟨l, t, pa, v, u, R, ps, s, rfl, T7, by walk_at "tr_2", hR, by walk_at "tr_2", hps, by walk_at "tr_2", hs, hsv, hon, fun x ds H3 hok hoo hl hx e3 T3 => ?_⟩
        exact q x ds H3 hok hoo hl hx (by walk_at "tr_2") T3
end
local macro_rules | `(tactic| walk_at "szl") => `(tactic| first
  | assumption
  | exact Nat.lt_of_le_of_lt (by assumption) (by decide)
  | (refine Nat.lt_of_le_of_lt ?_ (show (100000 : Nat) < sizeLine by decide); (try simp only [List.length_map, List.length_cons, List.length_nil, List.length_append]); omega))
local macro_rules | `(tactic| walk_at "sz") => `(tactic| first
  | assumption
  | exact Nat.le_trans (by assumption) (by decide)
  | (show _ ≤ sizeLine; decide)
  | (refine Nat.le_trans ?_ (show (100000 : Nat) ≤ sizeLine by decide); (try simp only [List.length_map, List.length_cons, List.length_nil, List.length_append]); omega))
local macro_rules | `(tactic| walk_at "hp") => `(tactic| first
  | assumption
  | exact upd_same
  | (refine (upd_ne ?hne).trans ?_; (case hne => first | assumption | exact Ne.symm (by assumption)); walk_at "hp"))
local macro_rules | `(tactic| walk_at "pl") => `(tactic| (refine Nat.le_trans (?plx : _ ≤ 1000) (by decide); (case plx => (try simp only [app_len, dot_len, dotS_len, w_len]); omega)))
local macro_rules | `(tactic| walk_at "rd1") => `(tactic| first
  | with_reducible refine rd_seq ?_
  | with_reducible refine rd_asg ?_
  | with_reducible refine rd_ret ?_
  | with_reducible refine rd_if ?_
  | with_reducible refine rd_drop ?_
  | with_reducible refine rd_next ?_
  | with_reducible refine rd_B ?_
  | with_reducible refine rd_ifE ?_
  | with_reducible refine rd_T ?_
  | with_reducible refine rd_tnot ?_
  | with_reducible refine rd_tand ?_
  | with_reducible refine rd_tor ?_
  | with_reducible refine rd_chain ?_
  | with_reducible refine rd_rng2 ?_
  | with_reducible refine rd_zipA ?_
  | with_reducible refine rd_star ?_
  | with_reducible refine rd_op ?_
  | with_reducible refine rd_un ?_
  | with_reducible refine rd_call ?_
  | with_reducible refine rd_cons ?_
  | with_reducible refine rd_nil ?_
  | with_reducible refine rd_cb ?_
  | with_reducible refine rd_c ?_
  | with_reducible refine rd_not ?_
  | with_reducible refine rd_and ?_
  | with_reducible refine rd_or ?_
  | with_reducible refine rd_sub ?_
  | with_reducible refine rd_lc ?_
  | with_reducible refine rd_iStr ?_
  | with_reducible refine rd_exStr ?_
  | with_reducible refine rd_iSeq ?_
  | with_reducible refine rd_rng ?_
  | with_reducible refine rd_exRef ?_
  | with_reducible refine rd_exInt ?_
  | with_reducible refine rd_exInts ?_
  | ((with_reducible refine' rd_seqL (xs := ?rxs) ?rxh ?_); (case rxh => exact SqL.of (by walk_at "hp")))
  | with_reducible refine rd_tyes ?_
  | with_reducible refine rd_eqStr ?_
  | with_reducible refine rd_neStr ?_
  | with_reducible refine rd_eqInt ?_
  | with_reducible refine rd_neInt ?_
  | with_reducible refine rd_eqBl ?_
  | with_reducible refine rd_rev ?_
  | with_reducible refine rd_exA ?_
  | with_reducible refine rd_fs ?_
  | with_reducible refine rd_jc ?_
  | with_reducible refine rd_jn ?_
  | with_reducible refine rd_fmt ?_
  | with_reducible refine rd_for ?_
  | with_reducible refine rd_bm ?_
  | ((with_reducible refine' rd_tyL (xs := ?rxs) ?rxh ?_); (case rxh => walk_at "hp"))
  | ((with_reducible refine' rd_app (xs := ?rxs) ?rxh ?rxc ?_); (case rxh => walk_at "hp"); (case rxc => walk_at "szl"))
  | ((with_reducible refine rd_fmtS ?rdc ?_); (case rdc => walk_at "sz"))
  | with_reducible refine rd_isBool ?_
  | with_reducible refine rd_sl ?_
  | with_reducible refine rd_noP ?_
  | with_reducible refine rd_part ?_
  | ((with_reducible refine rd_slS ?rdc ?_); (case rdc => walk_at "sz"))
  | with_reducible refine rd_sortLam ?_
  | with_reducible refine iteT ?_
  | with_reducible refine rd_ntt ?_
  | with_reducible refine rd_nff ?_
  | with_reducible refine iteF ?_
  | with_reducible refine rd_m1 ?_
  | (with_reducible refine ⟨⟨_, rfl⟩, ?_⟩)
  | ((with_reducible refine rd_len ?rdc ?_); (case rdc => walk_at "sz"))
  | with_reducible refine rd_gcons ?_
  | ((with_reducible refine rd_plusS ?rdc ?_); (case rdc => walk_at "pl"))
  | with_reducible refine rd_gnil ?_
  | ((with_reducible refine' rd_inWs (zs := ?rxs) ?rxh ?_); (case rxh => walk_at "hp"))
  | ((with_reducible refine' rd_ninWs (zs := ?rxs) ?rxh ?_); (case rxh => walk_at "hp"))
  | with_reducible refine rd_ends ?_
  | with_reducible refine rd_inS ?_
  | with_reducible refine rd_ninS ?_
  | with_reducible refine rd_isStr ?_
  | with_reducible refine rd_lst ?_
  | with_reducible refine rd_tup ?_
  | with_reducible refine rd_name ?_
  | with_reducible refine rd_bl ?_
  | with_reducible refine rd_i0 ?_
  | with_reducible refine rd_uI ?_
  | with_reducible refine rd_plusI ?_
  | with_reducible refine rd_int1 ?_
  | ((with_reducible refine rd_i ?rdc ?_); (case rdc => first | decide | (constructor <;> decide) | (left; constructor <;> decide) | (right; constructor <;> decide) | omega | (left; constructor <;> omega) | (right; constructor <;> omega) | (constructor <;> omega)))
  | ((with_reducible refine' rd_ixL (v := ?rxv) (xs := ?rxs) ?rxh ?rxa ?_); (case rxh => exact SqL.of (by walk_at "hp")); (case rxa => rfl))
  | ((with_reducible refine' rd_lenL (ys := ?rxs) ?rxh ?_); (case rxh => exact SqL.of (by walk_at "hp")))
  | ((with_reducible refine' rd_set (xs := ?rxs) (j := ?rxj) ?rxh ?rxa ?_); (case rxh => walk_at "hp"); (case rxa => rfl))
  | ((with_reducible refine' rd_var (v := ?rdw) ?rdv ?_); (case rdv => rfl)))
local macro_rules | `(tactic| walk_at "rdn1") => `(tactic| first
  | with_reducible refine rd_asg ?_
  | with_reducible refine rd_ret ?_
  | with_reducible refine rd_if ?_
  | with_reducible refine rd_drop ?_
  | with_reducible refine rd_next ?_
  | with_reducible refine rd_B ?_
  | with_reducible refine rd_ifE ?_
  | with_reducible refine rd_T ?_
  | with_reducible refine rd_tnot ?_
  | with_reducible refine rd_tand ?_
  | with_reducible refine rd_tor ?_
  | with_reducible refine rd_chain ?_
  | with_reducible refine rd_rng2 ?_
  | with_reducible refine rd_zipA ?_
  | with_reducible refine rd_star ?_
  | with_reducible refine rd_op ?_
  | with_reducible refine rd_un ?_
  | with_reducible refine rd_call ?_
  | with_reducible refine rd_cons ?_
  | with_reducible refine rd_nil ?_
  | with_reducible refine rd_cb ?_
  | with_reducible refine rd_c ?_
  | with_reducible refine rd_not ?_
  | with_reducible refine rd_and ?_
  | with_reducible refine rd_or ?_
  | with_reducible refine rd_sub ?_
  | with_reducible refine rd_lc ?_
  | with_reducible refine rd_iStr ?_
  | with_reducible refine rd_exStr ?_
  | with_reducible refine rd_iSeq ?_
  | with_reducible refine rd_rng ?_
  | with_reducible refine rd_exRef ?_
  | with_reducible refine rd_exInt ?_
  | with_reducible refine rd_exInts ?_
  | ((with_reducible refine' rd_seqL (xs := ?rxs) ?rxh ?_); (case rxh => exact SqL.of (by walk_at "hp")))
  | with_reducible refine rd_tyes ?_
  | with_reducible refine rd_eqStr ?_
  | with_reducible refine rd_neStr ?_
  | with_reducible refine rd_eqInt ?_
  | with_reducible refine rd_neInt ?_
  | with_reducible refine rd_eqBl ?_
  | with_reducible refine rd_rev ?_
  | with_reducible refine rd_exA ?_
  | with_reducible refine rd_fs ?_
  | with_reducible refine rd_jc ?_
  | with_reducible refine rd_jn ?_
  | with_reducible refine rd_fmt ?_
  | with_reducible refine rd_for ?_
  | with_reducible refine rd_bm ?_
  | ((with_reducible refine' rd_tyL (xs := ?rxs) ?rxh ?_); (case rxh => walk_at "hp"))
  | ((with_reducible refine' rd_app (xs := ?rxs) ?rxh ?rxc ?_); (case rxh => walk_at "hp"); (case rxc => walk_at "szl"))
  | ((with_reducible refine rd_fmtS ?rdc ?_); (case rdc => walk_at "sz"))
  | with_reducible refine rd_isBool ?_
  | with_reducible refine rd_sl ?_
  | with_reducible refine rd_noP ?_
  | with_reducible refine rd_part ?_
  | ((with_reducible refine rd_slS ?rdc ?_); (case rdc => walk_at "sz"))
  | with_reducible refine rd_sortLam ?_
  | with_reducible refine iteT ?_
  | with_reducible refine rd_ntt ?_
  | with_reducible refine rd_nff ?_
  | with_reducible refine iteF ?_
  | with_reducible refine rd_m1 ?_
  | (with_reducible refine ⟨⟨_, rfl⟩, ?_⟩)
  | ((with_reducible refine rd_len ?rdc ?_); (case rdc => walk_at "sz"))
  | with_reducible refine rd_gcons ?_
  | ((with_reducible refine rd_plusS ?rdc ?_); (case rdc => walk_at "pl"))
  | with_reducible refine rd_gnil ?_
  | ((with_reducible refine' rd_inWs (zs := ?rxs) ?rxh ?_); (case rxh => walk_at "hp"))
  | ((with_reducible refine' rd_ninWs (zs := ?rxs) ?rxh ?_); (case rxh => walk_at "hp"))
  | with_reducible refine rd_ends ?_
  | with_reducible refine rd_inS ?_
  | with_reducible refine rd_ninS ?_
  | with_reducible refine rd_isStr ?_
  | with_reducible refine rd_lst ?_
  | with_reducible refine rd_tup ?_
  | with_reducible refine rd_name ?_
  | with_reducible refine rd_bl ?_
  | with_reducible refine rd_i0 ?_
  | with_reducible refine rd_uI ?_
  | with_reducible refine rd_plusI ?_
  | with_reducible refine rd_int1 ?_
  | ((with_reducible refine rd_i ?rdc ?_); (case rdc => first | decide | (constructor <;> decide) | (left; constructor <;> decide) | (right; constructor <;> decide) | omega | (left; constructor <;> omega) | (right; constructor <;> omega) | (constructor <;> omega)))
  | ((with_reducible refine' rd_ixL (v := ?rxv) (xs := ?rxs) ?rxh ?rxa ?_); (case rxh => exact SqL.of (by walk_at "hp")); (case rxa => rfl))
  | ((with_reducible refine' rd_lenL (ys := ?rxs) ?rxh ?_); (case rxh => exact SqL.of (by walk_at "hp")))
  | ((with_reducible refine' rd_set (xs := ?rxs) (j := ?rxj) ?rxh ?rxa ?_); (case rxh => walk_at "hp"); (case rxa => rfl))
  | ((with_reducible refine' rd_var (v := ?rdw) ?rdv ?_); (case rdv => rfl)))
local macro_rules | `(tactic| walk_at "rd") => `(tactic| repeat walk_at "rd1")
local macro_rules | `(tactic| walk_at "ext") => `(tactic| first
  | exact Ext.refl
  | assumption
  | (refine Ext.trans ?_ (Ext.mut (by simp) (by walk_at "hp")); walk_at "ext")
  | (refine Ext.trans ?_ (Ext.new (by assumption)); walk_at "ext"))
local macro_rules | `(tactic| walk_at "rdn") => `(tactic| repeat walk_at "rdn1")
section
variable {T : List (Addr × Str)} {P : Program} {w : World} {K : PySem.W.Frag} {mg : Str → Option Value} {base : Heap}
local macro_rules | `(tactic| walk_at "tr") => `(tactic| first
  | assumption
  | exact Ext.refl
  | ((with_reducible refine' Im.x (T := T) (H := ?trH) ?tra ?tre); (case tre => assumption); (case tra => walk_at "tr"))
  | ((with_reducible refine' Im.y (T := T) (H := ?trH) ?tra ?tre ?trt); (case tre => assumption); (case trt => walk_at "tr"); (case tra => walk_at "tr"))
  | ((with_reducible refine' ImAll.x (T := T) (H := ?trH) ?tra ?tre); (case tre => assumption); (case tra => walk_at "tr"))
  | ((with_reducible refine' ImAll.y (T := T) (H := ?trH) ?tra ?tre ?trt); (case tre => assumption); (case trt => walk_at "tr"); (case tra => walk_at "tr"))
  | ((with_reducible refine' Ls.x (T := T) (H := ?trH) ?tra ?tre); (case tre => assumption); (case tra => walk_at "tr"))
  | ((with_reducible refine' Ls.y (T := T) (H := ?trH) ?tra ?tre ?trn ?trt); (case tre => assumption); (case trt => walk_at "tr"); (case trn => walk_at "tr"); (case tra => walk_at "tr"))
  | ((with_reducible refine' SqP.x (T := T) (H := ?trH) ?tra ?tre); (case tre => assumption); (case tra => walk_at "tr"))
  | ((with_reducible refine' SqP.y (T := T) (H := ?trH) ?tra ?tre ?trt); (case tre => assumption); (case trt => walk_at "tr"); (case tra => walk_at "tr"))
  | ((with_reducible refine' StAt.x (T := T) (H := ?trH) ?tra ?tre); (case tre => assumption); (case tra => walk_at "tr"))
  | ((with_reducible refine' StAt.y (T := T) (H := ?trH) ?tra ?tre ?trt); (case tre => assumption); (case trt => walk_at "tr"); (case tra => walk_at "tr"))
  | ((with_reducible refine' Pools.ext0 (T := T) (H := ?trH) ?tra ?tre); (case tre => assumption); (case tra => walk_at "tr"))
  | ((with_reducible refine' Pools.ext (T := T) (H := ?trH) ?tra ?tre ?trt); (case tre => assumption); (case trt => walk_at "tr"); (case tra => walk_at "tr"))
  | ((with_reducible refine' CL.x (T := T) (H := ?trH) ?tra ?tre); (case tre => assumption); (case tra => walk_at "tr"))
  | ((with_reducible refine' CL.y (T := T) (H := ?trH) ?tra ?tre); (case tre => assumption); (case tra => walk_at "tr"))
  | ((with_reducible refine' Tape.ext (T := T) (H := ?trH) ?tra ?tre); (case tre => assumption); (case tra => walk_at "tr"))
  | ((with_reducible refine' lst.x (T := T) (H := ?trH) ?tra ?tre); (case tre => assumption); (case tra => walk_at "tr"))
  | ((with_reducible refine' lst.y (T := T) (H := ?trH) ?tra ?tre ?trn); (case tre => assumption); (case trn => walk_at "tr"); (case tra => walk_at "tr"))
  | ((with_reducible refine' tup.x (T := T) (H := ?trH) ?tra ?tre); (case tre => assumption); (case tra => walk_at "tr"))
  | ((with_reducible refine' tup.y (T := T) (H := ?trH) ?tra ?tre ?trt); (case tre => assumption); (case trt => walk_at "tr"); (case tra => walk_at "tr"))
  | ((with_reducible refine' frz.x (T := T) (H := ?trH) ?tra ?tre); (case tre => assumption); (case tra => walk_at "tr"))
  | ((with_reducible refine' frz.y (T := T) (H := ?trH) ?tra ?tre ?trt); (case tre => assumption); (case trt => walk_at "tr"); (case tra => walk_at "tr"))
  | ((with_reducible refine' Im.z (T := T) (H := ?trH) ?tra ?tre ?trt); (case tre => assumption); (case trt => assumption); (case tra => walk_at "tr"))
  | ((with_reducible refine' ImAll.z (T := T) (H := ?trH) ?tra ?tre ?trt); (case tre => assumption); (case trt => assumption); (case tra => walk_at "tr"))
  | ((with_reducible refine' StAt.z (T := T) (H := ?trH) ?tra ?tre ?trt); (case tre => assumption); (case trt => assumption); (case tra => walk_at "tr"))
  | ((with_reducible refine' SqP.z (T := T) (H := ?trH) ?tra ?tre ?trt); (case tre => assumption); (case trt => assumption); (case tra => walk_at "tr"))
  | ((with_reducible refine' tup.z (T := T) (H := ?trH) ?tra ?tre ?trt); (case tre => assumption); (case trt => assumption); (case tra => walk_at "tr"))
  | ((with_reducible refine' Ls.z (T := T) (H := ?trH) ?tra ?tre ?trt ?trn); (case tre => assumption); (case trt => assumption); (case trn => assumption); (case tra => walk_at "tr"))
  | ((with_reducible refine' lst.z (T := T) (H := ?trH) ?tra ?tre ?trn); (case tre => assumption); (case trn => assumption); (case tra => walk_at "tr"))
  | ((with_reducible refine' CL.z (T := T) (H := ?trH) ?tra ?tre ?trn); (case tre => assumption); (case trn => assumption); (case tra => walk_at "tr"))
  | ((with_reducible refine' Tape.ne1 (H := ?trH) ?trt ?trn); (case trn => assumption); (case trt => walk_at "tr"))
  | ((with_reducible refine' Ext.trans (H1 := ?trH) ?tra (Ext.any ?tre)); (case tre => assumption); (case tra => walk_at "tr"))
  | ((with_reducible refine' Ext.trans (H1 := ?trH) ?tra ?tre); (case tre => assumption); (case tra => walk_at "tr"))
  | ((with_reducible refine' Ext.back1 (T := T) (H1 := ?trH) ?tre ?trn ?tra); (case tra => assumption); (case trn => walk_at "tr"); (case tre => walk_at "tr"))
  | ((with_reducible refine' Ext.back0 (T := T) (H1 := ?trH) ?tre ?tra); (case tra => assumption); (case tre => walk_at "tr"))
  | ((with_reducible refine' SqT.of ?tra); (case tra => walk_at "tr"))
  | ((with_reducible refine' SqL.of ?tra); (case tra => walk_at "tr")))
local macro_rules | `(tactic| walk_at "al") => `(tactic| (refine ⟨by first | (show _ ≤ sizeLine; decide) | walk_at "sz", ?_⟩; intro alp aln; generalize alG : upd _ alp _ = alH; obtain ⟨aln2, alx, alh⟩ := al_of (T := T) aln alG; clear alG aln))
local macro_rules | `(tactic| walk_at "al0") => `(tactic| (intro alp aln; generalize alG : upd _ alp _ = alH; obtain ⟨aln2, alx, alh⟩ := al_of (T := T) aln alG; clear alG aln))
def spZn (T : List (Addr × Str)) : Sp := fun vs H Q _ => ∃ (v : V) (R : Rm), vs = [v] ∧ Im H v (rmD R) ∧ RmIn R ∧ ∀ p H', Nw H p → Ext T [] H H' → H' p = some (.tup ((R.zs.map (·.1)).map V.str)) → Q (.ref p) H'
theorem ok_zone_names (D : Def K mg "zone_names" s_zone_names ["realm"]) (mb : ∀ x ∈ bltns, mg x = none) : Ok P w K mg base 1 "zone_names" ["realm"] (spZn T) := by
  refine D.ok sc_zone_names (fun vs H Q E h => ?_) (fun cdv f A outer s H vs Q E hr h => ?_)
  · obtain ⟨v, R, rfl, _⟩ := h
    rfl
  · obtain ⟨v, R, rfl, hv, hR, q⟩ := h
    refine ⟨_, (pss_one (ps_ret (pe_callTy (call_tupU K rfl) (by rfl) (mb _ (by decide)) (by decide +kernel) (pa_cons (pe_lc (own := [("zone", 1), ("_", 2)]) (tt := tYes) rfl sc_zone_names.nd (pi_seq K rfl (pe_ix (ix_U K rfl) (pv 0) pe_int (fun _ _ => rfl))) (blkOk_by (N := N_zone_names) (sc := defScope s_zone_names) (by decide +kernel)) (fun _ _ _ _ _ => (pg_tupU (n := 2) K rfl rfl (pgs_cons (pg_name (i := 1) sc_zone_names.nd rfl (Or.inl rfl)) (pgs_cons (pg_name (i := 2) sc_zone_names.nd rfl (Or.inl rfl)) pgs_nil)))) (fun _ _ _ _ _ => pts_nil) (fun _ _ _ _ _ => (pv 1))) pa_nil)))), ?_⟩
    walk_at "rd"
    refine rd_ixI (d := .tuple (R.zs.map siD)) hv rfl fun u1 hu1 => ?_
    obtain ⟨zp, zx, rfl, hzp, hzi⟩ := hu1.tup'
    have hzl : zx.length = R.zs.length := by rw [hzi.len, List.length_map]
    have hzl6 := hR.len
    refine ⟨zp, rfl, .inr ⟨⟨_, SqP.sq hzp⟩, ?_⟩⟩
    refine lcg_rel T [] walk_tup zx rfl (fun i H x H' y => y) (by simp) (fun H' e => SqP.sq (SqP.x hzp e)) (Nat.lt_of_le_of_lt (show zx.length ≤ 100 by omega) (by decide)) (fun _ => true) (fun v x => ∃ r, Im H x (siD r) ∧ v = .str r.1) (fun i x hx H' e' R' S h1 h2 => ?_) (fun D H2 us nD e2 hD hus => ?_)
    · obtain ⟨dr, hdr, hxr⟩ := hzi.get' hx
      rw [List.getElem?_map] at hdr
      obtain ⟨r, hr, rfl⟩ := Option.map_eq_some_iff.mp hdr
      refine rd_gpair (d1 := .str r.1) (d2 := .int r.2) (hxr.x e') fun v1 v2 g1 g2 => ?_
      rw [g1.str', g2.int']
      refine ⟨rfl, ?_⟩
      walk_at "rd"
      exact h1 rfl _ _ .refl ⟨r, hxr, rfl⟩
    · rw [filtT] at hus
      have hu2 := zn_key hzi hus
      subst hu2
      walk_at "rd"
      refine rd_tupA T hD fun p H3 np x3 hp => ?_
      exact q p H3 (e2.back (by simp) np) (e2.trans x3) hp
end
section
variable {T : List (Addr × Str)} {P : Program} {w : World} {K : PySem.W.Frag} {mg : Str → Option Value} {base : Heap}
local macro_rules | `(tactic| walk_at "tr") => `(tactic| first
  | assumption
  | exact Ext.refl
  | ((with_reducible refine' Im.x (T := T) (H := ?trH) ?tra ?tre); (case tre => assumption); (case tra => walk_at "tr"))
  | ((with_reducible refine' Im.y (T := T) (H := ?trH) ?tra ?tre ?trt); (case tre => assumption); (case trt => walk_at "tr"); (case tra => walk_at "tr"))
  | ((with_reducible refine' ImAll.x (T := T) (H := ?trH) ?tra ?tre); (case tre => assumption); (case tra => walk_at "tr"))
  | ((with_reducible refine' ImAll.y (T := T) (H := ?trH) ?tra ?tre ?trt); (case tre => assumption); (case trt => walk_at "tr"); (case tra => walk_at "tr"))
  | ((with_reducible refine' Ls.x (T := T) (H := ?trH) ?tra ?tre); (case tre => assumption); (case tra => walk_at "tr"))
  | ((with_reducible refine' Ls.y (T := T) (H := ?trH) ?tra ?tre ?trn ?trt); (case tre => assumption); (case trt => walk_at "tr"); (case trn => walk_at "tr"); (case tra => walk_at "tr"))
  | ((with_reducible refine' SqP.x (T := T) (H := ?trH) ?tra ?tre); (case tre => assumption); (case tra => walk_at "tr"))
  | ((with_reducible refine' SqP.y (T := T) (H := ?trH) ?tra ?tre ?trt); (case tre => assumption); (case trt => walk_at "tr"); (case tra => walk_at "tr"))
  | ((with_reducible refine' StAt.x (T := T) (H := ?trH) ?tra ?tre); (case tre => assumption); (case tra => walk_at "tr"))
  | ((with_reducible refine' StAt.y (T := T) (H := ?trH) ?tra ?tre ?trt); (case tre => assumption); (case trt => walk_at "tr"); (case tra => walk_at "tr"))
  | ((with_reducible refine' Pools.ext0 (T := T) (H := ?trH) ?tra ?tre); (case tre => assumption); (case tra => walk_at "tr"))
  | ((with_reducible refine' Pools.ext (T := T) (H := ?trH) ?tra ?tre ?trt); (case tre => assumption); (case trt => walk_at "tr"); (case tra => walk_at "tr"))
  | ((with_reducible refine' CL.x (T := T) (H := ?trH) ?tra ?tre); (case tre => assumption); (case tra => walk_at "tr"))
  | ((with_reducible refine' CL.y (T := T) (H := ?trH) ?tra ?tre); (case tre => assumption); (case tra => walk_at "tr"))
  | ((with_reducible refine' Tape.ext (T := T) (H := ?trH) ?tra ?tre); (case tre => assumption); (case tra => walk_at "tr"))
  | ((with_reducible refine' lst.x (T := T) (H := ?trH) ?tra ?tre); (case tre => assumption); (case tra => walk_at "tr"))
  | ((with_reducible refine' lst.y (T := T) (H := ?trH) ?tra ?tre ?trn); (case tre => assumption); (case trn => walk_at "tr"); (case tra => walk_at "tr"))
  | ((with_reducible refine' tup.x (T := T) (H := ?trH) ?tra ?tre); (case tre => assumption); (case tra => walk_at "tr"))
  | ((with_reducible refine' tup.y (T := T) (H := ?trH) ?tra ?tre ?trt); (case tre => assumption); (case trt => walk_at "tr"); (case tra => walk_at "tr"))
  | ((with_reducible refine' frz.x (T := T) (H := ?trH) ?tra ?tre); (case tre => assumption); (case tra => walk_at "tr"))
  | ((with_reducible refine' frz.y (T := T) (H := ?trH) ?tra ?tre ?trt); (case tre => assumption); (case trt => walk_at "tr"); (case tra => walk_at "tr"))
  | ((with_reducible refine' Im.z (T := T) (H := ?trH) ?tra ?tre ?trt); (case tre => assumption); (case trt => assumption); (case tra => walk_at "tr"))
  | ((with_reducible refine' ImAll.z (T := T) (H := ?trH) ?tra ?tre ?trt); (case tre => assumption); (case trt => assumption); (case tra => walk_at "tr"))
  | ((with_reducible refine' StAt.z (T := T) (H := ?trH) ?tra ?tre ?trt); (case tre => assumption); (case trt => assumption); (case tra => walk_at "tr"))
  | ((with_reducible refine' SqP.z (T := T) (H := ?trH) ?tra ?tre ?trt); (case tre => assumption); (case trt => assumption); (case tra => walk_at "tr"))
  | ((with_reducible refine' tup.z (T := T) (H := ?trH) ?tra ?tre ?trt); (case tre => assumption); (case trt => assumption); (case tra => walk_at "tr"))
  | ((with_reducible refine' Ls.z (T := T) (H := ?trH) ?tra ?tre ?trt ?trn); (case tre => assumption); (case trt => assumption); (case trn => assumption); (case tra => walk_at "tr"))
  | ((with_reducible refine' lst.z (T := T) (H := ?trH) ?tra ?tre ?trn); (case tre => assumption); (case trn => assumption); (case tra => walk_at "tr"))
  | ((with_reducible refine' CL.z (T := T) (H := ?trH) ?tra ?tre ?trn); (case tre => assumption); (case trn => assumption); (case tra => walk_at "tr"))
  | ((with_reducible refine' Tape.ne1 (H := ?trH) ?trt ?trn); (case trn => assumption); (case trt => walk_at "tr"))
  | ((with_reducible refine' Ext.trans (H1 := ?trH) ?tra (Ext.any ?tre)); (case tre => assumption); (case tra => walk_at "tr"))
  | ((with_reducible refine' Ext.trans (H1 := ?trH) ?tra ?tre); (case tre => assumption); (case tra => walk_at "tr"))
  | ((with_reducible refine' Ext.back1 (T := T) (H1 := ?trH) ?tre ?trn ?tra); (case tra => assumption); (case trn => walk_at "tr"); (case tre => walk_at "tr"))
  | ((with_reducible refine' Ext.back0 (T := T) (H1 := ?trH) ?tre ?tra); (case tra => assumption); (case tre => walk_at "tr"))
  | ((with_reducible refine' SqT.of ?tra); (case tra => walk_at "tr"))
  | ((with_reducible refine' SqL.of ?tra); (case tra => walk_at "tr")))
local macro_rules | `(tactic| walk_at "al") => `(tactic| (refine ⟨by first | (show _ ≤ sizeLine; decide) | walk_at "sz", ?_⟩; intro alp aln; generalize alG : upd _ alp _ = alH; obtain ⟨aln2, alx, alh⟩ := al_of (T := T) aln alG; clear alG aln))
local macro_rules | `(tactic| walk_at "al0") => `(tactic| (intro alp aln; generalize alG : upd _ alp _ = alH; obtain ⟨aln2, alx, alh⟩ := al_of (T := T) aln alG; clear alG aln))
/-! ### the item of a slot -/
end
structure Cst (mg : Str → Option Value) : Prop where
  c_LETTERS : ∃ t, mg "LETTERS" = some (.str lettersS t)
  c_MAX_ID : ∃ t, mg "MAX_ID" = some (.int 4 t)
  c_MAX_TIME : ∃ t, mg "MAX_TIME" = some (.int 10000 t)
  c_MAX_LIFE : ∃ t, mg "MAX_LIFE" = some (.int 1000 t)
  c_MAX_IDS : ∃ t, mg "MAX_IDS" = some (.int 4 t)
  c_MAX_SIGNERS : ∃ t, mg "MAX_SIGNERS" = some (.int 3 t)
  c_MAX_DEEDS : ∃ t, mg "MAX_DEEDS" = some (.int 6 t)
  c_MAX_DELAY : ∃ t, mg "MAX_DELAY" = some (.int 1000 t)
  c_MAX_WAIT : ∃ t, mg "MAX_WAIT" = some (.int 10000 t)
section
variable {T : List (Addr × Str)} {P : Program} {w : World} {K : PySem.W.Frag} {mg : Str → Option Value} {base : Heap}
local macro_rules | `(tactic| walk_at "tr") => `(tactic| first
  | assumption
  | exact Ext.refl
  | ((with_reducible refine' Im.x (T := T) (H := ?trH) ?tra ?tre); (case tre => assumption); (case tra => walk_at "tr"))
  | ((with_reducible refine' Im.y (T := T) (H := ?trH) ?tra ?tre ?trt); (case tre => assumption); (case trt => walk_at "tr"); (case tra => walk_at "tr"))
  | ((with_reducible refine' ImAll.x (T := T) (H := ?trH) ?tra ?tre); (case tre => assumption); (case tra => walk_at "tr"))
  | ((with_reducible refine' ImAll.y (T := T) (H := ?trH) ?tra ?tre ?trt); (case tre => assumption); (case trt => walk_at "tr"); (case tra => walk_at "tr"))
  | ((with_reducible refine' Ls.x (T := T) (H := ?trH) ?tra ?tre); (case tre => assumption); (case tra => walk_at "tr"))
  | ((with_reducible refine' Ls.y (T := T) (H := ?trH) ?tra ?tre ?trn ?trt); (case tre => assumption); (case trt => walk_at "tr"); (case trn => walk_at "tr"); (case tra => walk_at "tr"))
  | ((with_reducible refine' SqP.x (T := T) (H := ?trH) ?tra ?tre); (case tre => assumption); (case tra => walk_at "tr"))
  | ((with_reducible refine' SqP.y (T := T) (H := ?trH) ?tra ?tre ?trt); (case tre => assumption); (case trt => walk_at "tr"); (case tra => walk_at "tr"))
  | ((with_reducible refine' StAt.x (T := T) (H := ?trH) ?tra ?tre); (case tre => assumption); (case tra => walk_at "tr"))
  | ((with_reducible refine' StAt.y (T := T) (H := ?trH) ?tra ?tre ?trt); (case tre => assumption); (case trt => walk_at "tr"); (case tra => walk_at "tr"))
  | ((with_reducible refine' Pools.ext0 (T := T) (H := ?trH) ?tra ?tre); (case tre => assumption); (case tra => walk_at "tr"))
  | ((with_reducible refine' Pools.ext (T := T) (H := ?trH) ?tra ?tre ?trt); (case tre => assumption); (case trt => walk_at "tr"); (case tra => walk_at "tr"))
  | ((with_reducible refine' CL.x (T := T) (H := ?trH) ?tra ?tre); (case tre => assumption); (case tra => walk_at "tr"))
  | ((with_reducible refine' CL.y (T := T) (H := ?trH) ?tra ?tre); (case tre => assumption); (case tra => walk_at "tr"))
  | ((with_reducible refine' Tape.ext (T := T) (H := ?trH) ?tra ?tre); (case tre => assumption); (case tra => walk_at "tr"))
  | ((with_reducible refine' lst.x (T := T) (H := ?trH) ?tra ?tre); (case tre => assumption); (case tra => walk_at "tr"))
  | ((with_reducible refine' lst.y (T := T) (H := ?trH) ?tra ?tre ?trn); (case tre => assumption); (case trn => walk_at "tr"); (case tra => walk_at "tr"))
  | ((with_reducible refine' tup.x (T := T) (H := ?trH) ?tra ?tre); (case tre => assumption); (case tra => walk_at "tr"))
  | ((with_reducible refine' tup.y (T := T) (H := ?trH) ?tra ?tre ?trt); (case tre => assumption); (case trt => walk_at "tr"); (case tra => walk_at "tr"))
  | ((with_reducible refine' frz.x (T := T) (H := ?trH) ?tra ?tre); (case tre => assumption); (case tra => walk_at "tr"))
  | ((with_reducible refine' frz.y (T := T) (H := ?trH) ?tra ?tre ?trt); (case tre => assumption); (case trt => walk_at "tr"); (case tra => walk_at "tr"))
  | ((with_reducible refine' Im.z (T := T) (H := ?trH) ?tra ?tre ?trt); (case tre => assumption); (case trt => assumption); (case tra => walk_at "tr"))
  | ((with_reducible refine' ImAll.z (T := T) (H := ?trH) ?tra ?tre ?trt); (case tre => assumption); (case trt => assumption); (case tra => walk_at "tr"))
  | ((with_reducible refine' StAt.z (T := T) (H := ?trH) ?tra ?tre ?trt); (case tre => assumption); (case trt => assumption); (case tra => walk_at "tr"))
  | ((with_reducible refine' SqP.z (T := T) (H := ?trH) ?tra ?tre ?trt); (case tre => assumption); (case trt => assumption); (case tra => walk_at "tr"))
  | ((with_reducible refine' tup.z (T := T) (H := ?trH) ?tra ?tre ?trt); (case tre => assumption); (case trt => assumption); (case tra => walk_at "tr"))
  | ((with_reducible refine' Ls.z (T := T) (H := ?trH) ?tra ?tre ?trt ?trn); (case tre => assumption); (case trt => assumption); (case trn => assumption); (case tra => walk_at "tr"))
  | ((with_reducible refine' lst.z (T := T) (H := ?trH) ?tra ?tre ?trn); (case tre => assumption); (case trn => assumption); (case tra => walk_at "tr"))
  | ((with_reducible refine' CL.z (T := T) (H := ?trH) ?tra ?tre ?trn); (case tre => assumption); (case trn => assumption); (case tra => walk_at "tr"))
  | ((with_reducible refine' Tape.ne1 (H := ?trH) ?trt ?trn); (case trn => assumption); (case trt => walk_at "tr"))
  | ((with_reducible refine' Ext.trans (H1 := ?trH) ?tra (Ext.any ?tre)); (case tre => assumption); (case tra => walk_at "tr"))
  | ((with_reducible refine' Ext.trans (H1 := ?trH) ?tra ?tre); (case tre => assumption); (case tra => walk_at "tr"))
  | ((with_reducible refine' Ext.back1 (T := T) (H1 := ?trH) ?tre ?trn ?tra); (case tra => assumption); (case trn => walk_at "tr"); (case tre => walk_at "tr"))
  | ((with_reducible refine' Ext.back0 (T := T) (H1 := ?trH) ?tre ?tra); (case tra => assumption); (case tre => walk_at "tr"))
  | ((with_reducible refine' SqT.of ?tra); (case tra => walk_at "tr"))
  | ((with_reducible refine' SqL.of ?tra); (case tra => walk_at "tr")))
local macro_rules | `(tactic| walk_at "al") => `(tactic| (refine ⟨by first | (show _ ≤ sizeLine; decide) | walk_at "sz", ?_⟩; intro alp aln; generalize alG : upd _ alp _ = alH; obtain ⟨aln2, alx, alh⟩ := al_of (T := T) aln alG; clear alG aln))
local macro_rules | `(tactic| walk_at "al0") => `(tactic| (intro alp aln; generalize alG : upd _ alp _ = alH; obtain ⟨aln2, alx, alh⟩ := al_of (T := T) aln alG; clear alG aln))
/-- data in, a truth value out -/
def spDB (T : List (Addr × Str)) (f : PyData → Bool) : Sp := fun vs H Q _ => ∃ (v : V) (d : PyData), vs = [v] ∧ Im H v d ∧ Sm d ∧ ∀ H', Ext T [] H H' → Q (.bl (f d)) H'
def spWordD (T : List (Addr × Str)) : Sp := fun vs H Q _ => ∃ (v : V) (d : PyData) (ls : Str) (m : Int), vs = [v, .str ls, .int m] ∧ Im H v d ∧ Sm d ∧ ∀ H', Ext T [] H H' → Q (.bl (wordD ls m d)) H'
def spIntD : Sp := fun vs H Q _ => ∃ (v : V) (d : PyData) (lo hi : Int), vs = [v, .int lo, .int hi] ∧ Im H v d ∧ Q (.bl (intB lo hi d)) H
def spTupD : Sp := fun vs H Q _ => ∃ (v : V) (d : PyData) (lo hi : Int), vs = [v, .int lo, .int hi] ∧ Im H v d ∧ Q (.bl (tupB lo hi d)) H
theorem ok_is_integer_in (D : Def K mg "is_integer_in" s_is_integer_in ["value", "least", "most"]) (mb : ∀ x ∈ bltns, mg x = none) : Ok P w K mg base 1 "is_integer_in" ["value", "least", "most"] spIntD := by
  refine D.ok sc_is_integer_in (fun vs H Q E h => ?_) (fun cdv f A outer s H vs Q E hr h => ?_)
  · obtain ⟨v, d, lo, hi, rfl, _⟩ := h
    rfl
  · obtain ⟨v, d, lo, hi, rfl, hv, q⟩ := h
    refine ⟨_, (pss_one (ps_ret (pe_and (pe_callB (call_isiU K rfl) (by rfl) (mb _ (by decide)) (by decide +kernel) (pa_cons (pv 0) (pa_cons (pe_bltn (v := .ty "int") (u := .type "int") (by rfl) (mb _ (by decide)) (by decide +kernel) rfl) pa_nil))) (pe_and (pe_not (pe_callB (call_isiU K rfl) (by rfl) (mb _ (by decide)) (by decide +kernel) (pa_cons (pv 0) (pa_cons (pe_bltn (v := .ty "bool") (u := .type "bool") (by rfl) (mb _ (by decide)) (by decide +kernel) rfl) pa_nil)))) (pe_one (pe_chain op_le op_le (pv 1) (pv 0) (pv 2))))))), ?_⟩
    walk_at "rd"
    refine rd_isIntD hv ?_
    rcases hv.cases4 with rfl | ⟨i, rfl⟩ | ⟨z, rfl⟩ | ⟨ds, rfl⟩
    · walk_at "rd"
      exact q
    · obtain rfl := hv.int'
      rw [show isInt (PyData.int i) = true from rfl]
      walk_at "rd"
      refine rd_isBlI ?_
      walk_at "rd"
      refine rd_ite (fun c => ?_) (fun c => ?_)
      · walk_at "rd"
        have q : Q (.bl (decide (lo ≤ i) && decide (i ≤ hi))) H := q
        rw [decide_eq_true c, Bool.true_and] at q
        exact q
      · have q : Q (.bl (decide (lo ≤ i) && decide (i ≤ hi))) H := q
        rw [decide_eq_false c, Bool.false_and] at q
        exact q
    · walk_at "rd"
      exact q
    · walk_at "rd"
      exact q
theorem ok_is_tuple_of (D : Def K mg "is_tuple_of" s_is_tuple_of ["value", "least", "most"]) (mb : ∀ x ∈ bltns, mg x = none) : Ok P w K mg base 1 "is_tuple_of" ["value", "least", "most"] spTupD := by
  refine D.ok sc_is_tuple_of (fun vs H Q E h => ?_) (fun cdv f A outer s H vs Q E hr h => ?_)
  · obtain ⟨v, d, lo, hi, rfl, _⟩ := h
    rfl
  · obtain ⟨v, d, lo, hi, rfl, hv, q⟩ := h
    refine ⟨_, (pss_one (ps_ret (pe_and (pe_callB (call_isiU K rfl) (by rfl) (mb _ (by decide)) (by decide +kernel) (pa_cons (pv 0) (pa_cons (pe_bltn (v := .ty "tuple") (u := .type "tuple") (by rfl) (mb _ (by decide)) (by decide +kernel) rfl) pa_nil))) (pe_one (pe_chain op_le op_le (pv 1) (pe_callB (call_lenU K rfl) (by rfl) (mb _ (by decide)) (by decide +kernel) (pa_cons (pv 0) pa_nil)) (pv 2)))))), ?_⟩
    walk_at "rd"
    refine rd_isTupD hv ?_
    rcases hv.cases4 with rfl | ⟨i, rfl⟩ | ⟨z, rfl⟩ | ⟨ds, rfl⟩
    · walk_at "rd"
      exact q
    · walk_at "rd"
      exact q
    · walk_at "rd"
      exact q
    · obtain ⟨a, xs, rfl, ha, hi'⟩ := hv.tup'
      rw [show isTup (PyData.tuple ds) = true from rfl]
      walk_at "rd"
      refine rd_lenT (SqP.sq ha) ?_
      walk_at "rd"
      have q : Q (.bl (decide (lo ≤ (ds.length : Int)) && decide ((ds.length : Int) ≤ hi))) H := q
      rw [← hi'.len] at q
      refine rd_ite (fun c => ?_) (fun c => ?_)
      · walk_at "rd"
        rw [decide_eq_true c, Bool.true_and] at q
        exact q
      · rw [decide_eq_false c, Bool.false_and] at q
        exact q
theorem ok_is_word (D : Def K mg "is_word" s_is_word ["text", "letters", "most"]) (mb : ∀ x ∈ bltns, mg x = none) : Ok P w K mg base 1 "is_word" ["text", "letters", "most"] (spWordD T) := by
  refine D.ok sc_is_word (fun vs H Q E h => ?_) (fun cdv f A outer s H vs Q E hr h => ?_)
  · obtain ⟨v, d, ls, m, rfl, _⟩ := h
    rfl
  · obtain ⟨v, d, ls, m, rfl, hv, hz, q⟩ := h
    refine ⟨_, (pss_one (ps_ret (pe_and (pe_callB (call_isiU K rfl) (by rfl) (mb _ (by decide)) (by decide +kernel) (pa_cons (pv 0) (pa_cons (pe_bltn (v := .ty "str") (u := .type "str") (by rfl) (mb _ (by decide)) (by decide +kernel) rfl) pa_nil))) (pe_and (pe_chain op_le op_le pe_int (pe_callB (call_lenU K rfl) (by rfl) (mb _ (by decide)) (by decide +kernel) (pa_cons (pv 0) pa_nil)) (pv 2)) (pe_one (pe_callB (call_allU K rfl rfl) (by rfl) (mb _ (by decide)) (by decide +kernel) (pa_cons (pe_lc (own := [("letter", 3)]) (g := gName 3) (tt := tYes) rfl sc_is_word.nd (pi_str (pv 0)) (blkOk_by (N := N_is_word) (sc := defScope s_is_word) (by decide +kernel)) (fun _ _ _ _ _ => (pg_name (i := 3) sc_is_word.nd rfl (Or.inl rfl))) (fun _ _ _ _ _ => pts_nil) (fun _ _ _ _ _ => (pe_cmpR (op_inW K rfl (Room.units65 hr)) (pv 3) (pv 1) rfl))) pa_nil))))))), ?_⟩
    walk_at "rd"
    refine rd_isStrD hv ?_
    rcases hv.cases4 with rfl | ⟨i, rfl⟩ | ⟨z, rfl⟩ | ⟨ds, rfl⟩
    · walk_at "rd"
      exact q H .refl
    · walk_at "rd"
      exact q H .refl
    · obtain rfl := hv.str'
      have hz : z.length ≤ 1000 := hz
      have hz2 : z.length ≤ sizeLine := Nat.le_trans hz (by decide)
      have q' : ∀ (H' : Hp) {b : Bool}, Ext T [] H H' → wordB z ls m = b → Q (.bl b) H' := fun H' b e h => by
        rw [← h]
        exact q H' e
      unfold wordB at q'
      rw [show isStr (PyData.str z) = true from rfl]
      walk_at "rd"
      refine rd_ite (fun h1 => ?_) (fun h1 => ?_)
      · walk_at "rd"
        refine rd_ite (fun h2 => ?_) (fun h2 => ?_)
        · walk_at "rd"
          refine lcg_str T [] (fun _ => true) (fun v => .bl (match v with | .str x => decide ((sg x).headD 0 ∈ sg ls) | _ => false)) (Nat.lt_of_le_of_lt hz (by decide)) (by simp) (fun x hx H' e R S h1 h2 => ?_) (fun D H2 nw e hD => ?_)
          · obtain ⟨c, hc, rfl⟩ := List.mem_map.mp hx
            walk_at "rd"
            exact .inl (rd_inS (h1 rfl H' .refl))
          · walk_at "rd"
            refine rd_all (bs := (sg z).map fun c => decide (c ∈ sg ls)) (SqL.of (by rw [hD, filtT, chrs, List.map_map, List.map_map]; rfl)) (q' _ e ?_)
            rw [decide_eq_true h1, decide_eq_true h2, List.all_map]
            rfl
        · exact q' H .refl (by rw [decide_eq_false h2, Bool.false_and, Bool.and_false])
      · walk_at "rd"
        exact q' H .refl (by rw [decide_eq_false h1, Bool.false_and])
    · walk_at "rd"
      exact q H .refl
theorem ok_is_id (D : Def K mg "is_id" s_is_id ["text"]) (M : Cst mg) (G_is_word : Ok P w K mg base 1 "is_word" ["text", "letters", "most"] (spWordD T)) : Ok P w K mg base 2 "is_id" ["text"] (spDB T idD) := by
  refine D.ok sc_is_id (fun vs H Q E h => ?_) (fun cdv f A outer s H vs Q E hr h => ?_)
  · obtain ⟨v, d, rfl, _⟩ := h
    rfl
  · obtain ⟨v, d, rfl, hv, hz, q⟩ := h
    refine ⟨_, (pss_one (ps_ret (pe_callO G_is_word (hr.mono (by decide)) (by rfl) (pa_cons (pv 0) (pa_cons (pe_glS (by rfl) M.c_LETTERS) (pa_cons (pe_glI (by rfl) M.c_MAX_ID) pa_nil)))))), ?_⟩
    walk_at "rd"
    refine ⟨v, d, lettersS, 4, rfl, hv, hz, fun H1 e1 => ?_⟩
    have := q H1 e1
    cases d <;> exact this
/-- a tuple or a list of data of one kind -/
def spAsc (T : List (Addr × Str)) (K : PySem.W.Frag) : Sp := fun vs H Q _ => ∃ (a : Addr) (xs : List V) (ds : List PyData), vs = [.ref a] ∧ (SqP H a xs ∨ H a = some (.lst xs)) ∧ ImAll H xs ds ∧ Alike1 ds ∧ ds.length ≤ 1000 ∧ ∀ H', Ext T [] H H' → Q (.bl (ascD ds)) H'
theorem ok_is_ascending (D : Def K mg "is_ascending" s_is_ascending ["values"]) (mb : ∀ x ∈ bltns, mg x = none) : Ok P w K mg base 1 "is_ascending" ["values"] (spAsc T K) := by
  refine D.ok sc_is_ascending (fun vs H Q E h => ?_) (fun cdv f A outer s H vs Q E hr h => ?_)
  · obtain ⟨a, xs, ds, rfl, _⟩ := h
    rfl
  · obtain ⟨a, xs, ds, rfl, ha, hi, hal, hl, q⟩ := h
    refine ⟨_, (pss_one (ps_ret (pe_callB (call_allU K rfl rfl) (by rfl) (mb _ (by decide)) (by decide +kernel) (pa_cons (pe_lc (own := [("low", 1), ("high", 2)]) (tt := tYes) rfl sc_is_ascending.nd (pi_zipAU K rfl (by rfl) (mb _ (by decide)) (pa_cons (pv 0) (pa_cons (pe_slice (sl_U2 K rfl) (pv 0) (po_some pe_int) po_none) pa_nil))) (blkOk_by (N := N_is_ascending) (sc := defScope s_is_ascending) (by decide +kernel)) (fun _ _ _ _ _ => (pg_tupU (n := 2) K rfl rfl (pgs_cons (pg_name (i := 1) sc_is_ascending.nd rfl (Or.inl rfl)) (pgs_cons (pg_name (i := 2) sc_is_ascending.nd rfl (Or.inl rfl)) pgs_nil)))) (fun _ _ _ _ _ => pts_nil) (fun _ _ _ _ _ => (pe_cmpR (op_ltD K rfl (Room.units65 hr)) (pv 1) (pv 2) (nomark _)))) pa_nil)))), ?_⟩
    have hxl : xs.length = ds.length := hi.len
    have hlt : ∀ (n : Nat) (i : Nat) (x y : V) (H' : Hp), xs[i]? = some x → (xs.drop 1)[i]? = some y → ImAll H' xs ds → ∀ Q' : VK, Q' (.bl (ltAt ds i)) H' → rLtD K x y H' Q' := fun n i x y H' hx hy hi' Q' hq => by
      obtain ⟨d, hd, hxd⟩ := hi'.get' hx
      rw [List.getElem?_drop] at hy
      obtain ⟨e, he, hye⟩ := hi'.get' hy
      rw [Nat.add_comm] at he
      have h1 := hal d (List.mem_of_getElem? hd) e (List.mem_of_getElem? he)
      refine rd_ltD hxd hye h1.1 h1.2.1 (Nat.le_trans h1.2.2 (by decide)) ?_
      unfold ltAt at hq
      rw [hd, he] at hq
      exact hq
    have fin : ∀ (H' : Hp) (D : Addr), Ext T [] H H' → H' D = some (.lst ((List.range (ds.length - 1)).map fun i => V.bl (ltAt ds i))) → tCB (rAll K) (tCons (tC (.ref D)) tNil) [] H' Q := fun H' D e hD => by
      walk_at "rd"
      refine rd_all (bs := (List.range (ds.length - 1)).map (ltAt ds)) (SqL.of (by rw [hD, List.map_map]; rfl)) ?_
      rw [List.all_map, show (id ∘ ltAt ds) = ltAt ds from rfl, ← ascD_at]
      exact q H' e
    have go : ∀ (J : It) (G : Hp → Prop) (n : Nat) (H1 : Hp), n = ds.length - 1 → Ext T [] H H1 → Walk J n G (YPair (fun i => xs[i]?) (fun i => (xs.drop 1)[i]?)) → (∀ H', Ext T [] H1 H' → G H') → LcG J (gTupU K 2 (gCons (gName 1) (gCons (gName 2) gNil))) tYes (tOp (rLtD K) (tVar 1) (tVar 2)) [1, 2] (start ["values", "low", "high"] [.ref a]) H1 fun x H2 => tCB (rAll K) (tCons (tC x) tNil) [] H2 Q := fun J G n H1 hn e1 w hG => by
      subst hn
      refine lcg_zipG T w hG (Nat.lt_of_le_of_lt (show ds.length - 1 ≤ 1000 by omega) (by decide)) (fun i => .bl (ltAt ds i)) (fun i x y t hx hy H' e' ht R hR => ?_) (fun D H2 nD e2 hD => fin H2 D (e1.trans e2) hD)
      refine rd_gtup (SqT.of ht) rfl ?_
      walk_at "rd"
      refine ⟨by rw [wipe_set (by decide), wipe_set (by decide), wipe_wipe], ?_⟩
      walk_at "rd"
      exact hlt 0 i x y H' hx hy ((hi.x e1).x e') _ (hR H' .refl)
    walk_at "rd"
    rcases ha with ha | ha
    · by_cases h0 : xs.length = 0
      · have hx0 : xs = [] := List.eq_nil_of_length_eq_zero h0
        have hd0 : ds = [] := List.eq_nil_of_length_eq_zero (by omega)
        subst hx0
        refine .inr ⟨a, [], rfl, SqP.sq ha, rfl, rfl, ?_⟩
        walk_at "rd"
        refine ⟨a, a, [], [], rfl, .inr ⟨SqP.sq ha, SqP.sq ha, ?_⟩⟩
        exact go _ _ 0 H (by rw [hd0]; rfl) .refl (walk_zipT (xs := []) (ys := []) rfl) (fun H' e => ⟨SqP.sq (SqP.x ha e), SqP.sq (SqP.x ha e)⟩)
      · refine .inl (rd_slT (SqP.sq ha) (fun h => ?_) fun sp nsp => ?_)
        · have h1 := h.1
          rw [show HT.sIx xs.length 0 (some 1) = min 1 xs.length from HT.sIx_nat xs.length 0 1] at h1
          omega
        rw [cutV_from (α := V) xs (by decide), show Int.toNat 1 = 1 from rfl]
        obtain ⟨_, e1, hs1⟩ := alT (T := T) nsp (xs.drop 1)
        generalize upd H sp _ = H1 at e1 hs1 ⊢
        walk_at "rd"
        refine ⟨a, sp, xs, xs.drop 1, rfl, .inr ⟨SqP.sq (SqP.x ha e1), SqT.of hs1, ?_⟩⟩
        exact go _ _ (ds.length - 1) H1 rfl e1 (walk_zipT (xs := xs) (ys := xs.drop 1) (by rw [List.length_drop]; omega)) (fun H' e => ⟨SqP.sq (SqP.x (SqP.x ha e1) e), SqT.of (tup.x hs1 e)⟩)
    · refine .inl (rd_slL (SqL.of ha) fun sp nsp => ?_)
      rw [cutV_from (α := V) xs (by decide), show Int.toNat 1 = 1 from rfl]
      obtain ⟨_, e1, hs1⟩ := alL (T := T) nsp (xs.drop 1)
      generalize upd H sp _ = H1 at e1 hs1 ⊢
      walk_at "rd"
      refine ⟨a, sp, xs, xs.drop 1, rfl, .inl ⟨SqL.of (lst.x ha e1), SqL.of hs1, ?_⟩⟩
      exact go _ _ (ds.length - 1) H1 rfl e1 (walk_zip (xs := xs) (ys := xs.drop 1) (by rw [List.length_drop]; omega)) (fun H' e => ⟨SqL.of (lst.x (lst.x ha e1) e), SqL.of (lst.x hs1 e)⟩)
end
section
variable {T : List (Addr × Str)} {P : Program} {w : World} {K : PySem.W.Frag} {mg : Str → Option Value} {base : Heap}
local macro_rules | `(tactic| walk_at "tr") => `(tactic| first
  | assumption
  | exact Ext.refl
  | ((with_reducible refine' Im.x (T := T) (H := ?trH) ?tra ?tre); (case tre => assumption); (case tra => walk_at "tr"))
  | ((with_reducible refine' Im.y (T := T) (H := ?trH) ?tra ?tre ?trt); (case tre => assumption); (case trt => walk_at "tr"); (case tra => walk_at "tr"))
  | ((with_reducible refine' ImAll.x (T := T) (H := ?trH) ?tra ?tre); (case tre => assumption); (case tra => walk_at "tr"))
  | ((with_reducible refine' ImAll.y (T := T) (H := ?trH) ?tra ?tre ?trt); (case tre => assumption); (case trt => walk_at "tr"); (case tra => walk_at "tr"))
  | ((with_reducible refine' Ls.x (T := T) (H := ?trH) ?tra ?tre); (case tre => assumption); (case tra => walk_at "tr"))
  | ((with_reducible refine' Ls.y (T := T) (H := ?trH) ?tra ?tre ?trn ?trt); (case tre => assumption); (case trt => walk_at "tr"); (case trn => walk_at "tr"); (case tra => walk_at "tr"))
  | ((with_reducible refine' SqP.x (T := T) (H := ?trH) ?tra ?tre); (case tre => assumption); (case tra => walk_at "tr"))
  | ((with_reducible refine' SqP.y (T := T) (H := ?trH) ?tra ?tre ?trt); (case tre => assumption); (case trt => walk_at "tr"); (case tra => walk_at "tr"))
  | ((with_reducible refine' StAt.x (T := T) (H := ?trH) ?tra ?tre); (case tre => assumption); (case tra => walk_at "tr"))
  | ((with_reducible refine' StAt.y (T := T) (H := ?trH) ?tra ?tre ?trt); (case tre => assumption); (case trt => walk_at "tr"); (case tra => walk_at "tr"))
  | ((with_reducible refine' Pools.ext0 (T := T) (H := ?trH) ?tra ?tre); (case tre => assumption); (case tra => walk_at "tr"))
  | ((with_reducible refine' Pools.ext (T := T) (H := ?trH) ?tra ?tre ?trt); (case tre => assumption); (case trt => walk_at "tr"); (case tra => walk_at "tr"))
  | ((with_reducible refine' CL.x (T := T) (H := ?trH) ?tra ?tre); (case tre => assumption); (case tra => walk_at "tr"))
  | ((with_reducible refine' CL.y (T := T) (H := ?trH) ?tra ?tre); (case tre => assumption); (case tra => walk_at "tr"))
  | ((with_reducible refine' Tape.ext (T := T) (H := ?trH) ?tra ?tre); (case tre => assumption); (case tra => walk_at "tr"))
  | ((with_reducible refine' lst.x (T := T) (H := ?trH) ?tra ?tre); (case tre => assumption); (case tra => walk_at "tr"))
  | ((with_reducible refine' lst.y (T := T) (H := ?trH) ?tra ?tre ?trn); (case tre => assumption); (case trn => walk_at "tr"); (case tra => walk_at "tr"))
  | ((with_reducible refine' tup.x (T := T) (H := ?trH) ?tra ?tre); (case tre => assumption); (case tra => walk_at "tr"))
  | ((with_reducible refine' tup.y (T := T) (H := ?trH) ?tra ?tre ?trt); (case tre => assumption); (case trt => walk_at "tr"); (case tra => walk_at "tr"))
  | ((with_reducible refine' frz.x (T := T) (H := ?trH) ?tra ?tre); (case tre => assumption); (case tra => walk_at "tr"))
  | ((with_reducible refine' frz.y (T := T) (H := ?trH) ?tra ?tre ?trt); (case tre => assumption); (case trt => walk_at "tr"); (case tra => walk_at "tr"))
  | ((with_reducible refine' Im.z (T := T) (H := ?trH) ?tra ?tre ?trt); (case tre => assumption); (case trt => assumption); (case tra => walk_at "tr"))
  | ((with_reducible refine' ImAll.z (T := T) (H := ?trH) ?tra ?tre ?trt); (case tre => assumption); (case trt => assumption); (case tra => walk_at "tr"))
  | ((with_reducible refine' StAt.z (T := T) (H := ?trH) ?tra ?tre ?trt); (case tre => assumption); (case trt => assumption); (case tra => walk_at "tr"))
  | ((with_reducible refine' SqP.z (T := T) (H := ?trH) ?tra ?tre ?trt); (case tre => assumption); (case trt => assumption); (case tra => walk_at "tr"))
  | ((with_reducible refine' tup.z (T := T) (H := ?trH) ?tra ?tre ?trt); (case tre => assumption); (case trt => assumption); (case tra => walk_at "tr"))
  | ((with_reducible refine' Ls.z (T := T) (H := ?trH) ?tra ?tre ?trt ?trn); (case tre => assumption); (case trt => assumption); (case trn => assumption); (case tra => walk_at "tr"))
  | ((with_reducible refine' lst.z (T := T) (H := ?trH) ?tra ?tre ?trn); (case tre => assumption); (case trn => assumption); (case tra => walk_at "tr"))
  | ((with_reducible refine' CL.z (T := T) (H := ?trH) ?tra ?tre ?trn); (case tre => assumption); (case trn => assumption); (case tra => walk_at "tr"))
  | ((with_reducible refine' Tape.ne1 (H := ?trH) ?trt ?trn); (case trn => assumption); (case trt => walk_at "tr"))
  | ((with_reducible refine' Ext.trans (H1 := ?trH) ?tra (Ext.any ?tre)); (case tre => assumption); (case tra => walk_at "tr"))
  | ((with_reducible refine' Ext.trans (H1 := ?trH) ?tra ?tre); (case tre => assumption); (case tra => walk_at "tr"))
  | ((with_reducible refine' Ext.back1 (T := T) (H1 := ?trH) ?tre ?trn ?tra); (case tra => assumption); (case trn => walk_at "tr"); (case tre => walk_at "tr"))
  | ((with_reducible refine' Ext.back0 (T := T) (H1 := ?trH) ?tre ?tra); (case tra => assumption); (case tre => walk_at "tr"))
  | ((with_reducible refine' SqT.of ?tra); (case tra => walk_at "tr"))
  | ((with_reducible refine' SqL.of ?tra); (case tra => walk_at "tr")))
local macro_rules | `(tactic| walk_at "al") => `(tactic| (refine ⟨by first | (show _ ≤ sizeLine; decide) | walk_at "sz", ?_⟩; intro alp aln; generalize alG : upd _ alp _ = alH; obtain ⟨aln2, alx, alh⟩ := al_of (T := T) aln alG; clear alG aln))
local macro_rules | `(tactic| walk_at "al0") => `(tactic| (intro alp aln; generalize alG : upd _ alp _ = alH; obtain ⟨aln2, alx, alh⟩ := al_of (T := T) aln alG; clear alG aln))
def spIdsD (T : List (Addr × Str)) : Sp := fun vs H Q _ => ∃ (v : V) (d : PyData) (lo hi : Int), vs = [v, .int lo, .int hi] ∧ Im H v d ∧ Sm d ∧ ∀ H', Ext T [] H H' → Q (.bl (idsD lo hi d)) H'
theorem ok_are_ids (D : Def K mg "are_ids" s_are_ids ["value", "least", "most"]) (mb : ∀ x ∈ bltns, mg x = none) (G_is_tuple_of : Ok P w K mg base 1 "is_tuple_of" ["value", "least", "most"] spTupD) (G_is_id : Ok P w K mg base 2 "is_id" ["text"] (spDB T idD)) (G_is_ascending : Ok P w K mg base 1 "is_ascending" ["values"] (spAsc T K)) : Ok P w K mg base 3 "are_ids" ["value", "least", "most"] (spIdsD T) := by
  refine D.ok sc_are_ids (fun vs H Q E h => ?_) (fun cdv f A outer s H vs Q E hr h => ?_)
  · obtain ⟨v, d, lo, hi, rfl, _⟩ := h
    rfl
  · obtain ⟨v, d, lo, hi, rfl, hv, hs, q⟩ := h
    refine ⟨_, (pss_one (ps_ret (pe_and (pe_callO G_is_tuple_of (hr.mono (by decide)) (by rfl) (pa_cons (pv 0) (pa_cons (pv 1) (pa_cons (pv 2) pa_nil)))) (pe_and (pe_callB (call_allU K rfl rfl) (by rfl) (mb _ (by decide)) (by decide +kernel) (pa_cons (pe_lc (own := [("part", 3)]) (g := gName 3) (tt := tYes) rfl sc_are_ids.nd (pi_seq K rfl (pv 0)) (blkOk_by (N := N_are_ids) (sc := defScope s_are_ids) (by decide +kernel)) (fun _ _ _ _ _ => (pg_name (i := 3) sc_are_ids.nd rfl (Or.inl rfl))) (fun _ _ _ _ _ => pts_nil) (fun _ _ _ _ _ => (pe_callO G_is_id (hr.mono (by decide)) (by rfl) (pa_cons (pv 3) pa_nil)))) pa_nil)) (pe_one (pe_callO G_is_ascending (hr.mono (by decide)) (by rfl) (pa_cons (pv 0) pa_nil))))))), ?_⟩
    unfold idsD at q
    walk_at "rd"
    refine ⟨v, d, lo, hi, rfl, hv, ?_⟩
    cases ht : tupB lo hi d with
    | false =>
      rw [ht] at q
      walk_at "rd"
      exact q H .refl
    | true =>
      rw [ht] at q
      obtain ⟨ds, rfl, h1, h2⟩ := tupB_some ht
      have q : ∀ H', Ext T [] H H' → Q (.bl (ds.all idD && ascD ds)) H' := q
      obtain ⟨ua, ux, rfl, hua, hui⟩ := hv.tup'
      have hsa := sm_tup.mp hs
      have hui2 : ImAll H ux (ds.map id) := by rw [List.map_id]; exact hui
      walk_at "rd"
      refine .inr ⟨⟨_, SqP.sq hua⟩, ?_⟩
      refine lcg_fv T id (fun d => .bl (idD d)) (fun _ => true) walk_tup hui2 rfl (fun i H x H' y => y) (fun H' e => SqP.sq (SqP.x hua e)) (by omega) (fun k y x hy H' e' hxy R' S' h1 _ => ?_) (fun D1 H1 nD1 e1 hD1 => ?_)
      · have hym := List.mem_of_getElem? hy
        refine rd_name ⟨wipe1, ?_⟩
        walk_at "rd"
        exact ⟨x, y, rfl, hxy, hsa.2 y hym, fun H2 e2 => h1 rfl H2 e2⟩
      · rw [filtT] at hD1
        have hD2 : H1 D1 = some (.lst ((ds.map idD).map V.bl)) := by
          rw [hD1, List.map_map]
          rfl
        walk_at "rd"
        refine rd_all (SqL.of hD2) ?_
        rw [List.all_map, show (id ∘ idD) = idD from rfl]
        cases ha : ds.all idD with
        | false =>
          rw [ha] at q
          walk_at "rd"
          exact q H1 e1
        | true =>
          rw [ha] at q
          walk_at "rd"
          have hal : Alike1 ds := by
            obtain ⟨zs, e, _⟩ := ids_strs ha
            rw [e]
            exact alike_s1 zs
          exact ⟨ua, ux, ds, rfl, .inl (SqP.x hua e1), hui.x e1, hal, hsa.1, fun H2 e2 => q H2 (e1.trans e2)⟩
end
section
variable {T : List (Addr × Str)} {P : Program} {w : World} {K : PySem.W.Frag} {mg : Str → Option Value} {base : Heap}
local macro_rules | `(tactic| walk_at "tr") => `(tactic| first
  | assumption
  | exact Ext.refl
  | ((with_reducible refine' Im.x (T := T) (H := ?trH) ?tra ?tre); (case tre => assumption); (case tra => walk_at "tr"))
  | ((with_reducible refine' Im.y (T := T) (H := ?trH) ?tra ?tre ?trt); (case tre => assumption); (case trt => walk_at "tr"); (case tra => walk_at "tr"))
  | ((with_reducible refine' ImAll.x (T := T) (H := ?trH) ?tra ?tre); (case tre => assumption); (case tra => walk_at "tr"))
  | ((with_reducible refine' ImAll.y (T := T) (H := ?trH) ?tra ?tre ?trt); (case tre => assumption); (case trt => walk_at "tr"); (case tra => walk_at "tr"))
  | ((with_reducible refine' Ls.x (T := T) (H := ?trH) ?tra ?tre); (case tre => assumption); (case tra => walk_at "tr"))
  | ((with_reducible refine' Ls.y (T := T) (H := ?trH) ?tra ?tre ?trn ?trt); (case tre => assumption); (case trt => walk_at "tr"); (case trn => walk_at "tr"); (case tra => walk_at "tr"))
  | ((with_reducible refine' SqP.x (T := T) (H := ?trH) ?tra ?tre); (case tre => assumption); (case tra => walk_at "tr"))
  | ((with_reducible refine' SqP.y (T := T) (H := ?trH) ?tra ?tre ?trt); (case tre => assumption); (case trt => walk_at "tr"); (case tra => walk_at "tr"))
  | ((with_reducible refine' StAt.x (T := T) (H := ?trH) ?tra ?tre); (case tre => assumption); (case tra => walk_at "tr"))
  | ((with_reducible refine' StAt.y (T := T) (H := ?trH) ?tra ?tre ?trt); (case tre => assumption); (case trt => walk_at "tr"); (case tra => walk_at "tr"))
  | ((with_reducible refine' Pools.ext0 (T := T) (H := ?trH) ?tra ?tre); (case tre => assumption); (case tra => walk_at "tr"))
  | ((with_reducible refine' Pools.ext (T := T) (H := ?trH) ?tra ?tre ?trt); (case tre => assumption); (case trt => walk_at "tr"); (case tra => walk_at "tr"))
  | ((with_reducible refine' CL.x (T := T) (H := ?trH) ?tra ?tre); (case tre => assumption); (case tra => walk_at "tr"))
  | ((with_reducible refine' CL.y (T := T) (H := ?trH) ?tra ?tre); (case tre => assumption); (case tra => walk_at "tr"))
  | ((with_reducible refine' Tape.ext (T := T) (H := ?trH) ?tra ?tre); (case tre => assumption); (case tra => walk_at "tr"))
  | ((with_reducible refine' lst.x (T := T) (H := ?trH) ?tra ?tre); (case tre => assumption); (case tra => walk_at "tr"))
  | ((with_reducible refine' lst.y (T := T) (H := ?trH) ?tra ?tre ?trn); (case tre => assumption); (case trn => walk_at "tr"); (case tra => walk_at "tr"))
  | ((with_reducible refine' tup.x (T := T) (H := ?trH) ?tra ?tre); (case tre => assumption); (case tra => walk_at "tr"))
  | ((with_reducible refine' tup.y (T := T) (H := ?trH) ?tra ?tre ?trt); (case tre => assumption); (case trt => walk_at "tr"); (case tra => walk_at "tr"))
  | ((with_reducible refine' frz.x (T := T) (H := ?trH) ?tra ?tre); (case tre => assumption); (case tra => walk_at "tr"))
  | ((with_reducible refine' frz.y (T := T) (H := ?trH) ?tra ?tre ?trt); (case tre => assumption); (case trt => walk_at "tr"); (case tra => walk_at "tr"))
  | ((with_reducible refine' Im.z (T := T) (H := ?trH) ?tra ?tre ?trt); (case tre => assumption); (case trt => assumption); (case tra => walk_at "tr"))
  | ((with_reducible refine' ImAll.z (T := T) (H := ?trH) ?tra ?tre ?trt); (case tre => assumption); (case trt => assumption); (case tra => walk_at "tr"))
  | ((with_reducible refine' StAt.z (T := T) (H := ?trH) ?tra ?tre ?trt); (case tre => assumption); (case trt => assumption); (case tra => walk_at "tr"))
  | ((with_reducible refine' SqP.z (T := T) (H := ?trH) ?tra ?tre ?trt); (case tre => assumption); (case trt => assumption); (case tra => walk_at "tr"))
  | ((with_reducible refine' tup.z (T := T) (H := ?trH) ?tra ?tre ?trt); (case tre => assumption); (case trt => assumption); (case tra => walk_at "tr"))
  | ((with_reducible refine' Ls.z (T := T) (H := ?trH) ?tra ?tre ?trt ?trn); (case tre => assumption); (case trt => assumption); (case trn => assumption); (case tra => walk_at "tr"))
  | ((with_reducible refine' lst.z (T := T) (H := ?trH) ?tra ?tre ?trn); (case tre => assumption); (case trn => assumption); (case tra => walk_at "tr"))
  | ((with_reducible refine' CL.z (T := T) (H := ?trH) ?tra ?tre ?trn); (case tre => assumption); (case trn => assumption); (case tra => walk_at "tr"))
  | ((with_reducible refine' Tape.ne1 (H := ?trH) ?trt ?trn); (case trn => assumption); (case trt => walk_at "tr"))
  | ((with_reducible refine' Ext.trans (H1 := ?trH) ?tra (Ext.any ?tre)); (case tre => assumption); (case tra => walk_at "tr"))
  | ((with_reducible refine' Ext.trans (H1 := ?trH) ?tra ?tre); (case tre => assumption); (case tra => walk_at "tr"))
  | ((with_reducible refine' Ext.back1 (T := T) (H1 := ?trH) ?tre ?trn ?tra); (case tra => assumption); (case trn => walk_at "tr"); (case tre => walk_at "tr"))
  | ((with_reducible refine' Ext.back0 (T := T) (H1 := ?trH) ?tre ?tra); (case tra => assumption); (case tre => walk_at "tr"))
  | ((with_reducible refine' SqT.of ?tra); (case tra => walk_at "tr"))
  | ((with_reducible refine' SqL.of ?tra); (case tra => walk_at "tr")))
local macro_rules | `(tactic| walk_at "al") => `(tactic| (refine ⟨by first | (show _ ≤ sizeLine; decide) | walk_at "sz", ?_⟩; intro alp aln; generalize alG : upd _ alp _ = alH; obtain ⟨aln2, alx, alh⟩ := al_of (T := T) aln alG; clear alG aln))
local macro_rules | `(tactic| walk_at "al0") => `(tactic| (intro alp aln; generalize alG : upd _ alp _ = alH; obtain ⟨aln2, alx, alh⟩ := al_of (T := T) aln alG; clear alG aln))
theorem pushE {Hb H : Hp} {Q : VK} {dp : Addr} {ds : List PyData} {v : V} {d : PyData} (hb : Ext T [] Hb H) (hn : Nw Hb dp) (hds : Ls H dp ds) (hv : Im H v d) (hl : ds.length < 1000)
    (q : ∀ H', Ext T [] Hb H' → Ext T [dp] H H' → Lsts H [dp] → Ls H' dp (ds ++ [d]) → Q .non H') : rAppend (.ref dp) [v] H Q :=
  rd_appLs hds hv (Nat.lt_of_lt_of_le hl (by decide)) fun ys hy h => q _ (hb.own hn hy) (Ext.mut (by simp) hy) (lsts_one hy) h
theorem extE {Hb H : Hp} {Q : VK} {dp b : Addr} {ds es : List PyData} (hb : Ext T [] Hb H) (hn : Nw Hb dp) (hds : Ls H dp ds) (hes : Ls H b es) (hl : ds.length + es.length ≤ 1000)
    (q : ∀ H', Ext T [] Hb H' → Ext T [dp] H H' → Lsts H [dp] → Ls H' dp (ds ++ es) → Q .non H') : rExtend (.ref dp) [.ref b] H Q := by
  obtain ⟨xs, h1, h2⟩ := hds
  obtain ⟨zs, h3, h4⟩ := hes
  have e : Ext T [dp] H (upd H dp (.lst (xs ++ zs))) := Ext.mut (by simp) h1
  refine ⟨dp, b, xs, zs, rfl, rfl, h1, h3, Nat.le_trans (show _ ≤ 1000 by rw [h2.len, h4.len]; exact hl) (by decide), q _ (hb.own hn h1) e (lsts_one h1) ⟨_, upd_same, ?_⟩⟩
  exact (ImAll.ext e (lsts_one h1) _ _ h2).app (ImAll.ext e (lsts_one h1) _ _ h4)
def zsl (z : Str × Int) : List Sl := .k z.1 :: (if z.1 = dotS then [] else [.l z.1, .h z.1])
theorem zsl_len (zs : List (Str × Int)) : (zs.flatMap zsl).length ≤ 3 * zs.length := by
  induction zs with
  | nil => exact Nat.le_refl _
  | cons z zs ih =>
    rw [List.flatMap_cons, List.length_append, List.length_cons]
    have : (zsl z).length ≤ 3 := by
      unfold zsl
      split <;> simp
    omega
theorem slots_zsl {R : Rm} (hR : RmIn R) : slotsR R = R.zs.flatMap zsl ++ R.ss.map fun p => .s p.1 p.2 := by
  obtain ⟨lag, rest, ez, hn⟩ := hR.ne
  unfold slotsR
  rw [ez, List.flatMap_cons]
  congr 1
  show Sl.k dotS :: (rest.flatMap fun z => [Sl.k z.1, .l z.1, .h z.1]) = (Sl.k dotS :: if dotS = dotS then [] else [.l dotS, .h dotS]) ++ rest.flatMap zsl
  rw [if_pos rfl]
  show _ = Sl.k dotS :: rest.flatMap zsl
  congr 1
  have key : ∀ l : List (Str × Int), (∀ r ∈ l, r.1 ≠ dotS) → (l.flatMap fun z => [Sl.k z.1, .l z.1, .h z.1]) = l.flatMap zsl := by
    intro l
    induction l with
    | nil => intro _; rfl
    | cons z l ih =>
      intro h
      rw [List.flatMap_cons, List.flatMap_cons, ih fun r hr => h r (List.mem_cons_of_mem _ hr)]
      unfold zsl
      rw [if_neg (h z List.mem_cons_self)]
  exact key rest hn
def spSlotsT (T : List (Addr × Str)) : Sp := fun vs H Q _ => ∃ (v : V) (R : Rm), vs = [v] ∧ Im H v (rmD R) ∧ RmIn R ∧ ∀ (p : Addr) (H' : Hp), Ext T [] H H' → Im H' (.ref p) (.tuple ((slotsR R).map slD)) → Q (.ref p) H'
theorem ok_slots (D : Def K mg "slots" s_slots ["realm"]) (mb : ∀ x ∈ bltns, mg x = none) (G_zone_names : Ok P w K mg base 1 "zone_names" ["realm"] (spZn T)) : Ok P w K mg base 2 "slots" ["realm"] (spSlotsT T) := by
  refine D.ok sc_slots (fun vs H Q E h => ?_) (fun cdv f A outer s H vs Q E hr h => ?_)
  · obtain ⟨v, R, rfl, _⟩ := h
    rfl
  · obtain ⟨v, R, rfl, hv, hR, q⟩ := h
    refine ⟨_, (pss_cons (ps_set (i := 1) sc_slots.nd rfl (.inl rfl) (pe_lst pa_nil))
   (pss_cons (ps_for PassesOwn.never rfl (pi_seq K rfl (pe_callO G_zone_names (hr.mono (by decide)) (by rfl) (pa_cons (pv 0) pa_nil))) (pg_name (i := 2) sc_slots.nd rfl (.inl rfl)) (pss_cons (ps_expr (pe_bm PySem.F.plainAttrs_list PySem.F.slot_list_append PySem.F.type_list_append mt_append (pv 1) (pa_cons (pe_tup (pa_cons pe_str (pa_cons (pv 2) pa_nil))) pa_nil)))
   (pss_one (ps_if (pt_cmpR (op_neU K rfl hr.units) (pv 2) pe_str (nomark _)) (pss_one (ps_expr (pe_bm PySem.F.plainAttrs_list PySem.F.slot_list_extend PySem.F.type_list_extend mt_extend (pv 1) (pa_cons (pe_lst (pa_cons (pe_tup (pa_cons pe_str (pa_cons (pv 2) pa_nil))) (pa_cons (pe_tup (pa_cons pe_str (pa_cons (pv 2) pa_nil))) pa_nil))) pa_nil)))) pss_nil))))
   (pss_cons (ps_expr (pe_bm PySem.F.plainAttrs_list PySem.F.slot_list_extend PySem.F.type_list_extend mt_extend (pv 1) (pa_cons (pe_lc (own := [("name", 3), ("kind", 4)]) (tt := tYes) rfl sc_slots.nd (pi_seq K rfl (pe_ix (ix_U K rfl) (pv 0) pe_int (fun _ _ => rfl))) (blkOk_by (N := N_slots) (sc := defScope s_slots) (by decide +kernel)) (fun _ _ _ _ _ => (pg_tupU (n := 2) K rfl rfl (pgs_cons (pg_name (i := 3) sc_slots.nd rfl (Or.inl rfl)) (pgs_cons (pg_name (i := 4) sc_slots.nd rfl (Or.inl rfl)) pgs_nil)))) (fun _ _ _ _ _ => pts_nil) (fun _ _ _ _ _ => (pe_tup (pa_cons pe_str (pa_cons (pv 3) (pa_cons (pv 4) pa_nil)))))) pa_nil)))
   (pss_one (ps_ret (pe_callTy (call_tupU K rfl) (by rfl) (mb _ (by decide)) (by decide +kernel) (pa_cons (pv 1) pa_nil))))))), ?_⟩
    walk_at "rdn"
    refine rd_seq ?_
    walk_at "rd"
    walk_at "al"
    rename_i fp H1 nfp e1 hfp
    have hl0 : Ls H1 fp (((R.zs.take 0).flatMap zsl).map slD) := ⟨[], hfp, .nil⟩
    have hv1 := hv.x e1
    have hzl := hR.len
    walk_at "rdn"
    refine rd_seq ?_
    walk_at "rd"
    refine ⟨v, R, rfl, hv1, hR, fun zp H2 nz e2 hz2 => ?_⟩
    walk_at "rd"
    have e12 := e1.trans e2
    refine .inr ⟨⟨_, SqT.of hz2⟩, ?_⟩
    refine forg_tup (xs := (R.zs.map (·.1)).map V.str) (fun i σ H' => Ext T [] H H' ∧ Lsts H' [fp] ∧ Im H' v (rmD R) ∧ H' zp = some (.tup ((R.zs.map (·.1)).map V.str)) ∧ ∃ (a : Option V), σ = [some v, some (.ref fp), a, none, none] ∧ Ls H' fp (((R.zs.take i).flatMap zsl).map slD))
      ⟨e12, lsts_one (lst.x hfp e2), hv1.x e2, hz2, _, rfl, hl0.x e2⟩ (fun i σ H' _ h => SqT.of h.2.2.2.1) (fun i x σ H3 hx h => ?_) (fun σ H3 h => ?_)
    · obtain ⟨e3, hm3, hv3, hz3, a, rfl, hl3⟩ := h
      rw [List.getElem?_map] at hx
      obtain ⟨zn, hzn, rfl⟩ := Option.map_eq_some_iff.mp hx
      rw [List.getElem?_map] at hzn
      obtain ⟨z, hzz, rfl⟩ := Option.map_eq_some_iff.mp hzn
      have hznm := hR.nm z (List.mem_of_getElem? hzz)
      have hcl : (((R.zs.take i).flatMap zsl).map slD).length ≤ 100 := by
        rw [List.length_map]
        have := zsl_len (R.zs.take i)
        rw [List.length_take] at this
        omega
      walk_at "rdn"
      refine rd_seq ?_
      obtain ⟨fx, hfx, hfi⟩ := hl3
      have hl3 : Ls H3 fp (((R.zs.take i).flatMap zsl).map slD) := ⟨fx, hfx, hfi⟩
      walk_at "rdn"
      walk_at "al"
      rename_i t1 H4 _ e4 ht1
      have h1 : Im H4 (.ref t1) (slD (.k z.1)) := .new2 (.str _ kw_ok.1) (.str _ (name_ok hznm)) ht1
      refine rd_nil ?_
      refine pushE (T := T) (Hb := H) (e3.trans e4) nfp (hl3.x e4) h1 (by omega) fun H5 e5 e45 m5 hl5 => ?_
      have hv5 := (hv3.x e4).z e45 m5
      have hz5 := tup.z (tup.x hz3 e4) e45 m5
      have etk : (R.zs.take (i + 1)).flatMap zsl = (R.zs.take i).flatMap zsl ++ zsl z := by
        rw [List.take_add_one, hzz, List.flatMap_append]
        show _ ++ (zsl z ++ []) = _
        rw [List.append_nil]
      obtain ⟨gx, hgx, hgi⟩ := hl5
      have hl5 : Ls H5 fp (((R.zs.take i).flatMap zsl).map slD ++ [slD (.k z.1)]) := ⟨gx, hgx, hgi⟩
      clear hfx hfi
      walk_at "rd"
      refine rd_itn (fun cc => ?_) (fun cc => ?_)
      · walk_at "rd"
        refine ⟨e5, lsts_one hgx, hv5, hz5, _, rfl, ?_⟩
        rw [etk, List.map_append, show zsl z = [.k z.1] by unfold zsl; rw [if_pos (show z.1 = dotS from cc)]]
        exact hl5
      · walk_at "rdn"
        walk_at "al"
        rename_i t2 H6 _ e6 ht2
        walk_at "rdn"
        walk_at "al"
        rename_i t3 H7 _ e7 ht3
        walk_at "rdn"
        walk_at "al"
        rename_i l1 H8 _ e8 hl1
        have h2 : Im H8 (.ref t2) (slD (.l z.1)) := (Im.new2 (.str _ kw_ok.2.1) (.str _ (name_ok hznm)) ht2).x (e7.trans e8)
        have h3 : Im H8 (.ref t3) (slD (.h z.1)) := (Im.new2 (.str _ kw_ok.2.2.1) (.str _ (name_ok hznm)) ht3).x e8
        have hes : Ls H8 l1 [slD (.l z.1), slD (.h z.1)] := ⟨_, hl1, .cons h2 (.cons h3 .nil)⟩
        have e58 := (e6.trans e7).trans e8
        refine rd_nil ?_
        refine extE (T := T) (Hb := H) (e5.trans e58) nfp (hl5.x e58) hes (by simp only [List.length_append, List.length_cons, List.length_nil]; omega) fun H9 e9 e89 m9 hl9 => ?_
        have hv9 := (hv5.x e58).z e89 m9
        have hz9 := tup.z (tup.x hz5 e58) e89 m9
        walk_at "rd"
        refine ⟨e9, ?_, hv9, hz9, _, rfl, ?_⟩
        · obtain ⟨kx, hkx, _⟩ := hl9
          exact lsts_one hkx
        · rw [etk, List.map_append, show zsl z = [.k z.1, .l z.1, .h z.1] by unfold zsl; rw [if_neg (show ¬ z.1 = dotS from cc)]]
          rw [List.append_assoc] at hl9
          exact hl9
    · obtain ⟨e3, hm3, hv3, hz3, a, rfl, hl3⟩ := h
      rw [List.length_map, List.length_map, List.take_length] at hl3
      obtain ⟨fx, hfx, hfi⟩ := hl3
      have hl3 : Ls H3 fp ((R.zs.flatMap zsl).map slD) := ⟨fx, hfx, hfi⟩
      walk_at "rdn"
      refine rd_seq ?_
      walk_at "rdn"
      refine rd_ixI (d := .tuple (R.ss.map ssD)) hv3 rfl fun u hu => ?_
      obtain ⟨sp, xs, rfl, hsp, hsi⟩ := hu.tup'
      have hsl := hR.slen
      walk_at "rdn"
      refine .inr ⟨⟨_, SqP.sq hsp⟩, ?_⟩
      refine lcg_fm T ssD (fun p => slD (.s p.1 p.2)) (fun _ => true) walk_tup hsi rfl (fun i H x H' y => y) (fun H' e => SqP.sq (SqP.x hsp e)) (by omega) (fun k y x hy H' e' hxy R' S' h1 _ => ?_) (fun D1 H4 nD1 e4 hD1 => ?_)
      · have hro := hR.sok y (List.mem_of_getElem? hy)
        refine rd_gpair (d1 := .str y.1) (d2 := .str y.2) hxy fun v1 v2 g1 g2 => ?_
        rw [g1.str', g2.str']
        refine ⟨rfl, ?_⟩
        walk_at "rd"
        walk_at "al"
        rename_i tt H6 _ e6 htt
        exact h1 rfl _ H6 e6 (.new3 (.str _ kw_ok.2.2.2) (.str _ (name_ok hro.1)) (.str _ (id_ok hro.2)) htt)
      · rw [filtT] at hD1
        have hzl3 := zsl_len R.zs
        refine rd_nil ?_
        refine extE (T := T) (Hb := H) (e3.trans e4) nfp (hl3.x e4) hD1 (by rw [List.length_map, List.length_map]; omega) fun H5 e5 e45 m5 hl5 => ?_
        obtain ⟨kx, hkx, hki⟩ := hl5
        walk_at "rd"
        refine rd_tupA T hkx fun p H6 np e6 hp => ?_
        refine q p H6 (e5.trans e6) ?_
        rw [slots_zsl hR, List.map_append, List.map_map]
        exact .tup hp (ImAll.x hki e6)
def spIsSlot (T : List (Addr × Str)) : Sp := fun vs H Q _ => ∃ (v u : V) (R : Rm) (d : PyData) (b : Bool), vs = [v, u] ∧ Im H v (rmD R) ∧ RmIn R ∧ Im H u d ∧ d.depth ≤ 60 ∧ (d ∈ (slotsR R).map slD ↔ b = true) ∧ ∀ H', Ext T [] H H' → Q (.bl b) H'
theorem ok_is_slot (D : Def K mg "is_slot" s_is_slot ["realm", "value"]) (G_slots : Ok P w K mg base 2 "slots" ["realm"] (spSlotsT T)) : Ok P w K mg base 3 "is_slot" ["realm", "value"] (spIsSlot T) := by
  refine D.ok sc_is_slot (fun vs H Q E h => ?_) (fun cdv f A outer s H vs Q E hr h => ?_)
  · obtain ⟨v, u, R, d, b, rfl, _⟩ := h
    rfl
  · obtain ⟨v, u, R, d, b, rfl, hv, hR, hu, hd, hb, q⟩ := h
    refine ⟨_, (pss_one (ps_ret (pe_cmpR (op_inW K rfl (Room.units65 hr)) (pv 1) (pe_callO G_slots (hr.mono (by decide)) (by rfl) (pa_cons (pv 0) pa_nil)) rfl))), ?_⟩
    walk_at "rd"
    refine ⟨v, R, rfl, hv, hR, fun p H1 e1 hp => ?_⟩
    refine rd_inWI (b := b) (hu.x e1) hp (Nat.le_trans hd (by decide)) ?_ hb (q H1 e1)
    show PyData.depthAll ((slotsR R).map slD) + 1 ≤ 64
    have := dep_map dep_sl (slotsR R)
    omega
def hostsB : Sl → Bool
  | .h _ => true
  | _ => false
theorem iff_of {p : Prop} {a b : Bool} [Decidable p] (h : decide p = a) (e : b = a) : p ↔ b = true := by rw [e, ← h, decide_eq_true_eq]
theorem sl_hosts (s : Sl) : ∃ (kw : Str) (r : List PyData), slD s = .tuple (.str kw :: r) ∧ (kw = Str.ofString "hosts" ↔ hostsB s = true) := by
  cases s with
  | k z => exact ⟨_, _, rfl, iff_of (a := false) (by decide +kernel) rfl⟩
  | l z => exact ⟨_, _, rfl, iff_of (a := false) (by decide +kernel) rfl⟩
  | h z => exact ⟨_, _, rfl, iff_of (a := true) (by decide +kernel) rfl⟩
  | s n k => exact ⟨_, _, rfl, iff_of (a := false) (by decide +kernel) rfl⟩
theorem five_of {ds : List PyData} (h1 : (5 : Int) ≤ ds.length) (h2 : (ds.length : Int) ≤ 5) : ∃ a b c d e, ds = [a, b, c, d, e] := by
  match ds, h1, h2 with
  | [a, b, c, d, e], _, _ => exact ⟨a, b, c, d, e, rfl⟩
  | [], h1, _ => exact absurd h1 (by decide)
  | [_], h1, _ => exact absurd h1 (by simp)
  | [_, _], h1, _ => exact absurd h1 (by simp)
  | [_, _, _], h1, _ => exact absurd h1 (by simp)
  | [_, _, _, _], h1, _ => exact absurd h1 (by simp)
  | _ :: _ :: _ :: _ :: _ :: _ :: _, _, h2 => simp only [List.length_cons] at h2; omega
theorem item_no {h : Bool} {d : PyData} (ht : tupB 5 5 d = false) : itemD h d = false := by
  cases d with
  | tuple ds =>
    match ds, ht with
    | [a, b, c, d, e], ht => cases ht
    | [], _ => rfl
    | [_], _ => rfl
    | [_, _], _ => rfl
    | [_, _, _], _ => rfl
    | [_, _, _, _], _ => rfl
    | _ :: _ :: _ :: _ :: _ :: _ :: _, _ => rfl
  | none => rfl
  | bool _ => rfl
  | int _ => rfl
  | str _ => rfl
  | list _ => rfl
  | dict _ => rfl
theorem Im.quint' {H : Hp} {v : V} {a b c d e : PyData} (h : Im H v (.tuple [a, b, c, d, e])) : ∃ ta x1 x2 x3 x4 x5, v = .ref ta ∧ SqP H ta [x1, x2, x3, x4, x5] ∧ Im H x1 a ∧ Im H x2 b ∧ Im H x3 c ∧ Im H x4 d ∧ Im H x5 e := by
  obtain ⟨ta, xs, rfl, ha, hi⟩ := h.tup'
  cases hi with
  | cons g1 hi =>
    cases hi with
    | cons g2 hi =>
      cases hi with
      | cons g3 hi =>
        cases hi with
        | cons g4 hi =>
          cases hi with
          | cons g5 hi =>
            cases hi
            exact ⟨ta, _, _, _, _, _, rfl, ha, g1, g2, g3, g4, g5⟩
theorem bare_iff {g : PyData} {x y : Int} : PyData.tuple [g, .int x, .int y] = .tuple [.tuple [], .int 0, .int 10000] ↔ bareB g (.int x) (.int y) = true := by
  constructor
  · intro h
    injection h with h
    injection h with h1 h
    injection h with h2 h
    injection h with h3 h
    injection h2 with h2
    injection h3 with h3
    rw [h1, h2, h3]
    rfl
  · intro h
    cases g with
    | tuple ds =>
      cases ds with
      | nil =>
        have h : (decide (x = 0) && decide (y = 10000)) = true := h
        rw [Bool.and_eq_true, decide_eq_true_eq, decide_eq_true_eq] at h
        rw [h.1, h.2]
      | cons a r => cases h
    | none => cases h
    | bool _ => cases h
    | int _ => cases h
    | str _ => cases h
    | list _ => cases h
    | dict _ => cases h
def spItemD (T : List (Addr × Str)) : Sp := fun vs H Q _ => ∃ (v u : V) (sl : Sl) (d : PyData), vs = [v, u] ∧ Im H v (slD sl) ∧ Im H u d ∧ Sm d ∧ d.depth ≤ 60 ∧ ∀ H', Ext T [] H H' → Q (.bl (itemD (hostsB sl) d)) H'
theorem ok_is_item (D : Def K mg "is_item" s_is_item ["slot", "value"]) (M : Cst mg) (G_is_tuple_of : Ok P w K mg base 1 "is_tuple_of" ["value", "least", "most"] spTupD) (G_are_ids : Ok P w K mg base 3 "are_ids" ["value", "least", "most"] (spIdsD T)) (G_is_integer_in : Ok P w K mg base 1 "is_integer_in" ["value", "least", "most"] spIntD) : Ok P w K mg base 4 "is_item" ["slot", "value"] (spItemD T) := by
  refine D.ok sc_is_item (fun vs H Q E h => ?_) (fun cdv f A outer s H vs Q E hr h => ?_)
  · obtain ⟨v, u, sl, d, rfl, _⟩ := h
    rfl
  · obtain ⟨v, u, sl, d, rfl, hv, hu, hs, hd, q⟩ := h
    refine ⟨_, (pss_cons (ps_if (pt_not (pt_E (pe_callO G_is_tuple_of (hr.mono (by decide)) (by rfl) (pa_cons (pv 1) (pa_cons pe_int (pa_cons pe_int pa_nil)))))) (pss_one (ps_ret pe_bl)) pss_nil)
   (pss_cons (ps_asg (pv 1) (pg_tupU (n := 5) K rfl rfl (pgs_cons (pg_name (i := 2) sc_is_item.nd rfl (.inl rfl)) (pgs_cons (pg_name (i := 3) sc_is_item.nd rfl (.inl rfl)) (pgs_cons (pg_name (i := 4) sc_is_item.nd rfl (.inl rfl)) (pgs_cons (pg_name (i := 5) sc_is_item.nd rfl (.inl rfl)) (pgs_cons (pg_name (i := 6) sc_is_item.nd rfl (.inl rfl)) pgs_nil)))))))
   (pss_cons (ps_if (PW.pt (pw_or (pt_not (pt_E (pe_callO G_are_ids (hr.mono (by decide)) (by rfl) (pa_cons (pv 2) (pa_cons pe_int (pa_cons (pe_glI (by rfl) M.c_MAX_IDS) pa_nil)))))) (pw_or1 (pt_not (pt_E (pe_callO G_is_integer_in (hr.mono (by decide)) (by rfl) (pa_cons (pv 3) (pa_cons pe_int (pa_cons (pe_glI (by rfl) M.c_MAX_LIFE) pa_nil))))))))) (pss_one (ps_ret pe_bl)) pss_nil)
   (pss_cons (ps_if (pt_not (pt_E (pe_callO G_are_ids (hr.mono (by decide)) (by rfl) (pa_cons (pv 4) (pa_cons pe_int (pa_cons (pe_glI (by rfl) M.c_MAX_SIGNERS) pa_nil)))))) (pss_one (ps_ret pe_bl)) pss_nil)
   (pss_cons (ps_if (PW.pt (pw_or (pt_not (pt_E (pe_callO G_is_integer_in (hr.mono (by decide)) (by rfl) (pa_cons (pv 5) (pa_cons pe_int (pa_cons (pe_glI (by rfl) M.c_MAX_TIME) pa_nil)))))) (pw_or1 (pt_not (pt_E (pe_callO G_is_integer_in (hr.mono (by decide)) (by rfl) (pa_cons (pv 6) (pa_cons (pv 5) (pa_cons (pe_glI (by rfl) M.c_MAX_TIME) pa_nil))))))))) (pss_one (ps_ret pe_bl)) pss_nil)
   (pss_one (ps_ret (pe_or (pe_cmpR (op_neU K rfl hr.units) (pe_ix (ix_U K rfl) (pv 0) pe_int (fun _ _ => rfl)) pe_str (nomark _)) (pe_one (pe_cmpR (op_eqU K rfl hr.units) (pe_tup (pa_cons (pv 4) (pa_cons (pv 5) (pa_cons (pv 6) pa_nil)))) (pe_tup (pa_cons (pe_tup pa_nil) (pa_cons pe_int (pa_cons (pe_glI (by rfl) M.c_MAX_TIME) pa_nil)))) (nomark _))))))))))), ?_⟩
    walk_at "rdn"
    refine rd_seq ?_
    walk_at "rd"
    refine ⟨u, d, 5, 5, rfl, hu, ?_⟩
    refine ⟨_, rfl, ?_⟩
    cases ht : tupB 5 5 d with
    | false =>
      rw [item_no ht] at q
      walk_at "rd"
      exact q H .refl
    | true =>
      obtain ⟨ds, rfl, h1, h2⟩ := tupB_some ht
      obtain ⟨c, l, g, a, b, rfl⟩ := five_of h1 h2
      have hsa := sm_tup.mp hs
      have q : ∀ H', Ext T [] H H' → Q (.bl (idsD 0 4 c && (intB 1 1000 l && (idsD 0 3 g && (intB 0 10000 a && (fromB a b && (!hostsB sl || bareB g a b))))))) H' := q
      obtain ⟨ta, x1, x2, x3, x4, x5, rfl, hta, g1, g2, g3, g4, g5⟩ := hu.quint'
      walk_at "rdn"
      refine rd_seq ?_
      walk_at "rd"
      refine rd_gtup (SqP.sq hta) rfl ?_
      walk_at "rdn"
      refine rd_seq ?_
      walk_at "rd"
      refine ⟨x1, c, 0, 4, rfl, g1, hsa.2 c (by simp), fun H1 e1 => ?_⟩
      refine ⟨_, rfl, ?_⟩
      cases hc : idsD 0 4 c with
      | false =>
        rw [hc] at q
        walk_at "rd"
        exact q H1 e1
      | true =>
        rw [hc] at q
        walk_at "rd"
        refine ⟨x2, l, 1, 1000, rfl, g2.x e1, ?_⟩
        refine ⟨_, rfl, ?_⟩
        cases hl : intB 1 1000 l with
        | false =>
          rw [hl] at q
          walk_at "rd"
          exact q H1 e1
        | true =>
          rw [hl] at q
          walk_at "rd"
          refine ⟨x3, g, 0, 3, rfl, g3.x e1, hsa.2 g (by simp), fun H2 e2 => ?_⟩
          refine ⟨_, rfl, ?_⟩
          have e12 := e1.trans e2
          cases hg : idsD 0 3 g with
          | false =>
            rw [hg] at q
            walk_at "rd"
            exact q H2 e12
          | true =>
            rw [hg] at q
            walk_at "rd"
            refine ⟨x4, a, 0, 10000, rfl, g4.x e12, ?_⟩
            refine ⟨_, rfl, ?_⟩
            cases ha : intB 0 10000 a with
            | false =>
              rw [ha] at q
              walk_at "rd"
              exact q H2 e12
            | true =>
              rw [ha] at q
              obtain ⟨ai, rfl, _, _⟩ := int_some ha
              obtain rfl := g4.int'
              walk_at "rd"
              refine ⟨x5, b, ai, 10000, rfl, g5.x e12, ?_⟩
              refine ⟨_, rfl, ?_⟩
              have q : ∀ H', Ext T [] H H' → Q (.bl (intB ai 10000 b && (!hostsB sl || bareB g (.int ai) b))) H' := q
              cases hb : intB ai 10000 b with
              | false =>
                rw [hb] at q
                walk_at "rd"
                exact q H2 e12
              | true =>
                rw [hb] at q
                obtain ⟨bi, rfl, _, _⟩ := int_some hb
                obtain rfl := g5.int'
                obtain ⟨kw, rs, ekw, hkw⟩ := sl_hosts sl
                have hsk := hv.x e12
                rw [ekw] at hsk
                walk_at "rd"
                refine rd_ixSs (z := kw) hsk (atI_nat (xs := .str kw :: rs) (j := 0) rfl) ?_
                walk_at "rd"
                refine rd_itn (fun cc => ?_) (fun cc => ?_)
                · rw [hkw.mp cc] at q
                  walk_at "rd"
                  walk_at "al"
                  rename_i r1 H3 _ e3 hr1
                  walk_at "rd"
                  walk_at "al"
                  rename_i r0 H4 _ e4 hr0
                  walk_at "rd"
                  walk_at "al"
                  rename_i r2 H5 _ e5 hr2
                  have e25 := (e3.trans e4).trans e5
                  have i1 : Im H5 (.ref r1) (.tuple [g, .int ai, .int bi]) := (Im.new3 ((g3.x e12).x e3) (.int _) (.int _) hr1).x (e4.trans e5)
                  have i2 : Im H5 (.ref r2) (.tuple [.tuple [], .int 0, .int 10000]) := .new3 ((Im.tup hr0 .nil).x e5) (.int _) (.int _) hr2
                  refine rd_eqI (b := bareB g (.int ai) (.int bi)) i1 i2 ?_ (by decide) bare_iff ?_
                  · have hd : max c.depth (max l.depth (max g.depth _)) + 1 ≤ 60 := hd
                    show max g.depth (max 0 (max 0 0)) + 1 ≤ 64
                    omega
                  · exact q H5 (e12.trans e25)
                · have hh : hostsB sl = false := by
                    cases hh : hostsB sl with
                    | false => rfl
                    | true => exact absurd (hkw.mpr hh) cc
                  rw [hh] at q
                  exact q H2 e12
end
def cutD (ds : List PyData) (lo hi : Option Int) : List PyData := (ds.drop (HT.sIx ds.length 0 lo)).take (HT.sIx ds.length ds.length hi - HT.sIx ds.length 0 lo)
theorem cutD_tail (ds : List PyData) : cutD ds (some 1) none = ds.tail := by
  unfold cutD
  rw [HT.sIx_none]
  have e : HT.sIx ds.length 0 (some 1) = min 1 ds.length := HT.sIx_nat ds.length 0 1
  rw [e, List.take_of_length_le (by rw [List.length_drop]; omega)]
  cases ds with
  | nil => rfl
  | cons d ds => simp
theorem kw3 : PyData.strOk (Str.ofString "put") = true ∧ PyData.strOk (Str.ofString "on") = true ∧ PyData.strOk (Str.ofString "off") = true := by decide +kernel
theorem hostsB_sl (s : Sl) : hostsB s = hostSl s := by cases s <;> rfl
theorem dep_pair {a b : PyData} (h1 : a.depth ≤ 60) (h2 : b.depth ≤ 60) : PyData.depth (.tuple [a, b]) ≤ 64 := by
  show max a.depth (max b.depth 0) + 1 ≤ 64
  omega
theorem dep_mem {ds : List PyData} : ∀ {d : PyData}, d ∈ ds → d.depth < PyData.depth (.tuple ds) := by
  induction ds with
  | nil => intro d h; cases h
  | cons a r ih =>
    intro d h
    show d.depth < max a.depth (PyData.depthAll r) + 1
    rcases List.mem_cons.mp h with rfl | h
    · omega
    · have h2 : d.depth < PyData.depthAll r + 1 := ih h
      omega
section
variable {T : List (Addr × Str)} {P : Program} {w : World} {K : PySem.W.Frag} {mg : Str → Option Value} {base : Heap}
local macro_rules | `(tactic| walk_at "tr") => `(tactic| first
  | assumption
  | exact Ext.refl
  | ((with_reducible refine' Im.x (T := T) (H := ?trH) ?tra ?tre); (case tre => assumption); (case tra => walk_at "tr"))
  | ((with_reducible refine' Im.y (T := T) (H := ?trH) ?tra ?tre ?trt); (case tre => assumption); (case trt => walk_at "tr"); (case tra => walk_at "tr"))
  | ((with_reducible refine' ImAll.x (T := T) (H := ?trH) ?tra ?tre); (case tre => assumption); (case tra => walk_at "tr"))
  | ((with_reducible refine' ImAll.y (T := T) (H := ?trH) ?tra ?tre ?trt); (case tre => assumption); (case trt => walk_at "tr"); (case tra => walk_at "tr"))
  | ((with_reducible refine' Ls.x (T := T) (H := ?trH) ?tra ?tre); (case tre => assumption); (case tra => walk_at "tr"))
  | ((with_reducible refine' Ls.y (T := T) (H := ?trH) ?tra ?tre ?trn ?trt); (case tre => assumption); (case trt => walk_at "tr"); (case trn => walk_at "tr"); (case tra => walk_at "tr"))
  | ((with_reducible refine' SqP.x (T := T) (H := ?trH) ?tra ?tre); (case tre => assumption); (case tra => walk_at "tr"))
  | ((with_reducible refine' SqP.y (T := T) (H := ?trH) ?tra ?tre ?trt); (case tre => assumption); (case trt => walk_at "tr"); (case tra => walk_at "tr"))
  | ((with_reducible refine' StAt.x (T := T) (H := ?trH) ?tra ?tre); (case tre => assumption); (case tra => walk_at "tr"))
  | ((with_reducible refine' StAt.y (T := T) (H := ?trH) ?tra ?tre ?trt); (case tre => assumption); (case trt => walk_at "tr"); (case tra => walk_at "tr"))
  | ((with_reducible refine' Pools.ext0 (T := T) (H := ?trH) ?tra ?tre); (case tre => assumption); (case tra => walk_at "tr"))
  | ((with_reducible refine' Pools.ext (T := T) (H := ?trH) ?tra ?tre ?trt); (case tre => assumption); (case trt => walk_at "tr"); (case tra => walk_at "tr"))
  | ((with_reducible refine' CL.x (T := T) (H := ?trH) ?tra ?tre); (case tre => assumption); (case tra => walk_at "tr"))
  | ((with_reducible refine' CL.y (T := T) (H := ?trH) ?tra ?tre); (case tre => assumption); (case tra => walk_at "tr"))
  | ((with_reducible refine' Tape.ext (T := T) (H := ?trH) ?tra ?tre); (case tre => assumption); (case tra => walk_at "tr"))
  | ((with_reducible refine' lst.x (T := T) (H := ?trH) ?tra ?tre); (case tre => assumption); (case tra => walk_at "tr"))
  | ((with_reducible refine' lst.y (T := T) (H := ?trH) ?tra ?tre ?trn); (case tre => assumption); (case trn => walk_at "tr"); (case tra => walk_at "tr"))
  | ((with_reducible refine' tup.x (T := T) (H := ?trH) ?tra ?tre); (case tre => assumption); (case tra => walk_at "tr"))
  | ((with_reducible refine' tup.y (T := T) (H := ?trH) ?tra ?tre ?trt); (case tre => assumption); (case trt => walk_at "tr"); (case tra => walk_at "tr"))
  | ((with_reducible refine' frz.x (T := T) (H := ?trH) ?tra ?tre); (case tre => assumption); (case tra => walk_at "tr"))
  | ((with_reducible refine' frz.y (T := T) (H := ?trH) ?tra ?tre ?trt); (case tre => assumption); (case trt => walk_at "tr"); (case tra => walk_at "tr"))
  | ((with_reducible refine' Im.z (T := T) (H := ?trH) ?tra ?tre ?trt); (case tre => assumption); (case trt => assumption); (case tra => walk_at "tr"))
  | ((with_reducible refine' ImAll.z (T := T) (H := ?trH) ?tra ?tre ?trt); (case tre => assumption); (case trt => assumption); (case tra => walk_at "tr"))
  | ((with_reducible refine' StAt.z (T := T) (H := ?trH) ?tra ?tre ?trt); (case tre => assumption); (case trt => assumption); (case tra => walk_at "tr"))
  | ((with_reducible refine' SqP.z (T := T) (H := ?trH) ?tra ?tre ?trt); (case tre => assumption); (case trt => assumption); (case tra => walk_at "tr"))
  | ((with_reducible refine' tup.z (T := T) (H := ?trH) ?tra ?tre ?trt); (case tre => assumption); (case trt => assumption); (case tra => walk_at "tr"))
  | ((with_reducible refine' Ls.z (T := T) (H := ?trH) ?tra ?tre ?trt ?trn); (case tre => assumption); (case trt => assumption); (case trn => assumption); (case tra => walk_at "tr"))
  | ((with_reducible refine' lst.z (T := T) (H := ?trH) ?tra ?tre ?trn); (case tre => assumption); (case trn => assumption); (case tra => walk_at "tr"))
  | ((with_reducible refine' CL.z (T := T) (H := ?trH) ?tra ?tre ?trn); (case tre => assumption); (case trn => assumption); (case tra => walk_at "tr"))
  | ((with_reducible refine' Tape.ne1 (H := ?trH) ?trt ?trn); (case trn => assumption); (case trt => walk_at "tr"))
  | ((with_reducible refine' Ext.trans (H1 := ?trH) ?tra (Ext.any ?tre)); (case tre => assumption); (case tra => walk_at "tr"))
  | ((with_reducible refine' Ext.trans (H1 := ?trH) ?tra ?tre); (case tre => assumption); (case tra => walk_at "tr"))
  | ((with_reducible refine' Ext.back1 (T := T) (H1 := ?trH) ?tre ?trn ?tra); (case tra => assumption); (case trn => walk_at "tr"); (case tre => walk_at "tr"))
  | ((with_reducible refine' Ext.back0 (T := T) (H1 := ?trH) ?tre ?tra); (case tra => assumption); (case tre => walk_at "tr"))
  | ((with_reducible refine' SqT.of ?tra); (case tra => walk_at "tr"))
  | ((with_reducible refine' SqL.of ?tra); (case tra => walk_at "tr")))
local macro_rules | `(tactic| walk_at "al") => `(tactic| (refine ⟨by first | (show _ ≤ sizeLine; decide) | walk_at "sz", ?_⟩; intro alp aln; generalize alG : upd _ alp _ = alH; obtain ⟨aln2, alx, alh⟩ := al_of (T := T) aln alG; clear alG aln))
local macro_rules | `(tactic| walk_at "al0") => `(tactic| (intro alp aln; generalize alG : upd _ alp _ = alH; obtain ⟨aln2, alx, alh⟩ := al_of (T := T) aln alG; clear alG aln))
theorem rd_slIm {H : Hp} {Q : VK} {u : V} {ds : List PyData} {lo hi : Option Int} (h : Im H u (.tuple ds)) (q : ∀ y H', Ext T [] H H' → Im H' y (.tuple (cutD ds lo hi)) → Q y H') : rSlU2 K u lo hi H Q := by
  obtain ⟨a, xs, rfl, ha, hi'⟩ := h.tup'
  have hl := hi'.len
  by_cases c : HT.sIx xs.length 0 lo = 0 ∧ HT.sIx xs.length xs.length hi = xs.length
  · refine rd_slW (SqP.sq ha) c.1 c.2 (q _ H .refl ?_)
    have : cutD ds lo hi = ds := by
      unfold cutD
      rw [← hl, c.1, c.2, List.drop_zero, Nat.sub_zero, hl, List.take_length]
    rw [this]
    exact h
  · refine rd_slT2 (SqP.sq ha) c fun p np => ?_
    obtain ⟨_, e, hp⟩ := alT (T := T) np (cutV xs lo hi)
    generalize upd H p _ = H' at e hp ⊢
    refine q _ H' e (.tup hp ?_)
    unfold cutV cutD
    rw [← hl]
    exact ((hi'.x e).drop _).take _
def spRD (T : List (Addr × Str)) (f : Rm → PyData → Bool) : Sp := fun vs H Q _ => ∃ (v u : V) (R : Rm) (d : PyData), vs = [v, u] ∧ Im H v (rmD R) ∧ RmIn R ∧ Im H u d ∧ Sm d ∧ d.depth ≤ 40 ∧ ∀ H', Ext T [] H H' → Q (.bl (f R d)) H'
theorem ok_is_server (D : Def K mg "is_server" s_is_server ["realm", "value"]) (mb : ∀ x ∈ bltns, mg x = none) (G_is_tuple_of : Ok P w K mg base 1 "is_tuple_of" ["value", "least", "most"] spTupD) (G_is_id : Ok P w K mg base 2 "is_id" ["text"] (spDB T idD)) (G_zone_names : Ok P w K mg base 1 "zone_names" ["realm"] (spZn T)) :
    Ok P w K mg base 3 "is_server" ["realm", "value"] (spRD T srvD) := by
  refine D.ok sc_is_server (fun vs H Q E h => ?_) (fun cdv f A outer s H vs Q E hr h => ?_)
  · obtain ⟨v, u, R, d, rfl, _⟩ := h
    rfl
  · obtain ⟨v, u, R, d, rfl, hv, hR, hu, hs, hd, q⟩ := h
    refine ⟨_, (pss_one (ps_ret (pe_and (pe_callO G_is_tuple_of (hr.mono (by decide)) (by rfl) (pa_cons (pv 1) (pa_cons pe_int (pa_cons pe_int pa_nil)))) (pe_and (pe_callO G_is_id (hr.mono (by decide)) (by rfl) (pa_cons (pe_ix (ix_U K rfl) (pv 1) pe_int (fun _ _ => rfl)) pa_nil)) (pe_one (pe_cmpR (op_inW K rfl (Room.units65 hr)) (pe_ix (ix_U K rfl) (pv 1) pe_int (fun _ _ => rfl)) (pe_slice (sl_U2 K rfl) (pe_callO G_zone_names (hr.mono (by decide)) (by rfl) (pa_cons (pv 0) pa_nil)) (po_some pe_int) po_none) rfl)))))), ?_⟩
    walk_at "rd"
    refine ⟨u, d, 2, 2, rfl, hu, ?_⟩
    cases ht : tupB 2 2 d with
    | false =>
      rw [srvD_no ht] at q
      walk_at "rd"
      exact q H .refl
    | true =>
      obtain ⟨a, b, rfl⟩ := pair_of ht
      have q : ∀ H', Ext T [] H H' → Q (.bl (idD a && inZ R b)) H' := q
      have hsa := sm_tup.mp hs
      walk_at "rd"
      refine rd_ixI (d := a) hu rfl fun u1 g1 => ?_
      walk_at "rd"
      refine ⟨u1, a, rfl, g1, hsa.2 a (by simp), fun H1 e1 => ?_⟩
      cases ha : idD a with
      | false =>
        rw [ha] at q
        walk_at "rd"
        exact q H1 e1
      | true =>
        rw [ha] at q
        walk_at "rd"
        refine rd_ixI (d := b) (hu.x e1) rfl fun u2 g2 => ?_
        walk_at "rd"
        refine ⟨v, R, rfl, hv.x e1, hR, fun zp H2 nz e2 hz => ?_⟩
        have hzi : Im H2 (.ref zp) (.tuple ((R.zs.map (·.1)).map .str)) := .tup hz (ImAll.strs fun z hz => by
          obtain ⟨y, hy, rfl⟩ := List.mem_map.mp hz
          exact name_ok (hR.nm y hy))
        walk_at "rd"
        refine rd_slIm (T := T) hzi fun y H3 e3 hy => ?_
        rw [cutD_tail, ← List.map_tail, ← List.map_tail] at hy
        have hbd : b.depth ≤ 64 := by
          have := dep_mem (ds := [a, b]) (d := b) (by simp)
          omega
        refine rd_inWI (b := inZ R b) ((g2.x e2).x e3) hy hbd ?_ inZ_iff (q H3 ((e1.trans e2).trans e3))
        show PyData.depthAll ((R.zs.tail.map (·.1)).map PyData.str) + 1 ≤ 64
        rw [dep_strs0]
        omega
def spIsOnD (T : List (Addr × Str)) : Sp := fun vs H Q _ => ∃ (u y z : V) (s : Sta) (p x : PyData), vs = [u, y, z] ∧ StAt H u s ∧ Im H y p ∧ Im H z x ∧ p.depth ≤ 60 ∧ x.depth ≤ 60 ∧ ∀ (H' : Hp), Ext T [] H H' → Q (.bl (isOnB s p x)) H'
theorem ok_is_onD (D : Def K mg "is_on" s_is_on ["state", "server", "zone"]) : Ok P w K mg base 1 "is_on" ["state", "server", "zone"] (spIsOnD T) := by
  refine D.ok sc_is_on (fun vs H Q E h => ?_) (fun cdv f A outer s H vs Q E hr h => ?_)
  · obtain ⟨u, y, z, s, p, x, rfl, _⟩ := h
    rfl
  · obtain ⟨u, y, z, s, p, x, rfl, hu, hy, hz, hp, hx, q⟩ := h
    refine ⟨_, (pss_one (ps_ret (pe_cmpR (op_inW K rfl (Room.units65 hr)) (pe_tup (pa_cons (pv 1) (pa_cons (pv 2) pa_nil))) (pe_ix (ix_U K rfl) (pv 0) pe_int (fun _ _ => rfl)) rfl))), ?_⟩
    walk_at "rd"
    walk_at "al"
    rename_i tr H1 _ e1 htr
    obtain ⟨a, ia, oa, xs, o, rfl, ha, hia, hod, hxi, hoa⟩ := hu.x e1
    walk_at "rd"
    refine rd_ixT (v := oa) (SqT.of ha) rfl ?_
    have hrow : Im H1 (.ref tr) (.tuple [p, x]) := Im.new2 (hy.x e1) (hz.x e1) htr
    have hdep : PyData.depth (.tuple (s.on.map ssD)) ≤ 64 := by
      show PyData.depthAll (s.on.map ssD) + 1 ≤ 64
      have := dep_map dep_ss s.on
      omega
    exact rd_inWI (b := isOnB s p x) hrow hoa (dep_pair hp hx) hdep isOnB_iff (q H1 e1)
def spDeedB (T : List (Addr × Str)) : Sp := fun vs H Q _ => ∃ (v u y : V) (R : Rm) (s : Sta) (d : PyData), vs = [v, u, y] ∧ Im H v (rmD R) ∧ RmIn R ∧ StAt H u s ∧ Im H y d ∧ Sm d ∧ d.depth ≤ 40 ∧ ∀ H', Ext T [] H H' → Q (.bl (deedB R s d)) H'
theorem ok_is_deed (D : Def K mg "is_deed" s_is_deed ["realm", "state", "value"]) (mb : ∀ x ∈ bltns, mg x = none) (G_is_tuple_of : Ok P w K mg base 1 "is_tuple_of" ["value", "least", "most"] spTupD) (G_is_slot : Ok P w K mg base 3 "is_slot" ["realm", "value"] (spIsSlot T)) (G_is_item : Ok P w K mg base 4 "is_item" ["slot", "value"] (spItemD T)) (G_is_server : Ok P w K mg base 3 "is_server" ["realm", "value"] (spRD T srvD)) (G_is_on : Ok P w K mg base 1 "is_on" ["state", "server", "zone"] (spIsOnD T)) :
    Ok P w K mg base 5 "is_deed" ["realm", "state", "value"] (spDeedB T) := by
  refine D.ok sc_is_deed (fun vs H Q E h => ?_) (fun cdv f A outer s H vs Q E hr h => ?_)
  · obtain ⟨v, u, y, R, s, d, rfl, _⟩ := h
    rfl
  · obtain ⟨v, u, y, R, s, d, rfl, hv, hR, hu, hy, hs, hd, q⟩ := h
    refine ⟨_, (pss_cons (ps_if (pt_not (pt_E (pe_callO G_is_tuple_of (hr.mono (by decide)) (by rfl) (pa_cons (pv 2) (pa_cons pe_int (pa_cons pe_int pa_nil)))))) (pss_one (ps_ret pe_bl)) pss_nil)
   (pss_cons (ps_asg (pv 2) (pg_tupU (n := 3) K rfl rfl (pgs_cons (pg_name (i := 3) sc_is_deed.nd rfl (.inl rfl)) (pgs_cons (pg_name (i := 4) sc_is_deed.nd rfl (.inl rfl)) (pgs_cons (pg_name (i := 5) sc_is_deed.nd rfl (.inl rfl)) pgs_nil)))))
   (pss_cons (ps_if (pt_cmpR (op_eqU K rfl hr.units) (pv 3) pe_str (nomark _)) (pss_one (ps_ret (pe_and (pe_callO G_is_slot (hr.mono (by decide)) (by rfl) (pa_cons (pv 0) (pa_cons (pv 4) pa_nil))) (pe_one (pe_callO G_is_item (hr.mono (by decide)) (by rfl) (pa_cons (pv 4) (pa_cons (pv 5) pa_nil))))))) pss_nil)
   (pss_cons (ps_if (pt_cmpR (op_eqU K rfl hr.units) (pv 3) pe_str (nomark _)) (pss_one (ps_ret (pe_and (pe_callO G_is_server (hr.mono (by decide)) (by rfl) (pa_cons (pv 0) (pa_cons (pe_tup (pa_cons (pv 4) (pa_cons (pv 5) pa_nil))) pa_nil))) (pe_one (pe_not (pe_callO G_is_on (hr.mono (by decide)) (by rfl) (pa_cons (pv 1) (pa_cons (pv 4) (pa_cons (pv 5) pa_nil))))))))) pss_nil)
   (pss_one (ps_ret (pe_and (pe_cmpR (op_eqU K rfl hr.units) (pv 3) pe_str (nomark _)) (pe_one (pe_callO G_is_on (hr.mono (by decide)) (by rfl) (pa_cons (pv 1) (pa_cons (pv 4) (pa_cons (pv 5) pa_nil)))))))))))), ?_⟩
    walk_at "rdn"
    refine rd_seq ?_
    walk_at "rd"
    refine ⟨y, d, 3, 3, rfl, hy, ?_⟩
    refine ⟨_, rfl, ?_⟩
    cases ht : tupB 3 3 d with
    | false =>
      rw [deedB_no ht] at q
      walk_at "rd"
      exact q H .refl
    | true =>
      obtain ⟨wd, p, x, rfl⟩ := trip_of ht
      rw [deedB_eq] at q
      have hsa := sm_tup.mp hs
      have hdp : ∀ e ∈ [wd, p, x], e.depth ≤ 39 := fun e he => by
        have := dep_mem he
        omega
      obtain ⟨ta, x1, x2, x3, rfl, hta, g1, g2, g3⟩ := hy.trip'
      walk_at "rdn"
      refine rd_seq ?_
      walk_at "rd"
      refine rd_gtup (SqP.sq hta) rfl ?_
      walk_at "rdn"
      refine rd_seq ?_
      walk_at "rd"
      refine rd_eqI (b := wB "put" wd) g1 (.str (Str.ofString "put") kw3.1) (Nat.le_trans (hdp wd (by simp)) (by decide)) (by decide) wB_iff ?_
      refine ⟨_, rfl, ?_⟩
      cases h1 : wB "put" wd with
      | true =>
        rw [h1, if_pos rfl] at q
        walk_at "rd"
        refine ⟨v, x2, R, p, slotB R p, rfl, hv, hR, g2, Nat.le_trans (hdp p (by simp)) (by decide), slotB_iff, fun H1 e1 => ?_⟩
        cases hp : slotB R p with
        | false =>
          rw [hp] at q
          walk_at "rd"
          exact q H1 e1
        | true =>
          rw [hp] at q
          obtain ⟨sl, hsl, rfl⟩ := slotB_some hp
          walk_at "rd"
          refine ⟨x2, x3, sl, x, rfl, g2.x e1, g3.x e1, hsa.2 x (by simp), Nat.le_trans (hdp x (by simp)) (by decide), fun H2 e2 => ?_⟩
          rw [hostsB_sl, ← hostW_sl]
          exact q H2 (e1.trans e2)
      | false =>
        rw [h1, if_neg (by decide)] at q
        walk_at "rdn"
        refine rd_seq ?_
        walk_at "rd"
        refine rd_eqI (b := wB "on" wd) g1 (.str (Str.ofString "on") kw3.2.1) (Nat.le_trans (hdp wd (by simp)) (by decide)) (by decide) wB_iff ?_
        refine ⟨_, rfl, ?_⟩
        cases h2 : wB "on" wd with
        | true =>
          rw [h2, if_pos rfl] at q
          walk_at "rd"
          walk_at "al"
          rename_i tp H1 _ e1 htp
          walk_at "rd"
          refine ⟨v, .ref tp, R, .tuple [p, x], rfl, hv.x e1, hR, Im.new2 (g2.x e1) (g3.x e1) htp, sm_tup.mpr ⟨by show 2 ≤ 1000; decide, fun d hd => hsa.2 d (by rcases List.mem_cons.mp hd with rfl | hd; simp; rw [List.mem_singleton.mp hd]; simp)⟩, ?_, fun H2 e2 => ?_⟩
          · show max p.depth (max x.depth 0) + 1 ≤ 40
            have h3 := hdp p (by simp)
            have h4 := hdp x (by simp)
            omega
          · cases hsv : srvD R (.tuple [p, x]) with
            | false =>
              rw [hsv] at q
              walk_at "rd"
              exact q H2 (e1.trans e2)
            | true =>
              rw [hsv] at q
              have e12 := e1.trans e2
              walk_at "rd"
              refine ⟨u, x2, x3, s, p, x, rfl, hu.x e12, g2.x e12, g3.x e12, Nat.le_trans (hdp p (by simp)) (by decide), Nat.le_trans (hdp x (by simp)) (by decide), fun H3 e3 => ?_⟩
              walk_at "rd"
              exact q H3 (e12.trans e3)
        | false =>
          rw [h2, if_neg (by decide)] at q
          walk_at "rdn"
          walk_at "rd"
          refine rd_eqI (b := wB "off" wd) g1 (.str (Str.ofString "off") kw3.2.2) (Nat.le_trans (hdp wd (by simp)) (by decide)) (by decide) wB_iff ?_
          refine ⟨_, rfl, ?_⟩
          cases h3 : wB "off" wd with
          | false =>
            rw [h3] at q
            exact q H .refl
          | true =>
            rw [h3] at q
            walk_at "rd"
            exact ⟨u, x2, x3, s, p, x, rfl, hu, g2, g3, Nat.le_trans (hdp p (by simp)) (by decide), Nat.le_trans (hdp x (by simp)) (by decide), fun H3 e3 => q H3 e3⟩
end
section
variable {T : List (Addr × Str)} {P : Program} {w : World} {K : PySem.W.Frag} {mg : Str → Option Value} {base : Heap}
local macro_rules | `(tactic| walk_at "tr") => `(tactic| first
  | assumption
  | exact Ext.refl
  | ((with_reducible refine' Im.x (T := T) (H := ?trH) ?tra ?tre); (case tre => assumption); (case tra => walk_at "tr"))
  | ((with_reducible refine' Im.y (T := T) (H := ?trH) ?tra ?tre ?trt); (case tre => assumption); (case trt => walk_at "tr"); (case tra => walk_at "tr"))
  | ((with_reducible refine' ImAll.x (T := T) (H := ?trH) ?tra ?tre); (case tre => assumption); (case tra => walk_at "tr"))
  | ((with_reducible refine' ImAll.y (T := T) (H := ?trH) ?tra ?tre ?trt); (case tre => assumption); (case trt => walk_at "tr"); (case tra => walk_at "tr"))
  | ((with_reducible refine' Ls.x (T := T) (H := ?trH) ?tra ?tre); (case tre => assumption); (case tra => walk_at "tr"))
  | ((with_reducible refine' Ls.y (T := T) (H := ?trH) ?tra ?tre ?trn ?trt); (case tre => assumption); (case trt => walk_at "tr"); (case trn => walk_at "tr"); (case tra => walk_at "tr"))
  | ((with_reducible refine' SqP.x (T := T) (H := ?trH) ?tra ?tre); (case tre => assumption); (case tra => walk_at "tr"))
  | ((with_reducible refine' SqP.y (T := T) (H := ?trH) ?tra ?tre ?trt); (case tre => assumption); (case trt => walk_at "tr"); (case tra => walk_at "tr"))
  | ((with_reducible refine' StAt.x (T := T) (H := ?trH) ?tra ?tre); (case tre => assumption); (case tra => walk_at "tr"))
  | ((with_reducible refine' StAt.y (T := T) (H := ?trH) ?tra ?tre ?trt); (case tre => assumption); (case trt => walk_at "tr"); (case tra => walk_at "tr"))
  | ((with_reducible refine' Pools.ext0 (T := T) (H := ?trH) ?tra ?tre); (case tre => assumption); (case tra => walk_at "tr"))
  | ((with_reducible refine' Pools.ext (T := T) (H := ?trH) ?tra ?tre ?trt); (case tre => assumption); (case trt => walk_at "tr"); (case tra => walk_at "tr"))
  | ((with_reducible refine' CL.x (T := T) (H := ?trH) ?tra ?tre); (case tre => assumption); (case tra => walk_at "tr"))
  | ((with_reducible refine' CL.y (T := T) (H := ?trH) ?tra ?tre); (case tre => assumption); (case tra => walk_at "tr"))
  | ((with_reducible refine' Tape.ext (T := T) (H := ?trH) ?tra ?tre); (case tre => assumption); (case tra => walk_at "tr"))
  | ((with_reducible refine' lst.x (T := T) (H := ?trH) ?tra ?tre); (case tre => assumption); (case tra => walk_at "tr"))
  | ((with_reducible refine' lst.y (T := T) (H := ?trH) ?tra ?tre ?trn); (case tre => assumption); (case trn => walk_at "tr"); (case tra => walk_at "tr"))
  | ((with_reducible refine' tup.x (T := T) (H := ?trH) ?tra ?tre); (case tre => assumption); (case tra => walk_at "tr"))
  | ((with_reducible refine' tup.y (T := T) (H := ?trH) ?tra ?tre ?trt); (case tre => assumption); (case trt => walk_at "tr"); (case tra => walk_at "tr"))
  | ((with_reducible refine' frz.x (T := T) (H := ?trH) ?tra ?tre); (case tre => assumption); (case tra => walk_at "tr"))
  | ((with_reducible refine' frz.y (T := T) (H := ?trH) ?tra ?tre ?trt); (case tre => assumption); (case trt => walk_at "tr"); (case tra => walk_at "tr"))
  | ((with_reducible refine' Im.z (T := T) (H := ?trH) ?tra ?tre ?trt); (case tre => assumption); (case trt => assumption); (case tra => walk_at "tr"))
  | ((with_reducible refine' ImAll.z (T := T) (H := ?trH) ?tra ?tre ?trt); (case tre => assumption); (case trt => assumption); (case tra => walk_at "tr"))
  | ((with_reducible refine' StAt.z (T := T) (H := ?trH) ?tra ?tre ?trt); (case tre => assumption); (case trt => assumption); (case tra => walk_at "tr"))
  | ((with_reducible refine' SqP.z (T := T) (H := ?trH) ?tra ?tre ?trt); (case tre => assumption); (case trt => assumption); (case tra => walk_at "tr"))
  | ((with_reducible refine' tup.z (T := T) (H := ?trH) ?tra ?tre ?trt); (case tre => assumption); (case trt => assumption); (case tra => walk_at "tr"))
  | ((with_reducible refine' Ls.z (T := T) (H := ?trH) ?tra ?tre ?trt ?trn); (case tre => assumption); (case trt => assumption); (case trn => assumption); (case tra => walk_at "tr"))
  | ((with_reducible refine' lst.z (T := T) (H := ?trH) ?tra ?tre ?trn); (case tre => assumption); (case trn => assumption); (case tra => walk_at "tr"))
  | ((with_reducible refine' CL.z (T := T) (H := ?trH) ?tra ?tre ?trn); (case tre => assumption); (case trn => assumption); (case tra => walk_at "tr"))
  | ((with_reducible refine' Tape.ne1 (H := ?trH) ?trt ?trn); (case trn => assumption); (case trt => walk_at "tr"))
  | ((with_reducible refine' Ext.trans (H1 := ?trH) ?tra (Ext.any ?tre)); (case tre => assumption); (case tra => walk_at "tr"))
  | ((with_reducible refine' Ext.trans (H1 := ?trH) ?tra ?tre); (case tre => assumption); (case tra => walk_at "tr"))
  | ((with_reducible refine' Ext.back1 (T := T) (H1 := ?trH) ?tre ?trn ?tra); (case tra => assumption); (case trn => walk_at "tr"); (case tre => walk_at "tr"))
  | ((with_reducible refine' Ext.back0 (T := T) (H1 := ?trH) ?tre ?tra); (case tra => assumption); (case tre => walk_at "tr"))
  | ((with_reducible refine' SqT.of ?tra); (case tra => walk_at "tr"))
  | ((with_reducible refine' SqL.of ?tra); (case tra => walk_at "tr")))
local macro_rules | `(tactic| walk_at "al") => `(tactic| (refine ⟨by first | (show _ ≤ sizeLine; decide) | walk_at "sz", ?_⟩; intro alp aln; generalize alG : upd _ alp _ = alH; obtain ⟨aln2, alx, alh⟩ := al_of (T := T) aln alG; clear alG aln))
local macro_rules | `(tactic| walk_at "al0") => `(tactic| (intro alp aln; generalize alG : upd _ alp _ = alH; obtain ⟨aln2, alx, alh⟩ := al_of (T := T) aln alG; clear alG aln))
theorem put_all {H : Hp} {sl : Sl} {it : Itm} : ∀ {ds : List PyData} {xs : List V} {rs : List (Sl × Itm)}, ImAll H xs (rs.map rowD2) → EachIs (fun d x => ∃ r, Im H x (rowD2 r) ∧ d = rowD2 (r.1, if r.1 = sl then it else r.2)) ds xs → ds = (rs.map fun r => (r.1, if r.1 = sl then it else r.2)).map rowD2
  | _, _, [], h1, h2 => by
    cases h1
    cases h2
    rfl
  | _, _, r :: rs, h1, h2 => by
    cases h1 with
    | cons a b =>
      cases h2 with
      | cons c d =>
        obtain ⟨r', c1, c2⟩ := c
        have e := rowD2_inj (Im.inj _ _ _ a c1)
        rw [put_all b d, c2, ← e]
        rfl
theorem ok_changed (D : Def K mg "changed" s_changed ["state", "deed"]) (mb : ∀ x ∈ bltns, mg x = none) : Ok P w K mg base 1 "changed" ["state", "deed"] (spAfter T) := by
  refine D.ok sc_changed (fun vs H Q E h => ?_) (fun cdv f A outer s H vs Q E hr h => ?_)
  · obtain ⟨v, u, s, d, rfl, _⟩ := h
    rfl
  · obtain ⟨v, u, s, d, rfl, hv, hu, hl, hol, q⟩ := h
    refine ⟨_, (pss_cons (ps_asg (pv 0) (pg_tupU (n := 2) K rfl rfl (pgs_cons (pg_name (i := 2) sc_changed.nd rfl (.inl rfl)) (pgs_cons (pg_name (i := 3) sc_changed.nd rfl (.inl rfl)) pgs_nil))))
   (pss_cons (ps_asg (pv 1) (pg_tupU (n := 3) K rfl rfl (pgs_cons (pg_name (i := 4) sc_changed.nd rfl (.inl rfl)) (pgs_cons (pg_name (i := 5) sc_changed.nd rfl (.inr rfl)) (pgs_cons (pg_name (i := 6) sc_changed.nd rfl (.inr rfl)) pgs_nil)))))
   (pss_cons (ps_if (pt_cmpR (op_eqU K rfl hr.units) (pv 4) pe_str (nomark _)) (pss_one (ps_ret (pe_tup (pa_cons (pe_callTy (call_tupF K rfl) (by rfl) (mb _ (by decide)) (by decide +kernel) (pa_cons (pe_lc (own := [("slot", 8), ("item", 9)]) (tt := tYes) rfl sc_changed.nd (pi_seq K rfl (pv 2)) (blkOk_by (N := N_changed) (sc := defScope s_changed) (by decide +kernel)) (fun _ _ _ _ _ => (pg_tupU (n := 2) K rfl rfl (pgs_cons (pg_name (i := 8) sc_changed.nd rfl (Or.inl rfl)) (pgs_cons (pg_name (i := 9) sc_changed.nd rfl (Or.inl rfl)) pgs_nil)))) (fun _ _ _ _ _ => pts_nil) (fun _ _ _ _ _ => (pe_tup (pa_cons (pv 8) (pa_cons (pe_ifExp (pt_cmpR (op_eqU K rfl hr.units) (pv 8) (pv 5) (nomark _)) (pv 6) (pv 9)) pa_nil))))) pa_nil)) (pa_cons (pv 3) pa_nil))))) pss_nil)
   (pss_cons (ps_if (pt_cmpR (op_eqU K rfl hr.units) (pv 4) pe_str (nomark _)) (pss_one (ps_ret (pe_tup (pa_cons (pv 2) (pa_cons (pe_callTy (call_tupU K rfl) (by rfl) (mb _ (by decide)) (by decide +kernel) (pa_cons (pe_callB (call_sortedU K rfl hr.units) (by rfl) (mb _ (by decide)) (by decide +kernel) (pa_cons (pe_lst (pa_starU K rfl (pv 3) (pa_cons (pe_tup (pa_cons (pv 5) (pa_cons (pv 6) pa_nil))) pa_nil))) pa_nil)) pa_nil)) pa_nil))))) pss_nil)
   (pss_one (ps_ret (pe_tup (pa_cons (pv 2) (pa_cons (pe_callTy (call_tupU K rfl) (by rfl) (mb _ (by decide)) (by decide +kernel) (pa_cons (pe_lc (own := [("pair", 7)]) (g := gName 7) rfl sc_changed.nd (pi_seq K rfl (pv 3)) (blkOk_by (N := N_changed) (sc := defScope s_changed) (by decide +kernel)) (fun _ _ _ _ _ => (pg_name (i := 7) sc_changed.nd rfl (Or.inl rfl))) (fun _ _ _ _ _ => (pts_one (pt_cmpR (op_neU K rfl hr.units) (pv 7) (pe_tup (pa_cons (pv 5) (pa_cons (pv 6) pa_nil))) (nomark _)))) (fun _ _ _ _ _ => (pv 7))) pa_nil)) pa_nil))))))))), ?_⟩
    obtain ⟨a, ia, oa, xs, o, rfl, ha, hia, hod, hxi, hoa⟩ := hv
    have hxl : xs.length ≤ 100 := by
      rw [hxi.len, List.length_map]
      exact hl
    walk_at "rdn"
    refine rd_seq ?_
    walk_at "rdn"
    refine rd_gtup (SqT.of ha) rfl ?_
    walk_at "rdn"
    refine rd_seq ?_
    walk_at "rdn"
    cases d with
    | put sl it =>
      obtain ⟨ta, y1, y2, y3, rfl, hta, g1, g2, g3⟩ := (show Im H u (.tuple [.str (Str.ofString "put"), slD sl, itD it]) from hu).trip'
      have e1 := g1.str'
      subst e1
      refine rd_gtup (SqP.t hta) rfl ?_
      walk_at "rd"
      refine rd_ite (fun _ => ?_) (fun h => absurd rfl h)
      walk_at "rd"
      refine .inr ⟨⟨_, SqF hia⟩, ?_⟩
      refine lcg_im T [] walk_tup xs rfl (fun i H x H' y => y) (fun _ => True) trivial (fun _ _ _ => trivial) (fun _ _ _ _ _ _ _ => trivial) (fun _ _ => Lsts.nil) (fun H' e _ => SqF (frz.x hia e)) (Nat.lt_of_le_of_lt hxl (by decide)) (fun _ => true) (fun d x => ∃ r, Im H x (rowD2 r) ∧ d = rowD2 (r.1, if r.1 = sl then it else r.2)) (fun i x hx H' e' _ R S h1 _ => ?_) (fun D H1 ds nD e1 _ hD hds => ?_)
      · obtain ⟨dr, hdr, hxr⟩ := hxi.get' hx
        rw [List.getElem?_map] at hdr
        obtain ⟨r, hr, rfl⟩ := Option.map_eq_some_iff.mp hdr
        obtain ⟨tb, z1, z2, rfl, htb, k1, k2⟩ := hxr.pair'
        refine rd_gtup (SqP.sq (SqP.x htb e')) rfl ?_
        walk_at "rd"
        refine ⟨rfl, ?_⟩
        walk_at "rd"
        refine rd_eqI (b := decide (r.1 = sl)) (k1.x e') (g2.x e') (Nat.le_trans (dep_sl _) (by decide)) (Nat.le_trans (dep_sl _) (by decide)) (Iff.trans ⟨fun e => slD_inj e, fun e => by rw [e]⟩ decide_eq_true_iff.symm) ?_
        refine ⟨_, rfl, ?_⟩
        refine rd_ite (fun hz => ?_) (fun hz => ?_)
        · walk_at "rd"
          walk_at "al"
          rename_i tc H4 _ e4 htc
          exact h1 rfl _ _ H4 e4 trivial (.new2 ((k1.x e').x e4) ((g3.x e').x e4) htc) ⟨r, hxr, by rw [if_pos hz]; rfl⟩
        · walk_at "rd"
          walk_at "al"
          rename_i tc H4 _ e4 htc
          exact h1 rfl _ _ H4 e4 trivial (.new2 ((k1.x e').x e4) ((k2.x e').x e4) htc) ⟨r, hxr, by rw [if_neg hz]; rfl⟩
      · rw [filtT] at hds
        have hd := put_all hxi hds
        rw [hd] at hD
        obtain ⟨dx, hdx, hdi⟩ := hD.list
        walk_at "rd"
        refine rd_tupFA T hdx fun ti H2 o2 nti e2 hod2 hti => ?_
        walk_at "rd"
        walk_at "al"
        rename_i r H3 _ e3 hr3
        exact q _ H3 ((e1.trans e2).trans e3) ⟨r, ti, oa, dx, o2, rfl, hr3, frz.x hti e3, hod2, (hdi.x e2).x e3, hoa.x ((e1.trans e2).trans e3)⟩
    | on x z =>
      obtain ⟨ta, y1, y2, y3, rfl, hta, g1, g2, g3⟩ := (show Im H u (.tuple [.str (Str.ofString "on"), .str x, .str z]) from hu).trip'
      have e1 := g1.str'
      subst e1
      refine rd_gtup (SqP.t hta) rfl ?_
      walk_at "rd"
      refine rd_ite (fun h => absurd h (by decide +kernel)) (fun _ => ?_)
      walk_at "rd"
      refine rd_ite (fun _ => ?_) (fun h => absurd rfl h)
      obtain ⟨b, ox, rfl, hob, hoi⟩ := hoa.tup'
      have hol2 : ox.length ≤ 500 := by
        rw [hoi.len, List.length_map]
        exact hol
      walk_at "rd"
      refine ⟨b, ox, rfl, .inl (SqP.sq hob), ?_⟩
      walk_at "rd"
      walk_at "al"
      rename_i tr H1 _ e1 htr
      have hrow : Im H1 (.ref tr) (ssD (x, z)) := Im.new2 (g2.x e1) (g3.x e1) htr
      refine ⟨by simp only [List.length_append, List.length_cons, List.length_nil]; walk_at "sz", ?_⟩
      walk_at "al0"
      rename_i lc H4 _ e4 hlc
      have e14 := e1.trans e4
      refine rd_nil ?_
      refine rd_sortA T (ds := (s.on ++ [(x, z)]).map ssD) ⟨_, hlc, by rw [List.map_append]; exact (hoi.x e14).app (.cons (hrow.x e4) .nil)⟩ (alike_ss _) (sortable_ss _) (depth_ss _) fun sa H5 ys nsa e5 hsa hys => ?_
      rw [srtSS_eq] at hys
      walk_at "rd"
      refine rd_tupA T hsa fun to H6 nto e6 hto => ?_
      walk_at "rd"
      walk_at "al"
      rename_i r H7 _ e7 hr7
      have e17 := ((e14.trans e5).trans e6).trans e7
      exact q _ H7 e17 ⟨r, ia, .ref to, xs, o, rfl, hr7, frz.x hia e17, hod, hxi.x e17, (Im.tup hto (hys.x e6)).x e7⟩
    | off x z =>
      obtain ⟨ta, y1, y2, y3, rfl, hta, g1, g2, g3⟩ := (show Im H u (.tuple [.str (Str.ofString "off"), .str x, .str z]) from hu).trip'
      have e1 := g1.str'
      subst e1
      refine rd_gtup (SqP.t hta) rfl ?_
      walk_at "rd"
      refine rd_ite (fun h => absurd h (by decide +kernel)) (fun _ => ?_)
      walk_at "rd"
      refine rd_ite (fun h => absurd h (by decide +kernel)) (fun _ => ?_)
      obtain ⟨b, ox, rfl, hob, hoi⟩ := hoa.tup'
      have hol2 : ox.length ≤ 500 := by
        rw [hoi.len, List.length_map]
        exact hol
      walk_at "rd"
      refine .inr ⟨⟨_, SqP.sq hob⟩, ?_⟩
      refine lcg_rel T [] walk_tup ox rfl (fun i H x H' y => y) (by simp) (fun H' e => SqP.sq (SqP.x hob e)) (Nat.lt_of_le_of_lt hol2 (by decide)) (pIm H ssD fun p => !decide (p = (x, z))) (fun v x => v = x) (fun i y hy H' e' R S h1 h2 => ?_) (fun D H2 us nD e2 hD hus => ?_)
      · obtain ⟨dr, hdr, hyr⟩ := hoi.get' hy
        rw [List.getElem?_map] at hdr
        obtain ⟨r, hr, rfl⟩ := Option.map_eq_some_iff.mp hdr
        have hp := pIm_eq (c := fun p : Str × Str => !decide (p = (x, z))) (fun a b => ssD_inj) hyr
        refine rd_name ⟨wipe1, ?_⟩
        walk_at "rd"
        walk_at "al"
        rename_i tr H3 _ e3 htr
        have hrow : Im H3 (.ref tr) (ssD (x, z)) := Im.new2 ((g2.x e').x e3) ((g3.x e').x e3) htr
        refine rd_neI (b := decide (r = (x, z))) ((hyr.x e').x e3) hrow (Nat.le_trans (dep_ss _) (by decide)) (Nat.le_trans (dep_ss _) (by decide)) (Iff.trans ⟨fun e => ssD_inj e, fun e => by rw [e]⟩ decide_eq_true_iff.symm) ?_
        refine ⟨_, rfl, ?_⟩
        refine rd_itn (fun hz => ?_) (fun hz => ?_)
        · exact h2 (hp.trans (by show (!decide (r = (x, z))) = false; rw [decide_eq_true hz]; rfl)) _ e3
        · walk_at "rd"
          exact h1 (hp.trans (by show (!decide (r = (x, z))) = true; rw [decide_eq_false hz]; rfl)) _ _ e3 rfl
      · have him := im_filter (c := fun p : Str × Str => !decide (p = (x, z))) (fun a b => ssD_inj) hoi hus
        walk_at "rd"
        refine rd_tupA T hD fun to H3 nto e3 hto => ?_
        walk_at "rd"
        walk_at "al"
        rename_i r H4 _ e4 hr4
        have e14 := (e2.trans e3).trans e4
        exact q _ H4 e14 ⟨r, ia, .ref to, xs, o, rfl, hr4, frz.x hia e14, hod, hxi.x e14, (Im.tup hto ((him.x e2).x e3)).x e4⟩
theorem aft_il (s : Sta) (d : Dd) : (aft s d).its.length = s.its.length := by
  have := congrArg List.length (aft_keys s d)
  rw [List.length_map, List.length_map] at this
  exact this
end
theorem StAt.im {H : Hp} {v : V} {s : Sta} (h : StAt H v s) : Im H v (stD s) := by
  obtain ⟨a, ia, oa, xs, o, rfl, ha, hia, hod, hxi, hoa⟩ := h
  exact .tup ha (.cons (.tupF hia (fun d hd => by
    obtain ⟨r, _, rfl⟩ := List.mem_map.mp hd
    exact ⟨_, rfl⟩) hxi) (.cons hoa .nil))
theorem srv_z {R : Rm} {a z : Str} (h : inZ R (.str z) = false) : srvD R (ssD (a, z)) = false := by
  show (idD (.str a) && inZ R (.str z)) = false
  rw [h, Bool.and_false]
/-- values that are data with a property -/
inductive Gds (H : Hp) (G : PyData → Prop) : List V → Prop
  | nil : Gds H G []
  | cons {v : V} {vs : List V} : (∃ d, G d ∧ Im H v d) → Gds H G vs → Gds H G (v :: vs)
theorem gds_of {H : Hp} {G : PyData → Prop} {vs : List V} (h : Gds H G vs) : ∃ ds, ImAll H vs ds ∧ ∀ d ∈ ds, G d := by
  induction h with
  | nil => exact ⟨[], .nil, fun d h => by cases h⟩
  | cons a _ ih =>
    obtain ⟨d, hd, hi⟩ := a
    obtain ⟨ds, h1, h2⟩ := ih
    exact ⟨d :: ds, .cons hi h1, fun e he => by
      rcases List.mem_cons.mp he with rfl | he
      · exact hd
      · exact h2 e he⟩
section
variable {T : List (Addr × Str)} {P : Program} {w : World} {K : PySem.W.Frag} {mg : Str → Option Value} {base : Heap}
local macro_rules | `(tactic| walk_at "tr") => `(tactic| first
  | assumption
  | exact Ext.refl
  | ((with_reducible refine' Im.x (T := T) (H := ?trH) ?tra ?tre); (case tre => assumption); (case tra => walk_at "tr"))
  | ((with_reducible refine' Im.y (T := T) (H := ?trH) ?tra ?tre ?trt); (case tre => assumption); (case trt => walk_at "tr"); (case tra => walk_at "tr"))
  | ((with_reducible refine' ImAll.x (T := T) (H := ?trH) ?tra ?tre); (case tre => assumption); (case tra => walk_at "tr"))
  | ((with_reducible refine' ImAll.y (T := T) (H := ?trH) ?tra ?tre ?trt); (case tre => assumption); (case trt => walk_at "tr"); (case tra => walk_at "tr"))
  | ((with_reducible refine' Ls.x (T := T) (H := ?trH) ?tra ?tre); (case tre => assumption); (case tra => walk_at "tr"))
  | ((with_reducible refine' Ls.y (T := T) (H := ?trH) ?tra ?tre ?trn ?trt); (case tre => assumption); (case trt => walk_at "tr"); (case trn => walk_at "tr"); (case tra => walk_at "tr"))
  | ((with_reducible refine' SqP.x (T := T) (H := ?trH) ?tra ?tre); (case tre => assumption); (case tra => walk_at "tr"))
  | ((with_reducible refine' SqP.y (T := T) (H := ?trH) ?tra ?tre ?trt); (case tre => assumption); (case trt => walk_at "tr"); (case tra => walk_at "tr"))
  | ((with_reducible refine' StAt.x (T := T) (H := ?trH) ?tra ?tre); (case tre => assumption); (case tra => walk_at "tr"))
  | ((with_reducible refine' StAt.y (T := T) (H := ?trH) ?tra ?tre ?trt); (case tre => assumption); (case trt => walk_at "tr"); (case tra => walk_at "tr"))
  | ((with_reducible refine' Pools.ext0 (T := T) (H := ?trH) ?tra ?tre); (case tre => assumption); (case tra => walk_at "tr"))
  | ((with_reducible refine' Pools.ext (T := T) (H := ?trH) ?tra ?tre ?trt); (case tre => assumption); (case trt => walk_at "tr"); (case tra => walk_at "tr"))
  | ((with_reducible refine' CL.x (T := T) (H := ?trH) ?tra ?tre); (case tre => assumption); (case tra => walk_at "tr"))
  | ((with_reducible refine' CL.y (T := T) (H := ?trH) ?tra ?tre); (case tre => assumption); (case tra => walk_at "tr"))
  | ((with_reducible refine' Tape.ext (T := T) (H := ?trH) ?tra ?tre); (case tre => assumption); (case tra => walk_at "tr"))
  | ((with_reducible refine' lst.x (T := T) (H := ?trH) ?tra ?tre); (case tre => assumption); (case tra => walk_at "tr"))
  | ((with_reducible refine' lst.y (T := T) (H := ?trH) ?tra ?tre ?trn); (case tre => assumption); (case trn => walk_at "tr"); (case tra => walk_at "tr"))
  | ((with_reducible refine' tup.x (T := T) (H := ?trH) ?tra ?tre); (case tre => assumption); (case tra => walk_at "tr"))
  | ((with_reducible refine' tup.y (T := T) (H := ?trH) ?tra ?tre ?trt); (case tre => assumption); (case trt => walk_at "tr"); (case tra => walk_at "tr"))
  | ((with_reducible refine' frz.x (T := T) (H := ?trH) ?tra ?tre); (case tre => assumption); (case tra => walk_at "tr"))
  | ((with_reducible refine' frz.y (T := T) (H := ?trH) ?tra ?tre ?trt); (case tre => assumption); (case trt => walk_at "tr"); (case tra => walk_at "tr"))
  | ((with_reducible refine' Im.z (T := T) (H := ?trH) ?tra ?tre ?trt); (case tre => assumption); (case trt => assumption); (case tra => walk_at "tr"))
  | ((with_reducible refine' ImAll.z (T := T) (H := ?trH) ?tra ?tre ?trt); (case tre => assumption); (case trt => assumption); (case tra => walk_at "tr"))
  | ((with_reducible refine' StAt.z (T := T) (H := ?trH) ?tra ?tre ?trt); (case tre => assumption); (case trt => assumption); (case tra => walk_at "tr"))
  | ((with_reducible refine' SqP.z (T := T) (H := ?trH) ?tra ?tre ?trt); (case tre => assumption); (case trt => assumption); (case tra => walk_at "tr"))
  | ((with_reducible refine' tup.z (T := T) (H := ?trH) ?tra ?tre ?trt); (case tre => assumption); (case trt => assumption); (case tra => walk_at "tr"))
  | ((with_reducible refine' Ls.z (T := T) (H := ?trH) ?tra ?tre ?trt ?trn); (case tre => assumption); (case trt => assumption); (case trn => assumption); (case tra => walk_at "tr"))
  | ((with_reducible refine' lst.z (T := T) (H := ?trH) ?tra ?tre ?trn); (case tre => assumption); (case trn => assumption); (case tra => walk_at "tr"))
  | ((with_reducible refine' CL.z (T := T) (H := ?trH) ?tra ?tre ?trn); (case tre => assumption); (case trn => assumption); (case tra => walk_at "tr"))
  | ((with_reducible refine' Tape.ne1 (H := ?trH) ?trt ?trn); (case trn => assumption); (case trt => walk_at "tr"))
  | ((with_reducible refine' Ext.trans (H1 := ?trH) ?tra (Ext.any ?tre)); (case tre => assumption); (case tra => walk_at "tr"))
  | ((with_reducible refine' Ext.trans (H1 := ?trH) ?tra ?tre); (case tre => assumption); (case tra => walk_at "tr"))
  | ((with_reducible refine' Ext.back1 (T := T) (H1 := ?trH) ?tre ?trn ?tra); (case tra => assumption); (case trn => walk_at "tr"); (case tre => walk_at "tr"))
  | ((with_reducible refine' Ext.back0 (T := T) (H1 := ?trH) ?tre ?tra); (case tra => assumption); (case tre => walk_at "tr"))
  | ((with_reducible refine' SqT.of ?tra); (case tra => walk_at "tr"))
  | ((with_reducible refine' SqL.of ?tra); (case tra => walk_at "tr")))
local macro_rules | `(tactic| walk_at "al") => `(tactic| (refine ⟨by first | (show _ ≤ sizeLine; decide) | walk_at "sz", ?_⟩; intro alp aln; generalize alG : upd _ alp _ = alH; obtain ⟨aln2, alx, alh⟩ := al_of (T := T) aln alG; clear alG aln))
local macro_rules | `(tactic| walk_at "al0") => `(tactic| (intro alp aln; generalize alG : upd _ alp _ = alH; obtain ⟨aln2, alx, alh⟩ := al_of (T := T) aln alG; clear alG aln))
theorem rd_consJ {te : TE} {ta : TA} {σ : L2.St} {H : Hp} {R : List V → Hp → Prop} (I : V → Hp → Prop) (h1 : ∀ Q : VK, (∀ v H', I v H' → Q v H') → te σ H Q) (h2 : ∀ v H', I v H' → ta σ H' fun xs H2 => R (v :: xs) H2) : tCons te ta σ H R := h1 _ h2
theorem rd_seqK {t u : TS} {nx bk ct : L2.St → Hp → Prop} {rt : VK} {σ : L2.St} {H : Hp} (I : L2.St → Hp → Prop) (ht : ∀ N : L2.St → Hp → Prop, (∀ σ H, I σ H → N σ H) → t ⟨N, rt, bk, ct⟩ σ H) (hu : ∀ σ H, I σ H → u ⟨nx, rt, bk, ct⟩ σ H) : tSeq t u ⟨nx, rt, bk, ct⟩ σ H := ht _ hu
theorem rd_catII {H : Hp} {Q : VK} {u v : V} {ds es : List PyData} (h1 : Im H u (.tuple ds)) (h2 : Im H v (.tuple es)) (n1 : ds ≠ []) (n2 : es ≠ []) (c : ds.length + es.length ≤ 1000) (q : ∀ y H', Ext T [] H H' → Im H' y (.tuple (ds ++ es)) → Q y H') : rPlus K u v H Q := by
  obtain ⟨a, xs, rfl, ha, hi⟩ := h1.tup'
  obtain ⟨b, ys, rfl, hb, hj⟩ := h2.tup'
  have l1 := hi.len
  have l2 := hj.len
  refine rd_catT (SqP.sq ha) (SqP.sq hb) (fun e => n1 (List.eq_nil_of_length_eq_zero (by rw [← l1, e]; rfl))) (fun e => n2 (List.eq_nil_of_length_eq_zero (by rw [← l2, e]; rfl))) (Nat.le_trans (show _ ≤ 1000 by omega) (by decide)) fun p np => ?_
  obtain ⟨_, e, hp⟩ := alT (T := T) np (xs ++ ys)
  generalize upd H p _ = H' at e hp ⊢
  exact q _ H' e (.tup hp ((hi.x e).app (hj.x e)))
theorem rd_catEI {H : Hp} {Q : VK} {u v : V} {ds es : List PyData} (h1 : Im H u (.tuple ds)) (h2 : Im H v (.tuple es)) (n2 : es ≠ []) (c : ds.length + es.length ≤ 1000) (q : ∀ y H', Ext T [] H H' → Im H' y (.tuple (ds ++ es)) → Q y H') : rPlus K u v H Q := by
  by_cases n1 : ds = []
  · subst n1
    obtain ⟨a, xs, rfl, ha, hi⟩ := h1.tup'
    obtain ⟨b, ys, rfl, hb, hj⟩ := (h2 : Im H v (.tuple es)).tup'
    cases hi
    exact .inr (.inr (.inr (.inr ⟨a, b, ys, rfl, rfl, SqP.sq ha, SqP.sq hb, q _ H .refl h2⟩)))
  · exact rd_catII (T := T) h1 h2 n1 n2 c q
end
theorem cutD_take {ds : List PyData} {m : Nat} : cutD ds none (some (m : Int)) = ds.take m := by
  unfold cutD
  rw [HT.sIx_none, HT.sIx_nat, List.drop_zero, Nat.sub_zero]
  by_cases h : m ≤ ds.length
  · rw [Nat.min_eq_left h]
  · rw [Nat.min_eq_right (by omega), List.take_length, List.take_of_length_le (by omega)]
theorem on_zone {R : Rm} {s : Sta} (ho : OnR R s) {p : Str × Str} (h : p ∈ s.on) : p.1 ∈ s9L ∧ p.2 ∈ tlZ R := by
  obtain ⟨on0, e, hn, hm⟩ := ho
  rw [e] at h
  exact hm p ((srtSS_perm on0).mem_iff.mp h)
theorem wds : (wB "put" (.str (Str.ofString "take")) = false ∧ wB "on" (.str (Str.ofString "take")) = false ∧ wB "off" (.str (Str.ofString "take")) = false) ∧ (wB "put" (.str (Str.ofString "put")) = true) ∧ (wB "put" (.str (Str.ofString "on")) = false ∧ wB "on" (.str (Str.ofString "on")) = true) ∧ (wB "put" (.str (Str.ofString "off")) = false ∧ wB "on" (.str (Str.ofString "off")) = false ∧ wB "off" (.str (Str.ofString "off")) = true) := by decide +kernel
section
variable {R : Rm} {s : Sta}
theorem bd_on {p x : PyData} (h : (srvD R (.tuple [p, x]) && !isOnB s p x) = false) : deedB R s (.tuple [.str (Str.ofString "on"), p, x]) = false := by
  rw [deedB_eq, if_neg (by rw [wds.2.2.1.1]; decide), if_pos wds.2.2.1.2]
  exact h
theorem bd_off {p x : PyData} (h : isOnB s p x = false) : deedB R s (.tuple [.str (Str.ofString "off"), p, x]) = false := by
  rw [deedB_eq, if_neg (by rw [wds.2.2.2.1]; decide), if_neg (by rw [wds.2.2.2.2.1]; decide), h, Bool.and_false]
theorem off_z (ho : OnR R s) {a z : Str} (h : z ∉ tlZ R) : isOnB s (.str a) (.str z) = false := decide_eq_false fun hm => h (on_zone ho hm).2
end
section
variable {T : List (Addr × Str)} {P : Program} {w : World} {K : PySem.W.Frag} {mg : Str → Option Value} {base : Heap}
local macro_rules | `(tactic| walk_at "tr") => `(tactic| first
  | assumption
  | exact Ext.refl
  | ((with_reducible refine' Im.x (T := T) (H := ?trH) ?tra ?tre); (case tre => assumption); (case tra => walk_at "tr"))
  | ((with_reducible refine' Im.y (T := T) (H := ?trH) ?tra ?tre ?trt); (case tre => assumption); (case trt => walk_at "tr"); (case tra => walk_at "tr"))
  | ((with_reducible refine' ImAll.x (T := T) (H := ?trH) ?tra ?tre); (case tre => assumption); (case tra => walk_at "tr"))
  | ((with_reducible refine' ImAll.y (T := T) (H := ?trH) ?tra ?tre ?trt); (case tre => assumption); (case trt => walk_at "tr"); (case tra => walk_at "tr"))
  | ((with_reducible refine' Ls.x (T := T) (H := ?trH) ?tra ?tre); (case tre => assumption); (case tra => walk_at "tr"))
  | ((with_reducible refine' Ls.y (T := T) (H := ?trH) ?tra ?tre ?trn ?trt); (case tre => assumption); (case trt => walk_at "tr"); (case trn => walk_at "tr"); (case tra => walk_at "tr"))
  | ((with_reducible refine' SqP.x (T := T) (H := ?trH) ?tra ?tre); (case tre => assumption); (case tra => walk_at "tr"))
  | ((with_reducible refine' SqP.y (T := T) (H := ?trH) ?tra ?tre ?trt); (case tre => assumption); (case trt => walk_at "tr"); (case tra => walk_at "tr"))
  | ((with_reducible refine' StAt.x (T := T) (H := ?trH) ?tra ?tre); (case tre => assumption); (case tra => walk_at "tr"))
  | ((with_reducible refine' StAt.y (T := T) (H := ?trH) ?tra ?tre ?trt); (case tre => assumption); (case trt => walk_at "tr"); (case tra => walk_at "tr"))
  | ((with_reducible refine' Pools.ext0 (T := T) (H := ?trH) ?tra ?tre); (case tre => assumption); (case tra => walk_at "tr"))
  | ((with_reducible refine' Pools.ext (T := T) (H := ?trH) ?tra ?tre ?trt); (case tre => assumption); (case trt => walk_at "tr"); (case tra => walk_at "tr"))
  | ((with_reducible refine' CL.x (T := T) (H := ?trH) ?tra ?tre); (case tre => assumption); (case tra => walk_at "tr"))
  | ((with_reducible refine' CL.y (T := T) (H := ?trH) ?tra ?tre); (case tre => assumption); (case tra => walk_at "tr"))
  | ((with_reducible refine' Tape.ext (T := T) (H := ?trH) ?tra ?tre); (case tre => assumption); (case tra => walk_at "tr"))
  | ((with_reducible refine' lst.x (T := T) (H := ?trH) ?tra ?tre); (case tre => assumption); (case tra => walk_at "tr"))
  | ((with_reducible refine' lst.y (T := T) (H := ?trH) ?tra ?tre ?trn); (case tre => assumption); (case trn => walk_at "tr"); (case tra => walk_at "tr"))
  | ((with_reducible refine' tup.x (T := T) (H := ?trH) ?tra ?tre); (case tre => assumption); (case tra => walk_at "tr"))
  | ((with_reducible refine' tup.y (T := T) (H := ?trH) ?tra ?tre ?trt); (case tre => assumption); (case trt => walk_at "tr"); (case tra => walk_at "tr"))
  | ((with_reducible refine' frz.x (T := T) (H := ?trH) ?tra ?tre); (case tre => assumption); (case tra => walk_at "tr"))
  | ((with_reducible refine' frz.y (T := T) (H := ?trH) ?tra ?tre ?trt); (case tre => assumption); (case trt => walk_at "tr"); (case tra => walk_at "tr"))
  | ((with_reducible refine' Im.z (T := T) (H := ?trH) ?tra ?tre ?trt); (case tre => assumption); (case trt => assumption); (case tra => walk_at "tr"))
  | ((with_reducible refine' ImAll.z (T := T) (H := ?trH) ?tra ?tre ?trt); (case tre => assumption); (case trt => assumption); (case tra => walk_at "tr"))
  | ((with_reducible refine' StAt.z (T := T) (H := ?trH) ?tra ?tre ?trt); (case tre => assumption); (case trt => assumption); (case tra => walk_at "tr"))
  | ((with_reducible refine' SqP.z (T := T) (H := ?trH) ?tra ?tre ?trt); (case tre => assumption); (case trt => assumption); (case tra => walk_at "tr"))
  | ((with_reducible refine' tup.z (T := T) (H := ?trH) ?tra ?tre ?trt); (case tre => assumption); (case trt => assumption); (case tra => walk_at "tr"))
  | ((with_reducible refine' Ls.z (T := T) (H := ?trH) ?tra ?tre ?trt ?trn); (case tre => assumption); (case trt => assumption); (case trn => assumption); (case tra => walk_at "tr"))
  | ((with_reducible refine' lst.z (T := T) (H := ?trH) ?tra ?tre ?trn); (case tre => assumption); (case trn => assumption); (case tra => walk_at "tr"))
  | ((with_reducible refine' CL.z (T := T) (H := ?trH) ?tra ?tre ?trn); (case tre => assumption); (case trn => assumption); (case tra => walk_at "tr"))
  | ((with_reducible refine' Tape.ne1 (H := ?trH) ?trt ?trn); (case trn => assumption); (case trt => walk_at "tr"))
  | ((with_reducible refine' Ext.trans (H1 := ?trH) ?tra (Ext.any ?tre)); (case tre => assumption); (case tra => walk_at "tr"))
  | ((with_reducible refine' Ext.trans (H1 := ?trH) ?tra ?tre); (case tre => assumption); (case tra => walk_at "tr"))
  | ((with_reducible refine' Ext.back1 (T := T) (H1 := ?trH) ?tre ?trn ?tra); (case tra => assumption); (case trn => walk_at "tr"); (case tre => walk_at "tr"))
  | ((with_reducible refine' Ext.back0 (T := T) (H1 := ?trH) ?tre ?tra); (case tra => assumption); (case tre => walk_at "tr"))
  | ((with_reducible refine' SqT.of ?tra); (case tra => walk_at "tr"))
  | ((with_reducible refine' SqL.of ?tra); (case tra => walk_at "tr")))
local macro_rules | `(tactic| walk_at "al") => `(tactic| (refine ⟨by first | (show _ ≤ sizeLine; decide) | walk_at "sz", ?_⟩; intro alp aln; generalize alG : upd _ alp _ = alH; obtain ⟨aln2, alx, alh⟩ := al_of (T := T) aln alG; clear alG aln))
local macro_rules | `(tactic| walk_at "al0") => `(tactic| (intro alp aln; generalize alG : upd _ alp _ = alH; obtain ⟨aln2, alx, alh⟩ := al_of (T := T) aln alG; clear alG aln))
end
section
variable {T : List (Addr × Str)} {P : Program} {w : World} {K : PySem.W.Frag} {mg : Str → Option Value} {base : Heap}
local macro_rules | `(tactic| walk_at "tr") => `(tactic| first
  | assumption
  | exact Ext.refl
  | ((with_reducible refine' Im.x (T := T) (H := ?trH) ?tra ?tre); (case tre => assumption); (case tra => walk_at "tr"))
  | ((with_reducible refine' Im.y (T := T) (H := ?trH) ?tra ?tre ?trt); (case tre => assumption); (case trt => walk_at "tr"); (case tra => walk_at "tr"))
  | ((with_reducible refine' ImAll.x (T := T) (H := ?trH) ?tra ?tre); (case tre => assumption); (case tra => walk_at "tr"))
  | ((with_reducible refine' ImAll.y (T := T) (H := ?trH) ?tra ?tre ?trt); (case tre => assumption); (case trt => walk_at "tr"); (case tra => walk_at "tr"))
  | ((with_reducible refine' Ls.x (T := T) (H := ?trH) ?tra ?tre); (case tre => assumption); (case tra => walk_at "tr"))
  | ((with_reducible refine' Ls.y (T := T) (H := ?trH) ?tra ?tre ?trn ?trt); (case tre => assumption); (case trt => walk_at "tr"); (case trn => walk_at "tr"); (case tra => walk_at "tr"))
  | ((with_reducible refine' SqP.x (T := T) (H := ?trH) ?tra ?tre); (case tre => assumption); (case tra => walk_at "tr"))
  | ((with_reducible refine' SqP.y (T := T) (H := ?trH) ?tra ?tre ?trt); (case tre => assumption); (case trt => walk_at "tr"); (case tra => walk_at "tr"))
  | ((with_reducible refine' StAt.x (T := T) (H := ?trH) ?tra ?tre); (case tre => assumption); (case tra => walk_at "tr"))
  | ((with_reducible refine' StAt.y (T := T) (H := ?trH) ?tra ?tre ?trt); (case tre => assumption); (case trt => walk_at "tr"); (case tra => walk_at "tr"))
  | ((with_reducible refine' Pools.ext0 (T := T) (H := ?trH) ?tra ?tre); (case tre => assumption); (case tra => walk_at "tr"))
  | ((with_reducible refine' Pools.ext (T := T) (H := ?trH) ?tra ?tre ?trt); (case tre => assumption); (case trt => walk_at "tr"); (case tra => walk_at "tr"))
  | ((with_reducible refine' CL.x (T := T) (H := ?trH) ?tra ?tre); (case tre => assumption); (case tra => walk_at "tr"))
  | ((with_reducible refine' CL.y (T := T) (H := ?trH) ?tra ?tre); (case tre => assumption); (case tra => walk_at "tr"))
  | ((with_reducible refine' Tape.ext (T := T) (H := ?trH) ?tra ?tre); (case tre => assumption); (case tra => walk_at "tr"))
  | ((with_reducible refine' lst.x (T := T) (H := ?trH) ?tra ?tre); (case tre => assumption); (case tra => walk_at "tr"))
  | ((with_reducible refine' lst.y (T := T) (H := ?trH) ?tra ?tre ?trn); (case tre => assumption); (case trn => walk_at "tr"); (case tra => walk_at "tr"))
  | ((with_reducible refine' tup.x (T := T) (H := ?trH) ?tra ?tre); (case tre => assumption); (case tra => walk_at "tr"))
  | ((with_reducible refine' tup.y (T := T) (H := ?trH) ?tra ?tre ?trt); (case tre => assumption); (case trt => walk_at "tr"); (case tra => walk_at "tr"))
  | ((with_reducible refine' frz.x (T := T) (H := ?trH) ?tra ?tre); (case tre => assumption); (case tra => walk_at "tr"))
  | ((with_reducible refine' frz.y (T := T) (H := ?trH) ?tra ?tre ?trt); (case tre => assumption); (case trt => walk_at "tr"); (case tra => walk_at "tr"))
  | ((with_reducible refine' Im.z (T := T) (H := ?trH) ?tra ?tre ?trt); (case tre => assumption); (case trt => assumption); (case tra => walk_at "tr"))
  | ((with_reducible refine' ImAll.z (T := T) (H := ?trH) ?tra ?tre ?trt); (case tre => assumption); (case trt => assumption); (case tra => walk_at "tr"))
  | ((with_reducible refine' StAt.z (T := T) (H := ?trH) ?tra ?tre ?trt); (case tre => assumption); (case trt => assumption); (case tra => walk_at "tr"))
  | ((with_reducible refine' SqP.z (T := T) (H := ?trH) ?tra ?tre ?trt); (case tre => assumption); (case trt => assumption); (case tra => walk_at "tr"))
  | ((with_reducible refine' tup.z (T := T) (H := ?trH) ?tra ?tre ?trt); (case tre => assumption); (case trt => assumption); (case tra => walk_at "tr"))
  | ((with_reducible refine' Ls.z (T := T) (H := ?trH) ?tra ?tre ?trt ?trn); (case tre => assumption); (case trt => assumption); (case trn => assumption); (case tra => walk_at "tr"))
  | ((with_reducible refine' lst.z (T := T) (H := ?trH) ?tra ?tre ?trn); (case tre => assumption); (case trn => assumption); (case tra => walk_at "tr"))
  | ((with_reducible refine' CL.z (T := T) (H := ?trH) ?tra ?tre ?trn); (case tre => assumption); (case trn => assumption); (case tra => walk_at "tr"))
  | ((with_reducible refine' Tape.ne1 (H := ?trH) ?trt ?trn); (case trn => assumption); (case trt => walk_at "tr"))
  | ((with_reducible refine' Ext.trans (H1 := ?trH) ?tra (Ext.any ?tre)); (case tre => assumption); (case tra => walk_at "tr"))
  | ((with_reducible refine' Ext.trans (H1 := ?trH) ?tra ?tre); (case tre => assumption); (case tra => walk_at "tr"))
  | ((with_reducible refine' Ext.back1 (T := T) (H1 := ?trH) ?tre ?trn ?tra); (case tra => assumption); (case trn => walk_at "tr"); (case tre => walk_at "tr"))
  | ((with_reducible refine' Ext.back0 (T := T) (H1 := ?trH) ?tre ?tra); (case tra => assumption); (case tre => walk_at "tr"))
  | ((with_reducible refine' SqT.of ?tra); (case tra => walk_at "tr"))
  | ((with_reducible refine' SqL.of ?tra); (case tra => walk_at "tr")))
local macro_rules | `(tactic| walk_at "al") => `(tactic| (refine ⟨by first | (show _ ≤ sizeLine; decide) | walk_at "sz", ?_⟩; intro alp aln; generalize alG : upd _ alp _ = alH; obtain ⟨aln2, alx, alh⟩ := al_of (T := T) aln alG; clear alG aln))
local macro_rules | `(tactic| walk_at "al0") => `(tactic| (intro alp aln; generalize alG : upd _ alp _ = alH; obtain ⟨aln2, alx, alh⟩ := al_of (T := T) aln alG; clear alG aln))
theorem pick3 {Q : VK} {K : PySem.W.Frag} {H : Hp} {p : Addr} {a b c w : Int} (h : H p = some (.lst [.int a, .int b, .int c])) (h0 : 0 ≤ w) (h1 : w < 3) (q : ∀ m, m = a ∨ m = b ∨ m = c → Q (.int m) H) : rIx K (.ref p) (.int w) H Q := by
  obtain ⟨x, hx1, _, hx2⟩ := at_in (l := [V.int a, V.int b, V.int c]) h0 (by simpa using h1)
  refine rd_ixL (SqL.of h) hx1 ?_
  rcases List.mem_cons.mp hx2 with e | hx2
  · rw [e]; exact q _ (.inl rfl)
  rcases List.mem_cons.mp hx2 with e | hx2
  · rw [e]; exact q _ (.inr (.inl rfl))
  rcases List.mem_cons.mp hx2 with e | hx2
  · rw [e]; exact q _ (.inr (.inr rfl))
  cases hx2
theorem ok_law_bounds (D : Def K mg "_law_bounds" s_law_bounds ["tape", "many", "wide"]) (mb : ∀ x ∈ bltns, mg x = none) (G_law_take : Ok P w K mg base 2 "_law_take" ["tape", "many"] (spTake T)) : Ok P w K mg base 3 "_law_bounds" ["tape", "many", "wide"] (spBounds T) := by
  refine D.ok sc_law_bounds (fun vs H Q E h => ?_) (fun cdv f A outer s H vs Q E hr h => ?_)
  · obtain ⟨l, t, n, wd, rfl, _⟩ := h
    rfl
  · obtain ⟨l, t, n, wd, rfl, hn, hw0, hw1, hT, q⟩ := h
    refine ⟨_, (pss_cons (ps_set (i := 3) sc_law_bounds.nd rfl (.inl rfl) (pe_lst pa_nil))
   (pss_cons (ps_for PassesOwn.never rfl (pi_range1 (by rfl) (mb _ (by decide)) (pa_cons (pv 1) pa_nil)) (pg_name (i := 4) sc_law_bounds.nd rfl (.inl rfl)) (pss_cons (ps_set (i := 5) sc_law_bounds.nd rfl (.inl rfl) (pe_callO G_law_take (hr.mono (by decide)) (by rfl) (pa_cons (pv 0) (pa_cons (pe_ix (ix_U K rfl) (pe_lst (pa_cons pe_int (pa_cons pe_int (pa_cons pe_int pa_nil)))) (pv 2) (fun _ _ => rfl)) pa_nil))))
   (pss_cons (ps_set (i := 6) sc_law_bounds.nd rfl (.inl rfl) (pe_callB (call_min2 rfl) (by rfl) (mb _ (by decide)) (by decide +kernel) (pa_cons pe_int (pa_cons (pe_op (op_plus K rfl) (pv 5) (pe_callO G_law_take (hr.mono (by decide)) (by rfl) (pa_cons (pv 0) (pa_cons (pe_ix (ix_U K rfl) (pe_lst (pa_cons pe_int (pa_cons pe_int (pa_cons pe_int pa_nil)))) (pv 2) (fun _ _ => rfl)) pa_nil)))) pa_nil))))
   (pss_one (ps_expr (pe_bm PySem.F.plainAttrs_list PySem.F.slot_list_append PySem.F.type_list_append mt_append (pv 3) (pa_cons (pe_tup (pa_cons (pv 5) (pa_cons (pv 6) pa_nil))) pa_nil)))))))
   (pss_one (ps_ret (pe_callTy (call_tupU K rfl) (by rfl) (mb _ (by decide)) (by decide +kernel) (pa_cons (pv 3) pa_nil)))))), ?_⟩
    walk_at "rdn"
    refine rd_seq ?_
    walk_at "rdn"
    refine ⟨by walk_at "sz", fun pr npr => ?_⟩
    obtain ⟨npr, e1, hpr⟩ := alL (T := T) npr ([] : List V)
    have T1 := hT.ext e1
    generalize upd H pr _ = H1 at e1 hpr T1 ⊢
    have hprt : pr ≠ t := (hT.ne npr).1
    have hprl : pr ≠ l := (hT.ne npr).2
    walk_at "rdn"
    refine rd_seq ?_
    walk_at "rdn"
    refine ⟨by omega, by omega, ?_⟩
    rw [Int.toNat_natCast]
    refine forg_range (fun i σ' H' => ∃ (bs : List Bd) (x4 x5 x6 : Option V), σ' = [some (.ref t), some (.int (n : Int)), some (.int wd), some (.ref pr), x4, x5, x6] ∧ Ext T [t] H H' ∧ Tape l H' t ∧ Ls H' pr (bs.map bdD) ∧ BdOk bs ∧ bs.length = i)
      ⟨[], _, _, _, rfl, e1.any, T1, ⟨[], hpr, .nil⟩, (fun r hr => by cases hr), rfl⟩ (fun i σ' H' hi h => ?_) (fun σ' H' h => ?_)
    · obtain ⟨bs, x4, x5, x6, rfl, eH, TH, hbs, hok, hlen⟩ := h
      walk_at "rdn"
      refine rd_seq ?_
      walk_at "rdn"
      refine ⟨by walk_at "sz", fun p1 np1 => ?_⟩
      obtain ⟨np1, e2, hp1⟩ := alL (T := T) np1 [V.int 2, .int 5, .int 1001]
      have T2 := TH.ext e2
      have hbs2 := hbs.x e2
      generalize upd H' p1 _ = H2 at e2 hp1 T2 hbs2 ⊢
      walk_at "rdn"
      refine pick3 hp1 hw0 hw1 fun m hm => ?_
      walk_at "rdn"
      refine ⟨l, t, m, rfl, by omega, by omega, T2, fun least H3 hl0 hl1 e3 T3 => ?_⟩
      have hbs3 := hbs2.y e3 hprt T2
      walk_at "rdn"
      refine rd_seq ?_
      walk_at "rdn"
      refine ⟨by walk_at "sz", fun p2 np2 => ?_⟩
      obtain ⟨np2, e4, hp2⟩ := alL (T := T) np2 [V.int 3, .int 12, .int 300]
      have T4 := T3.ext e4
      have hbs4 := hbs3.x e4
      generalize upd H3 p2 _ = H4 at e4 hp2 T4 hbs4 ⊢
      walk_at "rdn"
      refine pick3 hp2 hw0 hw1 fun m2 hm2 => ?_
      walk_at "rdn"
      refine ⟨l, t, m2, rfl, by omega, by omega, T4, fun d H5 hd0 hd1 e5 T5 => ?_⟩
      have hbs5 := hbs4.y e5 hprt T4
      walk_at "rdn"
      refine ⟨_, _, rfl, ?_⟩
      obtain ⟨ys, hys, hyi⟩ := hbs5
      have hyl : ys.length ≤ 6 := by
        rw [hyi.len, List.length_map]
        omega
      generalize hmost : (if least + d < 1000 then least + d else 1000) = most
      have hmo : least ≤ most ∧ most ≤ 1000 := by
        rw [← hmost]
        split <;> omega
      walk_at "rd"
      refine ⟨by walk_at "sz", fun tp ntp => ?_⟩
      obtain ⟨ntp, e6, htp⟩ := alT (T := T) ntp [V.int least, .int most]
      have T6 := T5.ext e6
      have hys6 := lst.x hys e6
      have hyi6 := hyi.x e6
      generalize upd H5 tp _ = H6 at e6 htp T6 hys6 hyi6 ⊢
      walk_at "rd"
      obtain ⟨g1, g2⟩ := Ls.app (T := T) hys6 hyi6 (show Im H6 (.ref tp) (bdD (least, most)) from .new2 (.int _) (.int _) htp)
      refine ⟨bs ++ [(least, most)], _, _, _, rfl, ((((eH.trans e2.any).trans e3).trans (e4.any.trans e5)).trans e6.any).own npr hys6, T6.own hprt hprl, by rw [List.map_append]; exact g1, fun r hr => ?_, by rw [List.length_append, hlen]; rfl⟩
      rcases List.mem_append.mp hr with hr | hr
      · exact hok r hr
      · rw [List.mem_singleton.mp hr]
        exact ⟨hl0, hmo⟩
    · obtain ⟨bs, x4, x5, x6, rfl, eH, TH, hbs, hok, hlen⟩ := h
      obtain ⟨ys, hys, hyi⟩ := hbs
      walk_at "rd"
      refine rd_tupL (SqL.of hys) fun l2 nl2 => ?_
      obtain ⟨nl2, e7, hl2⟩ := alT (T := T) nl2 ys
      have T7 := TH.ext e7
      have hyi7 := hyi.x e7
      generalize upd H' l2 _ = H7 at e7 hl2 T7 hyi7 ⊢
      exact q _ bs _ hok hlen (.tup hl2 hyi7) (eH.trans e7.any) T7
theorem ok_law_delays (D : Def K mg "_law_delays" s_law_delays ["tape", "bounds"]) (mb : ∀ x ∈ bltns, mg x = none) (G_law_take : Ok P w K mg base 2 "_law_take" ["tape", "many"] (spTake T)) : Ok P w K mg base 3 "_law_delays" ["tape", "bounds"] (spDelays T) := by
  refine D.ok sc_law_delays (fun vs H Q E h => ?_) (fun cdv f A outer s H vs Q E hr h => ?_)
  · obtain ⟨l, t, vb, bs, rfl, _⟩ := h
    rfl
  · obtain ⟨l, t, vb, bs, rfl, hb, hok, hbl, hT, q⟩ := h
    obtain ⟨a, xs, rfl, ha, hxi⟩ := hb.tup'
    refine ⟨_, (pss_cons (ps_set (i := 2) sc_law_delays.nd rfl (.inl rfl) (pe_lst pa_nil))
   (pss_cons (ps_for PassesOwn.never rfl (pi_seq K rfl (pv 1)) (pg_tupU (n := 2) K rfl rfl (pgs_cons (pg_name (i := 3) sc_law_delays.nd rfl (.inl rfl)) (pgs_cons (pg_name (i := 4) sc_law_delays.nd rfl (.inl rfl)) pgs_nil))) (pss_one (ps_expr (pe_bm PySem.F.plainAttrs_list PySem.F.slot_list_append PySem.F.type_list_append mt_append (pv 2) (pa_cons (pe_ix (ix_U K rfl) (pe_lst (pa_cons (pv 3) (pa_cons (pv 4) (pa_cons (pe_op (op_plus K rfl) (pv 3) (pe_callO G_law_take (hr.mono (by decide)) (by rfl) (pa_cons (pv 0) (pa_cons (pe_op (op_plus K rfl) (pe_op op_sub (pv 4) (pv 3)) pe_int) pa_nil)))) pa_nil)))) (pe_callO G_law_take (hr.mono (by decide)) (by rfl) (pa_cons (pv 0) (pa_cons pe_int pa_nil))) (fun _ _ => rfl)) pa_nil)))))
   (pss_one (ps_ret (pe_callTy (call_tupU K rfl) (by rfl) (mb _ (by decide)) (by decide +kernel) (pa_cons (pv 2) pa_nil)))))), ?_⟩
    walk_at "rdn"
    refine rd_seq ?_
    walk_at "rdn"
    refine ⟨by walk_at "sz", fun pr npr => ?_⟩
    obtain ⟨npr, e1, hpr⟩ := alL (T := T) npr ([] : List V)
    have T1 := hT.ext e1
    generalize upd H pr _ = H1 at e1 hpr T1 ⊢
    have hprt : pr ≠ t := (hT.ne npr).1
    have hprl : pr ≠ l := (hT.ne npr).2
    have hxl : xs.length = bs.length := by rw [hxi.len, List.length_map]
    have eH1 : Ext T [t] H H1 := e1.any
    walk_at "rdn"
    refine rd_seq ?_
    walk_at "rdn"
    refine .inr ⟨⟨xs, SqP.t (ha.x e1)⟩, ?_⟩
    refine forg_tup (xs := xs) (fun i σ' H' => ∃ (ds : List Int) (x3 x4 : Option V), σ' = [some (.ref t), some (.ref a), some (.ref pr), x3, x4] ∧ Ext T [t] H H' ∧ Tape l H' t ∧ H' pr = some (.lst (ds.map V.int)) ∧ DIn bs ds ∧ ds.length = i)
      ⟨[], _, _, rfl, eH1, T1, hpr, (fun j hj => by cases hj), rfl⟩ (fun i σ' H' _ h => ?_) (fun i x σ' H' hx h => ?_) (fun σ' H' h => ?_)
    · obtain ⟨ds, x3, x4, rfl, eH, _⟩ := h
      exact SqP.t (ha.y eH hT)
    · obtain ⟨ds, x3, x4, rfl, eH, TH, hds, hdi, hlen⟩ := h
      obtain ⟨b, ba, hbi, rfl, hba, _⟩ := bd_get hxi hx
      have hbok := hok b (List.mem_of_getElem? hbi)
      have hil : i < bs.length := (List.getElem?_eq_some_iff.mp hbi).1
      refine rd_gtup (SqP.t (hba.y eH hT)) rfl (rd_gcons (rd_name (rd_gcons (rd_name (rd_gnil ?_)))))
      walk_at "rdn"
      refine ⟨l, t, _, rfl, by omega, by omega, TH, fun d H3 hd0 hd1 e3 T3 => ?_⟩
      have hds3 := lst.y hds e3 hprt
      walk_at "rdn"
      refine rd_pickL (l := l) rfl T3 rfl (by decide) (by decide) fun c hc H5 e5 T5 => ?_
      have hds5 := lst.y hds3 e5 hprt
      have hc2 : ∃ z : Int, c = .int z ∧ b.1 ≤ z ∧ z ≤ b.2 := by
        rcases List.mem_cons.mp hc with e | hc
        · exact ⟨_, e, by omega, by omega⟩
        rcases List.mem_cons.mp hc with e | hc
        · exact ⟨_, e, by omega, by omega⟩
        rcases List.mem_cons.mp hc with e | hc
        · exact ⟨_, e, by omega, by omega⟩
        cases hc
      obtain ⟨z, rfl, hz1, hz2⟩ := hc2
      have hdl : ds.length ≤ 6 := by omega
      walk_at "rd"
      have hbd : bs.getD ds.length (0, 0) = b := by rw [hlen]; exact getD_of hbi
      refine ⟨ds ++ [z], _, _, rfl, ((eH.trans e3).trans e5).own npr hds5, T5.own hprt hprl, by rw [upd_same, List.map_append]; rfl, hdi.snoc (by rw [hbd]; exact hz1) (by rw [hbd]; exact hz2), by rw [List.length_append, hlen]; rfl⟩
    · obtain ⟨ds, x3, x4, rfl, eH, TH, hds, hdi, hlen⟩ := h
      walk_at "rd"
      refine rd_tupL (SqL.of hds) fun l2 nl2 => ?_
      obtain ⟨nl2, e7, hl2⟩ := alT (T := T) nl2 (ds.map V.int)
      have T7 := TH.ext e7
      generalize upd H' l2 _ = H7 at e7 hl2 T7 ⊢
      exact q _ ds _ (by omega) (areD_iff.mpr ⟨by omega, hdi⟩) (im_intsT hl2) (eH.trans e7.any) T7
theorem ok_law_first (D : Def K mg "_law_first" s_law_first ["table", "deed", "done"]) (mb : ∀ x ∈ bltns, mg x = none) : Ok P w K mg base 1 "_law_first" ["table", "deed", "done"] (spFirst57 T K) := by
  refine D.ok sc_law_first (fun vs H Q E h => ?_) (fun cdv f A outer s H vs Q E hr h => ?_)
  · obtain ⟨va, b, kd, tb, done, rfl, _⟩ := h
    rfl
  · obtain ⟨va, b, kd, tb, done, rfl, hva, hb, hlt, htl, hdl, q⟩ := h
    obtain ⟨a, xs, rfl, ha, hxi⟩ := hva.tup'
    refine ⟨_, (pss_cons (ps_set (i := 3) sc_law_first.nd rfl (.inl rfl) (pe_op (op_plus K rfl) (pe_lst (pa_cons pe_int pa_nil)) (pe_callTy (call_listU K rfl) (by rfl) (mb _ (by decide)) (by decide +kernel) (pa_cons (pv 2) pa_nil))))
   (pss_cons (ps_set (i := 4) sc_law_first.nd rfl (.inl rfl) (pe_op (op_plus K rfl) (pe_ix (ix_U K rfl) (pv 3) (pe_op op_sub (pv 1) pe_int) (fun _ _ => rfl)) pe_int))
   (pss_cons (ps_for PassesOwn.never rfl (pi_seq K rfl (pv 0)) (pg_tupU (n := 3) K rfl rfl (pgs_cons (pg_name (i := 5) sc_law_first.nd rfl (.inl rfl)) (pgs_cons (pg_name (i := 6) sc_law_first.nd rfl (.inl rfl)) (pgs_cons (pg_name (i := 7) sc_law_first.nd rfl (.inl rfl)) pgs_nil)))) (pss_one (ps_if (pt_cmpR (op_eqU K rfl hr.units) (pv 5) (pv 1) (nomark _)) (pss_one (ps_set (i := 4) sc_law_first.nd rfl (.inl rfl) (pe_callB (call_max2 rfl) (by rfl) (mb _ (by decide)) (by decide +kernel) (pa_cons (pv 4) (pa_cons (pe_op (op_plus K rfl) (pe_ix (ix_U K rfl) (pv 3) (pv 6) (fun _ _ => rfl)) (pv 7)) pa_nil))))) pss_nil)))
   (pss_one (ps_ret (pv 4)))))), ?_⟩
    walk_at "rdn"
    refine rd_seq ?_
    walk_at "rdn"
    refine ⟨by walk_at "sz", fun p1 np1 => ?_⟩
    obtain ⟨np1, e1, hp1⟩ := alL (T := T) np1 [V.int 0]
    generalize upd H p1 _ = H1 at e1 hp1 ⊢
    walk_at "rdn"
    refine rd_listK2 (hb.x e1) fun p2 np2 => ?_
    obtain ⟨np2, e2, hp2⟩ := alL (T := T) np2 (done.map V.int)
    have hp1 := lst.x hp1 e2
    generalize upd H1 p2 _ = H2 at e2 hp1 hp2 ⊢
    refine rd_cat hp1 hp2 ?_ fun p3 np3 => ?_
    · rw [List.length_map]
      walk_at "sz"
    obtain ⟨np3, e3, hp3⟩ := alL (T := T) np3 ([V.int 0] ++ done.map V.int)
    have hp3 : (upd H2 p3 (.lst ([V.int 0] ++ done.map V.int))) p3 = some (.lst ((0 :: done).map V.int)) := hp3
    generalize upd H2 p3 _ = H3 at e3 hp3 ⊢
    have x3 := (e1.trans e2).trans e3
    walk_at "rdn"
    refine rd_seq ?_
    walk_at "rdn"
    have e0 : (done.length : Int) + 1 - 1 = (done.length : Int) := by omega
    rw [e0]
    refine rd_ixL (SqL.of hp3) (at_fn (by rw [List.length_cons]; omega)) ?_
    walk_at "rdn"
    refine rd_seq ?_
    walk_at "rdn"
    refine .inr ⟨⟨xs, SqP.t (ha.x x3)⟩, ?_⟩
    refine forg_tup (xs := xs) (fun i σ' H' => ∃ (x5 x6 x7 : Option V), σ' = [some (.ref a), some (.int ((done.length : Int) + 1)), some (.ref b), some (.ref p3), some (.int ((tb.take i).foldl (askStep done) (fn (0 :: done) done.length + 1))), x5, x6, x7] ∧ Ext T [] H H' ∧ H' p3 = some (.lst ((0 :: done).map V.int)))
      ⟨_, _, _, by rw [List.take_zero]; rfl, x3, hp3⟩ (fun i σ' H' _ h => ?_) (fun i x σ' H' hx h => ?_) (fun σ' H' h => ?_)
    · obtain ⟨x5, x6, x7, rfl, eH, _⟩ := h
      exact SqP.t (ha.x eH)
    · obtain ⟨x5, x6, x7, rfl, eH, hp⟩ := h
      obtain ⟨r, hri, hxr⟩ := rw_get hxi hx
      have hrl := hlt r (List.mem_of_getElem? hri)
      refine rd_grow (hxr.x eH) ?_
      walk_at "rd"
      have et : (tb.take (i + 1)).foldl (askStep done) (fn (0 :: done) done.length + 1) = askStep done ((tb.take i).foldl (askStep done) (fn (0 :: done) done.length + 1)) r := by
        rw [List.take_add_one, hri, List.foldl_append]
        rfl
      generalize hm : (tb.take i).foldl (askStep done) (fn (0 :: done) done.length + 1) = m at et ⊢
      refine rd_ite (fun c => ?_) (fun c => ?_)
      · have c : r.1 = done.length + 1 := by omega
        walk_at "rd"
        refine rd_ixL (SqL.of hp) (at_fn (by rw [List.length_cons]; omega)) ?_
        walk_at "rd"
        refine ⟨_, _, rfl, ?_⟩
        walk_at "rd"
        have e2 : askStep done m r = if fn (0 :: done) r.2.1 + r.2.2 > m then fn (0 :: done) r.2.1 + r.2.2 else m := by
          unfold askStep
          rw [if_pos c]
        rw [et, e2]
        exact ⟨_, _, _, rfl, eH, hp⟩
      · have c : ¬ r.1 = done.length + 1 := by omega
        walk_at "rd"
        have e2 : askStep done m r = m := by
          unfold askStep
          rw [if_neg c]
        rw [et, e2]
        exact ⟨_, _, _, rfl, eH, hp⟩
    · obtain ⟨x5, x6, x7, rfl, eH, hp⟩ := h
      rw [hxi.len, List.length_map, List.take_length]
      walk_at "rd"
      exact q H' eH
theorem rd_ixK {kd : Bool} {H : Hp} {Q : VK} {p : Addr} {xs : List V} {i : Int} {v : V} (h : SqK K kd H p xs) (a : atI xs i = some v) (q : Q v H) : rIx K (.ref p) (.int i) H Q := by
  cases kd with
  | true => exact rd_ixL h a q
  | false => exact rd_ixT h a q
theorem rd_lenK {kd : Bool} {H : Hp} {Q : VK} {p : Addr} {ys : List V} (h : SqK K kd H p ys) (q : Q (.int ys.length) H) : rLenU K [.ref p] H Q := by
  cases kd with
  | true => exact rd_lenL h q
  | false => exact rd_lenT h q
theorem ok_law_run (D : Def K mg "_law_run" s_law_run ["table", "delays"]) (mb : ∀ x ∈ bltns, mg x = none) (G_law_first : Ok P w K mg base 1 "_law_first" ["table", "deed", "done"] (spFirst57 T K)) : Ok P w K mg base 2 "_law_run" ["table", "delays"] (spLawRun T K) := by
  refine D.ok sc_law_run (fun vs H Q E h => ?_) (fun cdv f A outer s H vs Q E hr h => ?_)
  · obtain ⟨va, b, kd, tb, ds, rfl, _⟩ := h
    rfl
  · obtain ⟨va, b, kd, tb, ds, rfl, hva, hb, htb, htl, hdl, q1⟩ := h
    refine ⟨_, (pss_cons (ps_set (i := 2) sc_law_run.nd rfl (.inl rfl) (pe_lst pa_nil))
   (pss_cons (ps_set (i := 3) sc_law_run.nd rfl (.inl rfl) (pe_lst pa_nil))
   (pss_cons (ps_for PassesOwn.never rfl (pi_range1 (by rfl) (mb _ (by decide)) (pa_cons (pe_callB (call_lenU K rfl) (by rfl) (mb _ (by decide)) (by decide +kernel) (pa_cons (pv 1) pa_nil)) pa_nil)) (pg_name (i := 4) sc_law_run.nd rfl (.inl rfl)) (pss_cons (ps_expr (pe_bm PySem.F.plainAttrs_list PySem.F.slot_list_append PySem.F.type_list_append mt_append (pv 2) (pa_cons (pe_callO G_law_first (hr.mono (by decide)) (by rfl) (pa_cons (pv 0) (pa_cons (pe_op (op_plus K rfl) (pv 4) pe_int) (pa_cons (pv 3) pa_nil)))) pa_nil)))
   (pss_one (ps_expr (pe_bm PySem.F.plainAttrs_list PySem.F.slot_list_append PySem.F.type_list_append mt_append (pv 3) (pa_cons (pe_op (op_plus K rfl) (pe_ix (ix_U K rfl) (pv 2) (pe_un un_neg pe_int) (fun _ _ => rfl)) (pe_ix (ix_U K rfl) (pv 1) (pv 4) (fun _ _ => rfl))) pa_nil))))))
   (pss_one (ps_ret (pe_tup (pa_cons (pe_callTy (call_tupU K rfl) (by rfl) (mb _ (by decide)) (by decide +kernel) (pa_cons (pv 2) pa_nil)) (pa_cons (pe_callTy (call_tupU K rfl) (by rfl) (mb _ (by decide)) (by decide +kernel) (pa_cons (pv 3) pa_nil)) pa_nil)))))))), ?_⟩
    walk_at "rdn"
    refine rd_seq ?_
    walk_at "rdn"
    refine ⟨by walk_at "sz", fun pa npa => ?_⟩
    obtain ⟨npa, e2, hpa⟩ := alL (T := T) npa ([] : List V)
    generalize upd H pa _ = H2 at e2 hpa ⊢
    walk_at "rdn"
    refine rd_seq ?_
    walk_at "rdn"
    refine ⟨by walk_at "sz", fun pd npd => ?_⟩
    obtain ⟨npd, e3, hpd⟩ := alL (T := T) npd ([] : List V)
    have hne : pa ≠ pd := npd.lst hpa
    have hpa := lst.x hpa e3
    generalize upd H2 pd _ = H3 at e3 hpd hpa ⊢
    have npa0 : Nw H pa := npa
    have npd0 : Nw H pd := Ext.back e2 (by simp) npd
    have x3 := e2.trans e3
    walk_at "rdn"
    refine rd_seq ?_
    walk_at "rdn"
    refine rd_lenK (hb.x x3) ?_
    walk_at "rdn"
    rw [List.length_map]
    refine ⟨by omega, by omega, ?_⟩
    rw [Int.toNat_natCast]
    refine forg_range (fun i σ' H' => ∃ (as dn : List Int) (x4 : Option V), σ' = [some va, some (.ref b), some (.ref pa), some (.ref pd), x4] ∧ Ext T [] H H' ∧ H' pa = some (.lst (as.map V.int)) ∧ H' pd = some (.lst (dn.map V.int)) ∧ dn.length = i ∧ as.length = i ∧ i ≤ ds.length ∧ runF tb as dn (ds.drop i) = runF tb [] [] ds)
      ⟨[], [], _, rfl, x3, hpa, hpd, rfl, rfl, Nat.zero_le _, rfl⟩ (fun i σ' H' hi h => ?_) (fun σ' H' h => ?_)
    · obtain ⟨as, dn, x4, rfl, eH, h1, h2, h3, h3', h4, h5⟩ := h
      walk_at "rdn"
      refine rd_seq ?_
      walk_at "rdn"
      have e0 : (0 : Int) + (i : Int) + 1 = ((dn.length : Int) + 1) := by omega
      rw [e0]
      refine ⟨va, pd, true, tb, dn, rfl, hva.x eH, SqL.of h2, htb, htl, by omega, fun H4 e4 => ?_⟩
      have h1 := lst.x h1 e4
      have h2 := lst.x h2 e4
      have hal : as.length ≤ 50 := by omega
      have hdl' : dn.length ≤ 50 := by omega
      refine rd_nil ?_
      refine rd_app h1 (by walk_at "szl") ?_
      have xH4 := (eH.trans e4).own (u := .lst (as.map V.int ++ [V.int (askF tb dn)])) npa0 h1
      have h2 : (upd H4 pa (.lst (as.map V.int ++ [V.int (askF tb dn)]))) pd = some (.lst (dn.map V.int)) := by
        rw [upd_ne hne.symm]
        exact h2
      have h1 : (upd H4 pa (.lst (as.map V.int ++ [V.int (askF tb dn)]))) pa = some (.lst ((as ++ [askF tb dn]).map V.int)) := by
        rw [upd_same, List.map_append]
        rfl
      generalize upd H4 pa (.lst (as.map V.int ++ [V.int (askF tb dn)])) = H5 at h1 h2 xH4 ⊢
      walk_at "rdn"
      have hdi : atI (ds.map V.int) (0 + (i : Int)) = some (.int ds[i]) := by
        rw [Int.zero_add]
        refine atI_nat ?_
        rw [List.getElem?_map, List.getElem?_eq_getElem hi]
        rfl
      refine rd_ixL (SqL.of h1) (v := .int (askF tb dn)) (at_last (by rw [List.map_append]; simp)) ?_
      walk_at "rdn"
      refine rd_ixK (hb.x xH4) hdi ?_
      walk_at "rdn"
      refine ⟨as ++ [askF tb dn], dn ++ [askF tb dn + ds[i]], _, rfl, xH4.own npd0 h2, by rw [upd_ne hne]; exact h1, by rw [upd_same, List.map_append]; rfl, by rw [List.length_append, h3]; rfl, by rw [List.length_append, h3']; rfl, hi, ?_⟩
      rw [← h5, List.drop_eq_getElem_cons hi]
      rfl
    · obtain ⟨as, dn, x4, rfl, eH, h1, h2, h3, h3', h4, h5⟩ := h
      rw [List.drop_length] at h5
      have h5 : (as, dn) = runF tb [] [] ds := h5
      walk_at "rd"
      refine rd_tupL (SqL.of h1) fun l1 nl1 => ?_
      obtain ⟨nl1, e5, hl1⟩ := alT (T := T) nl1 (as.map V.int)
      have h2 := lst.x h2 e5
      generalize upd H' l1 _ = H5 at e5 hl1 h2 ⊢
      walk_at "rd"
      refine rd_tupL (SqL.of h2) fun l2 nl2 => ?_
      obtain ⟨nl2, e6, hl2⟩ := alT (T := T) nl2 (dn.map V.int)
      have hl1 := tup.x hl1 e6
      generalize upd H5 l2 _ = H6 at e6 hl1 hl2 ⊢
      walk_at "rd"
      refine ⟨by walk_at "sz", fun l3 nl3 => ?_⟩
      obtain ⟨nl3, e7, hl3⟩ := alT (T := T) nl3 [.ref l1, .ref l2]
      have hl1 := tup.x hl1 e7
      have hl2 := tup.x hl2 e7
      generalize upd H6 l3 _ = H7 at e7 hl1 hl2 hl3 ⊢
      refine q1 _ _ (((eH.trans e5).trans e6).trans e7) ?_
      rw [← h5]
      exact .new2 (im_intsT hl1) (im_intsT hl2) hl3
def spTableF (T : List (Addr × Str)) : Sp := fun vs H Q _ => ∃ (l t : Addr) (n : Nat) (w : Int), vs = [.ref t, .int (n : Int), .int w] ∧ n ≤ 6 ∧ 0 ≤ w ∧ w < 3 ∧ Tape l H t ∧
  ∀ v tb H', TbF n tb → tb.length ≤ 36 → Im H' v (.tuple (tb.map rwD)) → Ext T [t] H H' → Tape l H' t → Q v H'
/-- rows in full, all ahead of the place (k, j) -/
def TbG (n : Nat) (tb : List Rw) (k j : Nat) : Prop := TbF n tb ∧ ∀ r ∈ tb, r.1 < k ∨ (r.1 = k ∧ r.2.1 < j)
theorem tbG_new {n k j : Nat} {w : Int} {tb : List Rw} (h : TbG n tb k j) (h1 : 1 ≤ k ∧ j < k ∧ k ≤ n) (hw : 1 ≤ w ∧ w ≤ 1200) : TbG n (tb ++ [(k, j, w)]) k (j + 1) := by
  refine ⟨⟨fun r hr => ?_, List.pairwise_append.mpr ⟨h.1.2, by simp, fun a ha b hb => ?_⟩⟩, fun r hr => ?_⟩
  · rcases List.mem_append.mp hr with hr | hr
    · exact h.1.1 r hr
    · rw [List.mem_singleton.mp hr]
      exact ⟨h1.1, h1.2.1, h1.2.2, hw.1, hw.2⟩
  · rw [List.mem_singleton.mp hb]
    exact h.2 a ha
  · rcases List.mem_append.mp hr with hr | hr
    · rcases h.2 r hr with h | h
      · exact .inl h
      · exact .inr ⟨h.1, by omega⟩
    · rw [List.mem_singleton.mp hr]
      exact .inr ⟨rfl, by show j < j + 1; omega⟩
theorem tbG_skip {n k j : Nat} {tb : List Rw} (h : TbG n tb k j) : TbG n tb k (j + 1) := ⟨h.1, fun r hr => (h.2 r hr).imp id fun h => ⟨h.1, by omega⟩⟩
theorem tbG_next {n k j : Nat} {tb : List Rw} (h : TbG n tb k j) : TbG n tb (k + 1) 0 := ⟨h.1, fun r hr => (h.2 r hr).elim (fun h => .inl (by omega)) fun h => .inl (by omega)⟩
theorem ok_law_table (D : Def K mg "_law_table" s_law_table ["tape", "many", "wide"]) (mb : ∀ x ∈ bltns, mg x = none) (G_law_take : Ok P w K mg base 2 "_law_take" ["tape", "many"] (spTake T)) : Ok P w K mg base 3 "_law_table" ["tape", "many", "wide"] (spTableF T) := by
  refine D.ok sc_law_table (fun vs H Q E h => ?_) (fun cdv f A outer s H vs Q E hr h => ?_)
  · obtain ⟨l, t, n, wd, rfl, _⟩ := h
    rfl
  · obtain ⟨l, t, n, wd, rfl, hn, hw0, hw1, hT, q⟩ := h
    refine ⟨_, (pss_cons (ps_set (i := 3) sc_law_table.nd rfl (.inl rfl) (pe_lst pa_nil))
   (pss_cons (ps_for PassesOwn.never rfl (pi_range2 (by rfl) (mb _ (by decide)) (pa_cons pe_int (pa_cons (pe_op (op_plus K rfl) (pv 1) pe_int) pa_nil))) (pg_name (i := 4) sc_law_table.nd rfl (.inl rfl)) (pss_one (ps_for PassesOwn.never rfl (pi_range1 (by rfl) (mb _ (by decide)) (pa_cons (pv 4) pa_nil)) (pg_name (i := 5) sc_law_table.nd rfl (.inl rfl)) (pss_one (ps_if (pt_cmpR (op_eqU K rfl hr.units) (pe_callO G_law_take (hr.mono (by decide)) (by rfl) (pa_cons (pv 0) (pa_cons pe_int pa_nil))) pe_int (nomark _)) (pss_one (ps_expr (pe_bm PySem.F.plainAttrs_list PySem.F.slot_list_append PySem.F.type_list_append mt_append (pv 3) (pa_cons (pe_tup (pa_cons (pv 4) (pa_cons (pv 5) (pa_cons (pe_op (op_plus K rfl) pe_int (pe_callO G_law_take (hr.mono (by decide)) (by rfl) (pa_cons (pv 0) (pa_cons (pe_ix (ix_U K rfl) (pe_lst (pa_cons pe_int (pa_cons pe_int (pa_cons pe_int pa_nil)))) (pv 2) (fun _ _ => rfl)) pa_nil)))) pa_nil)))) pa_nil)))) pss_nil)))))
   (pss_one (ps_ret (pe_callTy (call_tupU K rfl) (by rfl) (mb _ (by decide)) (by decide +kernel) (pa_cons (pv 3) pa_nil)))))), ?_⟩
    walk_at "rdn"
    refine rd_seq ?_
    walk_at "rdn"
    refine ⟨by walk_at "sz", fun pr npr => ?_⟩
    obtain ⟨npr, e1, hpr⟩ := alL (T := T) npr ([] : List V)
    have T1 := hT.ext e1
    generalize upd H pr _ = H1 at e1 hpr T1 ⊢
    have hprt : pr ≠ t := (hT.ne npr).1
    have hprl : pr ≠ l := (hT.ne npr).2
    walk_at "rdn"
    refine rd_seq ?_
    walk_at "rdn"
    refine ⟨_, _, rfl, ⟨by decide, by decide, by omega, by omega⟩, ?_⟩
    have en : ((n : Int) + 1 - 1).toNat = n := by omega
    rw [en]
    refine forg_range (fun i σ' H' => ∃ (tb : List Rw) (x4 x5 : Option V), σ' = [some (.ref t), some (.int (n : Int)), some (.int wd), some (.ref pr), x4, x5] ∧ Ext T [t] H H' ∧ Tape l H' t ∧ Ls H' pr (tb.map rwD) ∧ TbG n tb (i + 1) 0 ∧ tb.length ≤ 6 * i)
      ⟨[], _, _, rfl, e1.any, T1, ⟨[], hpr, .nil⟩, ⟨⟨fun r hr => (by cases hr), .nil⟩, fun r hr => (by cases hr)⟩, by decide⟩ (fun i σ' H' hi h => ?_) (fun σ' H' h => ?_)
    · obtain ⟨tb, x4, x5, rfl, eH, TH, htb, hin, hlen⟩ := h
      walk_at "rd"
      refine ⟨by omega, by omega, ?_⟩
      have ei : ((1 : Int) + (i : Int)).toNat = i + 1 := by omega
      rw [ei]
      refine forg_range (fun j σ' H' => ∃ (tb : List Rw) (x5 : Option V), σ' = [some (.ref t), some (.int (n : Int)), some (.int wd), some (.ref pr), some (.int (1 + (i : Int))), x5] ∧ Ext T [t] H H' ∧ Tape l H' t ∧ Ls H' pr (tb.map rwD) ∧ TbG n tb (i + 1) j ∧ tb.length ≤ 6 * i + j)
        ⟨tb, _, rfl, eH, TH, htb, hin, by omega⟩ (fun j σ' H' hj h => ?_) (fun σ' H' h => ?_)
      · obtain ⟨tb, x5, rfl, eH, TH, htb, hin, hlen⟩ := h
        walk_at "rd"
        refine ⟨l, t, 2, rfl, by decide, by decide, TH, fun d H2 hd0 hd1 e2 T2 => ?_⟩
        have htb2 := htb.y e2 hprt TH
        walk_at "rd"
        refine rd_ite (fun c => ?_) (fun c => ?_)
        · obtain ⟨ys, hys, hyi⟩ := htb2
          have hyl : ys.length ≤ 100 := by
            rw [hyi.len, List.length_map]
            omega
          walk_at "rd"
          refine ⟨by walk_at "sz", fun p1 np1 => ?_⟩
          obtain ⟨np1, e3, hp1⟩ := alL (T := T) np1 [V.int 6, .int 40, .int 1200]
          have T3 := T2.ext e3
          have hys := lst.x hys e3
          have hyi := hyi.x e3
          generalize upd H2 p1 _ = H3 at e3 hp1 T3 hys hyi ⊢
          walk_at "rd"
          refine pick3 hp1 hw0 hw1 fun m hm => ?_
          walk_at "rd"
          refine ⟨l, t, m, rfl, by omega, by omega, T3, fun wv H4 hv0 hv1 e4 T4 => ?_⟩
          have hys := lst.y hys e4 hprt
          have hyi := hyi.y e4 T3
          walk_at "rd"
          refine ⟨by walk_at "sz", fun tp ntp => ?_⟩
          obtain ⟨ntp, e6, htp⟩ := alT (T := T) ntp [V.int (1 + (i : Int)), .int (0 + (j : Int)), .int (1 + wv)]
          have T6 := T4.ext e6
          have hys6 := lst.x hys e6
          have hyi6 := hyi.x e6
          generalize upd H4 tp _ = H6 at e6 htp T6 hys6 hyi6 ⊢
          walk_at "rd"
          have ej1 : (1 : Int) + (i : Int) = ((i + 1 : Nat) : Int) := by omega
          have ej0 : (0 : Int) + (j : Int) = ((j : Nat) : Int) := by omega
          rw [ej1, ej0] at htp
          obtain ⟨g1, g2⟩ := Ls.app (T := T) hys6 hyi6 (rw_new (r := (i + 1, j, 1 + wv)) htp)
          refine ⟨tb ++ [(i + 1, j, 1 + wv)], _, rfl, ((((eH.trans e2).trans e3.any).trans e4).trans e6.any).own npr hys6, T6.own hprt hprl, by rw [List.map_append]; exact g1, tbG_new hin ⟨by omega, hj, by omega⟩ ⟨by omega, by omega⟩, by rw [List.length_append]; show _ + 1 ≤ _; omega⟩
        · walk_at "rd"
          exact ⟨tb, _, rfl, eH.trans e2, T2, htb2, tbG_skip hin, by omega⟩
      · obtain ⟨tb, x5, rfl, eH, TH, htb, hin, hlen⟩ := h
        exact ⟨tb, _, _, rfl, eH, TH, htb, tbG_next hin, by omega⟩
    · obtain ⟨tb, x4, x5, rfl, eH, TH, htb, hin, hlen⟩ := h
      obtain ⟨ys, hys, hyi⟩ := htb
      walk_at "rd"
      refine rd_tupL (SqL.of hys) fun l2 nl2 => ?_
      obtain ⟨nl2, e7, hl2⟩ := alT (T := T) nl2 ys
      have T7 := TH.ext e7
      have hyi7 := hyi.x e7
      generalize upd H' l2 _ = H7 at e7 hl2 T7 hyi7 ⊢
      exact q _ tb _ hin.1 (by omega) (.tup hl2 hyi7) (eH.trans e7.any) T7
end
section
variable {T : List (Addr × Str)} {P : Program} {w : World} {K : PySem.W.Frag} {mg : Str → Option Value} {base : Heap}
local macro_rules | `(tactic| walk_at "tr") => `(tactic| first
  | assumption
  | exact Ext.refl
  | ((with_reducible refine' Im.x (T := T) (H := ?trH) ?tra ?tre); (case tre => assumption); (case tra => walk_at "tr"))
  | ((with_reducible refine' Im.y (T := T) (H := ?trH) ?tra ?tre ?trt); (case tre => assumption); (case trt => walk_at "tr"); (case tra => walk_at "tr"))
  | ((with_reducible refine' ImAll.x (T := T) (H := ?trH) ?tra ?tre); (case tre => assumption); (case tra => walk_at "tr"))
  | ((with_reducible refine' ImAll.y (T := T) (H := ?trH) ?tra ?tre ?trt); (case tre => assumption); (case trt => walk_at "tr"); (case tra => walk_at "tr"))
  | ((with_reducible refine' Ls.x (T := T) (H := ?trH) ?tra ?tre); (case tre => assumption); (case tra => walk_at "tr"))
  | ((with_reducible refine' Ls.y (T := T) (H := ?trH) ?tra ?tre ?trn ?trt); (case tre => assumption); (case trt => walk_at "tr"); (case trn => walk_at "tr"); (case tra => walk_at "tr"))
  | ((with_reducible refine' SqP.x (T := T) (H := ?trH) ?tra ?tre); (case tre => assumption); (case tra => walk_at "tr"))
  | ((with_reducible refine' SqP.y (T := T) (H := ?trH) ?tra ?tre ?trt); (case tre => assumption); (case trt => walk_at "tr"); (case tra => walk_at "tr"))
  | ((with_reducible refine' StAt.x (T := T) (H := ?trH) ?tra ?tre); (case tre => assumption); (case tra => walk_at "tr"))
  | ((with_reducible refine' StAt.y (T := T) (H := ?trH) ?tra ?tre ?trt); (case tre => assumption); (case trt => walk_at "tr"); (case tra => walk_at "tr"))
  | ((with_reducible refine' Pools.ext0 (T := T) (H := ?trH) ?tra ?tre); (case tre => assumption); (case tra => walk_at "tr"))
  | ((with_reducible refine' Pools.ext (T := T) (H := ?trH) ?tra ?tre ?trt); (case tre => assumption); (case trt => walk_at "tr"); (case tra => walk_at "tr"))
  | ((with_reducible refine' CL.x (T := T) (H := ?trH) ?tra ?tre); (case tre => assumption); (case tra => walk_at "tr"))
  | ((with_reducible refine' CL.y (T := T) (H := ?trH) ?tra ?tre); (case tre => assumption); (case tra => walk_at "tr"))
  | ((with_reducible refine' Tape.ext (T := T) (H := ?trH) ?tra ?tre); (case tre => assumption); (case tra => walk_at "tr"))
  | ((with_reducible refine' lst.x (T := T) (H := ?trH) ?tra ?tre); (case tre => assumption); (case tra => walk_at "tr"))
  | ((with_reducible refine' lst.y (T := T) (H := ?trH) ?tra ?tre ?trn); (case tre => assumption); (case trn => walk_at "tr"); (case tra => walk_at "tr"))
  | ((with_reducible refine' tup.x (T := T) (H := ?trH) ?tra ?tre); (case tre => assumption); (case tra => walk_at "tr"))
  | ((with_reducible refine' tup.y (T := T) (H := ?trH) ?tra ?tre ?trt); (case tre => assumption); (case trt => walk_at "tr"); (case tra => walk_at "tr"))
  | ((with_reducible refine' frz.x (T := T) (H := ?trH) ?tra ?tre); (case tre => assumption); (case tra => walk_at "tr"))
  | ((with_reducible refine' frz.y (T := T) (H := ?trH) ?tra ?tre ?trt); (case tre => assumption); (case trt => walk_at "tr"); (case tra => walk_at "tr"))
  | ((with_reducible refine' Im.z (T := T) (H := ?trH) ?tra ?tre ?trt); (case tre => assumption); (case trt => assumption); (case tra => walk_at "tr"))
  | ((with_reducible refine' ImAll.z (T := T) (H := ?trH) ?tra ?tre ?trt); (case tre => assumption); (case trt => assumption); (case tra => walk_at "tr"))
  | ((with_reducible refine' StAt.z (T := T) (H := ?trH) ?tra ?tre ?trt); (case tre => assumption); (case trt => assumption); (case tra => walk_at "tr"))
  | ((with_reducible refine' SqP.z (T := T) (H := ?trH) ?tra ?tre ?trt); (case tre => assumption); (case trt => assumption); (case tra => walk_at "tr"))
  | ((with_reducible refine' tup.z (T := T) (H := ?trH) ?tra ?tre ?trt); (case tre => assumption); (case trt => assumption); (case tra => walk_at "tr"))
  | ((with_reducible refine' Ls.z (T := T) (H := ?trH) ?tra ?tre ?trt ?trn); (case tre => assumption); (case trt => assumption); (case trn => assumption); (case tra => walk_at "tr"))
  | ((with_reducible refine' lst.z (T := T) (H := ?trH) ?tra ?tre ?trn); (case tre => assumption); (case trn => assumption); (case tra => walk_at "tr"))
  | ((with_reducible refine' CL.z (T := T) (H := ?trH) ?tra ?tre ?trn); (case tre => assumption); (case trn => assumption); (case tra => walk_at "tr"))
  | ((with_reducible refine' Tape.ne1 (H := ?trH) ?trt ?trn); (case trn => assumption); (case trt => walk_at "tr"))
  | ((with_reducible refine' Ext.trans (H1 := ?trH) ?tra (Ext.any ?tre)); (case tre => assumption); (case tra => walk_at "tr"))
  | ((with_reducible refine' Ext.trans (H1 := ?trH) ?tra ?tre); (case tre => assumption); (case tra => walk_at "tr"))
  | ((with_reducible refine' Ext.back1 (T := T) (H1 := ?trH) ?tre ?trn ?tra); (case tra => assumption); (case trn => walk_at "tr"); (case tre => walk_at "tr"))
  | ((with_reducible refine' Ext.back0 (T := T) (H1 := ?trH) ?tre ?tra); (case tra => assumption); (case tre => walk_at "tr"))
  | ((with_reducible refine' SqT.of ?tra); (case tra => walk_at "tr"))
  | ((with_reducible refine' SqL.of ?tra); (case tra => walk_at "tr")))
local macro_rules | `(tactic| walk_at "al") => `(tactic| (refine ⟨by first | (show _ ≤ sizeLine; decide) | walk_at "sz", ?_⟩; intro alp aln; generalize alG : upd _ alp _ = alH; obtain ⟨aln2, alx, alh⟩ := al_of (T := T) aln alG; clear alG aln))
local macro_rules | `(tactic| walk_at "al0") => `(tactic| (intro alp aln; generalize alG : upd _ alp _ = alH; obtain ⟨aln2, alx, alh⟩ := al_of (T := T) aln alG; clear alG aln))
def spAllow (T : List (Addr × Str)) : Sp := fun vs H Q _ => ∃ (v u y : V) (R : Rm) (s : Sta) (ds : List PyData), vs = [v, u, y] ∧ Im H v (rmD R) ∧ RmIn R ∧ StAt H u s ∧ s.its.length ≤ 100 ∧ s.on.length ≤ 300 ∧ Im H y (.tuple ds) ∧ Sm (.tuple ds) ∧ PyData.depth (.tuple ds) ≤ 40 ∧ ds.length ≤ 20 ∧ ∀ H', Ext T [] H H' → Q (.bl (allowB R s ds)) H'
theorem ok_are_allowed (D : Def K mg "are_allowed" s_are_allowed ["realm", "state", "deeds"]) (mb : ∀ x ∈ bltns, mg x = none) (G_is_deed : Ok P w K mg base 5 "is_deed" ["realm", "state", "value"] (spDeedB T)) (G_changed : Ok P w K mg base 1 "changed" ["state", "deed"] (spAfter T)) :
    Ok P w K mg base 6 "are_allowed" ["realm", "state", "deeds"] (spAllow T) := by
  refine D.ok sc_are_allowed (fun vs H Q E h => ?_) (fun cdv f A outer s H vs Q E hr h => ?_)
  · obtain ⟨v, u, y, R, s, ds, rfl, _⟩ := h
    rfl
  · obtain ⟨v, u, y, R, s, ds, rfl, hv, hR, hu, hil, hol, hy, hs, hd, hdl, q⟩ := h
    refine ⟨_, (pss_cons (ps_for PassesOwn.never rfl (pi_seq K rfl (pv 2)) (pg_name (i := 3) sc_are_allowed.nd rfl (.inl rfl)) (pss_cons (ps_if (pt_not (pt_E (pe_callO G_is_deed (hr.mono (by decide)) (by rfl) (pa_cons (pv 0) (pa_cons (pv 1) (pa_cons (pv 3) pa_nil)))))) (pss_one (ps_ret pe_bl)) pss_nil)
   (pss_one (ps_set (i := 1) sc_are_allowed.nd rfl (.inl rfl) (pe_callO G_changed (hr.mono (by decide)) (by rfl) (pa_cons (pv 1) (pa_cons (pv 3) pa_nil)))))))
   (pss_one (ps_ret pe_bl))), ?_⟩
    obtain ⟨pp, px, rfl, hpp, hpi⟩ := hy.tup'
    have hsa := sm_tup.mp hs
    have hpl := hpi.len
    walk_at "rdn"
    refine rd_seq ?_
    walk_at "rdn"
    refine .inr ⟨⟨_, SqP.sq hpp⟩, ?_⟩
    refine forg_tup (xs := px) (fun i σ H' => Ext T [] H H' ∧ ∃ (y : V) (s' : Sta) (o1 : Option V), σ = [some v, some y, some (.ref pp), o1] ∧ StAt H' y s' ∧ s'.its.length ≤ 100 ∧ s'.on.length ≤ 300 + i ∧ allowB R s ds = allowB R s' (ds.drop i))
      ⟨.refl, u, s, _, rfl, hu, hil, hol, rfl⟩ (fun i σ H' _ h => SqP.sq (SqP.x hpp h.1)) (fun i x σ H1 hx h => ?_) (fun σ H1 h => ?_)
    · obtain ⟨e1, y, s', o1, rfl, hy1, hil1, hol1, hpf⟩ := h
      obtain ⟨dr, hdr, hxr⟩ := hpi.get' hx
      have hi12 : i < ds.length := (List.getElem?_eq_some_iff.mp hdr).1
      have hdm := List.mem_of_getElem? hdr
      have hdp : dr.depth ≤ 39 := by
        have := dep_mem hdm
        omega
      have hdrop : ds.drop i = dr :: ds.drop (i + 1) := by
        have h3 := List.drop_eq_getElem_cons hi12
        rw [(List.getElem?_eq_some_iff.mp hdr).2] at h3
        exact h3
      rw [hdrop] at hpf
      have hpf : allowB R s ds = (deedB R s' dr && allowB R (aft s' (ddOf dr)) (ds.drop (i + 1))) := hpf
      refine rd_name ?_
      walk_at "rdn"
      refine rd_seq ?_
      walk_at "rd"
      refine ⟨v, y, x, R, s', dr, rfl, hv.x e1, hR, hy1, hxr.x e1, hsa.2 dr hdm, by omega, fun H2 e2 => ?_⟩
      refine ⟨_, rfl, ?_⟩
      cases hb : deedB R s' dr with
      | false =>
        rw [hb] at hpf
        rw [hpf] at q
        walk_at "rd"
        exact q H2 (e1.trans e2)
      | true =>
        rw [hb, Bool.true_and] at hpf
        walk_at "rd"
        refine ⟨y, x, s', ddOf dr, rfl, hy1.x e2, by rw [ddOf_dd hb]; exact (hxr.x e1).x e2, hil1, by omega, fun z H3 e3 hz => ?_⟩
        walk_at "rd"
        refine ⟨(e1.trans e2).trans e3, z, _, _, rfl, hz, ?_, ?_, hpf⟩
        · rw [aft_il]
          exact hil1
        · have := aft_on s' (ddOf dr)
          omega
    · obtain ⟨e1, y, s', o1, rfl, hy1, hil1, hol1, hpf⟩ := h
      rw [hpl, List.drop_length] at hpf
      rw [show allowB R s' [] = true by unfold allowB; rfl] at hpf
      rw [hpf] at q
      walk_at "rd"
      exact q H1 e1
def spRowD (T : List (Addr × Str)) : Sp := fun vs H Q _ => ∃ (v u y : V) (R : Rm) (s : Sta) (d : PyData), vs = [v, u, y] ∧ Im H v (rmD R) ∧ RmIn R ∧ StAt H u s ∧ s.its.length ≤ 100 ∧ s.on.length ≤ 300 ∧ Im H y d ∧ Sm d ∧ d.depth ≤ 40 ∧ ∀ H', Ext T [] H H' → Q (.bl (rowDB R s d)) H'
theorem ok_is_row_of_deeds (D : Def K mg "is_row_of_deeds" s_is_row_of_deeds ["realm", "state", "value"]) (M : Cst mg) (G_is_tuple_of : Ok P w K mg base 1 "is_tuple_of" ["value", "least", "most"] spTupD) (G_are_allowed : Ok P w K mg base 6 "are_allowed" ["realm", "state", "deeds"] (spAllow T)) :
    Ok P w K mg base 7 "is_row_of_deeds" ["realm", "state", "value"] (spRowD T) := by
  refine D.ok sc_is_row_of_deeds (fun vs H Q E h => ?_) (fun cdv f A outer s H vs Q E hr h => ?_)
  · obtain ⟨v, u, y, R, s, d, rfl, _⟩ := h
    rfl
  · obtain ⟨v, u, y, R, s, d, rfl, hv, hR, hu, hil, hol, hy, hs, hd, q⟩ := h
    refine ⟨_, (pss_one (ps_ret (pe_and (pe_callO G_is_tuple_of (hr.mono (by decide)) (by rfl) (pa_cons (pv 2) (pa_cons pe_int (pa_cons (pe_glI (by rfl) M.c_MAX_DEEDS) pa_nil)))) (pe_one (pe_callO G_are_allowed (hr.mono (by decide)) (by rfl) (pa_cons (pv 0) (pa_cons (pv 1) (pa_cons (pv 2) pa_nil)))))))), ?_⟩
    unfold rowDB at q
    walk_at "rd"
    refine ⟨y, d, 1, 6, rfl, hy, ?_⟩
    cases ht : tupB 1 6 d with
    | false =>
      rw [ht] at q
      walk_at "rd"
      exact q H .refl
    | true =>
      rw [ht] at q
      obtain ⟨ds, rfl, h1, h2⟩ := tupB_some ht
      walk_at "rd"
      exact ⟨v, u, y, R, s, ds, rfl, hv, hR, hu, hil, hol, hy, hs, hd, by omega, fun H1 e1 => q H1 e1⟩
theorem ok_is_bound (D : Def K mg "is_bound" s_is_bound ["value"]) (M : Cst mg) (G_is_tuple_of : Ok P w K mg base 1 "is_tuple_of" ["value", "least", "most"] spTupD) (G_is_integer_in : Ok P w K mg base 1 "is_integer_in" ["value", "least", "most"] spIntD) :
    Ok P w K mg base 2 "is_bound" ["value"] (spDB T boundB) := by
  refine D.ok sc_is_bound (fun vs H Q E h => ?_) (fun cdv f A outer s H vs Q E hr h => ?_)
  · obtain ⟨v, d, rfl, _⟩ := h
    rfl
  · obtain ⟨v, d, rfl, hv, hs, q⟩ := h
    refine ⟨_, (pss_cons (ps_if (PW.pt (pw_or (pt_not (pt_E (pe_callO G_is_tuple_of (hr.mono (by decide)) (by rfl) (pa_cons (pv 0) (pa_cons pe_int (pa_cons pe_int pa_nil)))))) (pw_or1 (pt_not (pt_E (pe_callO G_is_integer_in (hr.mono (by decide)) (by rfl) (pa_cons (pe_ix (ix_U K rfl) (pv 0) pe_int (fun _ _ => rfl)) (pa_cons pe_int (pa_cons (pe_glI (by rfl) M.c_MAX_DELAY) pa_nil))))))))) (pss_one (ps_ret pe_bl)) pss_nil)
   (pss_one (ps_ret (pe_callO G_is_integer_in (hr.mono (by decide)) (by rfl) (pa_cons (pe_ix (ix_U K rfl) (pv 0) pe_int (fun _ _ => rfl)) (pa_cons (pe_ix (ix_U K rfl) (pv 0) pe_int (fun _ _ => rfl)) (pa_cons (pe_glI (by rfl) M.c_MAX_DELAY) pa_nil))))))), ?_⟩
    walk_at "rdn"
    refine rd_seq ?_
    walk_at "rd"
    refine ⟨v, d, 2, 2, rfl, hv, ?_⟩
    refine ⟨_, rfl, ?_⟩
    cases ht : tupB 2 2 d with
    | false =>
      rw [boundB_no ht] at q
      walk_at "rd"
      exact q H .refl
    | true =>
      obtain ⟨a, b, rfl⟩ := pair_of ht
      have q : ∀ H', Ext T [] H H' → Q (.bl (intB 0 1000 a && intB (intOf a) 1000 b)) H' := q
      walk_at "rd"
      refine rd_ixI (d := a) hv rfl fun u1 g1 => ?_
      walk_at "rd"
      refine ⟨u1, a, 0, 1000, rfl, g1, ?_⟩
      refine ⟨_, rfl, ?_⟩
      cases ha : intB 0 1000 a with
      | false =>
        rw [ha] at q
        walk_at "rd"
        exact q H .refl
      | true =>
        rw [ha] at q
        obtain ⟨ai, rfl, _, _⟩ := int_some ha
        walk_at "rd"
        refine rd_ixI (d := b) hv rfl fun u2 g2 => ?_
        walk_at "rd"
        refine rd_ixI (d := .int ai) hv rfl fun u3 g3 => ?_
        rw [g3.int']
        walk_at "rd"
        exact ⟨u2, b, ai, 1000, rfl, g2, q H .refl⟩
def spCD (T : List (Addr × Str)) (f : Int → PyData → Bool) : Sp := fun vs H Q _ => ∃ (n : Int) (u : V) (d : PyData), vs = [.int n, u] ∧ Im H u d ∧ Sm d ∧ ∀ H', Ext T [] H H' → Q (.bl (f n d)) H'
theorem ok_is_bounds (D : Def K mg "is_bounds" s_is_bounds ["count", "value"]) (mb : ∀ x ∈ bltns, mg x = none) (G_is_tuple_of : Ok P w K mg base 1 "is_tuple_of" ["value", "least", "most"] spTupD) (G_is_bound : Ok P w K mg base 2 "is_bound" ["value"] (spDB T boundB)) :
    Ok P w K mg base 3 "is_bounds" ["count", "value"] (spCD T boundsB) := by
  refine D.ok sc_is_bounds (fun vs H Q E h => ?_) (fun cdv f A outer s H vs Q E hr h => ?_)
  · obtain ⟨n, u, d, rfl, _⟩ := h
    rfl
  · obtain ⟨n, u, d, rfl, hu, hs, q⟩ := h
    refine ⟨_, (pss_one (ps_ret (pe_and (pe_callO G_is_tuple_of (hr.mono (by decide)) (by rfl) (pa_cons (pv 1) (pa_cons (pv 0) (pa_cons (pv 0) pa_nil)))) (pe_one (pe_callB (call_allU K rfl rfl) (by rfl) (mb _ (by decide)) (by decide +kernel) (pa_cons (pe_lc (own := [("part", 2)]) (g := gName 2) (tt := tYes) rfl sc_is_bounds.nd (pi_seq K rfl (pv 1)) (blkOk_by (N := N_is_bounds) (sc := defScope s_is_bounds) (by decide +kernel)) (fun _ _ _ _ _ => (pg_name (i := 2) sc_is_bounds.nd rfl (Or.inl rfl))) (fun _ _ _ _ _ => pts_nil) (fun _ _ _ _ _ => (pe_callO G_is_bound (hr.mono (by decide)) (by rfl) (pa_cons (pv 2) pa_nil)))) pa_nil)))))), ?_⟩
    unfold boundsB at q
    walk_at "rd"
    refine ⟨u, d, n, n, rfl, hu, ?_⟩
    cases ht : tupB n n d with
    | false =>
      rw [ht] at q
      walk_at "rd"
      exact q H .refl
    | true =>
      rw [ht] at q
      obtain ⟨ds, rfl, h1, h2⟩ := tupB_some ht
      have q : ∀ H', Ext T [] H H' → Q (.bl (ds.all boundB)) H' := q
      obtain ⟨ua, ux, rfl, hua, hui⟩ := hu.tup'
      have hsa := sm_tup.mp hs
      have hui2 : ImAll H ux (ds.map id) := by rw [List.map_id]; exact hui
      walk_at "rd"
      refine .inr ⟨⟨_, SqP.sq hua⟩, ?_⟩
      refine lcg_fv T id (fun d => .bl (boundB d)) (fun _ => true) walk_tup hui2 rfl (fun i H x H' y => y) (fun H' e => SqP.sq (SqP.x hua e)) (by omega) (fun k y x hy H' e' hxy R' S' h1 _ => ?_) (fun D1 H1 nD1 e1 hD1 => ?_)
      · have hym := List.mem_of_getElem? hy
        refine rd_name ⟨wipe1, ?_⟩
        walk_at "rd"
        exact ⟨x, y, rfl, hxy, hsa.2 y hym, fun H2 e2 => h1 rfl H2 e2⟩
      · rw [filtT] at hD1
        have hD2 : H1 D1 = some (.lst ((ds.map boundB).map V.bl)) := by
          rw [hD1, List.map_map]
          rfl
        walk_at "rd"
        refine rd_all (SqL.of hD2) ?_
        rw [List.all_map, show (id ∘ boundB) = boundB from rfl]
        exact q H1 e1
theorem ok_is_wait (D : Def K mg "is_wait" s_is_wait ["count", "value"]) (M : Cst mg) (G_is_tuple_of : Ok P w K mg base 1 "is_tuple_of" ["value", "least", "most"] spTupD) (G_is_integer_in : Ok P w K mg base 1 "is_integer_in" ["value", "least", "most"] spIntD) :
    Ok P w K mg base 2 "is_wait" ["count", "value"] (spCD T waitB) := by
  refine D.ok sc_is_wait (fun vs H Q E h => ?_) (fun cdv f A outer s H vs Q E hr h => ?_)
  · obtain ⟨n, u, d, rfl, _⟩ := h
    rfl
  · obtain ⟨n, u, d, rfl, hu, hs, q⟩ := h
    refine ⟨_, (pss_cons (ps_if (pt_not (pt_E (pe_callO G_is_tuple_of (hr.mono (by decide)) (by rfl) (pa_cons (pv 1) (pa_cons pe_int (pa_cons pe_int pa_nil)))))) (pss_one (ps_ret pe_bl)) pss_nil)
   (pss_cons (ps_asg (pv 1) (pg_tupU (n := 3) K rfl rfl (pgs_cons (pg_name (i := 2) sc_is_wait.nd rfl (.inl rfl)) (pgs_cons (pg_name (i := 3) sc_is_wait.nd rfl (.inl rfl)) (pgs_cons (pg_name (i := 4) sc_is_wait.nd rfl (.inl rfl)) pgs_nil)))))
   (pss_one (ps_ret (pe_and (pe_callO G_is_integer_in (hr.mono (by decide)) (by rfl) (pa_cons (pv 2) (pa_cons pe_int (pa_cons (pv 0) pa_nil)))) (pe_and (pe_callO G_is_integer_in (hr.mono (by decide)) (by rfl) (pa_cons (pv 3) (pa_cons pe_int (pa_cons (pe_op op_sub (pv 2) pe_int) pa_nil)))) (pe_one (pe_callO G_is_integer_in (hr.mono (by decide)) (by rfl) (pa_cons (pv 4) (pa_cons pe_int (pa_cons (pe_glI (by rfl) M.c_MAX_WAIT) pa_nil))))))))))), ?_⟩
    walk_at "rdn"
    refine rd_seq ?_
    walk_at "rd"
    refine ⟨u, d, 3, 3, rfl, hu, ?_⟩
    refine ⟨_, rfl, ?_⟩
    cases ht : tupB 3 3 d with
    | false =>
      rw [waitB_no ht] at q
      walk_at "rd"
      exact q H .refl
    | true =>
      obtain ⟨k, j, x, rfl⟩ := trip_of ht
      have q : ∀ H', Ext T [] H H' → Q (.bl (intB 1 n k && (intB 0 (intOf k - 1) j && intB 1 10000 x))) H' := q
      obtain ⟨ta, x1, x2, x3, rfl, hta, g1, g2, g3⟩ := hu.trip'
      walk_at "rdn"
      refine rd_seq ?_
      walk_at "rd"
      refine rd_gtup (SqP.sq hta) rfl ?_
      walk_at "rdn"
      walk_at "rd"
      refine ⟨x1, k, 1, n, rfl, g1, ?_⟩
      cases hk : intB 1 n k with
      | false =>
        rw [hk] at q
        walk_at "rd"
        exact q H .refl
      | true =>
        rw [hk] at q
        obtain ⟨ki, rfl, _, _⟩ := int_some hk
        have e1 := g1.int'
        subst e1
        walk_at "rd"
        refine ⟨x2, j, 0, ki - 1, rfl, g2, ?_⟩
        have q : ∀ H', Ext T [] H H' → Q (.bl (intB 0 (ki - 1) j && intB 1 10000 x)) H' := q
        cases hj : intB 0 (ki - 1) j with
        | false =>
          rw [hj] at q
          walk_at "rd"
          exact q H .refl
        | true =>
          rw [hj] at q
          walk_at "rd"
          exact ⟨x3, x, 1, 10000, rfl, g3, q H .refl⟩
theorem ok_is_table (D : Def K mg "is_table" s_is_table ["count", "value"]) (mb : ∀ x ∈ bltns, mg x = none) (G_is_wait : Ok P w K mg base 2 "is_wait" ["count", "value"] (spCD T waitB)) (G_is_ascending : Ok P w K mg base 1 "is_ascending" ["values"] (spAsc T K)) :
    Ok P w K mg base 3 "is_table" ["count", "value"] (spCD T tableB) := by
  refine D.ok sc_is_table (fun vs H Q E h => ?_) (fun cdv f A outer s H vs Q E hr h => ?_)
  · obtain ⟨n, u, d, rfl, _⟩ := h
    rfl
  · obtain ⟨n, u, d, rfl, hu, hs, q⟩ := h
    refine ⟨_, (pss_cons (ps_if (PW.pt (pw_or (pt_not (pt_E (pe_callB (call_isiU K rfl) (by rfl) (mb _ (by decide)) (by decide +kernel) (pa_cons (pv 1) (pa_cons (pe_bltn (v := .ty "tuple") (u := .type "tuple") (by rfl) (mb _ (by decide)) (by decide +kernel) rfl) pa_nil))))) (pw_or1 (pt_not (pt_E (pe_callB (call_allU K rfl rfl) (by rfl) (mb _ (by decide)) (by decide +kernel) (pa_cons (pe_lc (own := [("part", 5)]) (g := gName 5) (tt := tYes) rfl sc_is_table.nd (pi_seq K rfl (pv 1)) (blkOk_by (N := N_is_table) (sc := defScope s_is_table) (by decide +kernel)) (fun _ _ _ _ _ => (pg_name (i := 5) sc_is_table.nd rfl (Or.inl rfl))) (fun _ _ _ _ _ => pts_nil) (fun _ _ _ _ _ => (pe_callO G_is_wait (hr.mono (by decide)) (by rfl) (pa_cons (pv 0) (pa_cons (pv 5) pa_nil))))) pa_nil))))))) (pss_one (ps_ret pe_bl)) pss_nil)
   (pss_one (ps_ret (pe_callO G_is_ascending (hr.mono (by decide)) (by rfl) (pa_cons (pe_lc (own := [("k", 2), ("j", 3), ("_", 4)]) (tt := tYes) rfl sc_is_table.nd (pi_seq K rfl (pv 1)) (blkOk_by (N := N_is_table) (sc := defScope s_is_table) (by decide +kernel)) (fun _ _ _ _ _ => (pg_tupU (n := 3) K rfl rfl (pgs_cons (pg_name (i := 2) sc_is_table.nd rfl (Or.inl rfl)) (pgs_cons (pg_name (i := 3) sc_is_table.nd rfl (Or.inl rfl)) (pgs_cons (pg_name (i := 4) sc_is_table.nd rfl (Or.inl rfl)) pgs_nil))))) (fun _ _ _ _ _ => pts_nil) (fun _ _ _ _ _ => (pe_tup (pa_cons (pv 2) (pa_cons (pv 3) pa_nil))))) pa_nil))))), ?_⟩
    unfold tableB at q
    walk_at "rdn"
    refine rd_seq ?_
    walk_at "rd"
    refine rd_isTupD hu ?_
    refine ⟨_, rfl, ?_⟩
    cases ht : isTup d with
    | false =>
      rw [ht] at q
      walk_at "rd"
      exact q H .refl
    | true =>
      rw [ht] at q
      obtain ⟨ds, rfl⟩ : ∃ ds, d = .tuple ds := by
        cases d with
        | tuple ds => exact ⟨ds, rfl⟩
        | none => cases ht
        | bool _ => cases ht
        | int _ => cases ht
        | str _ => cases ht
        | list _ => cases ht
        | dict _ => cases ht
      have q : ∀ H', Ext T [] H H' → Q (.bl (ds.all (waitB n) && ascD (ds.map kjD))) H' := q
      obtain ⟨ua, ux, rfl, hua, hui⟩ := hu.tup'
      have hsa := sm_tup.mp hs
      have hui2 : ImAll H ux (ds.map id) := by rw [List.map_id]; exact hui
      walk_at "rd"
      refine .inr ⟨⟨_, SqP.sq hua⟩, ?_⟩
      refine lcg_fv T id (fun d => .bl (waitB n d)) (fun _ => true) walk_tup hui2 rfl (fun i H x H' y => y) (fun H' e => SqP.sq (SqP.x hua e)) (by omega) (fun k y x hy H' e' hxy R' S' h1 _ => ?_) (fun D1 H1 nD1 e1 hD1 => ?_)
      · have hym := List.mem_of_getElem? hy
        refine rd_name ⟨wipe1, ?_⟩
        walk_at "rd"
        exact ⟨n, x, y, rfl, hxy, hsa.2 y hym, fun H2 e2 => h1 rfl H2 e2⟩
      · rw [filtT] at hD1
        have hD2 : H1 D1 = some (.lst ((ds.map (waitB n)).map V.bl)) := by
          rw [hD1, List.map_map]
          rfl
        walk_at "rd"
        refine rd_all (SqL.of hD2) ?_
        rw [List.all_map, show (id ∘ waitB n) = waitB n from rfl]
        refine ⟨_, rfl, ?_⟩
        cases ha : ds.all (waitB n) with
        | false =>
          rw [ha] at q
          walk_at "rd"
          exact q H1 e1
        | true =>
          rw [ha] at q
          obtain ⟨l, rfl⟩ := waits_rows ha
          have hll : l.length ≤ 1000 := by
            have := hsa.1
            rw [List.length_map] at this
            exact this
          have hua1 := SqP.x hua e1
          walk_at "rdn"
          walk_at "rd"
          refine .inr ⟨⟨_, SqP.sq hua1⟩, ?_⟩
          refine lcg_fm T r3D r2D (fun _ => true) walk_tup (hui.x e1) rfl (fun i H x H' y => y) (fun H' e => SqP.sq (SqP.x hua1 e)) (by omega) (fun i z x hz' H' e' hxz R' S k1 _ => ?_) (fun D2 H2 nD2 e2 hD2 => ?_)
          · obtain ⟨tb, z1, z2, z3, rfl, htb, k2, k3, k4⟩ := (show Im H' x (.tuple [.int z.1, .int z.2.1, .int z.2.2]) from hxz).trip'
            refine rd_gtup (SqP.sq htb) rfl ?_
            walk_at "rd"
            refine ⟨rfl, ?_⟩
            walk_at "rd"
            walk_at "al"
            rename_i tc H4 _ e4 htc
            exact k1 rfl _ H4 e4 (.new2 (k2.x e4) (k3.x e4) htc)
          · rw [filtT] at hD2
            obtain ⟨kx, hkx, hki⟩ := hD2
            walk_at "rd"
            refine ⟨D2, kx, l.map r2D, rfl, .inr hkx, hki, alike_r2 l, by rw [List.length_map]; exact hll, fun H3 e3 => ?_⟩
            have eq : (l.map r3D).map kjD = l.map r2D := by rw [List.map_map]; rfl
            rw [eq] at q
            exact q H3 ((e1.trans e2).trans e3)
end
theorem imall_gets {H : Hp} : ∀ {vs : List V} {ds : List PyData}, vs.length = ds.length → (∀ (i : Nat) (v : V) (d : PyData), vs[i]? = some v → ds[i]? = some d → Im H v d) → ImAll H vs ds
  | [], [], _, _ => .nil
  | [], _ :: _, h, _ => by simp at h
  | _ :: _, [], h, _ => by simp at h
  | v :: vs, d :: ds, hl, h => .cons (h 0 v d rfl rfl) (imall_gets (by simpa using hl) fun i v d e1 e2 => h (i + 1) v d e1 e2)
section
variable {T : List (Addr × Str)} {P : Program} {w : World} {K : PySem.W.Frag} {mg : Str → Option Value} {base : Heap}
local macro_rules | `(tactic| walk_at "tr") => `(tactic| first
  | assumption
  | exact Ext.refl
  | ((with_reducible refine' Im.x (T := T) (H := ?trH) ?tra ?tre); (case tre => assumption); (case tra => walk_at "tr"))
  | ((with_reducible refine' Im.y (T := T) (H := ?trH) ?tra ?tre ?trt); (case tre => assumption); (case trt => walk_at "tr"); (case tra => walk_at "tr"))
  | ((with_reducible refine' ImAll.x (T := T) (H := ?trH) ?tra ?tre); (case tre => assumption); (case tra => walk_at "tr"))
  | ((with_reducible refine' ImAll.y (T := T) (H := ?trH) ?tra ?tre ?trt); (case tre => assumption); (case trt => walk_at "tr"); (case tra => walk_at "tr"))
  | ((with_reducible refine' Ls.x (T := T) (H := ?trH) ?tra ?tre); (case tre => assumption); (case tra => walk_at "tr"))
  | ((with_reducible refine' Ls.y (T := T) (H := ?trH) ?tra ?tre ?trn ?trt); (case tre => assumption); (case trt => walk_at "tr"); (case trn => walk_at "tr"); (case tra => walk_at "tr"))
  | ((with_reducible refine' SqP.x (T := T) (H := ?trH) ?tra ?tre); (case tre => assumption); (case tra => walk_at "tr"))
  | ((with_reducible refine' SqP.y (T := T) (H := ?trH) ?tra ?tre ?trt); (case tre => assumption); (case trt => walk_at "tr"); (case tra => walk_at "tr"))
  | ((with_reducible refine' StAt.x (T := T) (H := ?trH) ?tra ?tre); (case tre => assumption); (case tra => walk_at "tr"))
  | ((with_reducible refine' StAt.y (T := T) (H := ?trH) ?tra ?tre ?trt); (case tre => assumption); (case trt => walk_at "tr"); (case tra => walk_at "tr"))
  | ((with_reducible refine' Pools.ext0 (T := T) (H := ?trH) ?tra ?tre); (case tre => assumption); (case tra => walk_at "tr"))
  | ((with_reducible refine' Pools.ext (T := T) (H := ?trH) ?tra ?tre ?trt); (case tre => assumption); (case trt => walk_at "tr"); (case tra => walk_at "tr"))
  | ((with_reducible refine' CL.x (T := T) (H := ?trH) ?tra ?tre); (case tre => assumption); (case tra => walk_at "tr"))
  | ((with_reducible refine' CL.y (T := T) (H := ?trH) ?tra ?tre); (case tre => assumption); (case tra => walk_at "tr"))
  | ((with_reducible refine' Tape.ext (T := T) (H := ?trH) ?tra ?tre); (case tre => assumption); (case tra => walk_at "tr"))
  | ((with_reducible refine' lst.x (T := T) (H := ?trH) ?tra ?tre); (case tre => assumption); (case tra => walk_at "tr"))
  | ((with_reducible refine' lst.y (T := T) (H := ?trH) ?tra ?tre ?trn); (case tre => assumption); (case trn => walk_at "tr"); (case tra => walk_at "tr"))
  | ((with_reducible refine' tup.x (T := T) (H := ?trH) ?tra ?tre); (case tre => assumption); (case tra => walk_at "tr"))
  | ((with_reducible refine' tup.y (T := T) (H := ?trH) ?tra ?tre ?trt); (case tre => assumption); (case trt => walk_at "tr"); (case tra => walk_at "tr"))
  | ((with_reducible refine' frz.x (T := T) (H := ?trH) ?tra ?tre); (case tre => assumption); (case tra => walk_at "tr"))
  | ((with_reducible refine' frz.y (T := T) (H := ?trH) ?tra ?tre ?trt); (case tre => assumption); (case trt => walk_at "tr"); (case tra => walk_at "tr"))
  | ((with_reducible refine' Im.z (T := T) (H := ?trH) ?tra ?tre ?trt); (case tre => assumption); (case trt => assumption); (case tra => walk_at "tr"))
  | ((with_reducible refine' ImAll.z (T := T) (H := ?trH) ?tra ?tre ?trt); (case tre => assumption); (case trt => assumption); (case tra => walk_at "tr"))
  | ((with_reducible refine' StAt.z (T := T) (H := ?trH) ?tra ?tre ?trt); (case tre => assumption); (case trt => assumption); (case tra => walk_at "tr"))
  | ((with_reducible refine' SqP.z (T := T) (H := ?trH) ?tra ?tre ?trt); (case tre => assumption); (case trt => assumption); (case tra => walk_at "tr"))
  | ((with_reducible refine' tup.z (T := T) (H := ?trH) ?tra ?tre ?trt); (case tre => assumption); (case trt => assumption); (case tra => walk_at "tr"))
  | ((with_reducible refine' Ls.z (T := T) (H := ?trH) ?tra ?tre ?trt ?trn); (case tre => assumption); (case trt => assumption); (case trn => assumption); (case tra => walk_at "tr"))
  | ((with_reducible refine' lst.z (T := T) (H := ?trH) ?tra ?tre ?trn); (case tre => assumption); (case trn => assumption); (case tra => walk_at "tr"))
  | ((with_reducible refine' CL.z (T := T) (H := ?trH) ?tra ?tre ?trn); (case tre => assumption); (case trn => assumption); (case tra => walk_at "tr"))
  | ((with_reducible refine' Tape.ne1 (H := ?trH) ?trt ?trn); (case trn => assumption); (case trt => walk_at "tr"))
  | ((with_reducible refine' Ext.trans (H1 := ?trH) ?tra (Ext.any ?tre)); (case tre => assumption); (case tra => walk_at "tr"))
  | ((with_reducible refine' Ext.trans (H1 := ?trH) ?tra ?tre); (case tre => assumption); (case tra => walk_at "tr"))
  | ((with_reducible refine' Ext.back1 (T := T) (H1 := ?trH) ?tre ?trn ?tra); (case tra => assumption); (case trn => walk_at "tr"); (case tre => walk_at "tr"))
  | ((with_reducible refine' Ext.back0 (T := T) (H1 := ?trH) ?tre ?tra); (case tra => assumption); (case tre => walk_at "tr"))
  | ((with_reducible refine' SqT.of ?tra); (case tra => walk_at "tr"))
  | ((with_reducible refine' SqL.of ?tra); (case tra => walk_at "tr")))
local macro_rules | `(tactic| walk_at "al") => `(tactic| (refine ⟨by first | (show _ ≤ sizeLine; decide) | walk_at "sz", ?_⟩; intro alp aln; generalize alG : upd _ alp _ = alH; obtain ⟨aln2, alx, alh⟩ := al_of (T := T) aln alG; clear alG aln))
local macro_rules | `(tactic| walk_at "al0") => `(tactic| (intro alp aln; generalize alG : upd _ alp _ = alH; obtain ⟨aln2, alx, alh⟩ := al_of (T := T) aln alG; clear alG aln))
def pzD (t : Int) (d : PyData) : PyData := .tuple [.int t, d]
def spPlanOf (T : List (Addr × Str)) : Sp := fun vs H Q _ => ∃ (v u : V) (ds : List PyData) (ts : List Int), vs = [v, u] ∧ Im H v (.tuple ds) ∧ Im H u (.tuple (ts.map PyData.int)) ∧ ts.length = ds.length ∧
  ∀ (y : V) (H' : Hp), Ext T [] H H' → Im H' y (.tuple (List.zipWith pzD ts ds)) → Q y H'
theorem ok_plan_of (D : Def K mg "plan_of" s_plan_of ["deeds", "done"]) (mb : ∀ x ∈ bltns, mg x = none) : Ok P w K mg base 1 "plan_of" ["deeds", "done"] (spPlanOf T) := by
  refine D.ok sc_plan_of (fun vs H Q E h => ?_) (fun cdv f A outer s H vs Q E hr h => ?_)
  · obtain ⟨v, u, ds, ts, rfl, _⟩ := h
    rfl
  · obtain ⟨v, u, ds, ts, rfl, hv, hu, hl, q⟩ := h
    refine ⟨_, (pss_one (ps_ret (pe_tzipU K rfl (by rfl) (mb _ (by decide)) (by rfl) (mb _ (by decide)) (pa_cons (pv 1) (pa_cons (pv 0) pa_nil)) (by rfl)))), ?_⟩
    obtain ⟨a, xs, rfl, ha, hi⟩ := hv.tup'
    obtain ⟨b, ys, rfl, hb, hj⟩ := hu.tup'
    have l1 := hi.len
    have l2 := hj.len
    rw [List.length_map] at l2
    walk_at "rd"
    refine rd_tzip ?_
    walk_at "rd"
    refine ⟨b, a, ys, xs, rfl, SqP.sq hb, SqP.sq ha, by omega, fun H2 as hal hnd hn same got p np => ?_⟩
    have up : ∀ c o, H c = some o → H2 c = some o := fun c o e => by rw [same c fun z => by rw [hn c z] at e; cases e]; exact e
    have e1 : Ext T [] H H2 := .same up
    have hp : (upd H2 p (.tup (as.map V.ref))) p = some (.tup (as.map V.ref)) := upd_same
    have e2 : Ext T [] H2 (upd H2 p (.tup (as.map V.ref))) := .new np
    generalize upd H2 p _ = H3 at hp e2 ⊢
    walk_at "rd"
    refine q _ H3 (e1.trans e2) (.tup hp (imall_gets (by rw [List.length_map, List.length_zipWith]; omega) fun i v d h1 h2 => ?_))
    rw [List.getElem?_map] at h1
    obtain ⟨c, hc, rfl⟩ := Option.map_eq_some_iff.mp h1
    have hil : i < as.length := (List.getElem?_eq_some_iff.mp hc).1
    have hx : xs[i]? = some xs[i] := List.getElem?_eq_getElem (by omega)
    have hy : ys[i]? = some ys[i] := List.getElem?_eq_getElem (by omega)
    obtain ⟨d1, hd1, k1⟩ := hi.get' hx
    obtain ⟨d2, hd2, k2⟩ := hj.get' hy
    rw [List.getElem?_zipWith] at h2
    rw [List.getElem?_map] at hd2
    obtain ⟨t, ht, rfl⟩ := Option.map_eq_some_iff.mp hd2
    rw [ht, hd1] at h2
    cases h2
    have hg := got i c _ _ hc hy hx
    exact ((Im.tup hg (.cons (k2.x e1) (.cons (k1.x e1) .nil))).x e2)
def spCase (T : List (Addr × Str)) : Sp := fun vs H Q _ => ∃ (l t : Addr) (m : Int), vs = [.ref t, .int m] ∧ 0 ≤ m ∧ m ≤ 5 ∧ Tape l H t ∧
  ∀ (p pa : Addr) (v u : V) (R : Rm) (ps : List (Str × List Str)) (s : Sta) (H' : Hp), H' p = some (.tup [v, .ref pa, u]) → RmOk R m → Im H' v (rmD R) → Pools H' t pa ps → PsOk R ps → StAt H' u s → StaOk R s → SrvOk R s → OnR R s → s.on.length ≤ 20 → Ext T [t] H H' → Tape l H' t → Q (.ref p) H'
theorem ok_case (D : Def K mg "_law_case" s_law_case ["tape", "most"]) (G_law_realm : Ok P w K mg base 7 "_law_realm" ["tape", "most"] (spRealm T))
    (G_law_pools : Ok P w K mg base 5 "_law_pools" ["tape", "realm"] (spPools T)) (G_law_start : Ok P w K mg base 6 "_law_start" ["tape", "realm", "pools"] (spStartF T)) (G_law_bent_start : Ok P w K mg base 6 "_law_bent_start" ["tape", "realm", "pools", "state"] (spBent T)) :
    Ok P w K mg base 8 "_law_case" ["tape", "most"] (spCase T) := by
  refine D.ok sc_law_case (fun vs H Q E h => ?_) (fun cdv f A outer s H vs Q E hr h => ?_)
  · obtain ⟨l, t, m, rfl, _⟩ := h
    rfl
  · obtain ⟨l, t, m, rfl, hm0, hm5, hT, q⟩ := h
    refine ⟨_, (pss_cons (ps_set (i := 2) sc_law_case.nd rfl (.inl rfl) (pe_callO G_law_realm (hr.mono (by decide)) (by rfl) (pa_cons (pv 0) (pa_cons (pv 1) pa_nil))))
   (pss_cons (ps_set (i := 3) sc_law_case.nd rfl (.inl rfl) (pe_callO G_law_pools (hr.mono (by decide)) (by rfl) (pa_cons (pv 0) (pa_cons (pv 2) pa_nil))))
   (pss_cons (ps_set (i := 4) sc_law_case.nd rfl (.inl rfl) (pe_callO G_law_start (hr.mono (by decide)) (by rfl) (pa_cons (pv 0) (pa_cons (pv 2) (pa_cons (pv 3) pa_nil)))))
   (pss_cons (ps_set (i := 4) sc_law_case.nd rfl (.inl rfl) (pe_callO G_law_bent_start (hr.mono (by decide)) (by rfl) (pa_cons (pv 0) (pa_cons (pv 2) (pa_cons (pv 3) (pa_cons (pv 4) pa_nil))))))
   (pss_one (ps_ret (pe_tup (pa_cons (pv 2) (pa_cons (pv 3) (pa_cons (pv 4) pa_nil)))))))))), ?_⟩
    walk_at "rdn"
    refine rd_seq ?_
    walk_at "rdn"
    refine ⟨l, t, m, rfl, hm0, hm5, hT, fun v R H1 hRo hF hv e1 T1 => ?_⟩
    have hR := hRo.rin hm5
    walk_at "rdn"
    refine rd_seq ?_
    walk_at "rdn"
    refine ⟨l, t, v, R, rfl, T1, hv, hR, fun pa ps H2 npa hP hps e2 T2 => ?_⟩
    walk_at "rdn"
    refine rd_seq ?_
    walk_at "rdn"
    refine ⟨l, t, pa, v, R, ps, rfl, T2, by walk_at "tr", hR, hP, hps, fun u s H3 hs hsl hsv ho0 hon hu e3 T3 => ?_⟩
    walk_at "rdn"
    refine rd_seq ?_
    walk_at "rdn"
    refine ⟨l, t, pa, v, u, R, ps, s, rfl, T3, by walk_at "tr", hR, by walk_at "tr", hps, hu, hs, by omega, fun u2 s2 H4 hs2 hsl2 hsv2 hon2 hu2 e4 T4 => ?_⟩
    have ho : OnR R s2 := by
      obtain ⟨on0, h1, h2⟩ := ho0
      exact ⟨on0, by rw [hon2]; exact h1, h2⟩
    have hon4 : s2.on.length ≤ 20 := by rw [hon2]; omega
    have hv4 : Im H4 v (rmD R) := by walk_at "tr"
    have hP4 : Pools H4 t pa ps := by walk_at "tr"
    have e04 : Ext T [t] H H4 := by walk_at "tr"
    walk_at "rdn"
    walk_at "al"
    rename_i p H5 _ e5 hp
    exact q p pa v u2 R ps s2 H5 hp hRo (hv4.x e5) (hP4.ext0 e5) hps (hu2.x e5) hs2 (hsv2 hsv) ho hon4 (e04.trans e5.any) (T4.ext e5)
end
theorem bd_sn (b : Bd) : SnK 1 (bdD b) := snk2 (snk_int _) (snk_int _) (by decide)
theorem bs_sn {bs : List Bd} (h : bs.length ≤ 6) : SnK 2 (.tuple (bs.map bdD)) := sn_list (k := 1) (by rw [List.length_map]; omega) (by decide) fun d hd => by
  obtain ⟨b, _, rfl⟩ := List.mem_map.mp hd
  exact bd_sn b
theorem bt_sn {bs : List Bd} (h : bs.length ≤ 6) : SnK 2 (.tuple (bs.map bdD).tail) := sn_list (k := 1) (by rw [List.length_tail, List.length_map]; omega) (by decide) fun d hd => by
  obtain ⟨b, _, rfl⟩ := List.mem_map.mp (List.mem_of_mem_tail hd)
  exact bd_sn b
theorem ba_sn {bs : List Bd} (h : bs.length ≤ 6) {b : Bd} : SnK 2 (.tuple (bs.map bdD ++ [bdD b])) := sn_list (k := 1) (by rw [List.length_append, List.length_map, List.length_singleton]; omega) (by decide) fun d hd => by
  rcases List.mem_append.mp hd with hd | hd
  · obtain ⟨b, _, rfl⟩ := List.mem_map.mp hd
    exact bd_sn b
  · rw [List.mem_singleton.mp hd]
    exact bd_sn _
theorem bb_sn {bs : List Bd} (h : bs.length ≤ 6) {x : PyData} (hx : SnK 2 x) : SnK 3 (.tuple ([x] ++ (bs.map bdD).tail)) := sn_list (k := 2) (by rw [List.length_append, List.length_tail, List.length_map, List.length_singleton]; omega) (by decide) fun d hd => by
  rcases List.mem_append.mp hd with hd | hd
  · rw [List.mem_singleton.mp hd]
    exact hx
  · obtain ⟨b, _, rfl⟩ := List.mem_map.mp (List.mem_of_mem_tail hd)
    exact snk_up (bd_sn b) (by decide)
section
variable {T : List (Addr × Str)} {P : Program} {w : World} {K : PySem.W.Frag} {mg : Str → Option Value} {base : Heap}
local macro_rules | `(tactic| walk_at "tr") => `(tactic| first
  | assumption
  | exact Ext.refl
  | ((with_reducible refine' Im.x (T := T) (H := ?trH) ?tra ?tre); (case tre => assumption); (case tra => walk_at "tr"))
  | ((with_reducible refine' Im.y (T := T) (H := ?trH) ?tra ?tre ?trt); (case tre => assumption); (case trt => walk_at "tr"); (case tra => walk_at "tr"))
  | ((with_reducible refine' ImAll.x (T := T) (H := ?trH) ?tra ?tre); (case tre => assumption); (case tra => walk_at "tr"))
  | ((with_reducible refine' ImAll.y (T := T) (H := ?trH) ?tra ?tre ?trt); (case tre => assumption); (case trt => walk_at "tr"); (case tra => walk_at "tr"))
  | ((with_reducible refine' Ls.x (T := T) (H := ?trH) ?tra ?tre); (case tre => assumption); (case tra => walk_at "tr"))
  | ((with_reducible refine' Ls.y (T := T) (H := ?trH) ?tra ?tre ?trn ?trt); (case tre => assumption); (case trt => walk_at "tr"); (case trn => walk_at "tr"); (case tra => walk_at "tr"))
  | ((with_reducible refine' SqP.x (T := T) (H := ?trH) ?tra ?tre); (case tre => assumption); (case tra => walk_at "tr"))
  | ((with_reducible refine' SqP.y (T := T) (H := ?trH) ?tra ?tre ?trt); (case tre => assumption); (case trt => walk_at "tr"); (case tra => walk_at "tr"))
  | ((with_reducible refine' StAt.x (T := T) (H := ?trH) ?tra ?tre); (case tre => assumption); (case tra => walk_at "tr"))
  | ((with_reducible refine' StAt.y (T := T) (H := ?trH) ?tra ?tre ?trt); (case tre => assumption); (case trt => walk_at "tr"); (case tra => walk_at "tr"))
  | ((with_reducible refine' Pools.ext0 (T := T) (H := ?trH) ?tra ?tre); (case tre => assumption); (case tra => walk_at "tr"))
  | ((with_reducible refine' Pools.ext (T := T) (H := ?trH) ?tra ?tre ?trt); (case tre => assumption); (case trt => walk_at "tr"); (case tra => walk_at "tr"))
  | ((with_reducible refine' CL.x (T := T) (H := ?trH) ?tra ?tre); (case tre => assumption); (case tra => walk_at "tr"))
  | ((with_reducible refine' CL.y (T := T) (H := ?trH) ?tra ?tre); (case tre => assumption); (case tra => walk_at "tr"))
  | ((with_reducible refine' Tape.ext (T := T) (H := ?trH) ?tra ?tre); (case tre => assumption); (case tra => walk_at "tr"))
  | ((with_reducible refine' lst.x (T := T) (H := ?trH) ?tra ?tre); (case tre => assumption); (case tra => walk_at "tr"))
  | ((with_reducible refine' lst.y (T := T) (H := ?trH) ?tra ?tre ?trn); (case tre => assumption); (case trn => walk_at "tr"); (case tra => walk_at "tr"))
  | ((with_reducible refine' tup.x (T := T) (H := ?trH) ?tra ?tre); (case tre => assumption); (case tra => walk_at "tr"))
  | ((with_reducible refine' tup.y (T := T) (H := ?trH) ?tra ?tre ?trt); (case tre => assumption); (case trt => walk_at "tr"); (case tra => walk_at "tr"))
  | ((with_reducible refine' frz.x (T := T) (H := ?trH) ?tra ?tre); (case tre => assumption); (case tra => walk_at "tr"))
  | ((with_reducible refine' frz.y (T := T) (H := ?trH) ?tra ?tre ?trt); (case tre => assumption); (case trt => walk_at "tr"); (case tra => walk_at "tr"))
  | ((with_reducible refine' Im.z (T := T) (H := ?trH) ?tra ?tre ?trt); (case tre => assumption); (case trt => assumption); (case tra => walk_at "tr"))
  | ((with_reducible refine' ImAll.z (T := T) (H := ?trH) ?tra ?tre ?trt); (case tre => assumption); (case trt => assumption); (case tra => walk_at "tr"))
  | ((with_reducible refine' StAt.z (T := T) (H := ?trH) ?tra ?tre ?trt); (case tre => assumption); (case trt => assumption); (case tra => walk_at "tr"))
  | ((with_reducible refine' SqP.z (T := T) (H := ?trH) ?tra ?tre ?trt); (case tre => assumption); (case trt => assumption); (case tra => walk_at "tr"))
  | ((with_reducible refine' tup.z (T := T) (H := ?trH) ?tra ?tre ?trt); (case tre => assumption); (case trt => assumption); (case tra => walk_at "tr"))
  | ((with_reducible refine' Ls.z (T := T) (H := ?trH) ?tra ?tre ?trt ?trn); (case tre => assumption); (case trt => assumption); (case trn => assumption); (case tra => walk_at "tr"))
  | ((with_reducible refine' lst.z (T := T) (H := ?trH) ?tra ?tre ?trn); (case tre => assumption); (case trn => assumption); (case tra => walk_at "tr"))
  | ((with_reducible refine' CL.z (T := T) (H := ?trH) ?tra ?tre ?trn); (case tre => assumption); (case trn => assumption); (case tra => walk_at "tr"))
  | ((with_reducible refine' Tape.ne1 (H := ?trH) ?trt ?trn); (case trn => assumption); (case trt => walk_at "tr"))
  | ((with_reducible refine' Ext.trans (H1 := ?trH) ?tra (Ext.any ?tre)); (case tre => assumption); (case tra => walk_at "tr"))
  | ((with_reducible refine' Ext.trans (H1 := ?trH) ?tra ?tre); (case tre => assumption); (case tra => walk_at "tr"))
  | ((with_reducible refine' Ext.back1 (T := T) (H1 := ?trH) ?tre ?trn ?tra); (case tra => assumption); (case trn => walk_at "tr"); (case tre => walk_at "tr"))
  | ((with_reducible refine' Ext.back0 (T := T) (H1 := ?trH) ?tre ?tra); (case tra => assumption); (case tre => walk_at "tr"))
  | ((with_reducible refine' SqT.of ?tra); (case tra => walk_at "tr"))
  | ((with_reducible refine' SqL.of ?tra); (case tra => walk_at "tr")))
local macro_rules | `(tactic| walk_at "al") => `(tactic| (refine ⟨by first | (show _ ≤ sizeLine; decide) | walk_at "sz", ?_⟩; intro alp aln; generalize alG : upd _ alp _ = alH; obtain ⟨aln2, alx, alh⟩ := al_of (T := T) aln alG; clear alG aln))
local macro_rules | `(tactic| walk_at "al0") => `(tactic| (intro alp aln; generalize alG : upd _ alp _ = alH; obtain ⟨aln2, alx, alh⟩ := al_of (T := T) aln alG; clear alG aln))
theorem rd_catIE {H : Hp} {Q : VK} {u v : V} {ds es : List PyData} (h1 : Im H u (.tuple ds)) (h2 : Im H v (.tuple es)) (n1 : ds ≠ []) (c : ds.length + es.length ≤ 1000) (q : ∀ y H', Ext T [] H H' → Im H' y (.tuple (ds ++ es)) → Q y H') : rPlus K u v H Q := by
  by_cases n2 : es = []
  · subst n2
    have h1' := h1
    obtain ⟨a, xs, rfl, ha, hi⟩ := h1.tup'
    obtain ⟨b, ys, rfl, hb, hj⟩ := h2.tup'
    cases hj
    have hl := hi.len
    have hs : xs ≠ [] := fun e => n1 (by
      rw [e] at hl
      exact List.length_eq_zero_iff.mp hl.symm)
    rw [List.append_nil] at q
    exact .inr (.inr (.inr (.inl ⟨a, b, xs, [], rfl, rfl, SqP.sq ha, SqP.sq hb, hs, Nat.le_trans (show xs.length + 0 ≤ 1000 by simp only [List.length_nil] at c; omega) (by decide), fun _ => q _ H .refl h1', fun h => absurd rfl h⟩)))
  · exact rd_catII (T := T) h1 h2 n1 n2 c q
def spBadBd (T : List (Addr × Str)) : Sp := fun vs H Q _ => ∃ (l t : Addr) (u : V) (bs : List Bd), vs = [.ref t, u] ∧ Tape l H t ∧ Im H u (.tuple (bs.map bdD)) ∧ 1 ≤ bs.length ∧ bs.length ≤ 6 ∧
  ∀ (y : V) (d : PyData) (H' : Hp), boundsB bs.length d = false → SnK 5 d → Im H' y d → Ext T [t] H H' → Tape l H' t → Q y H'
theorem ok_law_bad_bounds (D : Def K mg "_law_bad_bounds" s_law_bad_bounds ["tape", "bounds"]) (G_law_take : Ok P w K mg base 2 "_law_take" ["tape", "many"] (spTake T)) : Ok P w K mg base 3 "_law_bad_bounds" ["tape", "bounds"] (spBadBd T) := by
  refine D.ok sc_law_bad_bounds (fun vs H Q E h => ?_) (fun cdv f A outer s H vs Q E hr h => ?_)
  · obtain ⟨l, t, u, bs, rfl, _⟩ := h
    rfl
  · obtain ⟨l, t, u, bs, rfl, hT, hu, hl1, hl6, q⟩ := h
    refine ⟨_, (pss_cons (ps_set (i := 2) sc_law_bad_bounds.nd rfl (.inl rfl) (pe_op (op_plus K rfl) pe_int (pe_callO G_law_take (hr.mono (by decide)) (by rfl) (pa_cons (pv 0) (pa_cons pe_int pa_nil)))))
   (pss_one (ps_ret (pe_ix (ix_U K rfl) (pe_lst (pa_cons (pe_slice (sl_U2 K rfl) (pv 1) (po_some pe_int) po_none) (pa_cons (pe_op (op_plus K rfl) (pv 1) (pe_tup (pa_cons (pe_tup (pa_cons pe_int (pa_cons pe_int pa_nil))) pa_nil))) (pa_cons (pe_op (op_plus K rfl) (pe_tup (pa_cons (pe_tup (pa_cons (pe_un un_neg pe_int) (pa_cons pe_int pa_nil))) pa_nil)) (pe_slice (sl_U2 K rfl) (pv 1) (po_some pe_int) po_none)) (pa_cons (pe_op (op_plus K rfl) (pe_tup (pa_cons (pe_tup (pa_cons pe_int (pa_cons pe_int pa_nil))) pa_nil)) (pe_slice (sl_U2 K rfl) (pv 1) (po_some pe_int) po_none)) (pa_cons (pe_op (op_plus K rfl) (pe_tup (pa_cons (pe_tup (pa_cons pe_int (pa_cons pe_int pa_nil))) pa_nil)) (pe_slice (sl_U2 K rfl) (pv 1) (po_some pe_int) po_none)) (pa_cons (pe_op (op_plus K rfl) (pe_tup (pa_cons (pe_tup (pa_cons (pv 2) (pa_cons (pe_op op_sub (pv 2) pe_int) pa_nil))) pa_nil)) (pe_slice (sl_U2 K rfl) (pv 1) (po_some pe_int) po_none)) (pa_cons (pe_op (op_plus K rfl) (pe_tup (pa_cons (pe_tup (pa_cons pe_int pa_nil)) pa_nil)) (pe_slice (sl_U2 K rfl) (pv 1) (po_some pe_int) po_none)) (pa_cons (pe_op (op_plus K rfl) (pe_tup (pa_cons (pe_tup (pa_cons pe_int (pa_cons pe_int (pa_cons pe_int pa_nil)))) pa_nil)) (pe_slice (sl_U2 K rfl) (pv 1) (po_some pe_int) po_none)) (pa_cons (pe_op (op_plus K rfl) (pe_tup (pa_cons pe_int pa_nil)) (pe_slice (sl_U2 K rfl) (pv 1) (po_some pe_int) po_none)) (pa_cons (pe_op (op_plus K rfl) (pe_tup (pa_cons (pe_tup (pa_cons pe_int (pa_cons pe_str pa_nil))) pa_nil)) (pe_slice (sl_U2 K rfl) (pv 1) (po_some pe_int) po_none)) (pa_cons pe_int (pa_cons pe_str pa_nil))))))))))))) (pe_callO G_law_take (hr.mono (by decide)) (by rfl) (pa_cons (pv 0) (pa_cons pe_int pa_nil))) (fun _ _ => rfl))))), ?_⟩
    walk_at "rdn"
    refine rd_seq ?_
    walk_at "rd"
    refine ⟨l, t, 40, rfl, by decide, by decide, hT, fun d0 G0 k0 k1 e0 T0 => ?_⟩
    have hbI := hu.y e0 hT
    walk_at "rd"
    have E0 : Ext T [] G0 G0 := .refl
    refine rd_slIm (T := T) (hbI.x E0) fun v1e GE1 z1 h1 => ?_
    rw [cutD_tail] at h1
    have h1 : ∃ d, (boundsB bs.length d = false ∧ SnK 5 d) ∧ Im GE1 v1e d := ⟨_, ⟨bounds_len (by rw [List.length_tail, List.length_map]; omega), snk_up (bt_sn hl6) (by decide)⟩, h1⟩
    have E1 := E0.trans z1
    refine rd_consJ (fun v H' => Ext T [] GE1 H' ∧ ∃ d, (boundsB bs.length d = false ∧ SnK 5 d) ∧ Im H' v d) (fun Q' hQ => ?_) (fun v2e GE2 hh2 => ?_)
    · walk_at "rd"
      walk_at "al"
      rename_i p G1 np y1 g1
      walk_at "rd"
      walk_at "al"
      rename_i p2 G2 np2 y2 g2
      have k1 : Im G2 (.ref p2) (.tuple [bdD (1, 1)]) := .tup g2 (.cons ((Im.new2 (.int 1) (.int 1) g1).x y2) .nil)
      refine rd_catEI (T := T) (((hbI.x E1).x y1).x y2) k1 (by simp) (by simp only [List.length_map, List.length_cons, List.length_nil]; omega) fun v3 G3 y3 j3 => ?_
      walk_at "rd"
      exact hQ _ _ ⟨(y1.trans y2).trans y3, _, ⟨bounds_len (by simp only [List.length_append, List.length_map, List.length_cons, List.length_nil]; omega), snk_up (ba_sn hl6) (by decide)⟩, j3⟩
    obtain ⟨z2, h2⟩ := hh2
    have E2 := E1.trans z2
    refine rd_consJ (fun v H' => Ext T [] GE2 H' ∧ ∃ d, (boundsB bs.length d = false ∧ SnK 5 d) ∧ Im H' v d) (fun Q' hQ => ?_) (fun v3e GE3 hh3 => ?_)
    · walk_at "rd"
      walk_at "al"
      rename_i p G1 np y1 g1
      walk_at "rd"
      walk_at "al"
      rename_i p9 G9 np9 y9 g9
      have k9 : Im G9 (.ref p9) (.tuple [.tuple [.int (-1), .int 3]]) := .tup g9 (.cons ((Im.new2 (.int (-1)) (.int 3) g1).x y9) .nil)
      walk_at "rd"
      refine rd_slIm (T := T) (((hbI.x E2).x y1).x y9) fun v8 G8 y8 j8 => ?_
      rw [cutD_tail] at j8
      refine rd_catIE (T := T) (k9.x y8) j8 (by simp) (by simp only [List.length_tail, List.length_map, List.length_cons, List.length_nil]; omega) fun v7 G7 y7 j7 => ?_
      walk_at "rd"
      exact hQ _ _ ⟨(((y1.trans y9).trans y8).trans y7), _, ⟨bounds_no (x := .tuple [.int (-1), .int 3]) (bd_lo (by omega)) (List.mem_append_left _ (List.mem_singleton.mpr rfl)), snk_up (bb_sn hl6 (snk_up (snk2 (snk_int _) (snk_int _) (by decide)) (by decide))) (by decide)⟩, j7⟩
    obtain ⟨z3, h3⟩ := hh3
    have E3 := E2.trans z3
    refine rd_consJ (fun v H' => Ext T [] GE3 H' ∧ ∃ d, (boundsB bs.length d = false ∧ SnK 5 d) ∧ Im H' v d) (fun Q' hQ => ?_) (fun v4e GE4 hh4 => ?_)
    · walk_at "rd"
      walk_at "al"
      rename_i p G1 np y1 g1
      walk_at "rd"
      walk_at "al"
      rename_i p9 G9 np9 y9 g9
      have k9 : Im G9 (.ref p9) (.tuple [.tuple [.int 3, .int 2]]) := .tup g9 (.cons ((Im.new2 (.int 3) (.int 2) g1).x y9) .nil)
      walk_at "rd"
      refine rd_slIm (T := T) (((hbI.x E3).x y1).x y9) fun v8 G8 y8 j8 => ?_
      rw [cutD_tail] at j8
      refine rd_catIE (T := T) (k9.x y8) j8 (by simp) (by simp only [List.length_tail, List.length_map, List.length_cons, List.length_nil]; omega) fun v7 G7 y7 j7 => ?_
      walk_at "rd"
      exact hQ _ _ ⟨(((y1.trans y9).trans y8).trans y7), _, ⟨bounds_no (x := .tuple [.int 3, .int 2]) (bd_hi (by omega)) (List.mem_append_left _ (List.mem_singleton.mpr rfl)), snk_up (bb_sn hl6 (snk_up (snk2 (snk_int _) (snk_int _) (by decide)) (by decide))) (by decide)⟩, j7⟩
    obtain ⟨z4, h4⟩ := hh4
    have E4 := E3.trans z4
    refine rd_consJ (fun v H' => Ext T [] GE4 H' ∧ ∃ d, (boundsB bs.length d = false ∧ SnK 5 d) ∧ Im H' v d) (fun Q' hQ => ?_) (fun v5e GE5 hh5 => ?_)
    · walk_at "rd"
      walk_at "al"
      rename_i p G1 np y1 g1
      walk_at "rd"
      walk_at "al"
      rename_i p9 G9 np9 y9 g9
      have k9 : Im G9 (.ref p9) (.tuple [.tuple [.int 0, .int 1001]]) := .tup g9 (.cons ((Im.new2 (.int 0) (.int 1001) g1).x y9) .nil)
      walk_at "rd"
      refine rd_slIm (T := T) (((hbI.x E4).x y1).x y9) fun v8 G8 y8 j8 => ?_
      rw [cutD_tail] at j8
      refine rd_catIE (T := T) (k9.x y8) j8 (by simp) (by simp only [List.length_tail, List.length_map, List.length_cons, List.length_nil]; omega) fun v7 G7 y7 j7 => ?_
      walk_at "rd"
      exact hQ _ _ ⟨(((y1.trans y9).trans y8).trans y7), _, ⟨bounds_no (x := .tuple [.int 0, .int 1001]) (bd_hi (by omega)) (List.mem_append_left _ (List.mem_singleton.mpr rfl)), snk_up (bb_sn hl6 (snk_up (snk2 (snk_int _) (snk_int _) (by decide)) (by decide))) (by decide)⟩, j7⟩
    obtain ⟨z5, h5⟩ := hh5
    have E5 := E4.trans z5
    refine rd_consJ (fun v H' => Ext T [] GE5 H' ∧ ∃ d, (boundsB bs.length d = false ∧ SnK 5 d) ∧ Im H' v d) (fun Q' hQ => ?_) (fun v6e GE6 hh6 => ?_)
    · walk_at "rd"
      walk_at "al"
      rename_i p G1 np y1 g1
      walk_at "rd"
      walk_at "al"
      rename_i p9 G9 np9 y9 g9
      have k9 : Im G9 (.ref p9) (.tuple [.tuple [.int (1 + d0), .int (1 + d0 - 1)]]) := .tup g9 (.cons ((Im.new2 (.int (1 + d0)) (.int (1 + d0 - 1)) g1).x y9) .nil)
      walk_at "rd"
      refine rd_slIm (T := T) (((hbI.x E5).x y1).x y9) fun v8 G8 y8 j8 => ?_
      rw [cutD_tail] at j8
      refine rd_catIE (T := T) (k9.x y8) j8 (by simp) (by simp only [List.length_tail, List.length_map, List.length_cons, List.length_nil]; omega) fun v7 G7 y7 j7 => ?_
      walk_at "rd"
      exact hQ _ _ ⟨(((y1.trans y9).trans y8).trans y7), _, ⟨bounds_no (x := .tuple [.int (1 + d0), .int (1 + d0 - 1)]) (bd_hi (by omega)) (List.mem_append_left _ (List.mem_singleton.mpr rfl)), snk_up (bb_sn hl6 (snk_up (snk2 (snk_int _) (snk_int _) (by decide)) (by decide))) (by decide)⟩, j7⟩
    obtain ⟨z6, h6⟩ := hh6
    have E6 := E5.trans z6
    refine rd_consJ (fun v H' => Ext T [] GE6 H' ∧ ∃ d, (boundsB bs.length d = false ∧ SnK 5 d) ∧ Im H' v d) (fun Q' hQ => ?_) (fun v7e GE7 hh7 => ?_)
    · walk_at "rd"
      walk_at "al"
      rename_i p G1 np y1 g1
      walk_at "rd"
      walk_at "al"
      rename_i p9 G9 np9 y9 g9
      have k9 : Im G9 (.ref p9) (.tuple [.tuple [.int 1]]) := .tup g9 (.cons ((Im.tup g1 (.cons (.int 1) .nil)).x y9) .nil)
      walk_at "rd"
      refine rd_slIm (T := T) (((hbI.x E6).x y1).x y9) fun v8 G8 y8 j8 => ?_
      rw [cutD_tail] at j8
      refine rd_catIE (T := T) (k9.x y8) j8 (by simp) (by simp only [List.length_tail, List.length_map, List.length_cons, List.length_nil]; omega) fun v7 G7 y7 j7 => ?_
      walk_at "rd"
      exact hQ _ _ ⟨(((y1.trans y9).trans y8).trans y7), _, ⟨bounds_no (x := .tuple [.int 1]) (boundB_no rfl) (List.mem_append_left _ (List.mem_singleton.mpr rfl)), snk_up (bb_sn hl6 (snk_up (snk1 (snk_int _) (by decide)) (by decide))) (by decide)⟩, j7⟩
    obtain ⟨z7, h7⟩ := hh7
    have E7 := E6.trans z7
    refine rd_consJ (fun v H' => Ext T [] GE7 H' ∧ ∃ d, (boundsB bs.length d = false ∧ SnK 5 d) ∧ Im H' v d) (fun Q' hQ => ?_) (fun v8e GE8 hh8 => ?_)
    · walk_at "rd"
      walk_at "al"
      rename_i p G1 np y1 g1
      walk_at "rd"
      walk_at "al"
      rename_i p9 G9 np9 y9 g9
      have k9 : Im G9 (.ref p9) (.tuple [.tuple [.int 1, .int 2, .int 3]]) := .tup g9 (.cons ((Im.new3 (.int 1) (.int 2) (.int 3) g1).x y9) .nil)
      walk_at "rd"
      refine rd_slIm (T := T) (((hbI.x E7).x y1).x y9) fun v8 G8 y8 j8 => ?_
      rw [cutD_tail] at j8
      refine rd_catIE (T := T) (k9.x y8) j8 (by simp) (by simp only [List.length_tail, List.length_map, List.length_cons, List.length_nil]; omega) fun v7 G7 y7 j7 => ?_
      walk_at "rd"
      exact hQ _ _ ⟨(((y1.trans y9).trans y8).trans y7), _, ⟨bounds_no (x := .tuple [.int 1, .int 2, .int 3]) (boundB_no rfl) (List.mem_append_left _ (List.mem_singleton.mpr rfl)), snk_up (bb_sn hl6 (snk_up (snk3 (snk_int _) (snk_int _) (snk_int _) (by decide)) (by decide))) (by decide)⟩, j7⟩
    obtain ⟨z8, h8⟩ := hh8
    have E8 := E7.trans z8
    refine rd_consJ (fun v H' => Ext T [] GE8 H' ∧ ∃ d, (boundsB bs.length d = false ∧ SnK 5 d) ∧ Im H' v d) (fun Q' hQ => ?_) (fun v9e GE9 hh9 => ?_)
    · walk_at "rd"
      walk_at "al"
      rename_i p9 G9 np9 y9 g9
      have k9 : Im G9 (.ref p9) (.tuple [.int 4]) := .tup g9 (.cons (.int 4) .nil)
      walk_at "rd"
      refine rd_slIm (T := T) ((hbI.x E8).x y9) fun v8 G8 y8 j8 => ?_
      rw [cutD_tail] at j8
      refine rd_catIE (T := T) (k9.x y8) j8 (by simp) (by simp only [List.length_tail, List.length_map, List.length_cons, List.length_nil]; omega) fun v7 G7 y7 j7 => ?_
      walk_at "rd"
      exact hQ _ _ ⟨((y9.trans y8).trans y7), _, ⟨bounds_no (x := .int 4) (boundB_no rfl) (List.mem_append_left _ (List.mem_singleton.mpr rfl)), snk_up (bb_sn hl6 (snk_up (snk_int _) (by decide))) (by decide)⟩, j7⟩
    obtain ⟨z9, h9⟩ := hh9
    have E9 := E8.trans z9
    refine rd_consJ (fun v H' => Ext T [] GE9 H' ∧ ∃ d, (boundsB bs.length d = false ∧ SnK 5 d) ∧ Im H' v d) (fun Q' hQ => ?_) (fun v10e GE10 hh10 => ?_)
    · walk_at "rd"
      walk_at "al"
      rename_i p G1 np y1 g1
      walk_at "rd"
      walk_at "al"
      rename_i p9 G9 np9 y9 g9
      have k9 : Im G9 (.ref p9) (.tuple [.tuple [.int 0, .str (Str.ofString "1")]]) := .tup g9 (.cons ((Im.new2 (.int 0) (.str _ (by decide +kernel)) g1).x y9) .nil)
      walk_at "rd"
      refine rd_slIm (T := T) (((hbI.x E9).x y1).x y9) fun v8 G8 y8 j8 => ?_
      rw [cutD_tail] at j8
      refine rd_catIE (T := T) (k9.x y8) j8 (by simp) (by simp only [List.length_tail, List.length_map, List.length_cons, List.length_nil]; omega) fun v7 G7 y7 j7 => ?_
      walk_at "rd"
      exact hQ _ _ ⟨(((y1.trans y9).trans y8).trans y7), _, ⟨bounds_no (x := .tuple [.int 0, .str (Str.ofString "1")]) (rfl) (List.mem_append_left _ (List.mem_singleton.mpr rfl)), snk_up (bb_sn hl6 (snk_up (snk2 (snk_int _) (snk_str (by decide +kernel)) (by decide)) (by decide))) (by decide)⟩, j7⟩
    obtain ⟨z10, h10⟩ := hh10
    have E10 := E9.trans z10
    refine rd_consJ (fun v H' => Ext T [] GE10 H' ∧ ∃ d, (boundsB bs.length d = false ∧ SnK 5 d) ∧ Im H' v d) (fun Q' hQ => ?_) (fun v11e GE11 hh11 => ?_)
    · walk_at "rd"
      exact hQ _ _ ⟨.refl, _, ⟨rfl, snk_up (snk_int _) (by decide)⟩, .int 3⟩
    obtain ⟨z11, h11⟩ := hh11
    have E11 := E10.trans z11
    refine rd_consJ (fun v H' => Ext T [] GE11 H' ∧ ∃ d, (boundsB bs.length d = false ∧ SnK 5 d) ∧ Im H' v d) (fun Q' hQ => ?_) (fun v12e GE12 hh12 => ?_)
    · walk_at "rd"
      exact hQ _ _ ⟨.refl, _, ⟨rfl, snk_up (snk_str (by decide +kernel)) (by decide)⟩, .str _ (by decide +kernel)⟩
    obtain ⟨z12, h12⟩ := hh12
    have E12 := E11.trans z12
    walk_at "rd"
    walk_at "al"
    rename_i pL GL nL yL gL
    have w12 : Ext T [] GE12 GL := yL
    have w11 := z12.trans w12
    have w10 := z11.trans w11
    have w9 := z10.trans w10
    have w8 := z9.trans w9
    have w7 := z8.trans w8
    have w6 := z7.trans w7
    have w5 := z6.trans w6
    have w4 := z5.trans w5
    have w3 := z4.trans w4
    have w2 := z3.trans w3
    have w1 := z2.trans w2
    have wE := E12.trans yL
    have gx : ∀ {v : V} {H1 H2 : Hp}, (∃ d, (boundsB bs.length d = false ∧ SnK 5 d) ∧ Im H1 v d) → Ext T [] H1 H2 → ∃ d, (boundsB bs.length d = false ∧ SnK 5 d) ∧ Im H2 v d := fun h e => by
      obtain ⟨d, h1, h2⟩ := h
      exact ⟨d, h1, h2.x e⟩
    obtain ⟨ds, hdi, hdg⟩ := gds_of (.cons (gx h1 w1) (.cons (gx h2 w2) (.cons (gx h3 w3) (.cons (gx h4 w4) (.cons (gx h5 w5) (.cons (gx h6 w6) (.cons (gx h7 w7) (.cons (gx h8 w8) (.cons (gx h9 w9) (.cons (gx h10 w10) (.cons (gx h11 w11) (.cons (gx h12 w12) .nil))))))))))))
    have hdl : ds.length = 12 := by rw [← hdi.len]; rfl
    clear w1 w2 w3 w4 w5 w6 w7 w8 w9 w10 w11 w12 z1 z2 z3 z4 z5 z6 z7 z8 z9 z10 z11 z12 h1 h2 h3 h4 h5 h6 h7 h8 h9 h10 h11 h12
    walk_at "rd"
    refine ⟨l, t, 12, rfl, by decide, by decide, T0.ext wE, fun d1 H9 h0 h1 e9 T9 => ?_⟩
    have hLt : pL ≠ t := ((T0.ext E12).ne nL).1
    have hLL : Ls GL pL ds := ⟨_, gL, hdi⟩
    have hat : atI ds d1 = some (ds[d1.toNat]'(by omega)) := by
      obtain ⟨k, rfl⟩ := Int.eq_ofNat_of_zero_le h0
      exact atI_nat (List.getElem?_eq_getElem _)
    refine rd_ixLs (hLL.y e9 hLt (T0.ext wE)) hat fun y0 hy0 => ?_
    have hg := hdg _ (List.getElem_mem (l := ds) (n := d1.toNat) (by omega))
    exact q y0 _ H9 hg.1 hg.2 hy0 ((e0.trans wE.any).trans e9) T9
end
theorem tri_sn {a b c : Int} : SnK 1 (.tuple [.int a, .int b, .int c]) := snk3 (snk_int _) (snk_int _) (snk_int _) (by decide)
theorem q4_sn : SnK 2 (.tuple [.int 1, .int 0, .int 3, .int 4]) := by
  refine ⟨?_, by decide⟩
  exact (sn_tup (k := 0) (ds := [.int 1, .int 0, .int 3, .int 4]) (by decide) (by decide) fun d hd => by
    simp only [List.mem_cons, List.not_mem_nil, or_false] at hd
    rcases hd with rfl | rfl | rfl | rfl <;> exact snk_int _).1
theorem rw_sn {tb : List Rw} {d : PyData} (h : d ∈ tb.map rwD) : SnK 2 d := by
  obtain ⟨b, _, rfl⟩ := List.mem_map.mp h
  exact snk_up tri_sn (by decide)
theorem tb_sn {tb : List Rw} (h : tb.length ≤ 36) : SnK 3 (.tuple (tb.map rwD)) := sn_list (k := 2) (by rw [List.length_map]; omega) (by decide) fun d hd => rw_sn hd
theorem ta_sn {tb : List Rw} (h : tb.length ≤ 36) {x : PyData} (hx : SnK 2 x) : SnK 3 (.tuple (tb.map rwD ++ [x])) := sn_list (k := 2) (by rw [List.length_append, List.length_map, List.length_singleton]; omega) (by decide) fun d hd => by
  rcases List.mem_append.mp hd with hd | hd
  · exact rw_sn hd
  · rw [List.mem_singleton.mp hd]
    exact hx
theorem tp_sn {tb : List Rw} (h : tb.length ≤ 36) {x : PyData} (hx : SnK 2 x) : SnK 3 (.tuple ([x] ++ tb.map rwD)) := sn_list (k := 2) (by rw [List.length_append, List.length_map, List.length_singleton]; omega) (by decide) fun d hd => by
  rcases List.mem_append.mp hd with hd | hd
  · rw [List.mem_singleton.mp hd]
    exact hx
  · exact rw_sn hd
theorem tt_sn {tb : List Rw} (h : tb.length ≤ 36) {x : PyData} (hx : SnK 2 x) : SnK 3 (.tuple ([x] ++ (tb.map rwD).tail)) := sn_list (k := 2) (by rw [List.length_append, List.length_tail, List.length_map, List.length_singleton]; omega) (by decide) fun d hd => by
  rcases List.mem_append.mp hd with hd | hd
  · rw [List.mem_singleton.mp hd]
    exact hx
  · exact rw_sn (List.mem_of_mem_tail hd)
theorem wait_s {n : Int} {z : Str} {a b : Int} : waitB n (.tuple [.int a, .int b, .str z]) = false := by
  show (_ && (_ && intB 1 10000 (.str z))) = false
  rw [show intB 1 10000 (.str z) = false from rfl, Bool.and_false, Bool.and_false]
section
variable {T : List (Addr × Str)} {P : Program} {w : World} {K : PySem.W.Frag} {mg : Str → Option Value} {base : Heap}
local macro_rules | `(tactic| walk_at "tr") => `(tactic| first
  | assumption
  | exact Ext.refl
  | ((with_reducible refine' Im.x (T := T) (H := ?trH) ?tra ?tre); (case tre => assumption); (case tra => walk_at "tr"))
  | ((with_reducible refine' Im.y (T := T) (H := ?trH) ?tra ?tre ?trt); (case tre => assumption); (case trt => walk_at "tr"); (case tra => walk_at "tr"))
  | ((with_reducible refine' ImAll.x (T := T) (H := ?trH) ?tra ?tre); (case tre => assumption); (case tra => walk_at "tr"))
  | ((with_reducible refine' ImAll.y (T := T) (H := ?trH) ?tra ?tre ?trt); (case tre => assumption); (case trt => walk_at "tr"); (case tra => walk_at "tr"))
  | ((with_reducible refine' Ls.x (T := T) (H := ?trH) ?tra ?tre); (case tre => assumption); (case tra => walk_at "tr"))
  | ((with_reducible refine' Ls.y (T := T) (H := ?trH) ?tra ?tre ?trn ?trt); (case tre => assumption); (case trt => walk_at "tr"); (case trn => walk_at "tr"); (case tra => walk_at "tr"))
  | ((with_reducible refine' SqP.x (T := T) (H := ?trH) ?tra ?tre); (case tre => assumption); (case tra => walk_at "tr"))
  | ((with_reducible refine' SqP.y (T := T) (H := ?trH) ?tra ?tre ?trt); (case tre => assumption); (case trt => walk_at "tr"); (case tra => walk_at "tr"))
  | ((with_reducible refine' StAt.x (T := T) (H := ?trH) ?tra ?tre); (case tre => assumption); (case tra => walk_at "tr"))
  | ((with_reducible refine' StAt.y (T := T) (H := ?trH) ?tra ?tre ?trt); (case tre => assumption); (case trt => walk_at "tr"); (case tra => walk_at "tr"))
  | ((with_reducible refine' Pools.ext0 (T := T) (H := ?trH) ?tra ?tre); (case tre => assumption); (case tra => walk_at "tr"))
  | ((with_reducible refine' Pools.ext (T := T) (H := ?trH) ?tra ?tre ?trt); (case tre => assumption); (case trt => walk_at "tr"); (case tra => walk_at "tr"))
  | ((with_reducible refine' CL.x (T := T) (H := ?trH) ?tra ?tre); (case tre => assumption); (case tra => walk_at "tr"))
  | ((with_reducible refine' CL.y (T := T) (H := ?trH) ?tra ?tre); (case tre => assumption); (case tra => walk_at "tr"))
  | ((with_reducible refine' Tape.ext (T := T) (H := ?trH) ?tra ?tre); (case tre => assumption); (case tra => walk_at "tr"))
  | ((with_reducible refine' lst.x (T := T) (H := ?trH) ?tra ?tre); (case tre => assumption); (case tra => walk_at "tr"))
  | ((with_reducible refine' lst.y (T := T) (H := ?trH) ?tra ?tre ?trn); (case tre => assumption); (case trn => walk_at "tr"); (case tra => walk_at "tr"))
  | ((with_reducible refine' tup.x (T := T) (H := ?trH) ?tra ?tre); (case tre => assumption); (case tra => walk_at "tr"))
  | ((with_reducible refine' tup.y (T := T) (H := ?trH) ?tra ?tre ?trt); (case tre => assumption); (case trt => walk_at "tr"); (case tra => walk_at "tr"))
  | ((with_reducible refine' frz.x (T := T) (H := ?trH) ?tra ?tre); (case tre => assumption); (case tra => walk_at "tr"))
  | ((with_reducible refine' frz.y (T := T) (H := ?trH) ?tra ?tre ?trt); (case tre => assumption); (case trt => walk_at "tr"); (case tra => walk_at "tr"))
  | ((with_reducible refine' Im.z (T := T) (H := ?trH) ?tra ?tre ?trt); (case tre => assumption); (case trt => assumption); (case tra => walk_at "tr"))
  | ((with_reducible refine' ImAll.z (T := T) (H := ?trH) ?tra ?tre ?trt); (case tre => assumption); (case trt => assumption); (case tra => walk_at "tr"))
  | ((with_reducible refine' StAt.z (T := T) (H := ?trH) ?tra ?tre ?trt); (case tre => assumption); (case trt => assumption); (case tra => walk_at "tr"))
  | ((with_reducible refine' SqP.z (T := T) (H := ?trH) ?tra ?tre ?trt); (case tre => assumption); (case trt => assumption); (case tra => walk_at "tr"))
  | ((with_reducible refine' tup.z (T := T) (H := ?trH) ?tra ?tre ?trt); (case tre => assumption); (case trt => assumption); (case tra => walk_at "tr"))
  | ((with_reducible refine' Ls.z (T := T) (H := ?trH) ?tra ?tre ?trt ?trn); (case tre => assumption); (case trt => assumption); (case trn => assumption); (case tra => walk_at "tr"))
  | ((with_reducible refine' lst.z (T := T) (H := ?trH) ?tra ?tre ?trn); (case tre => assumption); (case trn => assumption); (case tra => walk_at "tr"))
  | ((with_reducible refine' CL.z (T := T) (H := ?trH) ?tra ?tre ?trn); (case tre => assumption); (case trn => assumption); (case tra => walk_at "tr"))
  | ((with_reducible refine' Tape.ne1 (H := ?trH) ?trt ?trn); (case trn => assumption); (case trt => walk_at "tr"))
  | ((with_reducible refine' Ext.trans (H1 := ?trH) ?tra (Ext.any ?tre)); (case tre => assumption); (case tra => walk_at "tr"))
  | ((with_reducible refine' Ext.trans (H1 := ?trH) ?tra ?tre); (case tre => assumption); (case tra => walk_at "tr"))
  | ((with_reducible refine' Ext.back1 (T := T) (H1 := ?trH) ?tre ?trn ?tra); (case tra => assumption); (case trn => walk_at "tr"); (case tre => walk_at "tr"))
  | ((with_reducible refine' Ext.back0 (T := T) (H1 := ?trH) ?tre ?tra); (case tra => assumption); (case tre => walk_at "tr"))
  | ((with_reducible refine' SqT.of ?tra); (case tra => walk_at "tr"))
  | ((with_reducible refine' SqL.of ?tra); (case tra => walk_at "tr")))
local macro_rules | `(tactic| walk_at "al") => `(tactic| (refine ⟨by first | (show _ ≤ sizeLine; decide) | walk_at "sz", ?_⟩; intro alp aln; generalize alG : upd _ alp _ = alH; obtain ⟨aln2, alx, alh⟩ := al_of (T := T) aln alG; clear alG aln))
local macro_rules | `(tactic| walk_at "al0") => `(tactic| (intro alp aln; generalize alG : upd _ alp _ = alH; obtain ⟨aln2, alx, alh⟩ := al_of (T := T) aln alG; clear alG aln))
def spBadTb (T : List (Addr × Str)) : Sp := fun vs H Q _ => ∃ (l t : Addr) (u : V) (many : Nat) (tb : List Rw), vs = [.ref t, .int (many : Int), u] ∧ Tape l H t ∧ Im H u (.tuple (tb.map rwD)) ∧ 1 ≤ many ∧ many ≤ 6 ∧ tb.length ≤ 36 ∧
  ∀ (y : V) (d : PyData) (H' : Hp), tableB many d = false → SnK 5 d → Im H' y d → Ext T [t] H H' → Tape l H' t → Q y H'
theorem ok_law_bad_table (D : Def K mg "_law_bad_table" s_law_bad_table ["tape", "many", "table"]) (mb : ∀ x ∈ bltns, mg x = none) (G_law_take : Ok P w K mg base 2 "_law_take" ["tape", "many"] (spTake T)) : Ok P w K mg base 3 "_law_bad_table" ["tape", "many", "table"] (spBadTb T) := by
  refine D.ok sc_law_bad_table (fun vs H Q E h => ?_) (fun cdv f A outer s H vs Q E hr h => ?_)
  · obtain ⟨l, t, u, many, tb, rfl, _⟩ := h
    rfl
  · obtain ⟨l, t, u, many, tb, rfl, hT, hu, hm1, hm6, hl36, q⟩ := h
    refine ⟨_, (pss_cons (ps_set (i := 3) sc_law_bad_table.nd rfl (.inl rfl) (pe_op (op_plus K rfl) pe_int (pe_callO G_law_take (hr.mono (by decide)) (by rfl) (pa_cons (pv 0) (pa_cons pe_int pa_nil)))))
   (pss_cons (ps_set (i := 4) sc_law_bad_table.nd rfl (.inl rfl) (pe_lst (pa_cons (pe_op (op_plus K rfl) (pv 2) (pe_tup (pa_cons (pe_tup (pa_cons (pe_op (op_plus K rfl) (pv 1) pe_int) (pa_cons pe_int (pa_cons pe_int pa_nil)))) pa_nil))) (pa_cons (pe_op (op_plus K rfl) (pv 2) (pe_tup (pa_cons (pe_tup (pa_cons (pv 1) (pa_cons (pv 1) (pa_cons pe_int pa_nil)))) pa_nil))) (pa_cons (pe_op (op_plus K rfl) (pv 2) (pe_tup (pa_cons (pe_tup (pa_cons (pv 1) (pa_cons pe_int pa_nil))) pa_nil))) (pa_cons (pe_op (op_plus K rfl) (pv 2) (pe_tup (pa_cons pe_int pa_nil))) (pa_cons (pe_op (op_plus K rfl) (pe_tup (pa_cons (pe_tup (pa_cons pe_int (pa_cons pe_int (pa_cons pe_int pa_nil)))) pa_nil)) (pv 2)) (pa_cons (pe_op (op_plus K rfl) (pe_tup (pa_cons (pe_tup (pa_cons pe_int (pa_cons pe_int (pa_cons pe_int pa_nil)))) pa_nil)) (pe_slice (sl_U2 K rfl) (pv 2) (po_some pe_int) po_none)) (pa_cons (pe_tup (pa_cons (pe_tup (pa_cons pe_int (pa_cons pe_int (pa_cons (pe_un un_neg (pv 3)) pa_nil)))) pa_nil)) (pa_cons (pe_tup (pa_cons (pe_tup (pa_cons pe_int (pa_cons pe_int (pa_cons pe_int pa_nil)))) pa_nil)) (pa_cons (pe_tup (pa_cons (pe_tup (pa_cons pe_int (pa_cons (pe_un un_neg pe_int) (pa_cons pe_int pa_nil)))) pa_nil)) (pa_cons (pe_tup (pa_cons (pe_tup (pa_cons pe_int (pa_cons pe_int (pa_cons pe_str pa_nil)))) pa_nil)) (pa_cons (pe_tup (pa_cons (pe_tup (pa_cons pe_int (pa_cons pe_int (pa_cons pe_int pa_nil)))) (pa_cons (pe_tup (pa_cons pe_int (pa_cons pe_int (pa_cons pe_int pa_nil)))) pa_nil))) (pa_cons (pe_tup (pa_cons (pe_tup (pa_cons pe_int (pa_cons pe_int (pa_cons pe_int pa_nil)))) (pa_cons (pe_tup (pa_cons pe_int (pa_cons pe_int (pa_cons pe_int pa_nil)))) pa_nil))) (pa_cons pe_int (pa_cons pe_str (pa_cons (pe_tup (pa_cons (pe_tup (pa_cons pe_int (pa_cons pe_int (pa_cons pe_int (pa_cons pe_int pa_nil))))) pa_nil)) pa_nil)))))))))))))))))
   (pss_cons (ps_if (pt_cmpR op_gt (pv 1) pe_int (nomark _)) (pss_one (ps_set (i := 4) sc_law_bad_table.nd rfl (.inl rfl) (pe_op (op_plus K rfl) (pv 4) (pe_lst (pa_cons (pe_tup (pa_cons (pe_tup (pa_cons pe_int (pa_cons pe_int (pa_cons pe_int pa_nil)))) (pa_cons (pe_tup (pa_cons pe_int (pa_cons pe_int (pa_cons pe_int pa_nil)))) pa_nil))) (pa_cons (pe_tup (pa_cons (pe_tup (pa_cons pe_int (pa_cons pe_int (pa_cons pe_int pa_nil)))) (pa_cons (pe_tup (pa_cons pe_int (pa_cons pe_int (pa_cons pe_int pa_nil)))) pa_nil))) (pa_cons (pe_tup (pa_cons (pe_tup (pa_cons pe_int (pa_cons pe_int (pa_cons pe_int pa_nil)))) pa_nil)) (pa_cons (pe_tup (pa_cons (pe_tup (pa_cons pe_int (pa_cons pe_int (pa_cons pe_int pa_nil)))) pa_nil)) pa_nil)))))))) pss_nil)
   (pss_one (ps_ret (pe_ix (ix_U K rfl) (pv 4) (pe_callO G_law_take (hr.mono (by decide)) (by rfl) (pa_cons (pv 0) (pa_cons (pe_callB (call_lenU K rfl) (by rfl) (mb _ (by decide)) (by decide +kernel) (pa_cons (pv 4) pa_nil)) pa_nil))) (fun _ _ => rfl))))))), ?_⟩
    have gx : ∀ {v : V} {H1 H2 : Hp}, (∃ d, (tableB many d = false ∧ SnK 5 d) ∧ Im H1 v d) → Ext T [] H1 H2 → ∃ d, (tableB many d = false ∧ SnK 5 d) ∧ Im H2 v d := fun h e => by
      obtain ⟨d, h1, h2⟩ := h
      exact ⟨d, h1, h2.x e⟩
    walk_at "rdn"
    refine rd_seqK (fun σ H' => Ext T [t] H H' ∧ Tape l H' t ∧ ∃ d0 : Int, 0 ≤ d0 ∧ σ = [some (.ref t), some (.int (many : Int)), some u, some (.int (1 + d0)), none]) (fun N hN => ?_) (fun σ G0 h => ?_)
    · walk_at "rd"
      refine ⟨l, t, 40, rfl, by decide, by decide, hT, fun d0 G0 k0 k1 e0 T0 => ?_⟩
      walk_at "rd"
      exact hN _ _ ⟨e0, T0, d0, k0, rfl⟩
    obtain ⟨e0, T0, d0, k0, rfl⟩ := h
    have htI := hu.y e0 hT
    walk_at "rdn"
    refine rd_seqK (fun σ H' => Ext T [] G0 H' ∧ ∃ (p : Addr) (ds : List PyData), σ = [some (.ref t), some (.int (many : Int)), some u, some (.int (1 + d0)), some (.ref p)] ∧ p ≠ t ∧ Ls H' p ds ∧ ds.length = 15 ∧ ∀ d ∈ ds, tableB many d = false ∧ SnK 5 d) (fun N hN => ?_) (fun σ G1 h => ?_)
    · have E0 : Ext T [] G0 G0 := .refl
      walk_at "rd"
      walk_at "al"
      rename_i p G1 np y1 g1
      walk_at "rd"
      walk_at "al"
      rename_i p9 G9 np9 y9 g9
      have k9 : Im G9 (.ref p9) (.tuple [.tuple [.int ((many : Int) + 1), .int 0, .int 3]]) := .tup g9 (.cons ((Im.new3 (.int ((many : Int) + 1)) (.int 0) (.int 3) g1).x y9) .nil)
      refine rd_catEI (T := T) (((htI.x E0).x y1).x y9) k9 (by simp) (by simp only [List.length_map, List.length_cons, List.length_nil]; omega) fun v1e GE1 y7 j7 => ?_
      have z1 := ((y1.trans y9).trans y7)
      have h1 : ∃ d, (tableB many d = false ∧ SnK 5 d) ∧ Im GE1 v1e d := ⟨_, ⟨table_no (x := .tuple [.int ((many : Int) + 1), .int 0, .int 3]) (wait_k (by omega)) (List.mem_append_right _ (List.mem_singleton.mpr rfl)), snk_up (ta_sn hl36 (snk_up tri_sn (by decide))) (by decide)⟩, j7⟩
      have E1 := E0.trans z1
      refine rd_consJ (fun v H' => Ext T [] GE1 H' ∧ ∃ d, (tableB many d = false ∧ SnK 5 d) ∧ Im H' v d) (fun Q' hQ => ?_) (fun v2e GE2 hh2 => ?_)
      · walk_at "rd"
        walk_at "al"
        rename_i p G1 np y1 g1
        walk_at "rd"
        walk_at "al"
        rename_i p9 G9 np9 y9 g9
        have k9 : Im G9 (.ref p9) (.tuple [.tuple [.int (many : Int), .int (many : Int), .int 2]]) := .tup g9 (.cons ((Im.new3 (.int (many : Int)) (.int (many : Int)) (.int 2) g1).x y9) .nil)
        refine rd_catEI (T := T) (((htI.x E1).x y1).x y9) k9 (by simp) (by simp only [List.length_map, List.length_cons, List.length_nil]; omega) fun v7 G7 y7 j7 => ?_
        walk_at "rd"
        exact hQ _ _ ⟨((y1.trans y9).trans y7), _, ⟨table_no (x := .tuple [.int (many : Int), .int (many : Int), .int 2]) (wait_j (by omega)) (List.mem_append_right _ (List.mem_singleton.mpr rfl)), snk_up (ta_sn hl36 (snk_up tri_sn (by decide))) (by decide)⟩, j7⟩
      obtain ⟨z2, h2⟩ := hh2
      have E2 := E1.trans z2
      refine rd_consJ (fun v H' => Ext T [] GE2 H' ∧ ∃ d, (tableB many d = false ∧ SnK 5 d) ∧ Im H' v d) (fun Q' hQ => ?_) (fun v3e GE3 hh3 => ?_)
      · walk_at "rd"
        walk_at "al"
        rename_i p G1 np y1 g1
        walk_at "rd"
        walk_at "al"
        rename_i p9 G9 np9 y9 g9
        have k9 : Im G9 (.ref p9) (.tuple [.tuple [.int (many : Int), .int 0]]) := .tup g9 (.cons ((Im.new2 (.int (many : Int)) (.int 0) g1).x y9) .nil)
        refine rd_catEI (T := T) (((htI.x E2).x y1).x y9) k9 (by simp) (by simp only [List.length_map, List.length_cons, List.length_nil]; omega) fun v7 G7 y7 j7 => ?_
        walk_at "rd"
        exact hQ _ _ ⟨((y1.trans y9).trans y7), _, ⟨table_no (x := .tuple [.int (many : Int), .int 0]) (waitB_no rfl) (List.mem_append_right _ (List.mem_singleton.mpr rfl)), snk_up (ta_sn hl36 (snk_up (snk2 (snk_int _) (snk_int _) (by decide)) (by decide))) (by decide)⟩, j7⟩
      obtain ⟨z3, h3⟩ := hh3
      have E3 := E2.trans z3
      refine rd_consJ (fun v H' => Ext T [] GE3 H' ∧ ∃ d, (tableB many d = false ∧ SnK 5 d) ∧ Im H' v d) (fun Q' hQ => ?_) (fun v4e GE4 hh4 => ?_)
      · walk_at "rd"
        walk_at "al"
        rename_i p9 G9 np9 y9 g9
        have k9 : Im G9 (.ref p9) (.tuple [.int 5]) := .tup g9 (.cons (.int 5) .nil)
        refine rd_catEI (T := T) ((htI.x E3).x y9) k9 (by simp) (by simp only [List.length_map, List.length_cons, List.length_nil]; omega) fun v7 G7 y7 j7 => ?_
        walk_at "rd"
        exact hQ _ _ ⟨(y9.trans y7), _, ⟨table_no (x := .int 5) (waitB_no rfl) (List.mem_append_right _ (List.mem_singleton.mpr rfl)), snk_up (ta_sn hl36 (snk_up (snk_int _) (by decide))) (by decide)⟩, j7⟩
      obtain ⟨z4, h4⟩ := hh4
      have E4 := E3.trans z4
      refine rd_consJ (fun v H' => Ext T [] GE4 H' ∧ ∃ d, (tableB many d = false ∧ SnK 5 d) ∧ Im H' v d) (fun Q' hQ => ?_) (fun v5e GE5 hh5 => ?_)
      · walk_at "rd"
        walk_at "al"
        rename_i p G1 np y1 g1
        walk_at "rd"
        walk_at "al"
        rename_i p9 G9 np9 y9 g9
        have k9 : Im G9 (.ref p9) (.tuple [.tuple [.int 0, .int 0, .int 1]]) := .tup g9 (.cons ((Im.new3 (.int 0) (.int 0) (.int 1) g1).x y9) .nil)
        walk_at "rd"
        refine rd_catIE (T := T) k9 (((htI.x E4).x y1).x y9) (by simp) (by simp only [List.length_map, List.length_cons, List.length_nil]; omega) fun v7 G7 y7 j7 => ?_
        walk_at "rd"
        exact hQ _ _ ⟨((y1.trans y9).trans y7), _, ⟨table_no (x := .tuple [.int 0, .int 0, .int 1]) (wait_k (by omega)) (List.mem_append_left _ (List.mem_singleton.mpr rfl)), snk_up (tp_sn hl36 (snk_up tri_sn (by decide))) (by decide)⟩, j7⟩
      obtain ⟨z5, h5⟩ := hh5
      have E5 := E4.trans z5
      refine rd_consJ (fun v H' => Ext T [] GE5 H' ∧ ∃ d, (tableB many d = false ∧ SnK 5 d) ∧ Im H' v d) (fun Q' hQ => ?_) (fun v6e GE6 hh6 => ?_)
      · walk_at "rd"
        walk_at "al"
        rename_i p G1 np y1 g1
        walk_at "rd"
        walk_at "al"
        rename_i p9 G9 np9 y9 g9
        have k9 : Im G9 (.ref p9) (.tuple [.tuple [.int 1, .int 0, .int 0]]) := .tup g9 (.cons ((Im.new3 (.int 1) (.int 0) (.int 0) g1).x y9) .nil)
        walk_at "rd"
        refine rd_slIm (T := T) (((htI.x E5).x y1).x y9) fun v8 G8 y8 j8 => ?_
        rw [cutD_tail] at j8
        refine rd_catIE (T := T) (k9.x y8) j8 (by simp) (by simp only [List.length_tail, List.length_map, List.length_cons, List.length_nil]; omega) fun v7 G7 y7 j7 => ?_
        walk_at "rd"
        exact hQ _ _ ⟨(((y1.trans y9).trans y8).trans y7), _, ⟨table_no (x := .tuple [.int 1, .int 0, .int 0]) (wait_w (by omega)) (List.mem_append_left _ (List.mem_singleton.mpr rfl)), snk_up (tt_sn hl36 (snk_up tri_sn (by decide))) (by decide)⟩, j7⟩
      obtain ⟨z6, h6⟩ := hh6
      have E6 := E5.trans z6
      refine rd_consJ (fun v H' => Ext T [] GE6 H' ∧ ∃ d, (tableB many d = false ∧ SnK 5 d) ∧ Im H' v d) (fun Q' hQ => ?_) (fun v7e GE7 hh7 => ?_)
      · walk_at "rd"
        walk_at "al"
        rename_i p G1 np y1 g1
        walk_at "rd"
        walk_at "al"
        rename_i p9 G9 np9 y9 g9
        walk_at "rd"
        exact hQ _ _ ⟨(y1.trans y9), _, ⟨table_no (x := .tuple [.int 1, .int 0, .int (-(1 + d0))]) (wait_w (by omega)) (List.mem_singleton.mpr rfl), snk_up (snk1 (k := 2) (snk_up tri_sn (by decide)) (by decide)) (by decide)⟩, (.tup g9 (.cons ((Im.new3 (.int 1) (.int 0) (.int (-(1 + d0))) g1).x y9) .nil))⟩
      obtain ⟨z7, h7⟩ := hh7
      have E7 := E6.trans z7
      refine rd_consJ (fun v H' => Ext T [] GE7 H' ∧ ∃ d, (tableB many d = false ∧ SnK 5 d) ∧ Im H' v d) (fun Q' hQ => ?_) (fun v8e GE8 hh8 => ?_)
      · walk_at "rd"
        walk_at "al"
        rename_i p G1 np y1 g1
        walk_at "rd"
        walk_at "al"
        rename_i p9 G9 np9 y9 g9
        walk_at "rd"
        exact hQ _ _ ⟨(y1.trans y9), _, ⟨table_no (x := .tuple [.int 1, .int 0, .int 10001]) (wait_w (by omega)) (List.mem_singleton.mpr rfl), snk_up (snk1 (k := 2) (snk_up tri_sn (by decide)) (by decide)) (by decide)⟩, (.tup g9 (.cons ((Im.new3 (.int 1) (.int 0) (.int 10001) g1).x y9) .nil))⟩
      obtain ⟨z8, h8⟩ := hh8
      have E8 := E7.trans z8
      refine rd_consJ (fun v H' => Ext T [] GE8 H' ∧ ∃ d, (tableB many d = false ∧ SnK 5 d) ∧ Im H' v d) (fun Q' hQ => ?_) (fun v9e GE9 hh9 => ?_)
      · walk_at "rd"
        walk_at "al"
        rename_i p G1 np y1 g1
        walk_at "rd"
        walk_at "al"
        rename_i p9 G9 np9 y9 g9
        walk_at "rd"
        exact hQ _ _ ⟨(y1.trans y9), _, ⟨table_no (x := .tuple [.int 1, .int (-1), .int 4]) (wait_j (by omega)) (List.mem_singleton.mpr rfl), snk_up (snk1 (k := 2) (snk_up tri_sn (by decide)) (by decide)) (by decide)⟩, (.tup g9 (.cons ((Im.new3 (.int 1) (.int (-1)) (.int 4) g1).x y9) .nil))⟩
      obtain ⟨z9, h9⟩ := hh9
      have E9 := E8.trans z9
      refine rd_consJ (fun v H' => Ext T [] GE9 H' ∧ ∃ d, (tableB many d = false ∧ SnK 5 d) ∧ Im H' v d) (fun Q' hQ => ?_) (fun v10e GE10 hh10 => ?_)
      · walk_at "rd"
        walk_at "al"
        rename_i p G1 np y1 g1
        walk_at "rd"
        walk_at "al"
        rename_i p9 G9 np9 y9 g9
        walk_at "rd"
        exact hQ _ _ ⟨(y1.trans y9), _, ⟨table_no (x := .tuple [.int 1, .int 0, .str (Str.ofString "3")]) (wait_s) (List.mem_singleton.mpr rfl), snk_up (snk1 (k := 2) (snk_up (snk3 (snk_int _) (snk_int _) (snk_str (by decide +kernel)) (by decide)) (by decide)) (by decide)) (by decide)⟩, (.tup g9 (.cons ((Im.new3 (.int 1) (.int 0) (.str _ (by decide +kernel)) g1).x y9) .nil))⟩
      obtain ⟨z10, h10⟩ := hh10
      have E10 := E9.trans z10
      refine rd_consJ (fun v H' => Ext T [] GE10 H' ∧ ∃ d, (tableB many d = false ∧ SnK 5 d) ∧ Im H' v d) (fun Q' hQ => ?_) (fun v11e GE11 hh11 => ?_)
      · walk_at "rd"
        walk_at "al"
        rename_i p G1 np y1 g1
        walk_at "rd"
        walk_at "al"
        rename_i p2 G2 np2 y2 g2
        walk_at "rd"
        walk_at "al"
        rename_i p9 G9 np9 y9 g9
        walk_at "rd"
        exact hQ _ _ ⟨((y1.trans y2).trans y9), _, ⟨table_asc (by decide +kernel), snk_up (snk2 tri_sn tri_sn (by decide)) (by decide)⟩, (.tup g9 (.cons (((Im.new3 (.int 1) (.int 0) (.int 4) g1).x y2).x y9) (.cons ((Im.new3 (.int 1) (.int 0) (.int 4) g2).x y9) .nil)))⟩
      obtain ⟨z11, h11⟩ := hh11
      have E11 := E10.trans z11
      refine rd_consJ (fun v H' => Ext T [] GE11 H' ∧ ∃ d, (tableB many d = false ∧ SnK 5 d) ∧ Im H' v d) (fun Q' hQ => ?_) (fun v12e GE12 hh12 => ?_)
      · walk_at "rd"
        walk_at "al"
        rename_i p G1 np y1 g1
        walk_at "rd"
        walk_at "al"
        rename_i p2 G2 np2 y2 g2
        walk_at "rd"
        walk_at "al"
        rename_i p9 G9 np9 y9 g9
        walk_at "rd"
        exact hQ _ _ ⟨((y1.trans y2).trans y9), _, ⟨table_asc (by decide +kernel), snk_up (snk2 tri_sn tri_sn (by decide)) (by decide)⟩, (.tup g9 (.cons (((Im.new3 (.int 1) (.int 0) (.int 4) g1).x y2).x y9) (.cons ((Im.new3 (.int 1) (.int 0) (.int 5) g2).x y9) .nil)))⟩
      obtain ⟨z12, h12⟩ := hh12
      have E12 := E11.trans z12
      refine rd_consJ (fun v H' => Ext T [] GE12 H' ∧ ∃ d, (tableB many d = false ∧ SnK 5 d) ∧ Im H' v d) (fun Q' hQ => ?_) (fun v13e GE13 hh13 => ?_)
      · walk_at "rd"
        exact hQ _ _ ⟨.refl, _, ⟨rfl, snk_up (snk_int _) (by decide)⟩, .int 7⟩
      obtain ⟨z13, h13⟩ := hh13
      have E13 := E12.trans z13
      refine rd_consJ (fun v H' => Ext T [] GE13 H' ∧ ∃ d, (tableB many d = false ∧ SnK 5 d) ∧ Im H' v d) (fun Q' hQ => ?_) (fun v14e GE14 hh14 => ?_)
      · walk_at "rd"
        exact hQ _ _ ⟨.refl, _, ⟨rfl, snk_up (snk_str (by decide +kernel)) (by decide)⟩, .str _ (by decide +kernel)⟩
      obtain ⟨z14, h14⟩ := hh14
      have E14 := E13.trans z14
      refine rd_consJ (fun v H' => Ext T [] GE14 H' ∧ ∃ d, (tableB many d = false ∧ SnK 5 d) ∧ Im H' v d) (fun Q' hQ => ?_) (fun v15e GE15 hh15 => ?_)
      · walk_at "rd"
        walk_at "al"
        rename_i p G1 np y1 g1
        walk_at "rd"
        walk_at "al"
        rename_i p9 G9 np9 y9 g9
        walk_at "rd"
        exact hQ _ _ ⟨(y1.trans y9), _, ⟨table_no (x := .tuple [.int 1, .int 0, .int 3, .int 4]) (waitB_no rfl) (List.mem_singleton.mpr rfl), snk_up (snk1 (k := 2) q4_sn (by decide)) (by decide)⟩, (.tup g9 (.cons ((Im.tup g1 (.cons (.int 1) (.cons (.int 0) (.cons (.int 3) (.cons (.int 4) .nil))))).x y9) .nil))⟩
      obtain ⟨z15, h15⟩ := hh15
      have E15 := E14.trans z15
      walk_at "rd"
      walk_at "al"
      rename_i pL GL nL yL gL
      have w15 : Ext T [] GE15 GL := yL
      have w14 := z15.trans w15
      have w13 := z14.trans w14
      have w12 := z13.trans w13
      have w11 := z12.trans w12
      have w10 := z11.trans w11
      have w9 := z10.trans w10
      have w8 := z9.trans w9
      have w7 := z8.trans w8
      have w6 := z7.trans w7
      have w5 := z6.trans w6
      have w4 := z5.trans w5
      have w3 := z4.trans w4
      have w2 := z3.trans w3
      have w1 := z2.trans w2
      have wE := E15.trans yL
      obtain ⟨ds, hdi, hdg⟩ := gds_of (.cons (gx h1 w1) (.cons (gx h2 w2) (.cons (gx h3 w3) (.cons (gx h4 w4) (.cons (gx h5 w5) (.cons (gx h6 w6) (.cons (gx h7 w7) (.cons (gx h8 w8) (.cons (gx h9 w9) (.cons (gx h10 w10) (.cons (gx h11 w11) (.cons (gx h12 w12) (.cons (gx h13 w13) (.cons (gx h14 w14) (.cons (gx h15 w15) .nil)))))))))))))))
      have hdl : ds.length = 15 := by rw [← hdi.len]; rfl
      clear w1 w2 w3 w4 w5 w6 w7 w8 w9 w10 w11 w12 w13 w14 w15 z1 z2 z3 z4 z5 z6 z7 z8 z9 z10 z11 z12 z13 z14 z15 h1 h2 h3 h4 h5 h6 h7 h8 h9 h10 h11 h12 h13 h14 h15
      walk_at "rd"
      exact hN _ _ ⟨wE, pL, ds, rfl, ((T0.ext E15).ne nL).1, ⟨_, gL, hdi⟩, hdl, hdg⟩
    obtain ⟨e1, p, ds, rfl, hpt, hp, hdl, hdg⟩ := h
    have T1 := T0.ext e1
    clear htI hu
    walk_at "rdn"
    refine rd_seqK (fun σ H' => Ext T [] G1 H' ∧ ∃ (p : Addr) (ds : List PyData), σ = [some (.ref t), some (.int (many : Int)), some u, some (.int (1 + d0)), some (.ref p)] ∧ p ≠ t ∧ Ls H' p ds ∧ 15 ≤ ds.length ∧ ds.length ≤ 19 ∧ ∀ d ∈ ds, tableB many d = false ∧ SnK 5 d) (fun N hN => ?_) (fun σ G3 h => ?_)
    · walk_at "rd"
      refine rd_ite (fun c => ?_) (fun c => ?_)
      · have E0 : Ext T [] G1 G1 := .refl
        walk_at "rd"
        walk_at "rd"
        walk_at "al"
        rename_i p G1 np y1 g1
        walk_at "rd"
        walk_at "al"
        rename_i p2 G2 np2 y2 g2
        walk_at "rd"
        walk_at "al"
        rename_i p9 GE1 np9 y9 g9
        have z1 := (y1.trans y2).trans y9
        have h1 : ∃ d, (tableB many d = false ∧ SnK 5 d) ∧ Im GE1 (.ref p9) d := ⟨_, ⟨table_asc (by decide +kernel), snk_up (snk2 tri_sn tri_sn (by decide)) (by decide)⟩, .tup g9 (.cons (((Im.new3 (.int 2) (.int 0) (.int 3) g1).x y2).x y9) (.cons ((Im.new3 (.int 1) (.int 0) (.int 3) g2).x y9) .nil))⟩
        have E1 := E0.trans z1
        refine rd_consJ (fun v H' => Ext T [] GE1 H' ∧ ∃ d, (tableB many d = false ∧ SnK 5 d) ∧ Im H' v d) (fun Q' hQ => ?_) (fun v2e GE2 hh2 => ?_)
        · walk_at "rd"
          walk_at "al"
          rename_i p G1 np y1 g1
          walk_at "rd"
          walk_at "al"
          rename_i p2 G2 np2 y2 g2
          walk_at "rd"
          walk_at "al"
          rename_i p9 G9 np9 y9 g9
          walk_at "rd"
          exact hQ _ _ ⟨((y1.trans y2).trans y9), _, ⟨table_asc (by decide +kernel), snk_up (snk2 tri_sn tri_sn (by decide)) (by decide)⟩, (.tup g9 (.cons (((Im.new3 (.int 2) (.int 1) (.int 3) g1).x y2).x y9) (.cons ((Im.new3 (.int 2) (.int 0) (.int 3) g2).x y9) .nil)))⟩
        obtain ⟨z2, h2⟩ := hh2
        have E2 := E1.trans z2
        refine rd_consJ (fun v H' => Ext T [] GE2 H' ∧ ∃ d, (tableB many d = false ∧ SnK 5 d) ∧ Im H' v d) (fun Q' hQ => ?_) (fun v3e GE3 hh3 => ?_)
        · walk_at "rd"
          walk_at "al"
          rename_i p G1 np y1 g1
          walk_at "rd"
          walk_at "al"
          rename_i p9 G9 np9 y9 g9
          walk_at "rd"
          exact hQ _ _ ⟨(y1.trans y9), _, ⟨table_no (x := .tuple [.int 1, .int 1, .int 3]) (wait_j (by omega)) (List.mem_singleton.mpr rfl), snk_up (snk1 (k := 2) (snk_up tri_sn (by decide)) (by decide)) (by decide)⟩, (.tup g9 (.cons ((Im.new3 (.int 1) (.int 1) (.int 3) g1).x y9) .nil))⟩
        obtain ⟨z3, h3⟩ := hh3
        have E3 := E2.trans z3
        refine rd_consJ (fun v H' => Ext T [] GE3 H' ∧ ∃ d, (tableB many d = false ∧ SnK 5 d) ∧ Im H' v d) (fun Q' hQ => ?_) (fun v4e GE4 hh4 => ?_)
        · walk_at "rd"
          walk_at "al"
          rename_i p G1 np y1 g1
          walk_at "rd"
          walk_at "al"
          rename_i p9 G9 np9 y9 g9
          walk_at "rd"
          exact hQ _ _ ⟨(y1.trans y9), _, ⟨table_no (x := .tuple [.int 1, .int 2, .int 3]) (wait_j (by omega)) (List.mem_singleton.mpr rfl), snk_up (snk1 (k := 2) (snk_up tri_sn (by decide)) (by decide)) (by decide)⟩, (.tup g9 (.cons ((Im.new3 (.int 1) (.int 2) (.int 3) g1).x y9) .nil))⟩
        obtain ⟨z4, h4⟩ := hh4
        have E4 := E3.trans z4
        walk_at "rd"
        walk_at "al"
        rename_i pL GL nL yL gL
        have w4 : Ext T [] GE4 GL := yL
        have w3 := z4.trans w4
        have w2 := z3.trans w3
        have w1 := z2.trans w2
        have wE := E4.trans yL
        obtain ⟨es, hei, heg⟩ := gds_of (.cons (gx h1 w1) (.cons (gx h2 w2) (.cons (gx h3 w3) (.cons (gx h4 w4) .nil))))
        have hel : es.length = 4 := by rw [← hei.len]; rfl
        obtain ⟨px, hpx, hpi⟩ := hp
        have hpl := hpi.len
        have hel2 := hei.len
        walk_at "rd"
        refine rd_catA T (lst.x hpx wE) gL (by simp only [List.length_cons, List.length_nil]; omega) fun pC GC nC yC gC => ?_
        walk_at "rd"
        refine hN _ _ ⟨wE.trans yC, pC, ds ++ es, rfl, ((T1.ext wE).ne nC).1, ⟨_, gC, ((hpi.x wE).x yC).app (hei.x yC)⟩, by rw [List.length_append]; omega, by rw [List.length_append]; omega, fun d hd => ?_⟩
        rcases List.mem_append.mp hd with hd | hd
        · exact hdg d hd
        · exact heg d hd
      · walk_at "rd"
        exact hN _ _ ⟨.refl, p, ds, rfl, hpt, hp, by omega, by omega, hdg⟩
    obtain ⟨e3, p, ds, rfl, hpt, hp, hl1, hl2, hdg⟩ := h
    have T3 := T1.ext e3
    obtain ⟨px, hpx, hpi⟩ := hp
    have hpl := hpi.len
    walk_at "rd"
    refine ⟨l, t, px.length, rfl, by omega, by omega, T3, fun d1 H9 h0 h1 e9 T9 => ?_⟩
    have hLL : Ls G3 p ds := ⟨_, hpx, hpi⟩
    have hat : atI ds d1 = some (ds[d1.toNat]'(by omega)) := by
      obtain ⟨k, rfl⟩ := Int.eq_ofNat_of_zero_le h0
      exact atI_nat (List.getElem?_eq_getElem _)
    refine rd_ixLs (hLL.y e9 hpt T3) hat fun y0 hy0 => ?_
    have hg := hdg _ (List.getElem_mem (l := ds) (n := d1.toNat) (by omega))
    exact q y0 _ H9 hg.1 hg.2 hy0 ((e0.trans (e1.trans e3).any).trans e9) T9
end
theorem no_on {R : Rm} (hR : RmIn R) {a : Str} : NoDeed R (.tuple [.str (Str.ofString "on"), .str a, .str dotS]) := fun s => bd_on (by
  rw [show srvD R (.tuple [.str a, .str dotS]) = false from srv_z (inZ_dot hR), Bool.false_and])
theorem da_sn {ds : List Dd} (h : ∀ d ∈ ds, SnK 3 (ddD d)) (hl : ds.length ≤ 6) {x : PyData} (hx : SnK 3 x) : SnK 4 (.tuple (ds.map ddD ++ [x])) := sn_list (k := 3) (by rw [List.length_append, List.length_map, List.length_singleton]; omega) (by decide) fun d hd => by
  rcases List.mem_append.mp hd with hd | hd
  · obtain ⟨b, hb, rfl⟩ := List.mem_map.mp hd
    exact h b hb
  · rw [List.mem_singleton.mp hd]
    exact hx
theorem dp_sn {ds : List Dd} (h : ∀ d ∈ ds, SnK 3 (ddD d)) (hl : ds.length ≤ 6) {x : PyData} (hx : SnK 3 x) : SnK 4 (.tuple ([x] ++ ds.map ddD)) := sn_list (k := 3) (by rw [List.length_append, List.length_map, List.length_singleton]; omega) (by decide) fun d hd => by
  rcases List.mem_append.mp hd with hd | hd
  · rw [List.mem_singleton.mp hd]
    exact hx
  · obtain ⟨b, hb, rfl⟩ := List.mem_map.mp hd
    exact h b hb
theorem rep_sn {d : PyData} (h : SnK 3 d) {n : Nat} (hn : n ≤ 1000) : SnK 4 (.tuple (List.replicate n d)) := sn_list (k := 3) (by rw [List.length_replicate]; omega) (by decide) fun e he => by
  rw [(List.mem_replicate.mp he).2]
  exact h
theorem rep_no {R : Rm} {s : Sta} {d : PyData} : rowDB R s (.tuple (List.replicate 7 d)) = false := by
  show (tupB 1 6 (.tuple (List.replicate 7 d)) && _) = false
  rw [tup_off (by rw [List.length_replicate]; decide), Bool.false_and]
theorem g4_sn {a b : PyData} (ha : SnK 1 a) (hb : SnK 2 b) : SnK 4 (.tuple ([.str (Str.ofString "put"), a, b] ++ [.int 1])) := snk_up (sn_list (k := 2) (by show 4 ≤ 1000; decide) (by decide) fun d hd => by
  simp only [List.cons_append, List.nil_append, List.mem_cons, List.not_mem_nil, or_false] at hd
  rcases hd with rfl | rfl | rfl | rfl
  · exact snk_up (snk_str (by decide +kernel)) (by decide)
  · exact snk_up ha (by decide)
  · exact hb
  · exact snk_up (snk_int _) (by decide)) (by decide)
theorem puts_on {p : Sl} {i : Itm} : ∀ {n : Nat} {s : Sta}, OnOk s (List.replicate n (.put p i))
  | 0, _ => trivial
  | n + 1, _ => ⟨trivial, puts_on⟩
theorem rep_ok {R : Rm} {s : Sta} {p : Sl} {i : Itm} (h : DdOk R (.put p i)) : rowDB R s (.tuple (List.replicate 6 (ddD (.put p i)))) = true := by
  rw [show List.replicate 6 (ddD (.put p i)) = (List.replicate 6 (.put p i)).map ddD from by rw [List.map_replicate]]
  exact rowD_ok (fun d hd => by rw [(List.mem_replicate.mp hd).2]; exact h) puts_on (by rw [List.length_replicate]; decide) (by rw [List.length_replicate]; decide)
theorem many_bd (n : Nat) : boundsB n (.tuple (List.replicate n (bdD (0, 1000)))) = true := by
  have h := bounds_ok (bs := List.replicate n ((0, 1000) : Bd)) (fun b hb => by rw [(List.mem_replicate.mp hb).2]; decide)
  rw [List.length_replicate, List.map_replicate] at h
  exact h
theorem runF_len2 (tb : List Rw) : ∀ (ds asked done : List Int), (runF tb asked done ds).2.length = done.length + ds.length
  | [], _, done => rfl
  | d :: ds, asked, done => by
    show (runF tb (asked ++ [askF tb done]) (done ++ [askF tb done + d]) ds).2.length = _
    rw [runF_len2 tb ds, List.length_append, List.length_singleton, List.length_cons]
    omega
theorem ints_im {H : Hp} : ∀ {xs : List V} {zs : List Int}, ImAll H xs (zs.map PyData.int) → xs = zs.map V.int
  | _, [], h => by
    cases h
    rfl
  | _, z :: zs, h => by
    cases h with
    | cons a b =>
      cases a
      rw [ints_im b]
      rfl
theorem zip_range {f : Int → PyData → PyData} {ts : List Int} {ds : List PyData} {n : Nat} (h1 : ts.length = n) (h2 : ds.length = n) : List.zipWith f ts ds = (List.range n).map fun k => f (ts.getD k 0) (ds.getD k .none) := by
  refine List.ext_getElem (by rw [List.length_zipWith, List.length_map, List.length_range]; omega) fun i a1 a2 => ?_
  rw [List.length_zipWith] at a1
  rw [List.getElem_zipWith, List.getElem_map, List.getElem_range, List.getD_eq_getElem?_getD, List.getD_eq_getElem?_getD, List.getElem?_eq_getElem (show i < ts.length by omega), List.getElem?_eq_getElem (show i < ds.length by omega)]
  rfl
theorem one_row {n : Nat} (h : 1 ≤ n) : tableB n (.tuple [rwD (n, 0, 10000)]) = true := by
  show (true && ((waitB n (rwD (n, 0, 10000)) && true) && ascD [kjD (rwD (n, 0, 10000))])) = true
  rw [wait_ok ⟨h, by show 0 < n; omega, by show n ≤ n; omega, by show (1 : Int) ≤ 10000; decide, by show (10000 : Int) ≤ 10000; decide⟩]
  rfl
section
variable {T : List (Addr × Str)} {P : Program} {w : World} {K : PySem.W.Frag} {mg : Str → Option Value} {base : Heap}
local macro_rules | `(tactic| walk_at "tr") => `(tactic| first
  | assumption
  | exact Ext.refl
  | ((with_reducible refine' Im.x (T := T) (H := ?trH) ?tra ?tre); (case tre => assumption); (case tra => walk_at "tr"))
  | ((with_reducible refine' Im.y (T := T) (H := ?trH) ?tra ?tre ?trt); (case tre => assumption); (case trt => walk_at "tr"); (case tra => walk_at "tr"))
  | ((with_reducible refine' ImAll.x (T := T) (H := ?trH) ?tra ?tre); (case tre => assumption); (case tra => walk_at "tr"))
  | ((with_reducible refine' ImAll.y (T := T) (H := ?trH) ?tra ?tre ?trt); (case tre => assumption); (case trt => walk_at "tr"); (case tra => walk_at "tr"))
  | ((with_reducible refine' Ls.x (T := T) (H := ?trH) ?tra ?tre); (case tre => assumption); (case tra => walk_at "tr"))
  | ((with_reducible refine' Ls.y (T := T) (H := ?trH) ?tra ?tre ?trn ?trt); (case tre => assumption); (case trt => walk_at "tr"); (case trn => walk_at "tr"); (case tra => walk_at "tr"))
  | ((with_reducible refine' SqP.x (T := T) (H := ?trH) ?tra ?tre); (case tre => assumption); (case tra => walk_at "tr"))
  | ((with_reducible refine' SqP.y (T := T) (H := ?trH) ?tra ?tre ?trt); (case tre => assumption); (case trt => walk_at "tr"); (case tra => walk_at "tr"))
  | ((with_reducible refine' StAt.x (T := T) (H := ?trH) ?tra ?tre); (case tre => assumption); (case tra => walk_at "tr"))
  | ((with_reducible refine' StAt.y (T := T) (H := ?trH) ?tra ?tre ?trt); (case tre => assumption); (case trt => walk_at "tr"); (case tra => walk_at "tr"))
  | ((with_reducible refine' Pools.ext0 (T := T) (H := ?trH) ?tra ?tre); (case tre => assumption); (case tra => walk_at "tr"))
  | ((with_reducible refine' Pools.ext (T := T) (H := ?trH) ?tra ?tre ?trt); (case tre => assumption); (case trt => walk_at "tr"); (case tra => walk_at "tr"))
  | ((with_reducible refine' CL.x (T := T) (H := ?trH) ?tra ?tre); (case tre => assumption); (case tra => walk_at "tr"))
  | ((with_reducible refine' CL.y (T := T) (H := ?trH) ?tra ?tre); (case tre => assumption); (case tra => walk_at "tr"))
  | ((with_reducible refine' Tape.ext (T := T) (H := ?trH) ?tra ?tre); (case tre => assumption); (case tra => walk_at "tr"))
  | ((with_reducible refine' lst.x (T := T) (H := ?trH) ?tra ?tre); (case tre => assumption); (case tra => walk_at "tr"))
  | ((with_reducible refine' lst.y (T := T) (H := ?trH) ?tra ?tre ?trn); (case tre => assumption); (case trn => walk_at "tr"); (case tra => walk_at "tr"))
  | ((with_reducible refine' tup.x (T := T) (H := ?trH) ?tra ?tre); (case tre => assumption); (case tra => walk_at "tr"))
  | ((with_reducible refine' tup.y (T := T) (H := ?trH) ?tra ?tre ?trt); (case tre => assumption); (case trt => walk_at "tr"); (case tra => walk_at "tr"))
  | ((with_reducible refine' frz.x (T := T) (H := ?trH) ?tra ?tre); (case tre => assumption); (case tra => walk_at "tr"))
  | ((with_reducible refine' frz.y (T := T) (H := ?trH) ?tra ?tre ?trt); (case tre => assumption); (case trt => walk_at "tr"); (case tra => walk_at "tr"))
  | ((with_reducible refine' Im.z (T := T) (H := ?trH) ?tra ?tre ?trt); (case tre => assumption); (case trt => assumption); (case tra => walk_at "tr"))
  | ((with_reducible refine' ImAll.z (T := T) (H := ?trH) ?tra ?tre ?trt); (case tre => assumption); (case trt => assumption); (case tra => walk_at "tr"))
  | ((with_reducible refine' StAt.z (T := T) (H := ?trH) ?tra ?tre ?trt); (case tre => assumption); (case trt => assumption); (case tra => walk_at "tr"))
  | ((with_reducible refine' SqP.z (T := T) (H := ?trH) ?tra ?tre ?trt); (case tre => assumption); (case trt => assumption); (case tra => walk_at "tr"))
  | ((with_reducible refine' tup.z (T := T) (H := ?trH) ?tra ?tre ?trt); (case tre => assumption); (case trt => assumption); (case tra => walk_at "tr"))
  | ((with_reducible refine' Ls.z (T := T) (H := ?trH) ?tra ?tre ?trt ?trn); (case tre => assumption); (case trt => assumption); (case trn => assumption); (case tra => walk_at "tr"))
  | ((with_reducible refine' lst.z (T := T) (H := ?trH) ?tra ?tre ?trn); (case tre => assumption); (case trn => assumption); (case tra => walk_at "tr"))
  | ((with_reducible refine' CL.z (T := T) (H := ?trH) ?tra ?tre ?trn); (case tre => assumption); (case trn => assumption); (case tra => walk_at "tr"))
  | ((with_reducible refine' Tape.ne1 (H := ?trH) ?trt ?trn); (case trn => assumption); (case trt => walk_at "tr"))
  | ((with_reducible refine' Ext.trans (H1 := ?trH) ?tra (Ext.any ?tre)); (case tre => assumption); (case tra => walk_at "tr"))
  | ((with_reducible refine' Ext.trans (H1 := ?trH) ?tra ?tre); (case tre => assumption); (case tra => walk_at "tr"))
  | ((with_reducible refine' Ext.back1 (T := T) (H1 := ?trH) ?tre ?trn ?tra); (case tra => assumption); (case trn => walk_at "tr"); (case tre => walk_at "tr"))
  | ((with_reducible refine' Ext.back0 (T := T) (H1 := ?trH) ?tre ?tra); (case tra => assumption); (case tre => walk_at "tr"))
  | ((with_reducible refine' SqT.of ?tra); (case tra => walk_at "tr"))
  | ((with_reducible refine' SqL.of ?tra); (case tra => walk_at "tr")))
local macro_rules | `(tactic| walk_at "al") => `(tactic| (refine ⟨by first | (show _ ≤ sizeLine; decide) | walk_at "sz", ?_⟩; intro alp aln; generalize alG : upd _ alp _ = alH; obtain ⟨aln2, alx, alh⟩ := al_of (T := T) aln alG; clear alG aln))
local macro_rules | `(tactic| walk_at "al0") => `(tactic| (intro alp aln; generalize alG : upd _ alp _ = alH; obtain ⟨aln2, alx, alh⟩ := al_of (T := T) aln alG; clear alG aln))
def spLaw (T : List (Addr × Str)) (K : PySem.W.Frag) : Sp := fun vs H Q _ => ∃ (a : Addr) (ns : List Int), vs = [.ref a] ∧ SqL K H a (ns.map V.int) ∧ ns.length ≤ 63 ∧ ∀ H', Q (.bl true) H'
theorem ok_law {f : Addr} {fd : FuncData} (F : Fun K "law" "law" s_law f fd) (mb : ∀ x ∈ bltns, mg x = none) (M : Cst mg)
    (G_law_tape : Ok P w K mg base 1 "_law_tape" ["script", "budget"] (spTape T K)) (G_law_take : Ok P w K mg base 2 "_law_take" ["tape", "many"] (spTake T)) (G_law_case : Ok P w K mg base 8 "_law_case" ["tape", "most"] (spCase T))
    (G_law_row : Ok P w K mg base 8 "_law_row" ["tape", "realm", "pools", "state"] (spRow T)) (G_is_row_of_deeds : Ok P w K mg base 7 "is_row_of_deeds" ["realm", "state", "value"] (spRowD T))
    (G_law_bounds : Ok P w K mg base 3 "_law_bounds" ["tape", "many", "wide"] (spBounds T)) (G_is_bounds : Ok P w K mg base 3 "is_bounds" ["count", "value"] (spCD T boundsB)) (G_law_bad_bounds : Ok P w K mg base 3 "_law_bad_bounds" ["tape", "bounds"] (spBadBd T))
    (G_law_table : Ok P w K mg base 3 "_law_table" ["tape", "many", "wide"] (spTableF T)) (G_is_table : Ok P w K mg base 3 "is_table" ["count", "value"] (spCD T tableB)) (G_law_bad_table : Ok P w K mg base 3 "_law_bad_table" ["tape", "many", "table"] (spBadTb T))
    (G_law_delays : Ok P w K mg base 3 "_law_delays" ["tape", "bounds"] (spDelays T)) (G_law_run : Ok P w K mg base 2 "_law_run" ["table", "delays"] (spLawRun T K)) (G_plan_of : Ok P w K mg base 1 "plan_of" ["deeds", "done"] (spPlanOf T)) : FnOk P w K mg base CX0 9 f fd ["script"] (spLaw T K) := by
  refine F.ok sc_law (fun vs H Q E h => ?_) (fun cdv A outer s H vs Q E hr h => ?_)
  · obtain ⟨a, ns, rfl, _⟩ := h
    rfl
  · obtain ⟨a, ns, rfl, ha, hl, q⟩ := h
    refine ⟨_, (pss_cons (ps_set (i := 1) sc_law.nd rfl (.inl rfl) (pe_callO G_law_tape (hr.mono (by decide)) (by rfl) (pa_cons (pv 0) (pa_cons pe_int pa_nil))))
   (pss_cons (ps_asg (pe_callO G_law_case (hr.mono (by decide)) (by rfl) (pa_cons (pv 1) (pa_cons pe_int pa_nil))) (pg_tupU (n := 3) K rfl rfl (pgs_cons (pg_name (i := 2) sc_law.nd rfl (.inl rfl)) (pgs_cons (pg_name (i := 3) sc_law.nd rfl (.inl rfl)) (pgs_cons (pg_name (i := 4) sc_law.nd rfl (.inl rfl)) pgs_nil)))))
   (pss_cons (ps_set (i := 5) sc_law.nd rfl (.inr rfl) (pe_callO G_law_row (hr.mono (by decide)) (by rfl) (pa_cons (pv 1) (pa_cons (pv 2) (pa_cons (pv 3) (pa_cons (pv 4) pa_nil))))))
   (pss_cons (ps_set (i := 6) sc_law.nd rfl (.inl rfl) (pe_callB (call_lenU K rfl) (by rfl) (mb _ (by decide)) (by decide +kernel) (pa_cons (pv 5) pa_nil)))
   (pss_cons (ps_if (PW.pt (pw_or (pt_cmpR (op_neU K rfl hr.units) (pe_glI (by rfl) M.c_MAX_DEEDS) pe_int (nomark _)) (pw_or (pt_cmpR (op_neU K rfl hr.units) (pe_glI (by rfl) M.c_MAX_DELAY) pe_int (nomark _)) (pw_or1 (pt_cmpR op_isnotU (pe_callO G_is_row_of_deeds (hr.mono (by decide)) (by rfl) (pa_cons (pv 2) (pa_cons (pv 4) (pa_cons (pv 5) pa_nil)))) pe_bl (nomark _)))))) (pss_one (ps_ret pe_bl)) pss_nil)
   (pss_cons (ps_asg (pe_ix (ix_U K rfl) (pe_ix (ix_U K rfl) (pv 4) pe_int (fun _ _ => rfl)) pe_int (fun _ _ => rfl)) (pg_tupU (n := 2) K rfl rfl (pgs_cons (pg_name (i := 7) sc_law.nd rfl (.inl rfl)) (pgs_cons (pg_name (i := 8) sc_law.nd rfl (.inl rfl)) pgs_nil))))
   (pss_cons (ps_set (i := 9) sc_law.nd rfl (.inl rfl) (pe_tup (pa_cons pe_str (pa_cons (pv 7) (pa_cons (pv 8) pa_nil)))))
   (pss_cons (ps_set (i := 10) sc_law.nd rfl (.inl rfl) (pe_lst (pa_cons (pe_tup pa_nil) (pa_cons (pe_op (op_plus K rfl) (pv 5) (pe_tup (pa_cons (pe_tup (pa_cons pe_str (pa_cons pe_str (pa_cons pe_str pa_nil)))) pa_nil))) (pa_cons (pe_op (op_plus K rfl) (pe_tup (pa_cons (pe_tup (pa_cons pe_str (pa_cons pe_str (pa_cons pe_str pa_nil)))) pa_nil)) (pv 5)) (pa_cons (pe_op (op_plus K rfl) (pv 5) (pe_tup (pa_cons (pe_slice (sl_U2 K rfl) (pv 9) po_none (po_some pe_int)) pa_nil))) (pa_cons (pe_op (NKZ.op_repTU K rfl) (pe_tup (pa_cons (pv 9) pa_nil)) pe_int) (pa_cons pe_int (pa_cons (pe_tup (pa_cons pe_int pa_nil)) (pa_cons pe_str (pa_cons (pe_tup (pa_cons (pe_op (op_plus K rfl) (pv 9) (pe_tup (pa_cons pe_int pa_nil))) pa_nil)) pa_nil)))))))))))
   (pss_cons (ps_if (PW.pt (pw_or (pt_cmpR op_isnotU (pe_callO G_is_row_of_deeds (hr.mono (by decide)) (by rfl) (pa_cons (pv 2) (pa_cons (pv 4) (pa_cons (pe_ix (ix_U K rfl) (pv 10) (pe_callO G_law_take (hr.mono (by decide)) (by rfl) (pa_cons (pv 1) (pa_cons pe_int pa_nil))) (fun _ _ => rfl)) pa_nil)))) pe_bl (nomark _)) (pw_or1 (pt_cmpR op_isnotU (pe_callO G_is_row_of_deeds (hr.mono (by decide)) (by rfl) (pa_cons (pv 2) (pa_cons (pv 4) (pa_cons (pe_op (NKZ.op_repTU K rfl) (pe_tup (pa_cons (pv 9) pa_nil)) pe_int) pa_nil)))) pe_bl (nomark _))))) (pss_one (ps_ret pe_bl)) pss_nil)
   (pss_cons (ps_set (i := 11) sc_law.nd rfl (.inl rfl) (pe_callO G_law_bounds (hr.mono (by decide)) (by rfl) (pa_cons (pv 1) (pa_cons (pv 6) (pa_cons (pe_callO G_law_take (hr.mono (by decide)) (by rfl) (pa_cons (pv 1) (pa_cons pe_int pa_nil))) pa_nil)))))
   (pss_cons (ps_if (PW.pt (pw_or (pt_cmpR op_isnotU (pe_callO G_is_bounds (hr.mono (by decide)) (by rfl) (pa_cons (pv 6) (pa_cons (pv 11) pa_nil))) pe_bl (nomark _)) (pw_or1 (pt_cmpR op_isnotU (pe_callO G_is_bounds (hr.mono (by decide)) (by rfl) (pa_cons (pv 6) (pa_cons (pe_callO G_law_bad_bounds (hr.mono (by decide)) (by rfl) (pa_cons (pv 1) (pa_cons (pv 11) pa_nil))) pa_nil))) pe_bl (nomark _))))) (pss_one (ps_ret pe_bl)) pss_nil)
   (pss_cons (ps_if (PW.pt (pw_or (pt_cmpR op_isnotU (pe_callO G_is_bounds (hr.mono (by decide)) (by rfl) (pa_cons (pe_op (op_plus K rfl) (pv 6) pe_int) (pa_cons (pv 11) pa_nil))) pe_bl (nomark _)) (pw_or1 (pt_cmpR op_isnotU (pe_callO G_is_bounds (hr.mono (by decide)) (by rfl) (pa_cons (pv 6) (pa_cons (pe_op (NKZ.op_repTU K rfl) (pe_tup (pa_cons (pe_tup (pa_cons pe_int (pa_cons pe_int pa_nil))) pa_nil)) (pv 6)) pa_nil))) pe_bl (nomark _))))) (pss_one (ps_ret pe_bl)) pss_nil)
   (pss_cons (ps_set (i := 12) sc_law.nd rfl (.inl rfl) (pe_callO G_law_table (hr.mono (by decide)) (by rfl) (pa_cons (pv 1) (pa_cons (pv 6) (pa_cons (pe_callO G_law_take (hr.mono (by decide)) (by rfl) (pa_cons (pv 1) (pa_cons pe_int pa_nil))) pa_nil)))))
   (pss_cons (ps_if (PW.pt (pw_or (pt_cmpR op_isnotU (pe_callO G_is_table (hr.mono (by decide)) (by rfl) (pa_cons (pv 6) (pa_cons (pv 12) pa_nil))) pe_bl (nomark _)) (pw_or1 (pt_cmpR op_isnotU (pe_callO G_is_table (hr.mono (by decide)) (by rfl) (pa_cons (pv 6) (pa_cons (pe_callO G_law_bad_table (hr.mono (by decide)) (by rfl) (pa_cons (pv 1) (pa_cons (pv 6) (pa_cons (pv 12) pa_nil)))) pa_nil))) pe_bl (nomark _))))) (pss_one (ps_ret pe_bl)) pss_nil)
   (pss_cons (ps_if (PW.pt (pw_or (pt_cmpR op_isnotU (pe_callO G_is_table (hr.mono (by decide)) (by rfl) (pa_cons (pv 6) (pa_cons (pe_tup pa_nil) pa_nil))) pe_bl (nomark _)) (pw_or1 (pt_cmpR op_isnotU (pe_callO G_is_table (hr.mono (by decide)) (by rfl) (pa_cons (pv 6) (pa_cons (pe_tup (pa_cons (pe_tup (pa_cons (pv 6) (pa_cons pe_int (pa_cons pe_int pa_nil)))) pa_nil)) pa_nil))) pe_bl (nomark _))))) (pss_one (ps_ret pe_bl)) pss_nil)
   (pss_cons (ps_asg (pe_callO G_law_run (hr.mono (by decide)) (by rfl) (pa_cons (pv 12) (pa_cons (pe_callO G_law_delays (hr.mono (by decide)) (by rfl) (pa_cons (pv 1) (pa_cons (pv 11) pa_nil))) pa_nil))) (pg_tupU (n := 2) K rfl rfl (pgs_cons (pg_name (i := 13) sc_law.nd rfl (.inl rfl)) (pgs_cons (pg_name (i := 14) sc_law.nd rfl (.inr rfl)) pgs_nil))))
   (pss_one (ps_ret (pe_cmpR (op_eqU K rfl hr.units) (pe_callO G_plan_of (hr.mono (by decide)) (by rfl) (pa_cons (pv 5) (pa_cons (pv 14) pa_nil))) (pe_callTy (call_tupU K rfl) (by rfl) (mb _ (by decide)) (by decide +kernel) (pa_cons (pe_lc (own := [("k", 15)]) (g := gName 15) (tt := tYes) rfl sc_law.nd (pi_range1 (by rfl) (mb _ (by decide)) (pa_cons (pv 6) pa_nil)) (blkOk_by (N := N_law) (sc := defScope s_law) (by decide +kernel)) (fun _ _ _ _ _ => (pg_name (i := 15) sc_law.nd rfl (Or.inl rfl))) (fun _ _ _ _ _ => pts_nil) (fun _ _ _ _ _ => (pe_tup (pa_cons (pe_ix (ix_U K rfl) (pv 14) (pv 15) (fun _ _ => rfl)) (pa_cons (pe_ix (ix_U K rfl) (pv 5) (pv 15) (fun _ _ => rfl)) pa_nil))))) pa_nil)) (nomark _)))))))))))))))))))), ?_⟩
    walk_at "rdn"
    refine rd_seq ?_
    walk_at "rdn"
    refine ⟨a, ns, 0, rfl, ha, hl, fun t l H1 nt e1 T1 => ?_⟩
    walk_at "rdn"
    refine rd_seq ?_
    walk_at "rdn"
    refine ⟨l, t, 3, rfl, by decide, by decide, T1, fun p pa v u R ps s H2 hp hRo hv hP hps hu hs hsv ho hon e2 T2 => ?_⟩
    have hR := hRo.rin (by decide)
    refine rd_gtup (SqT.of hp) rfl ?_
    walk_at "rdn"
    refine rd_seqK (fun σ H' => Ext T [t] H2 H' ∧ Tape l H' t ∧ ∃ (x : V) (ds : List Dd), σ = [some (.ref a), some (.ref t), some v, some (.ref pa), some u, some x, none, none, none, none, none, none, none, none, none, none] ∧ (∀ d ∈ ds, DdOk R d) ∧ OnOk s ds ∧ LenR ds ∧ Im H' x (.tuple (ds.map ddD))) (fun N hN => ?_) (fun σ H3 h => ?_)
    · walk_at "rd"
      refine ⟨l, t, pa, v, u, R, ps, s, rfl, T2, hv, hR, hP, hps, hu, hs, hsv, by omega, fun x ds H3 h1 h2 h3 h4 e3 T3 => ?_⟩
      walk_at "rd"
      exact hN _ _ ⟨e3, T3, x, ds, rfl, h1, h2, h3, h4⟩
    obtain ⟨e3, T3, xd, ds, rfl, hdok, hdon, hdl, hdI⟩ := h
    have hv3 := hv.y e3 T2
    have hu3 := hu.y e3 T2
    have hd6 : ds.length ≤ 6 := hdl.2
    have hd1 : 1 ≤ ds.length := hdl.1
    clear ha nt e1 T1 hp hv hP hu e2 T2 e3
    have hdS : ∀ d ∈ ds, SnK 3 (ddD d) := fun d hd => dd_sn hR (hdok d hd)
    have hdT : SnK 4 (.tuple (ds.map ddD)) := sn_list (k := 3) (by rw [List.length_map]; omega) (by decide) fun d hd => by
      obtain ⟨b, hb, rfl⟩ := List.mem_map.mp hd
      exact hdS b hb
    have hil := its_len hs
    have hip := its_pos (R := R)
    have hi30 := sl30 hR
    have hil30 : s.its.length ≤ 100 := by omega
    have hon3 : s.on.length ≤ 300 := by omega
    have hdot : dotS ∉ tlZ R := fun h => (tlZ_name hR h).2 rfl
    walk_at "rdn"
    refine rd_seqK (fun σ H' => H' = H3 ∧ ∃ n : Nat, n = ds.length ∧ σ = [some (.ref a), some (.ref t), some v, some (.ref pa), some u, some xd, some (.int (n : Int)), none, none, none, none, none, none, none, none, none]) (fun N hN => ?_) (fun σ H4 h => ?_)
    · obtain ⟨pd, px, rfl, hpd, hpi⟩ := hdI.tup'
      walk_at "rd"
      refine rd_lenT (SqP.sq hpd) ?_
      walk_at "rd"
      exact hN _ _ ⟨rfl, px.length, by rw [hpi.len, List.length_map], rfl⟩
    obtain ⟨rfl, n, hn, rfl⟩ := h
    walk_at "rdn"
    refine rd_seqK (fun σ H' => Ext T [] H4 H' ∧ σ = [some (.ref a), some (.ref t), some v, some (.ref pa), some u, some xd, some (.int (n : Int)), none, none, none, none, none, none, none, none, none]) (fun N hN => ?_) (fun σ H5 h => ?_)
    · walk_at "rd"
      refine rd_neInt ?_
      refine ⟨_, rfl, ?_⟩
      walk_at "rd"
      refine rd_itn (fun _ => ?_) (fun h => absurd rfl h)
      walk_at "rd"
      refine ⟨v, u, xd, R, s, _, rfl, hv3, hR, hu3, hil30, hon3, hdI, hdT.1, Nat.le_trans hdT.2 (by decide), fun H5 e5 => ?_⟩
      rw [rowD_ok hdok hdon hd1 hd6]
      refine rd_isnBl ?_
      walk_at "rd"
      refine rd_itn (fun _ => ?_) (fun h => absurd rfl h)
      walk_at "rd"
      exact hN _ _ ⟨e5, rfl⟩
    obtain ⟨e5, rfl⟩ := h
    have T5 := T3.ext e5
    have hv5 := hv3.x e5
    have hu5 := hu3.x e5
    have hdI5 := hdI.x e5
    clear hv3 hu3 hdI T3 e5
    obtain ⟨r0, rr, hr0⟩ : ∃ r0 rr, s.its = r0 :: rr := by
      cases e : s.its with
      | nil =>
        rw [e] at hil
        simp only [List.length_nil] at hil
        omega
      | cons r0 rr => exact ⟨r0, rr, rfl⟩
    have hr0m : r0 ∈ s.its := by rw [hr0]; exact List.mem_cons_self
    have hr0s : r0.1 ∈ slotsR R := by rw [← hs.nm]; exact List.mem_map_of_mem hr0m
    have hgD : DdOk R (.put r0.1 r0.2) := ⟨hr0s, hs.ok r0 hr0m⟩
    have hgS : SnK 3 (ddD (.put r0.1 r0.2)) := dd_sn hR hgD
    have hat0 : atI (s.its.map rowD2) 0 = some (rowD2 r0) := by rw [hr0]; exact at_zero _ _
    walk_at "rdn"
    refine rd_seqK (fun σ H' => H' = H5 ∧ ∃ (v1 v2 : V), Im H5 v1 (slD r0.1) ∧ Im H5 v2 (itD r0.2) ∧ σ = [some (.ref a), some (.ref t), some v, some (.ref pa), some u, some xd, some (.int (n : Int)), some v1, some v2, none, none, none, none, none, none, none]) (fun N hN => ?_) (fun σ H6 h => ?_)
    · walk_at "rd"
      refine rd_ixI (d := I0 s) hu5.im rfl fun y1 j1 => ?_
      walk_at "rd"
      refine rd_ixI (d := rowD2 r0) j1 hat0 fun y2 j2 => ?_
      refine rd_gpair (d1 := slD r0.1) (d2 := itD r0.2) j2 fun v1 v2 k1 k2 => ?_
      walk_at "rd"
      exact hN _ _ ⟨rfl, v1, v2, k1, k2, rfl⟩
    obtain ⟨rfl, v1, v2, hv1, hv2, rfl⟩ := h
    walk_at "rdn"
    refine rd_seqK (fun σ H' => Ext T [] H6 H' ∧ ∃ (g : V), Im H' g (ddD (.put r0.1 r0.2)) ∧ σ = [some (.ref a), some (.ref t), some v, some (.ref pa), some u, some xd, some (.int (n : Int)), some v1, some v2, some g, none, none, none, none, none, none]) (fun N hN => ?_) (fun σ H9 h => ?_)
    · walk_at "rd"
      walk_at "al"
      rename_i p1 F1 _ y1 g1
      walk_at "rd"
      exact hN _ _ ⟨y1, _, .new3 (.str _ (by decide +kernel)) (hv1.x y1) (hv2.x y1) g1, rfl⟩
    obtain ⟨e9, g, hgI, rfl⟩ := h
    have T9 := T5.ext e9
    have hv9 := hv5.x e9
    have hu9 := hu5.x e9
    have hdI := hdI5.x e9
    have hgI : Im H9 g (.tuple [.str (Str.ofString "put"), slD r0.1, itD r0.2]) := hgI
    clear hv5 hu5 hdI5 T5 e9
    walk_at "rdn"
    refine rd_seqK (fun σ H' => Ext T [] H9 H' ∧ ∃ (p : Addr) (bs : List PyData), σ = [some (.ref a), some (.ref t), some v, some (.ref pa), some u, some xd, some (.int (n : Int)), some v1, some v2, some g, some (.ref p), none, none, none, none, none] ∧ p ≠ t ∧ Ls H' p bs ∧ bs.length = 9 ∧ ∀ d ∈ bs, rowDB R s d = false ∧ SnK 6 d) (fun N hN => ?_) (fun σ H10 h => ?_)
    · have E0 : Ext T [] H9 H9 := .refl
      walk_at "rd"
      walk_at "al"
      rename_i p GE1 np y g1
      have z1 : Ext T [] H9 GE1 := y
      have h1 : ∃ d, (rowDB R s d = false ∧ SnK 6 d) ∧ Im GE1 (.ref p) d := ⟨_, ⟨rfl, snk_up (snk0 (k := 3) (by decide)) (by decide)⟩, .tup g1 .nil⟩
      have E1 := E0.trans z1
      refine rd_consJ (fun v H' => Ext T [] GE1 H' ∧ ∃ d, (rowDB R s d = false ∧ SnK 6 d) ∧ Im H' v d) (fun Q' hQ => ?_) (fun v2e GE2 hh2 => ?_)
      · walk_at "rd"
        walk_at "al"
        rename_i p G1 np y1 g1
        walk_at "rd"
        walk_at "al"
        rename_i p2 G2 np2 y2 g2
        have k1 : Im G2 (.ref p2) (.tuple [.tuple [.str (Str.ofString "on"), .str (Str.ofString "s1"), .str dotS]]) := .tup g2 (.cons ((Im.new3 (.str _ (by decide +kernel)) (.str _ (by decide +kernel)) (.str _ (by decide +kernel)) g1).x y2) .nil)
        refine rd_catEI (T := T) (((hdI.x E1).x y1).x y2) k1 (by simp) (by simp only [List.length_map, List.length_cons, List.length_nil]; omega) fun v3 G3 y3 j3 => ?_
        walk_at "rd"
        exact hQ _ _ ⟨(y1.trans y2).trans y3, _, ⟨rowD_no (x := .tuple [.str (Str.ofString "on"), .str (Str.ofString "s1"), .str dotS]) (no_on hR) (List.mem_append_right _ (List.mem_singleton.mpr rfl)), snk_up (da_sn hdS hd6 (snk_up (snk3 (snk_str (by decide +kernel)) (snk_str (by decide +kernel)) (snk_str (by decide +kernel)) (by decide)) (by decide))) (by decide)⟩, j3⟩
      obtain ⟨z2, h2⟩ := hh2
      have E2 := E1.trans z2
      refine rd_consJ (fun v H' => Ext T [] GE2 H' ∧ ∃ d, (rowDB R s d = false ∧ SnK 6 d) ∧ Im H' v d) (fun Q' hQ => ?_) (fun v3e GE3 hh3 => ?_)
      · walk_at "rd"
        walk_at "al"
        rename_i p G1 np y1 g1
        walk_at "rd"
        walk_at "al"
        rename_i p2 G2 np2 y2 g2
        have k1 : Im G2 (.ref p2) (.tuple [.tuple [.str (Str.ofString "off"), .str (Str.ofString "none"), .str dotS]]) := .tup g2 (.cons ((Im.new3 (.str _ (by decide +kernel)) (.str _ (by decide +kernel)) (.str _ (by decide +kernel)) g1).x y2) .nil)
        walk_at "rd"
        refine rd_catIE (T := T) k1 (((hdI.x E2).x y1).x y2) (by simp) (by simp only [List.length_map, List.length_cons, List.length_nil]; omega) fun v3 G3 y3 j3 => ?_
        walk_at "rd"
        exact hQ _ _ ⟨(y1.trans y2).trans y3, _, ⟨rowD_first (x := .tuple [.str (Str.ofString "off"), .str (Str.ofString "none"), .str dotS]) (ds := ds.map ddD) (bd_off (off_z ho hdot)), snk_up (dp_sn hdS hd6 (snk_up (snk3 (snk_str (by decide +kernel)) (snk_str (by decide +kernel)) (snk_str (by decide +kernel)) (by decide)) (by decide))) (by decide)⟩, j3⟩
      obtain ⟨z3, h3⟩ := hh3
      have E3 := E2.trans z3
      refine rd_consJ (fun v H' => Ext T [] GE3 H' ∧ ∃ d, (rowDB R s d = false ∧ SnK 6 d) ∧ Im H' v d) (fun Q' hQ => ?_) (fun v4e GE4 hh4 => ?_)
      · walk_at "rd"
        refine rd_slIm (T := T) (hgI.x E3) fun v1 G1 y1 j1 => ?_
        rw [show cutD [.str (Str.ofString "put"), slD r0.1, itD r0.2] none (some 2) = [.str (Str.ofString "put"), slD r0.1] from cutD_take (m := 2)] at j1
        walk_at "rd"
        walk_at "al"
        rename_i p2 G2 np2 y2 g2
        have k1 : Im G2 (.ref p2) (.tuple [.tuple [.str (Str.ofString "put"), slD r0.1]]) := .tup g2 (.cons (j1.x y2) .nil)
        refine rd_catEI (T := T) (((hdI.x E3).x y1).x y2) k1 (by simp) (by simp only [List.length_map, List.length_cons, List.length_nil]; omega) fun v3 G3 y3 j3 => ?_
        walk_at "rd"
        exact hQ _ _ ⟨(y1.trans y2).trans y3, _, ⟨rowD_no (x := .tuple [.str (Str.ofString "put"), slD r0.1]) (fun _ => deedB_no rfl) (List.mem_append_right _ (List.mem_singleton.mpr rfl)), snk_up (da_sn hdS hd6 (snk_up (snk2 (snk_up (snk_str (by decide +kernel)) (by decide)) (sl_sn hR hr0s) (by decide)) (by decide))) (by decide)⟩, j3⟩
      obtain ⟨z4, h4⟩ := hh4
      have E4 := E3.trans z4
      refine rd_consJ (fun v H' => Ext T [] GE4 H' ∧ ∃ d, (rowDB R s d = false ∧ SnK 6 d) ∧ Im H' v d) (fun Q' hQ => ?_) (fun v5e GE5 hh5 => ?_)
      · walk_at "rd"
        walk_at "al"
        rename_i p G1 np y1 g1
        have k1 : Im G1 (.ref p) (.tuple [ddD (.put r0.1 r0.2)]) := .tup g1 (.cons ((hgI.x E4).x y1) .nil)
        refine rd_repT (T := T) (n := 7) k1 (by decide) (by decide) fun v2 G2 y2 j2 => ?_
        walk_at "rd"
        exact hQ _ _ ⟨y1.trans y2, _, ⟨rep_no, snk_up (rep_sn hgS (by decide)) (by decide)⟩, j2⟩
      obtain ⟨z5, h5⟩ := hh5
      have E5 := E4.trans z5
      refine rd_consJ (fun v H' => Ext T [] GE5 H' ∧ ∃ d, (rowDB R s d = false ∧ SnK 6 d) ∧ Im H' v d) (fun Q' hQ => ?_) (fun v6e GE6 hh6 => ?_)
      · walk_at "rd"
        exact hQ _ _ ⟨.refl, _, ⟨rfl, snk_up (snk_int _) (by decide)⟩, .int 4⟩
      obtain ⟨z6, h6⟩ := hh6
      have E6 := E5.trans z6
      refine rd_consJ (fun v H' => Ext T [] GE6 H' ∧ ∃ d, (rowDB R s d = false ∧ SnK 6 d) ∧ Im H' v d) (fun Q' hQ => ?_) (fun v7e GE7 hh7 => ?_)
      · walk_at "rd"
        walk_at "al"
        rename_i p G1 np y1 g1
        walk_at "rd"
        exact hQ _ _ ⟨y1, _, ⟨rowD_first (deedB_no rfl), snk_up (snk1 (snk_int _) (by decide)) (by decide)⟩, .tup g1 (.cons (.int 4) .nil)⟩
      obtain ⟨z7, h7⟩ := hh7
      have E7 := E6.trans z7
      refine rd_consJ (fun v H' => Ext T [] GE7 H' ∧ ∃ d, (rowDB R s d = false ∧ SnK 6 d) ∧ Im H' v d) (fun Q' hQ => ?_) (fun v8e GE8 hh8 => ?_)
      · walk_at "rd"
        exact hQ _ _ ⟨.refl, _, ⟨rfl, snk_up (snk_str (by decide +kernel)) (by decide)⟩, .str _ (by decide +kernel)⟩
      obtain ⟨z8, h8⟩ := hh8
      have E8 := E7.trans z8
      refine rd_consJ (fun v H' => Ext T [] GE8 H' ∧ ∃ d, (rowDB R s d = false ∧ SnK 6 d) ∧ Im H' v d) (fun Q' hQ => ?_) (fun v9e GE9 hh9 => ?_)
      · walk_at "rd"
        walk_at "al"
        rename_i p G1 np y1 g1
        have k1 : Im G1 (.ref p) (.tuple [.int 1]) := .tup g1 (.cons (.int 1) .nil)
        refine rd_catEI (T := T) ((hgI.x E8).x y1) k1 (by simp) (by simp) fun v2 G2 y2 j2 => ?_
        walk_at "rd"
        walk_at "al"
        rename_i p3 G3 np3 y3 g3
        walk_at "rd"
        exact hQ _ _ ⟨(y1.trans y2).trans y3, _, ⟨rowD_first (deedB_no rfl), snk_up (snk1 (k := 4) (g4_sn (sl_sn hR hr0s) (it_sn (hs.ok r0 hr0m))) (by decide)) (by decide)⟩, .tup g3 (.cons (j2.x y3) .nil)⟩
      obtain ⟨z9, h9⟩ := hh9
      have E9 := E8.trans z9
      walk_at "rd"
      walk_at "al"
      rename_i pL GL nL yL gL
      have w9 : Ext T [] GE9 GL := yL
      have w8 := z9.trans w9
      have w7 := z8.trans w8
      have w6 := z7.trans w7
      have w5 := z6.trans w6
      have w4 := z5.trans w5
      have w3 := z4.trans w4
      have w2 := z3.trans w3
      have w1 := z2.trans w2
      have wE := E9.trans yL
      have gx : ∀ {v : V} {H1 H2 : Hp}, (∃ d, (rowDB R s d = false ∧ SnK 6 d) ∧ Im H1 v d) → Ext T [] H1 H2 → ∃ d, (rowDB R s d = false ∧ SnK 6 d) ∧ Im H2 v d := fun h e => by
        obtain ⟨d, h1, h2⟩ := h
        exact ⟨d, h1, h2.x e⟩
      obtain ⟨bs, hdi, hdg⟩ := gds_of (.cons (gx h1 w1) (.cons (gx h2 w2) (.cons (gx h3 w3) (.cons (gx h4 w4) (.cons (gx h5 w5) (.cons (gx h6 w6) (.cons (gx h7 w7) (.cons (gx h8 w8) (.cons (gx h9 w9) .nil)))))))))
      have hdl : bs.length = 9 := by rw [← hdi.len]; rfl
      walk_at "rd"
      exact hN _ _ ⟨wE, pL, bs, rfl, ((T9.ext E9).ne nL).1, ⟨_, gL, hdi⟩, hdl, hdg⟩
    obtain ⟨e10, bp, bds, rfl, hbt, hbp, hbl, hbg⟩ := h
    have T10 := T9.ext e10
    have hv10 := hv9.x e10
    have hu10 := hu9.x e10
    have hdI10 := hdI.x e10
    have hgI10 := hgI.x e10
    clear hv9 hu9 hdI hgI T9 e10
    walk_at "rdn"
    refine rd_seqK (fun σ H' => Ext T [t] H10 H' ∧ Tape l H' t ∧ σ = [some (.ref a), some (.ref t), some v, some (.ref pa), some u, some xd, some (.int (n : Int)), some v1, some v2, some g, some (.ref bp), none, none, none, none, none]) (fun N hN => ?_) (fun σ H11 h => ?_)
    · walk_at "rd"
      refine ⟨l, t, 9, rfl, by decide, by decide, T10, fun d1 G1 h0 h1 x1 T11 => ?_⟩
      have hat : atI bds d1 = some (bds[d1.toNat]'(by omega)) := by
        obtain ⟨k, rfl⟩ := Int.eq_ofNat_of_zero_le h0
        exact atI_nat (List.getElem?_eq_getElem _)
      refine rd_ixLs (hbp.y x1 hbt T10) hat fun y0 hy0 => ?_
      have hg := hbg _ (List.getElem_mem (l := bds) (n := d1.toNat) (by omega))
      walk_at "rd"
      refine ⟨v, u, y0, R, s, _, rfl, hv10.y x1 T10, hR, hu10.y x1 T10, hil30, hon3, hy0, hg.2.1, Nat.le_trans hg.2.2 (by decide), fun G2 x2 => ?_⟩
      rw [hg.1]
      refine rd_isnBl ?_
      refine ⟨_, rfl, ?_⟩
      walk_at "rd"
      refine rd_itn (fun _ => ?_) (fun h => absurd rfl h)
      have hv12 := (hv10.y x1 T10).x x2
      have hu12 := (hu10.y x1 T10).x x2
      have hg12 := (hgI10.y x1 T10).x x2
      walk_at "rd"
      walk_at "al"
      rename_i p3 G3 np3 x3 g3
      have k3 : Im G3 (.ref p3) (.tuple [ddD (.put r0.1 r0.2)]) := .tup g3 (.cons (hg12.x x3) .nil)
      refine rd_repT (T := T) (n := 6) k3 (by decide) (by decide) fun v4 G4 x4 j4 => ?_
      walk_at "rd"
      refine ⟨v, u, v4, R, s, _, rfl, (hv12.x x3).x x4, hR, (hu12.x x3).x x4, hil30, hon3, j4, (rep_sn hgS (by decide)).1, Nat.le_trans (rep_sn hgS (by decide)).2 (by decide), fun G5 x5 => ?_⟩
      rw [rep_ok hgD]
      refine rd_isnBl ?_
      walk_at "rd"
      refine rd_itn (fun _ => ?_) (fun h => absurd rfl h)
      walk_at "rd"
      have x25 := (((x2.trans x3).trans x4).trans x5)
      exact hN _ _ ⟨x1.trans x25.any, T11.ext x25, rfl⟩
    obtain ⟨e11, T11, rfl⟩ := h
    have hdI11 := hdI10.y e11 T10
    clear hv10 hu10 hdI10 hgI10 hbp T10 e11
    walk_at "rdn"
    refine rd_seqK (fun σ H' => Ext T [t] H11 H' ∧ Tape l H' t ∧ ∃ (x : V) (bs : List Bd), σ = [some (.ref a), some (.ref t), some v, some (.ref pa), some u, some xd, some (.int (n : Int)), some v1, some v2, some g, some (.ref bp), some x, none, none, none, none] ∧ BdOk bs ∧ bs.length = n ∧ Im H' x (.tuple (bs.map bdD))) (fun N hN => ?_) (fun σ H12 h => ?_)
    · walk_at "rd"
      refine ⟨l, t, 3, rfl, by decide, by decide, T11, fun d1 G1 h0 h1 x1 T12 => ?_⟩
      walk_at "rd"
      refine ⟨l, t, n, d1, rfl, by omega, h0, h1, T12, fun y bs G2 b1 b2 b3 x2 T13 => ?_⟩
      walk_at "rd"
      exact hN _ _ ⟨x1.trans x2, T13, y, bs, rfl, b1, b2, b3⟩
    obtain ⟨e12, T12, xb, bs, rfl, hbok, hbn, hbI⟩ := h
    have hdI12 := hdI11.y e12 T11
    clear hdI11 T11 e12
    have hbS := bs_sn (bs := bs) (by omega)
    walk_at "rdn"
    refine rd_seqK (fun σ H' => Ext T [t] H12 H' ∧ Tape l H' t ∧ σ = [some (.ref a), some (.ref t), some v, some (.ref pa), some u, some xd, some (.int (n : Int)), some v1, some v2, some g, some (.ref bp), some xb, none, none, none, none]) (fun N hN => ?_) (fun σ H13 h => ?_)
    · walk_at "rd"
      refine ⟨n, xb, _, rfl, hbI, hbS.1, fun G1 x1 => ?_⟩
      rw [show boundsB (n : Int) (.tuple (bs.map bdD)) = true by rw [← hbn]; exact bounds_ok hbok]
      refine rd_isnBl ?_
      refine ⟨_, rfl, ?_⟩
      walk_at "rd"
      refine rd_itn (fun _ => ?_) (fun h => absurd rfl h)
      walk_at "rd"
      refine ⟨l, t, xb, bs, rfl, T12.ext x1, hbI.x x1, by omega, by omega, fun y d G2 d1 d2 d3 x2 T13 => ?_⟩
      walk_at "rd"
      refine ⟨n, y, d, rfl, d3, d2.1, fun G3 x3 => ?_⟩
      rw [show boundsB (n : Int) d = false by rw [← hbn]; exact d1]
      refine rd_isnBl ?_
      walk_at "rd"
      refine rd_itn (fun _ => ?_) (fun h => absurd rfl h)
      walk_at "rd"
      exact hN _ _ ⟨(x1.any.trans x2).trans x3.any, T13.ext x3, rfl⟩
    obtain ⟨e13, T13, rfl⟩ := h
    have hdI13 := hdI12.y e13 T12
    have hbI13 := hbI.y e13 T12
    clear hdI12 hbI T12 e13
    walk_at "rdn"
    refine rd_seqK (fun σ H' => Ext T [] H13 H' ∧ σ = [some (.ref a), some (.ref t), some v, some (.ref pa), some u, some xd, some (.int (n : Int)), some v1, some v2, some g, some (.ref bp), some xb, none, none, none, none]) (fun N hN => ?_) (fun σ H14 h => ?_)
    · walk_at "rd"
      refine ⟨(n : Int) + 1, xb, _, rfl, hbI13, hbS.1, fun G1 x1 => ?_⟩
      rw [bounds_len (n := (n : Int) + 1) (ds := bs.map bdD) (by rw [List.length_map]; omega)]
      refine rd_isnBl ?_
      refine ⟨_, rfl, ?_⟩
      walk_at "rd"
      refine rd_itn (fun _ => ?_) (fun h => absurd rfl h)
      walk_at "rd"
      walk_at "al"
      rename_i p2 G2 np2 x2 g2
      walk_at "rd"
      walk_at "al"
      rename_i p3 G3 np3 x3 g3
      have k3 : Im G3 (.ref p3) (.tuple [bdD (0, 1000)]) := .tup g3 (.cons ((Im.new2 (.int 0) (.int 1000) g2).x x3) .nil)
      walk_at "rd"
      refine rd_repT (T := T) (n := n) k3 (by omega) (by omega) fun v4 G4 x4 j4 => ?_
      walk_at "rd"
      refine ⟨n, v4, _, rfl, j4, (rep_sn (snk_up (bd_sn (0, 1000)) (by decide)) (by omega)).1, fun G5 x5 => ?_⟩
      rw [many_bd]
      refine rd_isnBl ?_
      walk_at "rd"
      refine rd_itn (fun _ => ?_) (fun h => absurd rfl h)
      walk_at "rd"
      exact hN _ _ ⟨(((x1.trans x2).trans x3).trans x4).trans x5, rfl⟩
    obtain ⟨e14, rfl⟩ := h
    have T14 := T13.ext e14
    have hdI14 := hdI13.x e14
    have hbI14 := hbI13.x e14
    clear hdI13 hbI13 T13 e14
    walk_at "rdn"
    refine rd_seqK (fun σ H' => Ext T [t] H14 H' ∧ Tape l H' t ∧ ∃ (x : V) (tb : List Rw), σ = [some (.ref a), some (.ref t), some v, some (.ref pa), some u, some xd, some (.int (n : Int)), some v1, some v2, some g, some (.ref bp), some xb, some x, none, none, none] ∧ TbF n tb ∧ tb.length ≤ 36 ∧ Im H' x (.tuple (tb.map rwD))) (fun N hN => ?_) (fun σ H15 h => ?_)
    · walk_at "rd"
      refine ⟨l, t, 3, rfl, by decide, by decide, T14, fun d1 G1 h0 h1 x1 T15 => ?_⟩
      walk_at "rd"
      refine ⟨l, t, n, d1, rfl, by omega, h0, h1, T15, fun y tb G2 b1 b2 b3 x2 T16 => ?_⟩
      walk_at "rd"
      exact hN _ _ ⟨x1.trans x2, T16, y, tb, rfl, b1, b2, b3⟩
    obtain ⟨e15, T15, xt, tb, rfl, htok, htl, htI⟩ := h
    have hdI15 := hdI14.y e15 T14
    have hbI15 := hbI14.y e15 T14
    clear hdI14 hbI14 T14 e15
    have htS := tb_sn htl
    walk_at "rdn"
    refine rd_seqK (fun σ H' => Ext T [t] H15 H' ∧ Tape l H' t ∧ σ = [some (.ref a), some (.ref t), some v, some (.ref pa), some u, some xd, some (.int (n : Int)), some v1, some v2, some g, some (.ref bp), some xb, some xt, none, none, none]) (fun N hN => ?_) (fun σ H16 h => ?_)
    · walk_at "rd"
      refine ⟨n, xt, _, rfl, htI, htS.1, fun G1 x1 => ?_⟩
      rw [table_ok htok]
      refine rd_isnBl ?_
      refine ⟨_, rfl, ?_⟩
      walk_at "rd"
      refine rd_itn (fun _ => ?_) (fun h => absurd rfl h)
      walk_at "rd"
      refine ⟨l, t, xt, n, tb, rfl, T15.ext x1, htI.x x1, by omega, by omega, htl, fun y d G2 d1 d2 d3 x2 T16 => ?_⟩
      walk_at "rd"
      refine ⟨n, y, d, rfl, d3, d2.1, fun G3 x3 => ?_⟩
      rw [d1]
      refine rd_isnBl ?_
      walk_at "rd"
      refine rd_itn (fun _ => ?_) (fun h => absurd rfl h)
      walk_at "rd"
      exact hN _ _ ⟨(x1.any.trans x2).trans x3.any, T16.ext x3, rfl⟩
    obtain ⟨e16, T16, rfl⟩ := h
    have hdI16 := hdI15.y e16 T15
    have hbI16 := hbI15.y e16 T15
    have htI16 := htI.y e16 T15
    clear hdI15 hbI15 htI T15 e16
    walk_at "rdn"
    refine rd_seqK (fun σ H' => Ext T [] H16 H' ∧ σ = [some (.ref a), some (.ref t), some v, some (.ref pa), some u, some xd, some (.int (n : Int)), some v1, some v2, some g, some (.ref bp), some xb, some xt, none, none, none]) (fun N hN => ?_) (fun σ H17 h => ?_)
    · walk_at "rd"
      walk_at "al"
      rename_i p1 G1 np1 x1 g1
      walk_at "rd"
      refine ⟨n, .ref p1, .tuple [], rfl, .tup g1 .nil, (snk0 (k := 3) (by decide)).1, fun G2 x2 => ?_⟩
      rw [show tableB (n : Int) (.tuple []) = true from rfl]
      refine rd_isnBl ?_
      refine ⟨_, rfl, ?_⟩
      walk_at "rd"
      refine rd_itn (fun _ => ?_) (fun h => absurd rfl h)
      walk_at "rd"
      walk_at "al"
      rename_i p3 G3 np3 x3 g3
      walk_at "rd"
      walk_at "al"
      rename_i p4 G4 np4 x4 g4
      walk_at "rd"
      refine ⟨n, .ref p4, .tuple [rwD (n, 0, 10000)], rfl, .tup g4 (.cons ((Im.new3 (.int n) (.int 0) (.int 10000) g3).x x4) .nil), (snk1 tri_sn (by decide)).1, fun G5 x5 => ?_⟩
      rw [one_row (by omega)]
      refine rd_isnBl ?_
      walk_at "rd"
      refine rd_itn (fun _ => ?_) (fun h => absurd rfl h)
      walk_at "rd"
      exact hN _ _ ⟨(((x1.trans x2).trans x3).trans x4).trans x5, rfl⟩
    obtain ⟨e17, rfl⟩ := h
    have T17 := T16.ext e17
    have hdI17 := hdI16.x e17
    have hbI17 := hbI16.x e17
    have htI17 := htI16.x e17
    clear hdI16 hbI16 htI16 T16 e17
    walk_at "rdn"
    refine rd_seqK (fun σ H' => Ext T [t] H17 H' ∧ ∃ (x y : V) (ts : List Int), σ = [some (.ref a), some (.ref t), some v, some (.ref pa), some u, some xd, some (.int (n : Int)), some v1, some v2, some g, some (.ref bp), some xb, some xt, some x, some y, none] ∧ ts.length = n ∧ Im H' y (.tuple (ts.map PyData.int))) (fun N hN => ?_) (fun σ H18 h => ?_)
    · walk_at "rd"
      refine ⟨l, t, xb, bs, rfl, hbI17, hbok, by omega, T17, fun y dl G1 d1 d2 d3 x1 T18 => ?_⟩
      obtain ⟨pq, pqx, rfl, hpq, hpqi⟩ := d3.tup'
      walk_at "rd"
      refine ⟨xt, pq, false, tb, dl, rfl, htI17.y x1 T17, ?_, fun r hr => (htok.1 r hr).2.1, by omega, by omega, fun z G2 x2 hz => ?_⟩
      · have e : pqx = dl.map V.int := ints_im hpqi
        rw [← e]
        exact SqK.t (SqP.sq hpq)
      refine rd_gpair (d1 := .tuple ((runF tb [] [] dl).1.map .int)) (d2 := .tuple ((runF tb [] [] dl).2.map .int)) hz fun y1 y2 k1 k2 => ?_
      walk_at "rd"
      exact hN _ _ ⟨x1.trans x2.any, y1, y2, _, rfl, by rw [runF_len2, d1, hbn]; simp, k2⟩
    obtain ⟨e18, xa, xo, ts, rfl, htn, hoI⟩ := h
    have hdI18 := hdI17.y e18 T17
    clear hdI17 hbI17 htI17 T17 e18
    walk_at "rd"
    refine ⟨xd, xo, ds.map ddD, ts, rfl, hdI18, hoI, by rw [List.length_map]; omega, fun y H19 e19 hy => ?_⟩
    walk_at "rd"
    have hdI19 := hdI18.x e19
    have hoI19 := hoI.x e19
    refine ⟨by omega, by omega, ?_⟩
    rw [Int.toNat_natCast]
    refine lcg_rangeD T (n := n) (fun k => pzD (ts.getD k 0) ((ds.map ddD).getD k .none)) (Nat.lt_of_le_of_lt (show n ≤ 6 by omega) (show (6 : Nat) < sizeLine by decide)) (fun i G1 hi f1 R' hRq => ?_) (fun D1 G1 nD1 f1 hD1 => ?_)
    · have a1 : atI (ts.map PyData.int) (0 + (i : Int)) = some (.int (ts.getD i 0)) := by
        rw [Int.zero_add]
        refine atI_nat ?_
        rw [List.getElem?_map, List.getElem?_eq_getElem (by omega), List.getD_eq_getElem?_getD, List.getElem?_eq_getElem (by omega)]
        rfl
      have a2 : atI (ds.map ddD) (0 + (i : Int)) = some ((ds.map ddD).getD i .none) := by
        rw [Int.zero_add]
        refine atI_nat ?_
        rw [List.getD_eq_getElem?_getD, List.getElem?_eq_getElem (by rw [List.length_map]; omega)]
        rfl
      walk_at "rd"
      refine rd_ixI (hoI19.x f1) a1 fun y1 j1 => ?_
      walk_at "rd"
      refine rd_ixI (hdI19.x f1) a2 fun y2 j2 => ?_
      walk_at "rd"
      walk_at "al"
      rename_i p4 G4 np4 x4 g4
      exact hRq _ G4 x4 (.new2 (j1.x x4) (j2.x x4) g4)
    · obtain ⟨kx, hkx, hki⟩ := hD1
      walk_at "rd"
      refine rd_tupA T hkx fun p G2 np f2 hp => ?_
      walk_at "rd"
      have e : List.zipWith pzD ts (ds.map ddD) = (List.range n).map fun k => pzD (ts.getD k 0) ((ds.map ddD).getD k .none) := zip_range htn (by rw [List.length_map]; omega)
      have hdp : PyData.depth (.tuple (List.zipWith pzD ts (ds.map ddD))) ≤ 64 := by
        refine Nat.le_trans (sn_list (k := 4) (by rw [List.length_zipWith, List.length_map]; omega) (by decide) fun d hd => ?_).2 (show 4 + 1 ≤ 64 by decide)
        rw [e] at hd
        obtain ⟨k, hk, rfl⟩ := List.mem_map.mp hd
        have hk := List.mem_range.mp hk
        refine snk2 (snk_up (snk_int _) (by decide)) ?_ (by decide)
        rw [List.getD_eq_getElem?_getD, List.getElem?_map, List.getElem?_eq_getElem (show k < ds.length by omega)]
        exact hdS _ (List.getElem_mem _)
      refine rd_eqI (b := true) (hy.x (f1.trans f2)) (Im.tup hp (hki.x f2)) hdp (by rw [← e]; exact hdp) (by rw [← e]; simp) ?_
      exact q _
end
section
variable {T : List (Addr × Str)} {P : Program} {w : World} {K : PySem.W.Frag} {mg : Str → Option Value} {base : Heap}
theorem ok_law_mix (D : Def K mg "_law_mix" s_law_mix ["number"]) (mb : ∀ x ∈ bltns, mg x = none) : Ok P w K mg base 1 "_law_mix" ["number"] spMix := by
  refine D.ok sc_law_mix (fun vs H Q E h => ?_) (fun cdv f A outer s H vs Q E hr h => ?_)
  · obtain ⟨n, rfl, _⟩ := h
    rfl
  · obtain ⟨n, rfl, q⟩ := h
    refine ⟨_, (pss_cons (ps_set (i := 0) sc_law_mix.nd rfl (.inl rfl) (pe_op op_mod (pe_callTy call_int1U (by rfl) (mb _ (by decide)) (by decide +kernel) (pa_cons (pe_op (op_plus K rfl) (pe_op op_mul (pv 0) pe_int) pe_int) pa_nil)) pe_int))
   (pss_one (ps_ret (pe_op op_mod (pe_callTy call_int1U (by rfl) (mb _ (by decide)) (by decide +kernel) (pa_cons (pe_op (op_plus K rfl) (pe_op op_fdivW (pe_op op_mul (pv 0) (pv 0)) pe_int) (pe_op op_mul (pv 0) pe_int)) pa_nil)) pe_int)))), ?_⟩
    walk_at "rd"
    exact q
theorem ok_law_tape (D : Def K mg "_law_tape" s_law_tape ["script", "budget"]) (mb : ∀ x ∈ bltns, mg x = none) : Ok P w K mg base 1 "_law_tape" ["script", "budget"] (spTape T K) := by
  refine D.ok sc_law_tape (fun vs H Q E h => ?_) (fun cdv f A outer s H vs Q E hr h => ?_)
  · obtain ⟨a, ns, b, rfl, _⟩ := h
    rfl
  · obtain ⟨a, ns, b, rfl, ha, hl, q⟩ := h
    refine ⟨_, (pss_one (ps_ret (pe_lst (pa_cons (pe_callTy (call_listU K rfl) (by rfl) (mb _ (by decide)) (by decide +kernel) (pa_cons (pv 0) pa_nil)) (pa_cons pe_int (pa_cons pe_int (pa_cons pe_int (pa_cons (pv 1) pa_nil)))))))), ?_⟩
    walk_at "rd"
    refine rd_listL ha fun l nl => ?_
    walk_at "rd"
    refine ⟨by show 5 ≤ sizeLine; decide, fun t nt => ?_⟩
    have hlt : l ≠ t := fun z => by
      rw [← z, upd_same] at nt
      cases nt
    have ntH : H t = none := by
      rw [upd_ne (Ne.symm hlt)] at nt
      exact nt
    exact q t l _ (.of ntH) ((Ext.new nl).trans (.new nt)) ⟨ns, 0, 0, 1, b, upd_same, by rw [upd_ne hlt]; exact upd_same, hlt, by decide, by decide⟩
theorem ok_law_take (D : Def K mg "_law_take" s_law_take ["tape", "many"]) (G_law_mix : Ok P w K mg base 1 "_law_mix" ["number"] spMix) (mb : ∀ x ∈ bltns, mg x = none) : Ok P w K mg base 2 "_law_take" ["tape", "many"] (spTake T) := by
  refine D.ok sc_law_take (fun vs H Q E h => ?_) (fun cdv f A outer s H vs Q E hr h => ?_)
  · obtain ⟨l, t, m, rfl, _⟩ := h
    rfl
  · obtain ⟨l, t, m, rfl, hm, hm2, hT, q⟩ := h
    obtain ⟨ns, pos, rest, st, bud, ht, hlh, hlt, hr0, hs0⟩ := hT
    refine ⟨_, (pss_cons (ps_if (pt_cmpR op_lt (pe_ix (ix_U K rfl) (pv 0) pe_int (fun _ _ => rfl)) (pv 1) (nomark _)) (pss_one (ps_if (pt_cmpR op_lt (pe_ix (ix_U K rfl) (pv 0) pe_int (fun _ _ => rfl)) (pe_callB (call_lenU K rfl) (by rfl) (mb _ (by decide)) (by decide +kernel) (pa_cons (pe_ix (ix_U K rfl) (pv 0) pe_int (fun _ _ => rfl)) pa_nil)) (nomark _)) (pss_cons (ps_set (i := 2) sc_law_take.nd rfl (.inl rfl) (pe_ix (ix_U K rfl) (pe_ix (ix_U K rfl) (pv 0) pe_int (fun _ _ => rfl)) (pe_ix (ix_U K rfl) (pv 0) pe_int (fun _ _ => rfl)) (fun _ _ => rfl)))
   (pss_cons (ps_set (i := 2) sc_law_take.nd rfl (.inl rfl) (pe_ifExp (pt_cmpR op_ge (pv 2) pe_int (nomark _)) (pe_op op_mul pe_int (pv 2)) (pe_op op_sub (pe_op op_mul (pe_un un_neg pe_int) (pv 2)) pe_int)))
   (pss_cons (ps_asg (pe_op (op_plus K rfl) (pe_ix (ix_U K rfl) (pv 0) pe_int (fun _ _ => rfl)) pe_int) (pg_sub (pv 0) pe_int set_list))
   (pss_cons (ps_asg (pe_callO G_law_mix (hr.mono (by decide)) (by rfl) (pa_cons (pe_op (op_plus K rfl) (pe_ix (ix_U K rfl) (pv 0) pe_int (fun _ _ => rfl)) (pv 2)) pa_nil)) (pg_sub (pv 0) pe_int set_list))
   (pss_one (ps_asg (pe_ifExp (pt_cmpR op_ge (pv 2) (pe_op op_pow pe_int pe_int) (nomark _)) (pv 2) (pe_callO G_law_mix (hr.mono (by decide)) (by rfl) (pa_cons (pe_callO G_law_mix (hr.mono (by decide)) (by rfl) (pa_cons (pv 2) pa_nil)) pa_nil))) (pg_sub (pv 0) pe_int set_list))))))) (pss_cons (ps_asg (pe_callO G_law_mix (hr.mono (by decide)) (by rfl) (pa_cons (pe_op (op_plus K rfl) (pe_ix (ix_U K rfl) (pv 0) pe_int (fun _ _ => rfl)) pe_int) pa_nil)) (pg_sub (pv 0) pe_int set_list))
   (pss_one (ps_asg (pe_ix (ix_U K rfl) (pv 0) pe_int (fun _ _ => rfl)) (pg_sub (pv 0) pe_int set_list)))))) pss_nil)
   (pss_cons (ps_set (i := 3) sc_law_take.nd rfl (.inl rfl) (pe_op op_mod (pe_callTy call_int1U (by rfl) (mb _ (by decide)) (by decide +kernel) (pa_cons (pe_ix (ix_U K rfl) (pv 0) pe_int (fun _ _ => rfl)) pa_nil)) (pv 1)))
   (pss_cons (ps_asg (pe_op op_fdivW (pe_ix (ix_U K rfl) (pv 0) pe_int (fun _ _ => rfl)) (pv 1)) (pg_sub (pv 0) pe_int set_list))
   (pss_one (ps_ret (pv 3)))))), ?_⟩
    have fin : ∀ (H1 : Hp) (po : Nat) (re sm : Int) (σ' : L2.St), H1 t = some (.lst [.ref l, .int (po : Int), .int re, .int sm, .int bud]) → H1 l = some (.lst (ns.map V.int)) → 0 ≤ re → 0 ≤ sm → Ext T [t] H H1 →
        ∀ d, 0 ≤ d → d < m → Q (.int d) (upd H1 t (.lst [.ref l, .int (po : Int), .int (re / m), .int sm, .int bud])) := fun H1 po re sm σ' e1 e2 h1 h2 ex d h3 h4 =>
      q d _ h3 h4 (ex.trans (.mut (by simp) e1)) ⟨ns, po, re / m, sm, bud, upd_same, by rw [upd_ne hlt]; exact e2, hlt, Int.ediv_nonneg h1 (by omega), h2⟩
    have wm : ∀ i, CDivW i m := fun i => wide_div hm (b := 64) (by omega) (by decide) (by decide)
    have tail : ∀ (H1 : Hp) (po : Nat) (re sm : Int) (xs : List V), xs = [.ref l, .int (po : Int), .int re, .int sm, .int bud] → H1 t = some (.lst xs) → H1 l = some (.lst (ns.map V.int)) → 0 ≤ re → 0 ≤ sm → Ext T [t] H H1 →
        Q (.int (re % m)) (upd H1 t (.lst (xs.set 2 (.int (re / m))))) := fun H1 po re sm xs exs e1 e2 h1 h2 ex => by
      subst exs
      exact fin H1 po re sm [] e1 e2 h1 h2 ex _ (Int.emod_nonneg _ (by omega)) (Int.emod_lt_of_pos _ hm)
    walk_at "rd"
    refine rd_ite (fun h1 => ?_) (fun h1 => ?_)
    · walk_at "rd"
      refine rd_ite (fun h2 => ?_) (fun h2 => ?_)
      · walk_at "rd"
        have hp : pos < ns.length := by
          rw [List.length_map] at h2
          omega
        refine rd_ixL (v := .int ns[pos]) (SqL.of hlh) (atI_nat (by rw [List.getElem?_map, List.getElem?_eq_getElem hp]; rfl)) ?_
        walk_at "rd"
        refine rd_ite (fun h3 => ?_) (fun h3 => ?_)
        · walk_at "rd"
          refine ⟨_, rfl, ?_⟩
          walk_at "rd"
          refine rd_ite (fun h4 => ?_) (fun h4 => ?_)
          · walk_at "rd"
            refine rd_i (wm _) ?_
            walk_at "rd"
            exact tail _ (pos + 1) _ _ _ rfl upd_same (by walk_at "hp") (by omega) (mixI_nn _) (by walk_at "ext")
          · walk_at "rd"
            refine ⟨_, rfl, ?_⟩
            walk_at "rd"
            refine ⟨_, rfl, ?_⟩
            walk_at "rd"
            refine rd_i (wm _) ?_
            walk_at "rd"
            exact tail _ (pos + 1) _ _ _ rfl upd_same (by walk_at "hp") (mixI_nn _) (mixI_nn _) (by walk_at "ext")
        · walk_at "rd"
          refine ⟨_, rfl, ?_⟩
          walk_at "rd"
          refine rd_ite (fun h4 => ?_) (fun h4 => ?_)
          · walk_at "rd"
            refine rd_i (wm _) ?_
            walk_at "rd"
            exact tail _ (pos + 1) _ _ _ rfl upd_same (by walk_at "hp") (by omega) (mixI_nn _) (by walk_at "ext")
          · walk_at "rd"
            refine ⟨_, rfl, ?_⟩
            walk_at "rd"
            refine ⟨_, rfl, ?_⟩
            walk_at "rd"
            refine rd_i (wm _) ?_
            walk_at "rd"
            exact tail _ (pos + 1) _ _ _ rfl upd_same (by walk_at "hp") (mixI_nn _) (mixI_nn _) (by walk_at "ext")
      · walk_at "rd"
        refine ⟨_, rfl, ?_⟩
        walk_at "rd"
        refine rd_i (wm _) ?_
        walk_at "rd"
        exact tail _ pos _ _ _ rfl upd_same (by walk_at "hp") (mixI_nn _) (mixI_nn _) (by walk_at "ext")
    · walk_at "rd"
      refine rd_i (wm _) ?_
      walk_at "rd"
      exact tail H pos rest st _ rfl ht hlh hr0 hs0 .refl
end
/-! ### what the head has written: the defs, the constants, the words of the language -/
def DefIn (K : PySem.W.Frag) (x : Str) (st : Stmt) : Prop :=
  ∃ (f : Addr) (oc : Value) (od : Option Addr) (kV doc pm : Value) (an : Option Addr) (cdv ct : Value) (osl : Array (Option Value)),
    PySem.W.nsIn K mainGlobals x = some (some (.ref f)) ∧ K.lookup f = some ⟨oc, od, .func (PySem.W.fnOf x x (defArgs st) (defBody st) (defScope st) .none kV doc pm an cdv ct), osl⟩ ∧ PySem.W.codeIn K cdv x = true ∧ PySem.W.keepIn K (.ref f) = true
def DefInC (K : PySem.W.Frag) (x : Str) (st : Stmt) (c : Addr) : Prop :=
  ∃ (f : Addr) (oc : Value) (od : Option Addr) (kV doc pm : Value) (an : Option Addr) (ct : Value) (osl : Array (Option Value)),
    PySem.W.nsIn K mainGlobals x = some (some (.ref f)) ∧ K.lookup f = some ⟨oc, od, .func (PySem.W.fnOf x x (defArgs st) (defBody st) (defScope st) .none kV doc pm an (.ref c) ct), osl⟩ ∧ PySem.W.codeIn K (.ref c) x = true ∧ PySem.W.keepIn K (.ref f) = true
theorem DefIn.of {K : PySem.W.Frag} {x : Str} {st : Stmt} {f : Addr} {oc : Value} {od : Option Addr} {kV doc pm : Value} {an : Option Addr} {cdv ct : Value} {osl : Array (Option Value)} (h1 : PySem.W.nsIn K mainGlobals x = some (some (.ref f)))
    (h2 : K.lookup f = some ⟨oc, od, .func (PySem.W.fnOf x x (defArgs st) (defBody st) (defScope st) .none kV doc pm an cdv ct), osl⟩) (h3 : PySem.W.codeIn K cdv x = true) (h4 : PySem.W.keepIn K (.ref f) = true) : DefIn K x st := ⟨f, oc, od, kV, doc, pm, an, cdv, ct, osl, h1, h2, h3, h4⟩
theorem DefInC.of {K : PySem.W.Frag} {x : Str} {st : Stmt} {f c : Addr} {oc : Value} {od : Option Addr} {kV doc pm : Value} {an : Option Addr} {ct : Value} {osl : Array (Option Value)} (h1 : PySem.W.nsIn K mainGlobals x = some (some (.ref f)))
    (h2 : K.lookup f = some ⟨oc, od, .func (PySem.W.fnOf x x (defArgs st) (defBody st) (defScope st) .none kV doc pm an (.ref c) ct), osl⟩) (h3 : PySem.W.codeIn K (.ref c) x = true) (h4 : PySem.W.keepIn K (.ref f) = true) : DefInC K x st c := ⟨f, oc, od, kV, doc, pm, an, ct, osl, h1, h2, h3, h4⟩
theorem cstS_of {K : PySem.W.Frag} {x y : Str} {t : Tok} (h : PySem.W.nsIn K mainGlobals x = some (some (.str y t))) : ∃ t, PySem.W.nsIn K mainGlobals x = some (some (.str y t)) := ⟨t, h⟩
theorem cstI_of {K : PySem.W.Frag} {x : Str} {y : Int} {t : Tok} (h : PySem.W.nsIn K mainGlobals x = some (some (.int y t))) : ∃ t, PySem.W.nsIn K mainGlobals x = some (some (.int y t)) := ⟨t, h⟩
section
variable {K : PySem.W.Frag} {h : Heap} {mg : Str → Option Value} {x : Str} {st : Stmt} {ps : List Str}
def BindOk (x : Str) (st : Stmt) (ps : List Str) : Prop := ∀ (kV doc pm : Value) (an : Option Addr) (cdv ct : Value) (us : List Value), us.length = ps.length → bindArgs (PySem.W.fnOf x x (defArgs st) (defBody st) (defScope st) .none kV doc pm an cdv ct) ⟨us, []⟩ = pure (ps.zip us)
theorem DefIn.mk (d : DefIn K x st) (X : K.In h) (G : h.Ns mainGlobals mg) (hb : BindOk x st ps) : Def K mg x st ps := by
  obtain ⟨f, oc, od, kV, doc, pm, an, cdv, ct, osl, h1, h2, h3, h4⟩ := d
  have F := fun_mk (st := st) h2 h3 h4
  exact ⟨f, _, F, PySem.W.mg_of X G h1, F.binds hb⟩
theorem DefInC.mk {c : Addr} (d : DefInC K x st c) (X : K.In h) (G : h.Ns mainGlobals mg) (hb : BindOk x st ps) : DefC K mg x st ps c := by
  obtain ⟨f, oc, od, kV, doc, pm, an, ct, osl, h1, h2, h3, h4⟩ := d
  exact ⟨f, oc, od, kV, doc, pm, an, ct, osl, h2, h3, h4, PySem.W.mg_of X G h1, (fun_mk (st := st) h2 h3 h4).binds hb⟩
end
/-! ### what the head has written of classes and of second names -/
def MethIn (K : PySem.W.Frag) (C : Addr) (m qual : Str) (st : Stmt) : Prop :=
  ∃ (f : Addr) (oc : Value) (od : Option Addr) (kV doc pm : Value) (an : Option Addr) (cdv ct : Value) (osl : Array (Option Value)),
    PySem.W.findIn K (.ref C) m = some (some (.ref f)) ∧ PySem.W.isFn K (.ref f) = true ∧ K.lookup f = some ⟨oc, od, .func (PySem.W.fnOf m qual (defArgs st) (defBody st) (defScope st) .none kV doc pm an cdv ct), osl⟩ ∧ PySem.W.codeIn K cdv qual = true ∧ PySem.W.keepIn K (.ref f) = true
theorem MethIn.of {K : PySem.W.Frag} {C : Addr} {m qual : Str} {st : Stmt} {f : Addr} {oc : Value} {od : Option Addr} {kV doc pm : Value} {an : Option Addr} {cdv ct : Value} {osl : Array (Option Value)} (h1 : PySem.W.findIn K (.ref C) m = some (some (.ref f))) (h2 : PySem.W.isFn K (.ref f) = true)
    (h3 : K.lookup f = some ⟨oc, od, .func (PySem.W.fnOf m qual (defArgs st) (defBody st) (defScope st) .none kV doc pm an cdv ct), osl⟩) (h4 : PySem.W.codeIn K cdv qual = true) (h5 : PySem.W.keepIn K (.ref f) = true) : MethIn K C m qual st := ⟨f, oc, od, kV, doc, pm, an, cdv, ct, osl, h1, h2, h3, h4, h5⟩
def DefIn2 (K : PySem.W.Frag) (x y : Str) (st : Stmt) : Prop :=
  ∃ (f : Addr) (oc : Value) (od : Option Addr) (kV doc pm : Value) (an : Option Addr) (cdv ct : Value) (osl : Array (Option Value)),
    PySem.W.nsIn K mainGlobals x = some (some (.ref f)) ∧ PySem.W.nsIn K mainGlobals y = some (some (.ref f)) ∧ K.lookup f = some ⟨oc, od, .func (PySem.W.fnOf x x (defArgs st) (defBody st) (defScope st) .none kV doc pm an cdv ct), osl⟩ ∧ PySem.W.codeIn K cdv x = true ∧ PySem.W.keepIn K (.ref f) = true
theorem DefIn2.of {K : PySem.W.Frag} {x y : Str} {st : Stmt} {f : Addr} {oc : Value} {od : Option Addr} {kV doc pm : Value} {an : Option Addr} {cdv ct : Value} {osl : Array (Option Value)} (h1 : PySem.W.nsIn K mainGlobals x = some (some (.ref f))) (h2 : PySem.W.nsIn K mainGlobals y = some (some (.ref f)))
    (h3 : K.lookup f = some ⟨oc, od, .func (PySem.W.fnOf x x (defArgs st) (defBody st) (defScope st) .none kV doc pm an cdv ct), osl⟩) (h4 : PySem.W.codeIn K cdv x = true) (h5 : PySem.W.keepIn K (.ref f) = true) : DefIn2 K x y st := ⟨f, oc, od, kV, doc, pm, an, cdv, ct, osl, h1, h2, h3, h4, h5⟩
section
variable {P : Program} {w : World} {K : PySem.W.Frag} {mg : Str → Option Value} {base : Heap} {h : Heap}
theorem DefIn2.d {x y : Str} {st : Stmt} (d : DefIn2 K x y st) : DefIn K x st := by
  obtain ⟨f, oc, od, kV, doc, pm, an, cdv, ct, osl, h1, _, h3, h4, h5⟩ := d
  exact ⟨f, oc, od, kV, doc, pm, an, cdv, ct, osl, h1, h3, h4, h5⟩
theorem DefIn2.same {x y : Str} {st : Stmt} (d : DefIn2 K x y st) (X : K.In h) (G : h.Ns mainGlobals mg) : mg y = mg x := by
  obtain ⟨f, oc, od, kV, doc, pm, an, cdv, ct, osl, h1, h2, _⟩ := d
  rw [PySem.W.mg_of X G h1, PySem.W.mg_of X G h2]
end
open PySem.W (ksFn ks_superIn)
theorem exm_selfE {K : PySem.W.Frag} {S : Addr} (h1 : PySem.W.subIn K (.ref S) (.type "BaseException") = some true) (h2 : PySem.W.hasDictIn K S = true) (h3 : PySem.W.typeIn K (.ref S) = some (.type "type")) (h4 : PySem.W.subIn K (.ref S) (.ref S) = some true) :
    PySem.W.exmOne K (.ref S) (.ref S) = some true := PySem.W.exm_ref h1 h2 h3 h4
/-- what the head has written of the code of a def of a class -/
structure InitIn (P : Program) (K : PySem.W.Frag) (fld : Str) (C fI : Addr) (parts : List Expr) (ps : List Pos) (p1 p2 q1 q2 q3 q4 : Pos) (qual : Str) : Prop where
  ex : ∃ (oc : Value) (od : Option Addr) (doc pm kV : Value) (an : Option Addr) (cda cc : Addr) (ct : Value) (osl : Array (Option Value)),
    K.lookup fI = some ⟨oc, od, .func (ksFn "__init__" qual (supA fld p1 p2) (supB fld parts ps q1 q2 q3 q4) (supS fld) .none kV doc pm an (.ref cda) ct cc), osl⟩ ∧ PySem.W.codeIn K (.ref cda) qual = true ∧
    (∃ ccl cdd vs ccs file tf, K.lookup cda = some ⟨ccl, cdd, .fields vs, ccs⟩ ∧ vs[2]? = some (.str file tf) ∧ ((P.main.file : Str) == file) = true) ∧
    (∃ cl cld csl, K.lookup cc = some ⟨cl, cld, .cell (some (.ref C)), csl⟩)
theorem InitIn.of {P : Program} {K : PySem.W.Frag} {fld : Str} {C fI : Addr} {parts : List Expr} {ps : List Pos} {p1 p2 q1 q2 q3 q4 : Pos} {qual : Str} {oc : Value} {od : Option Addr} {doc pm kV : Value} {an : Option Addr} {cda cc : Addr} {ct : Value} {osl : Array (Option Value)} {ccl : Value} {cdd : Option Addr} {vs : Array Value} {ccs : Array (Option Value)} {file : Str} {tf : Tok} {cl : Value} {cld : Option Addr} {csl : Array (Option Value)}
    (h1 : K.lookup fI = some ⟨oc, od, .func (ksFn "__init__" qual (supA fld p1 p2) (supB fld parts ps q1 q2 q3 q4) (supS fld) .none kV doc pm an (.ref cda) ct cc), osl⟩) (h2 : PySem.W.codeIn K (.ref cda) qual = true)
    (h3 : K.lookup cda = some ⟨ccl, cdd, .fields vs, ccs⟩) (h4 : vs[2]? = some (.str file tf)) (h5 : ((P.main.file : Str) == file) = true) (h6 : K.lookup cc = some ⟨cl, cld, .cell (some (.ref C)), csl⟩) : InitIn P K fld C fI parts ps p1 p2 q1 q2 q3 q4 qual :=
  ⟨oc, od, doc, pm, kV, an, cda, cc, ct, osl, h1, h2, ⟨ccl, cdd, vs, ccs, file, tf, h3, h4, h5⟩, ⟨cl, cld, csl, h6⟩⟩
structure ClsIn (P : Program) (K : PySem.W.Frag) (nm fld : Str) (C fI CN : Addr) : Prop where
  aC : PySem.W.nsIn K mainGlobals nm = some (some (.ref C))
  cls : ∃ nm q N bs sn sub ab col dd k0 k1 k2 k3 k5, K.lookup C = some (excClassObj nm q C N bs [.ref CN, .type "ValueError", .type "Exception", .type "BaseException", .type "object"] true sn sub ab col dd k0 k1 k2 k3 k5 "ValueError.__new__")
  sa : PySem.W.findIn K (.ref C) "__setattr__" = some (some (.builtin "object.__setattr__"))
  ga : PySem.W.findIn K (.ref C) "__getattribute__" = some (some (.builtin "BaseException.__getattribute__"))
  gg : PySem.W.findIn K (.ref C) "__getattr__" = some none
  noN : PySem.W.findIn K (.ref C) fld = some none
  iC : PySem.W.findIn K (.ref C) "__init__" = some (some (.ref fI))
  tC : PySem.W.typeIn K (.ref fI) = some (.type "function")
  kC : PySem.W.keepIn K (.ref C) = true
  exC : PySem.W.subIn K (.ref C) (.type "BaseException") = some true
  tyC : PySem.W.typeIn K (.ref C) = some (.type "type")
  hdC : PySem.W.hasDictIn K C = true
  sC : PySem.W.subIn K (.ref C) (.ref C) = some true
  sup : ks_superIn K C C "__init__" = some (some (.builtin "ValueError.__init__"))
  subV : PySem.W.subIn K (.ref C) (.type "ValueError") = some true
  selfC : PySem.W.mroIn K C (.ref C) = some true
  gsup : PySem.W.nsIn K mainGlobals "super" = some none
  opq : PySem.W.nsIn K cStatics "thirdparty.any" = some none
  ha : PySem.W.findIn K (.ref C) "__class__" = some (some (.builtin "object.__class__"))
  hn : PySem.W.specialIn K (.builtin "object.__class__") "__get__" = some (some (.builtin "getset_descriptor.__get__"))
  ht : PySem.W.takesIn K (.builtin "object.__class__") = some true
  hm : PySem.W.mroIn K C (.type "object") = some true
theorem ClsIn.of {P : Program} {K : PySem.W.Frag} {nm fld : Str} {C fI CN : Addr} {nm' q : Str} {N : Addr} {bs : List Value} {sn : List Str} {sub : List Value} {ab : Bool} {col : Option Bool} {dd : Option Addr} {k0 k1 k2 k3 k5 : Option Value}
    (aC : PySem.W.nsIn K mainGlobals nm = some (some (.ref C)))
    (cls : K.lookup C = some (excClassObj nm' q C N bs [.ref CN, .type "ValueError", .type "Exception", .type "BaseException", .type "object"] true sn sub ab col dd k0 k1 k2 k3 k5 "ValueError.__new__"))
    (sa : PySem.W.findIn K (.ref C) "__setattr__" = some (some (.builtin "object.__setattr__")))
    (ga : PySem.W.findIn K (.ref C) "__getattribute__" = some (some (.builtin "BaseException.__getattribute__")))
    (gg : PySem.W.findIn K (.ref C) "__getattr__" = some none)
    (noN : PySem.W.findIn K (.ref C) fld = some none)
    (iC : PySem.W.findIn K (.ref C) "__init__" = some (some (.ref fI)))
    (tC : PySem.W.typeIn K (.ref fI) = some (.type "function"))
    (kC : PySem.W.keepIn K (.ref C) = true)
    (exC : PySem.W.subIn K (.ref C) (.type "BaseException") = some true)
    (tyC : PySem.W.typeIn K (.ref C) = some (.type "type"))
    (hdC : PySem.W.hasDictIn K C = true)
    (sC : PySem.W.subIn K (.ref C) (.ref C) = some true)
    (sup : ks_superIn K C C "__init__" = some (some (.builtin "ValueError.__init__")))
    (subV : PySem.W.subIn K (.ref C) (.type "ValueError") = some true)
    (selfC : PySem.W.mroIn K C (.ref C) = some true)
    (gsup : PySem.W.nsIn K mainGlobals "super" = some none)
    (opq : PySem.W.nsIn K cStatics "thirdparty.any" = some none)
    (ha : PySem.W.findIn K (.ref C) "__class__" = some (some (.builtin "object.__class__")))
    (hn : PySem.W.specialIn K (.builtin "object.__class__") "__get__" = some (some (.builtin "getset_descriptor.__get__")))
    (ht : PySem.W.takesIn K (.builtin "object.__class__") = some true)
    (hm : PySem.W.mroIn K C (.type "object") = some true) : ClsIn P K nm fld C fI CN :=
  ⟨aC, ⟨nm', q, N, bs, sn, sub, ab, col, dd, k0, k1, k2, k3, k5, cls⟩, sa, ga, gg, noN, iC, tC, kC, exC, tyC, hdC, sC, sup, subV, selfC, gsup, opq, ha, hn, ht, hm⟩
theorem ExcT.of {P : Program} {K : PySem.W.Frag} {h : Heap} {mg : Str → Option Value} {nm fld : Str} {C fI CN : Addr} {parts : List Expr} {ps : List Pos} {p1 p2 q1 q2 q3 q4 : Pos} {qual : Str} (X : K.In h) (G : h.Ns mainGlobals mg) (c : ClsIn P K nm fld C fI CN) (i : InitIn P K fld C fI parts ps p1 p2 q1 q2 q3 q4 qual)
    (htop : (P.main.scope.names.lookup ("super" : Str)).isSome = false) (hp : PartsOk fld parts (pz ps 3)) (hc : CallOk fld parts ps) : ExcT P K mg nm fld C fI where
  gC := PySem.W.mg_of X G c.aC
  cls := by
    obtain ⟨nm, q, N, bs, sn, sub, ab, col, dd, k0, k1, k2, k3, k5, e⟩ := c.cls
    exact ⟨nm, q, N, bs, _, sn, sub, ab, col, dd, k0, k1, k2, k3, k5, e, rfl⟩
  sa := c.sa
  ga := c.ga
  gg := c.gg
  noN := c.noN
  iC := c.iC
  tC := c.tC
  kC := c.kC
  exC := c.exC
  tyC := c.tyC
  hdC := c.hdC
  te := exm_selfE c.exC c.hdC c.tyC c.sC
  sup := c.sup
  subV := c.subV
  selfC := c.selfC
  gsup := c.gsup
  opq := c.opq
  htop := htop
  fn := by
    obtain ⟨oc, od, doc, pm, kV, an, cda, cc, ct, osl, h1, h2, h3, h4⟩ := i.ex
    exact ⟨oc, od, doc, pm, kV, an, cda, cc, ct, osl, p1, p2, q1, q2, q3, q4, ps, parts, qual, h1, h2, h3, h4, hp, hc⟩
  ec := ⟨c.ga, c.gg, c.exC, c.hdC, c.ha, c.hn, c.ht, c.hm⟩
theorem all_mk {l : PySem.W.OpenLaw} {w : World} {K : PySem.W.Frag} {h : Heap} {mg : Str → Option Value} {fa : Addr} (X : K.In h) (G : h.Ns mainGlobals mg) (hfa : mg "law" = some (.ref fa))
    (d1 : DefIn K "is_integer_in" s_is_integer_in) (d2 : DefIn K "is_tuple_of" s_is_tuple_of) (d3 : DefIn K "is_ascending" s_is_ascending) (d4 : DefIn K "is_word" s_is_word) (d5 : DefIn K "is_id" s_is_id) (d6 : DefIn K "are_ids" s_are_ids) (d7 : DefIn K "zone_names" s_zone_names) (d8 : DefIn K "slots" s_slots) (d9 : DefIn K "is_slot" s_is_slot) (d10 : DefIn K "is_item" s_is_item) (d11 : DefIn K "is_server" s_is_server) (d12 : DefIn K "is_on" s_is_on) (d13 : DefIn K "is_deed" s_is_deed) (d14 : DefIn K "changed" s_changed) (d15 : DefIn K "are_allowed" s_are_allowed) (d16 : DefIn K "is_row_of_deeds" s_is_row_of_deeds) (d17 : DefIn K "is_bound" s_is_bound) (d18 : DefIn K "is_bounds" s_is_bounds) (d19 : DefIn K "is_wait" s_is_wait) (d20 : DefIn K "is_table" s_is_table) (d21 : DefIn K "plan_of" s_plan_of) (d22 : DefIn K "_law_mix" s_law_mix) (d23 : DefIn K "_law_tape" s_law_tape) (d24 : DefIn K "_law_take" s_law_take) (d25 : DefIn K "_law_id" s_law_id) (d26 : DefIn K "_law_ids" s_law_ids) (d27 : DefIn K "_law_label" s_law_label) (d28 : DefIn K "_law_labels" s_law_labels) (d29 : DefIn K "_law_lag" s_law_lag) (d30 : DefIn K "_law_zones" s_law_zones) (d31 : DefIn K "_law_realm" s_law_realm) (d32 : DefIn K "_law_chain" s_law_chain) (d33 : DefIn K "_law_slots" s_law_slots) (d34 : DefIn K "_law_home" s_law_home) (d35 : DefIn K "_law_life" s_law_life) (d36 : DefIn K "_law_pools" s_law_pools) (d37 : DefIn K "_law_pool" s_law_pool) (d38 : DefIn K "_law_item" s_law_item) (d39 : DefIn K "_law_first_item" s_law_first_item) (d40 : DefIn K "_law_start" s_law_start) (d41 : DefIn K "_law_at" s_law_at) (d42 : DefIn K "_law_after" s_law_after) (d43 : DefIn K "_law_server_deed" s_law_server_deed) (d44 : DefIn K "_law_mixed" s_law_mixed) (d45 : DefIn K "_law_deed" s_law_deed) (d46 : DefIn K "_law_deeds" s_law_deeds) (d47 : DefIn K "_law_bent_start" s_law_bent_start) (d48 : DefIn K "_law_change" s_law_change) (d49 : DefIn K "_law_move" s_law_move) (d50 : DefIn K "_law_row" s_law_row) (d51 : DefIn K "_law_case" s_law_case) (d52 : DefIn K "_law_bounds" s_law_bounds) (d53 : DefIn K "_law_delays" s_law_delays) (d54 : DefIn K "_law_first" s_law_first) (d55 : DefIn K "_law_run" s_law_run) (d56 : DefIn K "_law_table" s_law_table) (d57 : DefIn K "_law_bad_table" s_law_bad_table) (d58 : DefIn K "_law_bad_bounds" s_law_bad_bounds) (d59 : DefIn K "law" s_law)
    (mb : ∀ x ∈ bltns, PySem.W.nsIn K mainGlobals x = some none) (c1 : ∃ t, PySem.W.nsIn K mainGlobals "LETTERS" = some (some (.str "abcdefghijklmnopqrstuvwxyz0123456789" t))) (c2 : ∃ t, PySem.W.nsIn K mainGlobals "MAX_ID" = some (some (.int 4 t))) (c3 : ∃ t, PySem.W.nsIn K mainGlobals "MAX_TIME" = some (some (.int 10000 t))) (c4 : ∃ t, PySem.W.nsIn K mainGlobals "MAX_LIFE" = some (some (.int 1000 t))) (c5 : ∃ t, PySem.W.nsIn K mainGlobals "MAX_IDS" = some (some (.int 4 t))) (c6 : ∃ t, PySem.W.nsIn K mainGlobals "MAX_SIGNERS" = some (some (.int 3 t))) (c7 : ∃ t, PySem.W.nsIn K mainGlobals "MAX_DEEDS" = some (some (.int 6 t))) (c8 : ∃ t, PySem.W.nsIn K mainGlobals "MAX_DELAY" = some (some (.int 1000 t))) (c9 : ∃ t, PySem.W.nsIn K mainGlobals "MAX_WAIT" = some (some (.int 10000 t))) :
    LamX.LawAtS l w K CX0 9 63 "script" mg fa h := by
  have M : Cst mg := ⟨c1.imp fun _ e => PySem.W.mg_of X G e, c2.imp fun _ e => PySem.W.mg_of X G e, c3.imp fun _ e => PySem.W.mg_of X G e, c4.imp fun _ e => PySem.W.mg_of X G e, c5.imp fun _ e => PySem.W.mg_of X G e, c6.imp fun _ e => PySem.W.mg_of X G e, c7.imp fun _ e => PySem.W.mg_of X G e, c8.imp fun _ e => PySem.W.mg_of X G e, c9.imp fun _ e => PySem.W.mg_of X G e⟩
  have mb : ∀ x ∈ bltns, mg x = none := fun x hx => PySem.W.mg_none_of X G (mb x hx)
  obtain ⟨f, oc, od, kV, doc, pm, an, cdv, ct, osl, h1, h2, h3, h4⟩ := d59
  have F_law := fun_mk (st := s_law) h2 h3 h4
  have e := hfa.symm.trans (PySem.W.mg_of X G h1)
  cases e
  have D_is_integer_in := d1.mk (ps := ["value", "least", "most"]) X G fun _ _ _ _ _ _ us hl => match us, hl with | [_, _, _], _ => rfl
  have D_is_tuple_of := d2.mk (ps := ["value", "least", "most"]) X G fun _ _ _ _ _ _ us hl => match us, hl with | [_, _, _], _ => rfl
  have D_is_ascending := d3.mk (ps := ["values"]) X G fun _ _ _ _ _ _ us hl => match us, hl with | [_], _ => rfl
  have D_is_word := d4.mk (ps := ["text", "letters", "most"]) X G fun _ _ _ _ _ _ us hl => match us, hl with | [_, _, _], _ => rfl
  have D_is_id := d5.mk (ps := ["text"]) X G fun _ _ _ _ _ _ us hl => match us, hl with | [_], _ => rfl
  have D_are_ids := d6.mk (ps := ["value", "least", "most"]) X G fun _ _ _ _ _ _ us hl => match us, hl with | [_, _, _], _ => rfl
  have D_zone_names := d7.mk (ps := ["realm"]) X G fun _ _ _ _ _ _ us hl => match us, hl with | [_], _ => rfl
  have D_slots := d8.mk (ps := ["realm"]) X G fun _ _ _ _ _ _ us hl => match us, hl with | [_], _ => rfl
  have D_is_slot := d9.mk (ps := ["realm", "value"]) X G fun _ _ _ _ _ _ us hl => match us, hl with | [_, _], _ => rfl
  have D_is_item := d10.mk (ps := ["slot", "value"]) X G fun _ _ _ _ _ _ us hl => match us, hl with | [_, _], _ => rfl
  have D_is_server := d11.mk (ps := ["realm", "value"]) X G fun _ _ _ _ _ _ us hl => match us, hl with | [_, _], _ => rfl
  have D_is_on := d12.mk (ps := ["state", "server", "zone"]) X G fun _ _ _ _ _ _ us hl => match us, hl with | [_, _, _], _ => rfl
  have D_is_deed := d13.mk (ps := ["realm", "state", "value"]) X G fun _ _ _ _ _ _ us hl => match us, hl with | [_, _, _], _ => rfl
  have D_changed := d14.mk (ps := ["state", "deed"]) X G fun _ _ _ _ _ _ us hl => match us, hl with | [_, _], _ => rfl
  have D_are_allowed := d15.mk (ps := ["realm", "state", "deeds"]) X G fun _ _ _ _ _ _ us hl => match us, hl with | [_, _, _], _ => rfl
  have D_is_row_of_deeds := d16.mk (ps := ["realm", "state", "value"]) X G fun _ _ _ _ _ _ us hl => match us, hl with | [_, _, _], _ => rfl
  have D_is_bound := d17.mk (ps := ["value"]) X G fun _ _ _ _ _ _ us hl => match us, hl with | [_], _ => rfl
  have D_is_bounds := d18.mk (ps := ["count", "value"]) X G fun _ _ _ _ _ _ us hl => match us, hl with | [_, _], _ => rfl
  have D_is_wait := d19.mk (ps := ["count", "value"]) X G fun _ _ _ _ _ _ us hl => match us, hl with | [_, _], _ => rfl
  have D_is_table := d20.mk (ps := ["count", "value"]) X G fun _ _ _ _ _ _ us hl => match us, hl with | [_, _], _ => rfl
  have D_plan_of := d21.mk (ps := ["deeds", "done"]) X G fun _ _ _ _ _ _ us hl => match us, hl with | [_, _], _ => rfl
  have D_law_mix := d22.mk (ps := ["number"]) X G fun _ _ _ _ _ _ us hl => match us, hl with | [_], _ => rfl
  have D_law_tape := d23.mk (ps := ["script", "budget"]) X G fun _ _ _ _ _ _ us hl => match us, hl with | [_, _], _ => rfl
  have D_law_take := d24.mk (ps := ["tape", "many"]) X G fun _ _ _ _ _ _ us hl => match us, hl with | [_, _], _ => rfl
  have D_law_id := d25.mk (ps := ["tape"]) X G fun _ _ _ _ _ _ us hl => match us, hl with | [_], _ => rfl
  have D_law_ids := d26.mk (ps := ["tape", "many"]) X G fun _ _ _ _ _ _ us hl => match us, hl with | [_, _], _ => rfl
  have D_law_label := d27.mk (ps := ["tape"]) X G fun _ _ _ _ _ _ us hl => match us, hl with | [_], _ => rfl
  have D_law_labels := d28.mk (ps := ["tape"]) X G fun _ _ _ _ _ _ us hl => match us, hl with | [_], _ => rfl
  have D_law_lag := d29.mk (ps := ["tape"]) X G fun _ _ _ _ _ _ us hl => match us, hl with | [_], _ => rfl
  have D_law_zones := d30.mk (ps := ["tape", "most"]) X G fun _ _ _ _ _ _ us hl => match us, hl with | [_, _], _ => rfl
  have D_law_realm := d31.mk (ps := ["tape", "most"]) X G fun _ _ _ _ _ _ us hl => match us, hl with | [_, _], _ => rfl
  have D_law_chain := d32.mk (ps := ["realm", "name"]) X G fun _ _ _ _ _ _ us hl => match us, hl with | [_, _], _ => rfl
  have D_law_slots := d33.mk (ps := ["realm"]) X G fun _ _ _ _ _ _ us hl => match us, hl with | [_], _ => rfl
  have D_law_home := d34.mk (ps := ["realm", "slot"]) X G fun _ _ _ _ _ _ us hl => match us, hl with | [_, _], _ => rfl
  have D_law_life := d35.mk (ps := ["tape"]) X G fun _ _ _ _ _ _ us hl => match us, hl with | [_], _ => rfl
  have D_law_pools := d36.mk (ps := ["tape", "realm"]) X G fun _ _ _ _ _ _ us hl => match us, hl with | [_, _], _ => rfl
  have D_law_pool := d37.mk (ps := ["pools", "zone"]) X G fun _ _ _ _ _ _ us hl => match us, hl with | [_, _], _ => rfl
  have D_law_item := d38.mk (ps := ["content", "life", "signers"]) X G fun _ _ _ _ _ _ us hl => match us, hl with | [_, _, _], _ => rfl
  have D_law_first_item := d39.mk (ps := ["tape", "realm", "pools", "slot"]) X G fun _ _ _ _ _ _ us hl => match us, hl with | [_, _, _, _], _ => rfl
  have D_law_start := d40.mk (ps := ["tape", "realm", "pools"]) X G fun _ _ _ _ _ _ us hl => match us, hl with | [_, _, _], _ => rfl
  have D_law_at := d41.mk (ps := ["state", "slot"]) X G fun _ _ _ _ _ _ us hl => match us, hl with | [_, _], _ => rfl
  have D_law_after := d42.mk (ps := ["state", "deed"]) X G fun _ _ _ _ _ _ us hl => match us, hl with | [_, _], _ => rfl
  have D_law_server_deed := d43.mk (ps := ["tape", "realm", "state"]) X G fun _ _ _ _ _ _ us hl => match us, hl with | [_, _, _], _ => rfl
  have D_law_mixed := d44.mk (ps := ["tape", "realm", "pools", "slot", "item"]) X G fun _ _ _ _ _ _ us hl => match us, hl with | [_, _, _, _, _], _ => rfl
  have D_law_deed := d45.mk (ps := ["tape", "realm", "pools", "state"]) X G fun _ _ _ _ _ _ us hl => match us, hl with | [_, _, _, _], _ => rfl
  have D_law_deeds := d46.mk (ps := ["tape", "realm", "pools", "state", "many"]) X G fun _ _ _ _ _ _ us hl => match us, hl with | [_, _, _, _, _], _ => rfl
  have D_law_bent_start := d47.mk (ps := ["tape", "realm", "pools", "state"]) X G fun _ _ _ _ _ _ us hl => match us, hl with | [_, _, _, _], _ => rfl
  have D_law_change := d48.mk (ps := ["tape", "realm", "pools", "state"]) X G fun _ _ _ _ _ _ us hl => match us, hl with | [_, _, _, _], _ => rfl
  have D_law_move := d49.mk (ps := ["tape", "realm", "state"]) X G fun _ _ _ _ _ _ us hl => match us, hl with | [_, _, _], _ => rfl
  have D_law_row := d50.mk (ps := ["tape", "realm", "pools", "state"]) X G fun _ _ _ _ _ _ us hl => match us, hl with | [_, _, _, _], _ => rfl
  have D_law_case := d51.mk (ps := ["tape", "most"]) X G fun _ _ _ _ _ _ us hl => match us, hl with | [_, _], _ => rfl
  have D_law_bounds := d52.mk (ps := ["tape", "many", "wide"]) X G fun _ _ _ _ _ _ us hl => match us, hl with | [_, _, _], _ => rfl
  have D_law_delays := d53.mk (ps := ["tape", "bounds"]) X G fun _ _ _ _ _ _ us hl => match us, hl with | [_, _], _ => rfl
  have D_law_first := d54.mk (ps := ["table", "deed", "done"]) X G fun _ _ _ _ _ _ us hl => match us, hl with | [_, _, _], _ => rfl
  have D_law_run := d55.mk (ps := ["table", "delays"]) X G fun _ _ _ _ _ _ us hl => match us, hl with | [_, _], _ => rfl
  have D_law_table := d56.mk (ps := ["tape", "many", "wide"]) X G fun _ _ _ _ _ _ us hl => match us, hl with | [_, _, _], _ => rfl
  have D_law_bad_table := d57.mk (ps := ["tape", "many", "table"]) X G fun _ _ _ _ _ _ us hl => match us, hl with | [_, _, _], _ => rfl
  have D_law_bad_bounds := d58.mk (ps := ["tape", "bounds"]) X G fun _ _ _ _ _ _ us hl => match us, hl with | [_, _], _ => rfl
  refine ⟨PySem.W.fnOf "law" "law" (defArgs s_law) (defBody s_law) (defScope s_law) .none kV doc pm an cdv ct, [], spLaw [] K, fun p hp => ?_, fun p hp => ?_, fun p hp => ?_, fun s u => .of_eq rfl, fun H a ns hl _ hT hS => ?_, fun base _ _ hTB => ?_⟩
  · cases hp
  · cases hp
  · cases hp
  · exact ⟨a, ns, rfl, hS, hl, fun _ => rfl⟩
  · have O_law_tape := ok_law_tape (P := l.prog) (w := w) (base := base) (T := []) (D := D_law_tape) (mb := mb)
    have O_law_mix := ok_law_mix (P := l.prog) (w := w) (base := base) (D := D_law_mix) (mb := mb)
    have O_law_take := ok_law_take (P := l.prog) (w := w) (base := base) (T := []) (D := D_law_take) (mb := mb) (G_law_mix := O_law_mix)
    have O_law_id := ok_law_id (P := l.prog) (w := w) (base := base) (T := []) (D := D_law_id) (mb := mb) (G_law_take := O_law_take)
    have O_law_label := ok_law_label (P := l.prog) (w := w) (base := base) (T := []) (D := D_law_label) (mb := mb) (G_law_take := O_law_take) (G_law_id := O_law_id)
    have O_law_labels := ok_law_labels (P := l.prog) (w := w) (base := base) (T := []) (D := D_law_labels) (mb := mb) (G_law_label := O_law_label)
    have O_law_lag := ok_law_lag (P := l.prog) (w := w) (base := base) (T := []) (D := D_law_lag) (G_law_take := O_law_take)
    have O_law_zones := ok_law_zones (P := l.prog) (w := w) (base := base) (T := []) (D := D_law_zones) (mb := mb) (G_law_take := O_law_take) (G_law_labels := O_law_labels) (G_law_lag := O_law_lag)
    have O_law_ids := ok_law_ids (P := l.prog) (w := w) (base := base) (T := []) (D := D_law_ids) (mb := mb) (G_law_id := O_law_id)
    have O_law_realm := ok_law_realm (P := l.prog) (w := w) (base := base) (T := []) (D := D_law_realm) (mb := mb) (G_law_take := O_law_take) (G_law_zones := O_law_zones) (G_law_label := O_law_label) (G_law_id := O_law_id) (G_law_ids := O_law_ids)
    have O_law_pools := ok_law_pools (P := l.prog) (w := w) (base := base) (T := []) (D := D_law_pools) (mb := mb) (G_law_ids := O_law_ids)
    have O_law_slots := ok_law_slots (P := l.prog) (w := w) (base := base) (T := []) (D := D_law_slots) (mb := mb)
    have O_law_life := ok_law_life (P := l.prog) (w := w) (base := base) (T := []) (D := D_law_life) (G_law_take := O_law_take)
    have O_law_chain := ok_law_chain (P := l.prog) (w := w) (base := base) (T := []) (D := D_law_chain) (mb := mb)
    have O_law_home := ok_law_home (P := l.prog) (w := w) (base := base) (T := []) (D := D_law_home) (G_law_chain := O_law_chain)
    have O_law_pool := ok_law_pool (P := l.prog) (w := w) (base := base) (T := []) (D := D_law_pool) (mb := mb)
    have O_law_item := ok_law_item (P := l.prog) (w := w) (base := base) (T := []) (D := D_law_item) (mb := mb)
    have O_law_first_item := ok_law_first_item (P := l.prog) (w := w) (base := base) (T := []) (D := D_law_first_item) (mb := mb) (G_law_take := O_law_take) (G_law_life := O_law_life) (G_law_home := O_law_home) (G_law_pool := O_law_pool) (G_law_item := O_law_item) (G_law_ids := O_law_ids)
    have O_law_start := ok_law_start (P := l.prog) (w := w) (base := base) (T := []) (D := D_law_start) (mb := mb) (G_law_take := O_law_take) (G_law_slots := O_law_slots) (G_law_first_item := O_law_first_item)
    have O_law_at := ok_law_at (P := l.prog) (w := w) (base := base) (T := []) (D := D_law_at) (mb := mb)
    have O_law_mixed := ok_law_mixed (P := l.prog) (w := w) (base := base) (T := []) (D := D_law_mixed) (mb := mb) (G_law_take := O_law_take) (G_law_life := O_law_life) (G_law_home := O_law_home) (G_law_pool := O_law_pool) (G_law_ids := O_law_ids)
    have O_law_after := ok_law_after (P := l.prog) (w := w) (base := base) (T := []) (D := D_law_after) (mb := mb)
    have O_law_bent_start := ok_law_bent_start (P := l.prog) (w := w) (base := base) (T := []) (D := D_law_bent_start) (mb := mb) (G_law_take := O_law_take) (G_law_slots := O_law_slots) (G_law_at := O_law_at) (G_law_item := O_law_item) (G_law_pool := O_law_pool) (G_law_mixed := O_law_mixed) (G_law_after := O_law_after)
    have O_law_case := ok_case (P := l.prog) (w := w) (base := base) (T := []) (D := D_law_case) (G_law_realm := O_law_realm) (G_law_pools := O_law_pools) (G_law_start := O_law_start) (G_law_bent_start := O_law_bent_start)
    have O_law_server_deed := ok_law_server_deed (P := l.prog) (w := w) (base := base) (T := []) (D := D_law_server_deed) (mb := mb) (G_law_take := O_law_take) (G_law_life := O_law_life) (G_law_item := O_law_item)
    have O_law_deed := ok_law_deed (P := l.prog) (w := w) (base := base) (T := []) (D := D_law_deed) (mb := mb) (G_law_take := O_law_take) (G_law_slots := O_law_slots) (G_law_server_deed := O_law_server_deed) (G_law_life := O_law_life) (G_law_item := O_law_item) (G_law_at := O_law_at) (G_law_mixed := O_law_mixed)
    have O_law_deeds := ok_law_deeds (P := l.prog) (w := w) (base := base) (T := []) (D := D_law_deeds) (mb := mb) (G_law_deed := O_law_deed) (G_law_after := O_law_after)
    have O_law_move := ok_law_move (P := l.prog) (w := w) (base := base) (T := []) (D := D_law_move) (mb := mb) (G_law_take := O_law_take) (G_law_life := O_law_life) (G_law_at := O_law_at) (G_law_item := O_law_item)
    have O_law_change := ok_law_change (P := l.prog) (w := w) (base := base) (T := []) (D := D_law_change) (mb := mb) (G_law_take := O_law_take) (G_law_slots := O_law_slots) (G_law_life := O_law_life) (G_law_home := O_law_home) (G_law_at := O_law_at) (G_law_item := O_law_item) (G_law_pool := O_law_pool)
    have O_law_row := ok_law_row (P := l.prog) (w := w) (base := base) (T := []) (D := D_law_row) (mb := mb) (G_law_take := O_law_take) (G_law_deeds := O_law_deeds) (G_law_move := O_law_move) (G_law_change := O_law_change)
    have O_is_tuple_of := ok_is_tuple_of (P := l.prog) (w := w) (base := base) (D := D_is_tuple_of) (mb := mb)
    have O_zone_names := ok_zone_names (P := l.prog) (w := w) (base := base) (T := []) (D := D_zone_names) (mb := mb)
    have O_slots := ok_slots (P := l.prog) (w := w) (base := base) (T := []) (D := D_slots) (mb := mb) (G_zone_names := O_zone_names)
    have O_is_slot := ok_is_slot (P := l.prog) (w := w) (base := base) (T := []) (D := D_is_slot) (G_slots := O_slots)
    have O_is_word := ok_is_word (P := l.prog) (w := w) (base := base) (T := []) (D := D_is_word) (mb := mb)
    have O_is_id := ok_is_id (P := l.prog) (w := w) (base := base) (T := []) (D := D_is_id) (M := M) (G_is_word := O_is_word)
    have O_is_ascending := ok_is_ascending (P := l.prog) (w := w) (base := base) (T := []) (D := D_is_ascending) (mb := mb)
    have O_are_ids := ok_are_ids (P := l.prog) (w := w) (base := base) (T := []) (D := D_are_ids) (mb := mb) (G_is_tuple_of := O_is_tuple_of) (G_is_id := O_is_id) (G_is_ascending := O_is_ascending)
    have O_is_integer_in := ok_is_integer_in (P := l.prog) (w := w) (base := base) (D := D_is_integer_in) (mb := mb)
    have O_is_item := ok_is_item (P := l.prog) (w := w) (base := base) (T := []) (D := D_is_item) (M := M) (G_is_tuple_of := O_is_tuple_of) (G_are_ids := O_are_ids) (G_is_integer_in := O_is_integer_in)
    have O_is_server := ok_is_server (P := l.prog) (w := w) (base := base) (T := []) (D := D_is_server) (mb := mb) (G_is_tuple_of := O_is_tuple_of) (G_is_id := O_is_id) (G_zone_names := O_zone_names)
    have O_is_on := ok_is_onD (P := l.prog) (w := w) (base := base) (T := []) (D := D_is_on)
    have O_is_deed := ok_is_deed (P := l.prog) (w := w) (base := base) (T := []) (D := D_is_deed) (mb := mb) (G_is_tuple_of := O_is_tuple_of) (G_is_slot := O_is_slot) (G_is_item := O_is_item) (G_is_server := O_is_server) (G_is_on := O_is_on)
    have O_changed := ok_changed (P := l.prog) (w := w) (base := base) (T := []) (D := D_changed) (mb := mb)
    have O_are_allowed := ok_are_allowed (P := l.prog) (w := w) (base := base) (T := []) (D := D_are_allowed) (mb := mb) (G_is_deed := O_is_deed) (G_changed := O_changed)
    have O_is_row_of_deeds := ok_is_row_of_deeds (P := l.prog) (w := w) (base := base) (T := []) (D := D_is_row_of_deeds) (M := M) (G_is_tuple_of := O_is_tuple_of) (G_are_allowed := O_are_allowed)
    have O_law_bounds := ok_law_bounds (P := l.prog) (w := w) (base := base) (T := []) (D := D_law_bounds) (mb := mb) (G_law_take := O_law_take)
    have O_is_bound := ok_is_bound (P := l.prog) (w := w) (base := base) (T := []) (D := D_is_bound) (M := M) (G_is_tuple_of := O_is_tuple_of) (G_is_integer_in := O_is_integer_in)
    have O_is_bounds := ok_is_bounds (P := l.prog) (w := w) (base := base) (T := []) (D := D_is_bounds) (mb := mb) (G_is_tuple_of := O_is_tuple_of) (G_is_bound := O_is_bound)
    have O_law_bad_bounds := ok_law_bad_bounds (P := l.prog) (w := w) (base := base) (T := []) (D := D_law_bad_bounds) (G_law_take := O_law_take)
    have O_law_table := ok_law_table (P := l.prog) (w := w) (base := base) (T := []) (D := D_law_table) (mb := mb) (G_law_take := O_law_take)
    have O_is_wait := ok_is_wait (P := l.prog) (w := w) (base := base) (T := []) (D := D_is_wait) (M := M) (G_is_tuple_of := O_is_tuple_of) (G_is_integer_in := O_is_integer_in)
    have O_is_table := ok_is_table (P := l.prog) (w := w) (base := base) (T := []) (D := D_is_table) (mb := mb) (G_is_wait := O_is_wait) (G_is_ascending := O_is_ascending)
    have O_law_bad_table := ok_law_bad_table (P := l.prog) (w := w) (base := base) (T := []) (D := D_law_bad_table) (mb := mb) (G_law_take := O_law_take)
    have O_law_delays := ok_law_delays (P := l.prog) (w := w) (base := base) (T := []) (D := D_law_delays) (mb := mb) (G_law_take := O_law_take)
    have O_law_first := ok_law_first (P := l.prog) (w := w) (base := base) (T := []) (D := D_law_first) (mb := mb)
    have O_law_run := ok_law_run (P := l.prog) (w := w) (base := base) (T := []) (D := D_law_run) (mb := mb) (G_law_first := O_law_first)
    have O_plan_of := ok_plan_of (P := l.prog) (w := w) (base := base) (T := []) (D := D_plan_of) (mb := mb)
    exact ok_law F_law mb M O_law_tape O_law_take O_law_case O_law_row O_is_row_of_deeds O_law_bounds O_is_bounds O_law_bad_bounds O_law_table O_is_table O_law_bad_table O_law_delays O_law_run O_plan_of
end NK
open PySem.W
set_option maxHeartbeats 0 in
theorem PySem.Challenge.cw_neverdark_k56_forms_of_tables_holds : PySem.Challenge.rw_neverdark_k56_forms_of_tables.Holds := by
  w_on; o_law; k_head; (case hw => w_witness2)
  k_fill
  refine LamX.walk_ofTs (l := PySem.Challenge.rw_neverdark_k56_forms_of_tables) (n := 63) (k := 9) (x := "script") (CX := fun _ => L2.CX0) rfl (by decide) rfl ⟨rfl, by decide, by decide⟩ (fun w h Y => Y) ?F (fun _ _ _ _ _ h => h)
  case F =>
    intro w mg fa h Y KX G hmg
    refine' NK.all_mk KX G hmg ?d1 ?d2 ?d3 ?d4 ?d5 ?d6 ?d7 ?d8 ?d9 ?d10 ?d11 ?d12 ?d13 ?d14 ?d15 ?d16 ?d17 ?d18 ?d19 ?d20 ?d21 ?d22 ?d23 ?d24 ?d25 ?d26 ?d27 ?d28 ?d29 ?d30 ?d31 ?d32 ?d33 ?d34 ?d35 ?d36 ?d37 ?d38 ?d39 ?d40 ?d41 ?d42 ?d43 ?d44 ?d45 ?d46 ?d47 ?d48 ?d49 ?d50 ?d51 ?d52 ?d53 ?d54 ?d55 ?d56 ?d57 ?d58 ?d59 ?mb ?c1 ?c2 ?c3 ?c4 ?c5 ?c6 ?c7 ?c8 ?c9
    case d1 => (refine' NK.DefIn.of ?x1 ?x2 ?x3 ?x4; (case x1 => k_is); (case x2 => k_is); (case x3 => k_is); (case x4 => k_is))
    case d2 => (refine' NK.DefIn.of ?x1 ?x2 ?x3 ?x4; (case x1 => k_is); (case x2 => k_is); (case x3 => k_is); (case x4 => k_is))
    case d3 => (refine' NK.DefIn.of ?x1 ?x2 ?x3 ?x4; (case x1 => k_is); (case x2 => k_is); (case x3 => k_is); (case x4 => k_is))
    case d4 => (refine' NK.DefIn.of ?x1 ?x2 ?x3 ?x4; (case x1 => k_is); (case x2 => k_is); (case x3 => k_is); (case x4 => k_is))
    case d5 => (refine' NK.DefIn.of ?x1 ?x2 ?x3 ?x4; (case x1 => k_is); (case x2 => k_is); (case x3 => k_is); (case x4 => k_is))
    case d6 => (refine' NK.DefIn.of ?x1 ?x2 ?x3 ?x4; (case x1 => k_is); (case x2 => k_is); (case x3 => k_is); (case x4 => k_is))
    case d7 => (refine' NK.DefIn.of ?x1 ?x2 ?x3 ?x4; (case x1 => k_is); (case x2 => k_is); (case x3 => k_is); (case x4 => k_is))
    case d8 => (refine' NK.DefIn.of ?x1 ?x2 ?x3 ?x4; (case x1 => k_is); (case x2 => k_is); (case x3 => k_is); (case x4 => k_is))
    case d9 => (refine' NK.DefIn.of ?x1 ?x2 ?x3 ?x4; (case x1 => k_is); (case x2 => k_is); (case x3 => k_is); (case x4 => k_is))
    case d10 => (refine' NK.DefIn.of ?x1 ?x2 ?x3 ?x4; (case x1 => k_is); (case x2 => k_is); (case x3 => k_is); (case x4 => k_is))
    case d11 => (refine' NK.DefIn.of ?x1 ?x2 ?x3 ?x4; (case x1 => k_is); (case x2 => k_is); (case x3 => k_is); (case x4 => k_is))
    case d12 => (refine' NK.DefIn.of ?x1 ?x2 ?x3 ?x4; (case x1 => k_is); (case x2 => k_is); (case x3 => k_is); (case x4 => k_is))
    case d13 => (refine' NK.DefIn.of ?x1 ?x2 ?x3 ?x4; (case x1 => k_is); (case x2 => k_is); (case x3 => k_is); (case x4 => k_is))
    case d14 => (refine' NK.DefIn.of ?x1 ?x2 ?x3 ?x4; (case x1 => k_is); (case x2 => k_is); (case x3 => k_is); (case x4 => k_is))
    case d15 => (refine' NK.DefIn.of ?x1 ?x2 ?x3 ?x4; (case x1 => k_is); (case x2 => k_is); (case x3 => k_is); (case x4 => k_is))
    case d16 => (refine' NK.DefIn.of ?x1 ?x2 ?x3 ?x4; (case x1 => k_is); (case x2 => k_is); (case x3 => k_is); (case x4 => k_is))
    case d17 => (refine' NK.DefIn.of ?x1 ?x2 ?x3 ?x4; (case x1 => k_is); (case x2 => k_is); (case x3 => k_is); (case x4 => k_is))
    case d18 => (refine' NK.DefIn.of ?x1 ?x2 ?x3 ?x4; (case x1 => k_is); (case x2 => k_is); (case x3 => k_is); (case x4 => k_is))
    case d19 => (refine' NK.DefIn.of ?x1 ?x2 ?x3 ?x4; (case x1 => k_is); (case x2 => k_is); (case x3 => k_is); (case x4 => k_is))
    case d20 => (refine' NK.DefIn.of ?x1 ?x2 ?x3 ?x4; (case x1 => k_is); (case x2 => k_is); (case x3 => k_is); (case x4 => k_is))
    case d21 => (refine' NK.DefIn.of ?x1 ?x2 ?x3 ?x4; (case x1 => k_is); (case x2 => k_is); (case x3 => k_is); (case x4 => k_is))
    case d22 => (refine' NK.DefIn.of ?x1 ?x2 ?x3 ?x4; (case x1 => k_is); (case x2 => k_is); (case x3 => k_is); (case x4 => k_is))
    case d23 => (refine' NK.DefIn.of ?x1 ?x2 ?x3 ?x4; (case x1 => k_is); (case x2 => k_is); (case x3 => k_is); (case x4 => k_is))
    case d24 => (refine' NK.DefIn.of ?x1 ?x2 ?x3 ?x4; (case x1 => k_is); (case x2 => k_is); (case x3 => k_is); (case x4 => k_is))
    case d25 => (refine' NK.DefIn.of ?x1 ?x2 ?x3 ?x4; (case x1 => k_is); (case x2 => k_is); (case x3 => k_is); (case x4 => k_is))
    case d26 => (refine' NK.DefIn.of ?x1 ?x2 ?x3 ?x4; (case x1 => k_is); (case x2 => k_is); (case x3 => k_is); (case x4 => k_is))
    case d27 => (refine' NK.DefIn.of ?x1 ?x2 ?x3 ?x4; (case x1 => k_is); (case x2 => k_is); (case x3 => k_is); (case x4 => k_is))
    case d28 => (refine' NK.DefIn.of ?x1 ?x2 ?x3 ?x4; (case x1 => k_is); (case x2 => k_is); (case x3 => k_is); (case x4 => k_is))
    case d29 => (refine' NK.DefIn.of ?x1 ?x2 ?x3 ?x4; (case x1 => k_is); (case x2 => k_is); (case x3 => k_is); (case x4 => k_is))
    case d30 => (refine' NK.DefIn.of ?x1 ?x2 ?x3 ?x4; (case x1 => k_is); (case x2 => k_is); (case x3 => k_is); (case x4 => k_is))
    case d31 => (refine' NK.DefIn.of ?x1 ?x2 ?x3 ?x4; (case x1 => k_is); (case x2 => k_is); (case x3 => k_is); (case x4 => k_is))
    case d32 => (refine' NK.DefIn.of ?x1 ?x2 ?x3 ?x4; (case x1 => k_is); (case x2 => k_is); (case x3 => k_is); (case x4 => k_is))
    case d33 => (refine' NK.DefIn.of ?x1 ?x2 ?x3 ?x4; (case x1 => k_is); (case x2 => k_is); (case x3 => k_is); (case x4 => k_is))
    case d34 => (refine' NK.DefIn.of ?x1 ?x2 ?x3 ?x4; (case x1 => k_is); (case x2 => k_is); (case x3 => k_is); (case x4 => k_is))
    case d35 => (refine' NK.DefIn.of ?x1 ?x2 ?x3 ?x4; (case x1 => k_is); (case x2 => k_is); (case x3 => k_is); (case x4 => k_is))
    case d36 => (refine' NK.DefIn.of ?x1 ?x2 ?x3 ?x4; (case x1 => k_is); (case x2 => k_is); (case x3 => k_is); (case x4 => k_is))
    case d37 => (refine' NK.DefIn.of ?x1 ?x2 ?x3 ?x4; (case x1 => k_is); (case x2 => k_is); (case x3 => k_is); (case x4 => k_is))
    case d38 => (refine' NK.DefIn.of ?x1 ?x2 ?x3 ?x4; (case x1 => k_is); (case x2 => k_is); (case x3 => k_is); (case x4 => k_is))
    case d39 => (refine' NK.DefIn.of ?x1 ?x2 ?x3 ?x4; (case x1 => k_is); (case x2 => k_is); (case x3 => k_is); (case x4 => k_is))
    case d40 => (refine' NK.DefIn.of ?x1 ?x2 ?x3 ?x4; (case x1 => k_is); (case x2 => k_is); (case x3 => k_is); (case x4 => k_is))
    case d41 => (refine' NK.DefIn.of ?x1 ?x2 ?x3 ?x4; (case x1 => k_is); (case x2 => k_is); (case x3 => k_is); (case x4 => k_is))
    case d42 => (refine' NK.DefIn.of ?x1 ?x2 ?x3 ?x4; (case x1 => k_is); (case x2 => k_is); (case x3 => k_is); (case x4 => k_is))
    case d43 => (refine' NK.DefIn.of ?x1 ?x2 ?x3 ?x4; (case x1 => k_is); (case x2 => k_is); (case x3 => k_is); (case x4 => k_is))
    case d44 => (refine' NK.DefIn.of ?x1 ?x2 ?x3 ?x4; (case x1 => k_is); (case x2 => k_is); (case x3 => k_is); (case x4 => k_is))
    case d45 => (refine' NK.DefIn.of ?x1 ?x2 ?x3 ?x4; (case x1 => k_is); (case x2 => k_is); (case x3 => k_is); (case x4 => k_is))
    case d46 => (refine' NK.DefIn.of ?x1 ?x2 ?x3 ?x4; (case x1 => k_is); (case x2 => k_is); (case x3 => k_is); (case x4 => k_is))
    case d47 => (refine' NK.DefIn.of ?x1 ?x2 ?x3 ?x4; (case x1 => k_is); (case x2 => k_is); (case x3 => k_is); (case x4 => k_is))
    case d48 => (refine' NK.DefIn.of ?x1 ?x2 ?x3 ?x4; (case x1 => k_is); (case x2 => k_is); (case x3 => k_is); (case x4 => k_is))
    case d49 => (refine' NK.DefIn.of ?x1 ?x2 ?x3 ?x4; (case x1 => k_is); (case x2 => k_is); (case x3 => k_is); (case x4 => k_is))
    case d50 => (refine' NK.DefIn.of ?x1 ?x2 ?x3 ?x4; (case x1 => k_is); (case x2 => k_is); (case x3 => k_is); (case x4 => k_is))
    case d51 => (refine' NK.DefIn.of ?x1 ?x2 ?x3 ?x4; (case x1 => k_is); (case x2 => k_is); (case x3 => k_is); (case x4 => k_is))
    case d52 => (refine' NK.DefIn.of ?x1 ?x2 ?x3 ?x4; (case x1 => k_is); (case x2 => k_is); (case x3 => k_is); (case x4 => k_is))
    case d53 => (refine' NK.DefIn.of ?x1 ?x2 ?x3 ?x4; (case x1 => k_is); (case x2 => k_is); (case x3 => k_is); (case x4 => k_is))
    case d54 => (refine' NK.DefIn.of ?x1 ?x2 ?x3 ?x4; (case x1 => k_is); (case x2 => k_is); (case x3 => k_is); (case x4 => k_is))
    case d55 => (refine' NK.DefIn.of ?x1 ?x2 ?x3 ?x4; (case x1 => k_is); (case x2 => k_is); (case x3 => k_is); (case x4 => k_is))
    case d56 => (refine' NK.DefIn.of ?x1 ?x2 ?x3 ?x4; (case x1 => k_is); (case x2 => k_is); (case x3 => k_is); (case x4 => k_is))
    case d57 => (refine' NK.DefIn.of ?x1 ?x2 ?x3 ?x4; (case x1 => k_is); (case x2 => k_is); (case x3 => k_is); (case x4 => k_is))
    case d58 => (refine' NK.DefIn.of ?x1 ?x2 ?x3 ?x4; (case x1 => k_is); (case x2 => k_is); (case x3 => k_is); (case x4 => k_is))
    case d59 => (refine' NK.DefIn.of ?x1 ?x2 ?x3 ?x4; (case x1 => k_is); (case x2 => k_is); (case x3 => k_is); (case x4 => k_is))
    case mb =>
      intro x hx
      rcases List.mem_cons.mp hx with e | hx
      · rw [e]; k_is
      rcases List.mem_cons.mp hx with e | hx
      · rw [e]; k_is
      rcases List.mem_cons.mp hx with e | hx
      · rw [e]; k_is
      rcases List.mem_cons.mp hx with e | hx
      · rw [e]; k_is
      rcases List.mem_cons.mp hx with e | hx
      · rw [e]; k_is
      rcases List.mem_cons.mp hx with e | hx
      · rw [e]; k_is
      rcases List.mem_cons.mp hx with e | hx
      · rw [e]; k_is
      rcases List.mem_cons.mp hx with e | hx
      · rw [e]; k_is
      rcases List.mem_cons.mp hx with e | hx
      · rw [e]; k_is
      rcases List.mem_cons.mp hx with e | hx
      · rw [e]; k_is
      rcases List.mem_cons.mp hx with e | hx
      · rw [e]; k_is
      rcases List.mem_cons.mp hx with e | hx
      · rw [e]; k_is
      rcases List.mem_cons.mp hx with e | hx
      · rw [e]; k_is
      rcases List.mem_cons.mp hx with e | hx
      · rw [e]; k_is
      rcases List.mem_cons.mp hx with e | hx
      · rw [e]; k_is
      rcases List.mem_cons.mp hx with e | hx
      · rw [e]; k_is
      rcases List.mem_cons.mp hx with e | hx
      · rw [e]; k_is
      rcases List.mem_cons.mp hx with e | hx
      · rw [e]; k_is
      cases hx
    case c1 => refine' NK.cstS_of ?x; (case x => k_is)
    case c2 => refine' NK.cstI_of ?x; (case x => k_is)
    case c3 => refine' NK.cstI_of ?x; (case x => k_is)
    case c4 => refine' NK.cstI_of ?x; (case x => k_is)
    case c5 => refine' NK.cstI_of ?x; (case x => k_is)
    case c6 => refine' NK.cstI_of ?x; (case x => k_is)
    case c7 => refine' NK.cstI_of ?x; (case x => k_is)
    case c8 => refine' NK.cstI_of ?x; (case x => k_is)
    case c9 => refine' NK.cstI_of ?x; (case x => k_is)
