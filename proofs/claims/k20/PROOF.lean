import PyProof.Rows.All
import Wide.All
import OpenK.AllK
import Wide.FinOn
import PySem.Challenge.RW_neverdark_k20_forms_of_realms
import HandS.ForMost
import HandS.Walk
import HandS.IsInst
import HandS.Style
import HandS.FStr
import HandS.WideBits
import HandS.Deep
import HandS.Steps
import HandS.Lambda
import HandS.EndTab
import KE.SortKeyHeap
import KE.DatumOrd
import KE.KDictPairs
import KE.KDictCopyH
import PyProof.P3In
import HandS.NoneIn
import HandS.Star
import HandS.ForExc
import HandS.ExcIs
import HandS.ExcField
import HandS.ExcSuper
import KE.KExcSuper
import HandS.List
import KE.DataMinMax
import HandS.Flow
import HandS.Iter
import HandS.Zip
import HandS.DictTup
import KE.SortData
import KE.KUnpackStar
import HandS.CallLocal
import KE.GoesEnumKw
import KE.GoesMore
import HandS.Codes
import KE.DataCmp
import KE.RegKSuper
set_option Elab.async false
set_option linter.all false
set_option maxRecDepth 100000
set_option maxHeartbeats 4000000
namespace NK
open PySem PySem.Spec PyProof.Rows L2
/-! ### a def of the text that keeps a promise, found by its name -/
def Ok (P : Program) (w : World) (K : PySem.W.Frag) (mg : Str → Option Value) (base : Heap) (k : Nat) (x : Str) (ps : List Str) (sp : Sp) : Prop :=
  ∃ (f : Addr) (fd : FuncData), FnOk P w K mg base CX0 k f fd ps sp ∧ mg x = some (.ref f) ∧ PySem.W.keepIn K (.ref f) = true ∧ Binds K fd ps []
def Def (K : PySem.W.Frag) (mg : Str → Option Value) (x : Str) (st : Stmt) (ps : List Str) : Prop :=
  ∃ (f : Addr) (fd : FuncData), Fun K x x st f fd ∧ mg x = some (.ref f) ∧ Binds K fd ps []
section
variable {P : Program} {w : World} {K : PySem.W.Frag} {mg : Str → Option Value} {base : Heap}
theorem Def.ok {x : Str} {st : Stmt} {N ps : List Str} {k : Nat} {sp : Sp} (D : Def K mg x st ps) (S : FnScope N ps (defScope st)) (len : ∀ vs H Q E, sp vs H Q E → vs.length = ps.length)
    (hbody : ∀ (cdv : Value) (f : Addr) (A : Around) (outer : List Env) (s : Shared) (H : Hp) (vs : List V) (Q : VK) (E : XK), Room k (A.deeper (envOfC x (defScope st) s.heap.objs.size f cdv)) → sp vs H Q E →
      ∃ t, PSs (cxOf CX0 P w K mg base N x (defScope st) f cdv A outer s H E).nox (defBody st) t ∧ t { nx := fun _ H' => Q .non H', rt := Q } (start N vs) H) : Ok P w K mg base (k + 1) x ps sp := by
  obtain ⟨f, fd, F, hm, hb⟩ := D
  exact ⟨f, fd, F.ok S len fun cdv A outer s H vs Q E hr h => hbody cdv f A outer s H vs Q E hr h, hm, F.kp, hb⟩
theorem Ok.mono {j k : Nat} {x : Str} {ps : List Str} {sp : Sp} (h : Ok P w K mg base j x ps sp) (hk : j ≤ k) : Ok P w K mg base k x ps sp := by
  obtain ⟨f, fd, F, r⟩ := h
  exact ⟨f, fd, F.mono hk, r⟩
end
section
variable {X : Cx}
theorem pe_callO {x : Str} {p pos : Pos} {e : Expr} {es : List Expr} {t : TA} {k : Nat} {ps : List Str} {sp : Sp} (h : Ok X.prog X.w X.K X.mg X.base k x ps sp) (hr : Room k X.A) (hg : Gl X x) (ha : PA X (e :: es) t)
    (hdb : (x == ("__debug__" : Str)) = false := by decide) (he : starEach (e :: es) X.env = (false, eval e X.env) :: starEach es X.env := by rfl) (hpl : (backTo pos (starEach es X.env)).any (·.1) = false := by rfl) :
    PE X (.Call (.Name x p) (e :: es) [] pos) (tCall sp [] E0 t) := by
  obtain ⟨f, fd, F, hm, hk, hb⟩ := h
  exact pe_call F hr hg hm hk hb .nil pass0 ha hdb he hpl
/-- a module's constant -/
theorem pe_glS {x : Str} {z : Str} {pos : Pos} (hg : Gl X x) (hm : ∃ t, X.mg x = some (.str z t)) (hd : (x == ("__debug__" : Str)) = false := by decide) : PE X (.Name x pos) (tC (.str z)) := by
  obtain ⟨t, hm⟩ := hm
  exact pe_glob hg hm ⟨t, rfl⟩ hd
theorem pe_glI {x : Str} {z : Int} {pos : Pos} (hg : Gl X x) (hm : ∃ t, X.mg x = some (.int z t)) (hd : (x == ("__debug__" : Str)) = false := by decide) : PE X (.Name x pos) (tC (.int z)) := by
  obtain ⟨t, hm⟩ := hm
  exact pe_glob hg hm ⟨t, rfl⟩ hd
/-- the empty tuple ahead of another one -/
def rCatT0 (K : PySem.W.Frag) : R2 := fun x y H Q => ∃ a b ys, x = .ref a ∧ y = .ref b ∧ SqT K H a [] ∧ SqT K H b ys ∧ Q (.ref b) H
theorem op_catT0 {X : Cx} (K : PySem.W.Frag) (hK : X.K = K) : OpR X (binaryOp .Add) (rCatT0 K) := by
  subst hK
  intro pins s σ H x y v u Q I rx ry h
  obtain ⟨a, b, ys, rfl, rfl, ha, hb, q⟩ := h
  cases rx
  cases ry
  obtain ⟨its, rv, ⟨o, ho, hc, n, hd⟩, hz⟩ := I.tuple ha
  obtain ⟨its2, rv2, ⟨o2, ho2, hc2, n2, hd2⟩, hz2⟩ := I.tuple hb
  cases rv
  obtain ⟨c1, d1, k1, s1⟩ := o
  obtain ⟨c2, d2, k2, s2⟩ := o2
  simp only at hc hd hc2 hd2
  subst hc hd hc2 hd2
  have t1 : s.TypeIs (.ref a) "tuple" := ⟨_, ho, rfl⟩
  have t2 : s.TypeIs (.ref b) "tuple" := ⟨_, ho2, rfl⟩
  refine PySem.wpAny_binaryOp_concat (T := "tuple") (id := "tuple.__add__") t1 t2 PySem.noFill_tuple_add PySem.seq_tuple_add ?_
  exact PySem.call_meets PySem.F.slot_tuple_add t1 PySem.F.entry_tuple_add (PySem.F.args_tuple_add_2 _ _) (PyProof.Rows.tuple_addW0 a b #[] its2.toArray n n2 d1 d2 s1 s2 rfl) ⟨ho, ho2, ⟨.ref b, H, I, rfl, q⟩⟩
/-! ### one rule for each sign, whatever its operands are; K is the written part by its name -/
def rPlus (K : PySem.W.Frag) : R2 := fun x y H Q => (rI0 (fun i j => .int (i + j)) x y H Q) ∨ (∃ i j, x = .str i ∧ y = .str j ∧ i.length + j.length ≤ sizeLine ∧ Q (.str (i ++ j)) H) ∨ (rCat x y H Q) ∨ (rCatT K x y H Q) ∨ (rCatT0 K x y H Q)
theorem op_plus (K : PySem.W.Frag) (hK : X.K = K) : OpR X (binaryOp .Add) (rPlus K) := by
  have h0 := op_catT0 (X := X) K hK
  subst hK
  exact op_add.or (op_add_str.or (op_cat.or (op_catT.or h0)))
def rEqU (K : PySem.W.Frag) : R2 := fun x y H Q => rEq x y H Q ∨ rEqD K x y H Q
def rNeU (K : PySem.W.Frag) : R2 := fun x y H Q => rNe x y H Q ∨ rNeD K x y H Q
theorem op_eqU (K : PySem.W.Frag) (hK : X.K = K) (hu : X.A.units + 64 < cLine) : OpR X (compareOp .Eq) (rEqU K) := by
  subst hK
  exact op_eq.or (op_eqD hu)
theorem op_neU (K : PySem.W.Frag) (hK : X.K = K) (hu : X.A.units + 64 < cLine) : OpR X (compareOp .NotEq) (rNeU K) := by
  subst hK
  exact op_ne.or (op_neD hu)
def rInU (K : PySem.W.Frag) : R2 := fun x y H Q => rIn K false x y H Q ∨ rInS x y H Q
def rNinU (K : PySem.W.Frag) : R2 := fun x y H Q => rIn K true x y H Q ∨ rNotInS x y H Q
theorem op_inU (K : PySem.W.Frag) (hK : X.K = K) : OpR X (compareOp .In) (rInU K) := by
  subst hK
  exact op_in_seq.or op_in_sign
theorem op_ninU (K : PySem.W.Frag) (hK : X.K = K) : OpR X (compareOp .NotIn) (rNinU K) := by
  subst hK
  exact op_notIn_seq.or op_notIn_sign
def rIsU : R2 := fun x y H Q => rIsB x y H Q ∨ rIsN x y H Q
def rIsNU : R2 := fun x y H Q => rNotB x y H Q ∨ rNotN x y H Q
theorem op_isU : OpR X (compareOp .Is) rIsU := op_isBl.or op_isN
theorem op_isnotU : OpR X (compareOp .IsNot) rIsNU := op_notBl.or op_notN
theorem ix_U (K : PySem.W.Frag) (hK : X.K = K) : IxR X (rIx K) := by
  subst hK
  exact ix_seq
def rSlU (K : PySem.W.Frag) : V → Option Int → Option Int → Hp → VK → Prop := fun x lo hi H Q => rSlL K x lo hi H Q ∨ rSlS x lo hi H Q ∨ rSlT K x lo hi H Q
theorem sl_U (K : PySem.W.Frag) (hK : X.K = K) : SlR X (rSlU K) := by
  subst hK
  exact sl_list.or (sl_str.or sl_tup)
def rLenU (K : PySem.W.Frag) : List V → Hp → VK → Prop := fun xs H Q => (∃ z, xs = [.str z] ∧ z.length ≤ sizeLine ∧ Q (.int z.length) H) ∨ (∃ p ys, xs = [.ref p] ∧ (SqL K H p ys ∨ SqT K H p ys) ∧ Q (.int ys.length) H)
theorem call_lenU (K : PySem.W.Frag) (hK : X.K = K) : CallR X (.builtin "len") (rLenU K) := by
  subst hK
  exact call_len_str.or call_len_seq
def rInt1 : List V → Hp → VK → Prop := fun xs H Q => (∃ i, xs = [.int i] ∧ Q (.int i) H) ∨ ∃ k, xs = [.bl k] ∧ Q (.int (if k then 1 else 0)) H
theorem call_int1U : CallR X (.type "int") rInt1 := call_int1
def rListOf (K : PySem.W.Frag) : List V → Hp → VK → Prop := fun xs H Q => ∃ p ys, xs = [.ref p] ∧ (SqL K H p ys ∨ SqT K H p ys) ∧ ∀ l, H l = none → Q (.ref l) (upd H l (.lst ys))
theorem call_listU (K : PySem.W.Frag) (hK : X.K = K) : CallR X (.type "list") (rListOf K) := by
  subst hK
  exact call_list_of
def rTupOf (K : PySem.W.Frag) : List V → Hp → VK → Prop := fun xs H Q => ∃ p ys, xs = [.ref p] ∧ ((SqL K H p ys ∧ ∀ l, H l = none → Q (.ref l) (upd H l (.tup ys))) ∨ (SqT K H p ys ∧ Q (.ref p) H))
theorem call_tupU (K : PySem.W.Frag) (hK : X.K = K) : CallR X (.type "tuple") (rTupOf K) := by
  subst hK
  exact call_tuple_of
theorem call_allU (K : PySem.W.Frag) (hK : X.K = K) (hc : X.calm = true) : CallR X (.builtin "all") (rAll K) := by
  subst hK
  exact cr_all hc
theorem call_anyU (K : PySem.W.Frag) (hK : X.K = K) (hc : X.calm = true) : CallR X (.builtin "any") (rAny K) := by
  subst hK
  exact cr_any hc
theorem call_isiU (K : PySem.W.Frag) (hK : X.K = K) : CallR X (.builtin "isinstance") (rIsi K) := by
  subst hK
  exact call_isi
def rSplit : V → List V → Hp → VK → Prop := fun x xs H Q => ∃ a b, x = .str a ∧ xs = [.str b] ∧ (b.length == 0) = false ∧ a.length + 2 ≤ sizeLine ∧ rNewStrs (Txt.split a b) H Q
def rEndsW : V → List V → Hp → VK → Prop := fun x xs H Q => ∃ a b, x = .str a ∧ xs = [.str b] ∧ Q (.bl (Txt.endswith a b)) H
theorem mt_splitU : MtR X "str.split" rSplit := mt_split
theorem mt_endsU : MtR X "str.endswith" rEndsW := mt_endswith
theorem pt_E {e : Expr} {t : TE} (h : PE X e t) (he : ∀ whole, isTrue e X.env whole = (do let v ← whole; standAt e.pos; holding [v] (truthy v)) := by intro _; rfl) : PT X e (tB t) := pt_val h he
theorem pe_rev (K : PySem.W.Frag) (hK : X.K = K) {e : Expr} {te : TE} {k : Nat} {p1 p2 p3 pos : Pos} (he : PE X e te) : PE X (.Subscript e (.Slice none none (some (.UnaryOp .USub (.Constant (.int 1) k p1) p2)) p3) pos) (tRevL K te) := by
  subst hK
  exact pe_revL he
end
/-! ### steps of a reading -/
section
variable {K : PySem.W.Frag} {σ : L2.St} {H : Hp} {Q : VK} {te ta tb : TE} {D : Ends} {nx : L2.St → Hp → Prop} {rt : VK} {bk ct : L2.St → Hp → Prop}
theorem rd_var {i : Nat} {v : V} (h : σ[i]? = some (some v)) (q : Q v H) : tVar i σ H Q := ⟨v, h, q⟩
theorem rd_c {v : V} (q : Q v H) : tC v σ H Q := q
theorem rd_op {r : R2} (q : ta σ H fun x H1 => tb σ H1 fun y H2 => r x y H2 Q) : tOp r ta tb σ H Q := q
theorem rd_un {r : V → Hp → VK → Prop} (q : ta σ H fun x H1 => r x H1 Q) : tUn r ta σ H Q := q
theorem rd_i0 {f : Int → Int → V} {i j : Int} (q : Q (f i j) H) : rI0 f (.int i) (.int j) H Q := ⟨i, j, rfl, rfl, q⟩
theorem rd_i {C : Int → Int → Prop} {f : Int → Int → V} {i j : Int} (c : C i j) (q : Q (f i j) H) : rI C f (.int i) (.int j) H Q := ⟨i, j, rfl, rfl, c, q⟩
theorem rd_plusI {i j : Int} (q : Q (.int (i + j)) H) : rPlus K (.int i) (.int j) H Q := .inl ⟨i, j, rfl, rfl, q⟩
theorem rd_plusS {i j : Str} (c : i.length + j.length ≤ sizeLine) (q : Q (.str (i ++ j)) H) : rPlus K (.str i) (.str j) H Q := .inr (.inl ⟨i, j, rfl, rfl, c, q⟩)
theorem rd_uI {f : Int → Int} {i : Int} (q : Q (.int (f i)) H) : rU (fun i => .int (f i)) (.int i) H Q := ⟨i, rfl, q⟩
theorem rd_ixL {p : Addr} {xs : List V} {i : Int} {v : V} (h : SqL K H p xs) (a : atI xs i = some v) (q : Q v H) : rIx K (.ref p) (.int i) H Q := .inl ⟨p, xs, i, v, rfl, rfl, h, a, q⟩
theorem rd_ixT {p : Addr} {xs : List V} {i : Int} {v : V} (h : SqT K H p xs) (a : atI xs i = some v) (q : Q v H) : rIx K (.ref p) (.int i) H Q := .inr (.inl ⟨p, xs, i, v, rfl, rfl, h, a, q⟩)
theorem rd_B {Q : Bool → Hp → Prop} (q : te σ H fun v H1 => ∃ b, v = .bl b ∧ Q b H1) : tB te σ H Q := q
theorem rd_bl {b : Bool} {Q : Bool → Prop} (q : Q b) : ∃ c, V.bl b = .bl c ∧ Q c := ⟨b, rfl, q⟩
theorem rd_if {c : TT} {t u : TS} (q : c σ H fun b H1 => if b = true then t D σ H1 else u D σ H1) : tIfS c t u D σ H := q
theorem rd_ifE {c : TT} (q : c σ H fun b H1 => if b = true then ta σ H1 Q else tb σ H1 Q) : tIf c ta tb σ H Q := q
theorem rd_seq {t u : TS} (q : t ⟨fun σ H => u ⟨nx, rt, bk, ct⟩ σ H, rt, bk, ct⟩ σ H) : tSeq t u ⟨nx, rt, bk, ct⟩ σ H := q
theorem rd_next (q : nx σ H) : tNext ⟨nx, rt, bk, ct⟩ σ H := q
theorem rd_asg {g : TG} (q : te σ H fun x H1 => g x σ H1 nx) : tAsg te g ⟨nx, rt, bk, ct⟩ σ H := q
theorem rd_name {i : Nat} {v : V} {Q : L2.St → Hp → Prop} (q : Q (σ.set i (some v)) H) : gName i v σ H Q := q
theorem rd_ret (q : te σ H rt) : tRet te ⟨nx, rt, bk, ct⟩ σ H := q
theorem rd_drop (q : te σ H fun _ H1 => nx σ H1) : tDrop te ⟨nx, rt, bk, ct⟩ σ H := q
theorem rd_call {sp : Sp} {E : XK} {t : TA} (q : t σ H fun vs H1 => sp (vs ++ []) H1 Q E) : tCall sp [] E t σ H Q := q
theorem rd_cons {tr : TA} {Q : List V → Hp → Prop} (q : ta σ H fun x H1 => tr σ H1 fun xs H2 => Q (x :: xs) H2) : tCons ta tr σ H Q := q
theorem rd_nil {Q : List V → Hp → Prop} (q : Q [] H) : tNil σ H Q := q
theorem rd_cb {r : List V → Hp → VK → Prop} {t : TA} (q : t σ H fun vs H1 => r vs H1 Q) : tCB r t σ H Q := q
theorem rd_sub {to ti : TE} {t : TSet} {v : V} {Q : L2.St → Hp → Prop} (q : to σ H fun o H1 => ti σ H1 fun i H2 => t o i v H2 fun H3 => Q σ H3) : gSub to ti t v σ H Q := q
theorem rd_not (q : ta σ H fun x H1 => ∃ c, x = .bl c ∧ Q (.bl (!c)) H1) : tNotV ta σ H Q := q
theorem rd_and (q : ta σ H fun x H1 => ∃ c, x = .bl c ∧ if c = true then tb σ H1 Q else Q (.bl false) H1) : tAndV ta tb σ H Q := q
theorem rd_or (q : ta σ H fun x H1 => ∃ c, x = .bl c ∧ if c = true then Q (.bl true) H1 else tb σ H1 Q) : tOrV ta tb σ H Q := q
theorem rd_T {Q : Bool → Hp → Prop} (q : te σ H fun v H1 => ∃ b, v = .bl b ∧ Q b H1) : tTest te σ H Q := q
theorem rd_tnot {t : TT} {Q : Bool → Hp → Prop} (q : t σ H fun c H1 => Q (!c) H1) : tNot t σ H Q := q
theorem rd_tand {t u : TT} {Q : Bool → Hp → Prop} (q : t σ H fun c H1 => if c = true then u σ H1 Q else Q false H1) : tAnd t u σ H Q := q
theorem rd_tor {t u : TT} {Q : Bool → Hp → Prop} (q : t σ H fun c H1 => if c = true then Q true H1 else u σ H1 Q) : tOr t u σ H Q := q
theorem rd_chain {r r' : R2} {tc : TE} (q : ta σ H fun x H1 => tb σ H1 fun y H2 => r x y H2 fun z H3 => ∃ k, z = .bl k ∧ (if k = true then tc σ H3 fun w' H4 => r' y w' H4 Q else Q (.bl false) H3)) : tChain r r' ta tb tc σ H Q := q
theorem rd_ite {p A B : Prop} [Decidable p] (h1 : p → A) (h2 : ¬ p → B) : if decide p = true then A else B := by
  by_cases h : p
  · rw [if_pos (decide_eq_true h)]
    exact h1 h
  · rw [if_neg (by rw [decide_eq_false h]; decide)]
    exact h2 h
theorem rd_itn {p A B : Prop} [Decidable p] (h1 : p → B) (h2 : ¬ p → A) : if (!decide p) = true then A else B := by
  by_cases h : p
  · rw [decide_eq_true h]
    exact h1 h
  · rw [decide_eq_false h]
    exact h2 h
theorem rd_len {z : Str} (h : z.length ≤ sizeLine) (q : Q (.int z.length) H) : rLenU K [.str z] H Q := .inl ⟨z, rfl, h, q⟩
theorem rd_lenL {p : Addr} {ys : List V} (h : SqL K H p ys) (q : Q (.int ys.length) H) : rLenU K [.ref p] H Q := .inr ⟨p, ys, rfl, .inl h, q⟩
theorem rd_int1 {i : Int} (q : Q (.int i) H) : rInt1 [.int i] H Q := .inl ⟨i, rfl, q⟩
theorem rd_listL {p : Addr} {ys : List V} (h : SqL K H p ys) (q : ∀ l, H l = none → Q (.ref l) (upd H l (.lst ys))) : rListOf K [.ref p] H Q := ⟨p, ys, rfl, .inl h, q⟩
theorem rd_tupL {p : Addr} {ys : List V} (h : SqL K H p ys) (q : ∀ l, H l = none → Q (.ref l) (upd H l (.tup ys))) : rTupOf K [.ref p] H Q := ⟨p, ys, rfl, .inl ⟨h, q⟩⟩
theorem rd_m1 {r : V → List V → Hp → VK → Prop} (q : ta σ H fun x H1 => (∃ a, x = .str a) ∧ tb σ H1 fun y H2 => r x [y] H2 Q) : tM1 r ta tb σ H Q := q
theorem rd_split {a b : Str} (hb : (b.length == 0) = false) (ha : a.length + 2 ≤ sizeLine) (q : ∀ p, H p = none → Q (.ref p) (upd H p (.lst ((Txt.split a b).map V.str)))) : rSplit (.str a) [.str b] H Q := ⟨a, b, rfl, rfl, hb, ha, q⟩
theorem rd_ends {a b : Str} (q : Q (.bl (Txt.endswith a b)) H) : rEndsW (.str a) [.str b] H Q := ⟨a, b, rfl, rfl, q⟩
theorem rd_inS {c : Nat} {z : Str} (q : Q (.bl (decide (c ∈ z.cps.toList))) H) : rInU K (.str ⟨#[c]⟩) (.str z) H Q := .inr ⟨c, z, rfl, rfl, q⟩
theorem rd_ninS {c : Nat} {z : Str} (q : Q (.bl (!decide (c ∈ z.cps.toList))) H) : rNinU K (.str ⟨#[c]⟩) (.str z) H Q := .inr ⟨c, z, rfl, rfl, q⟩
theorem rd_all {a : Addr} {bs : List Bool} (h : SqL K H a (bs.map V.bl)) (q : Q (.bl (bs.all id)) H) : rAll K [.ref a] H Q := ⟨a, bs, rfl, h, q⟩
theorem rd_isStr {z : Str} (q : Q (.bl true) H) : rIsi K [.str z, .ty "str"] H Q := ⟨_, _, _, _, true, rfl, .ty _, .base (.str _), rfl, q⟩
theorem rd_lst {t : TA} (q : t σ H fun xs H1 => xs.length ≤ sizeLine ∧ ∀ p, H1 p = none → Q (.ref p) (upd H1 p (.lst xs))) : tLst t σ H Q := q
theorem rd_tup {t : TA} (q : t σ H fun xs H1 => xs.length ≤ sizeLine ∧ ∀ p, H1 p = none → Q (.ref p) (upd H1 p (.tup xs))) : tTup t σ H Q := q
theorem rd_set {p : Addr} {k : Int} {v : V} {xs : List V} {j : Nat} {Q : Hp → Prop} (h : H p = some (.lst xs)) (a : ixN xs.length k = some j) (q : Q (upd H p (.lst (xs.set j v)))) : rSetL (.ref p) (.int k) v H Q := ⟨p, xs, k, j, rfl, rfl, h, a, q⟩
end
/-! ### what stays: all but the objects of ms, and the tables of code objects -/
open LamX in
structure Ext (T : List (Addr × Str)) (ms : List Addr) (H H' : Hp) : Prop where
  keep : ∀ b o, b ∉ ms → (∀ ps, o ≠ .tbl ps) → H b = some o → H' b = some o
  tabs : LamX.Tabs T H → LamX.Tabs T H'
/-- nothing but a table of code objects stands there -/
def Nw (H : Hp) (p : Addr) : Prop := ∀ o, H p = some o → ∃ ps, o = .tbl ps
theorem Nw.of {H : Hp} {p : Addr} (h : H p = none) : Nw H p := fun o e => by
  rw [h] at e
  cases e
theorem Nw.ne {H : Hp} {p q : Addr} {o : HO} (f : Nw H p) (h : H q = some o) (hn : ∀ ps, o ≠ .tbl ps) : q ≠ p := fun z => by
  rw [z] at h
  obtain ⟨ps, e⟩ := f o h
  exact hn ps e
theorem Nw.lst {H : Hp} {p q : Addr} {xs : List V} (f : Nw H p) (h : H q = some (.lst xs)) : q ≠ p := f.ne h fun _ z => by cases z
theorem Nw.tup {H : Hp} {p q : Addr} {xs : List V} (f : Nw H p) (h : H q = some (.tup xs)) : q ≠ p := f.ne h fun _ z => by cases z
section
variable {T : List (Addr × Str)} {ms : List Addr} {K : PySem.W.Frag} {H H1 H2 : Hp}
theorem Ext.back {p : Addr} (e : Ext T ms H H1) (hp : p ∉ ms) (f : Nw H1 p) : Nw H p := fun o ho => Classical.byContradiction fun n => n (f o (e.keep p o hp (fun ps z => n ⟨ps, z⟩) ho))
theorem Ext.refl : Ext T ms H H := ⟨fun _ _ _ _ h => h, id⟩
theorem Ext.trans (a : Ext T ms H H1) (b : Ext T ms H1 H2) : Ext T ms H H2 := ⟨fun c o hc hn h => b.keep c o hc hn (a.keep c o hc hn h), fun t => b.tabs (a.tabs t)⟩
theorem Ext.same (s : Same H H1) : Ext T ms H H1 := ⟨fun c o _ _ h => s c o h, fun t => t.ext s⟩
theorem Ext.new {p : Addr} {o : HO} (h : H p = none) : Ext T ms H (upd H p o) := .same fun b x e => by
  rw [upd_ne (ne_of_none e h)]
  exact e
theorem Ext.wide {ms' : List Addr} (a : Ext T ms H H1) (h : ∀ b, b ∈ ms → b ∈ ms') : Ext T ms' H H1 := ⟨fun c o hc hn => a.keep c o (fun z => hc (h c z)) hn, a.tabs⟩
theorem Ext.any (a : Ext T [] H H1) : Ext T ms H H1 := a.wide fun b h => absurd h (by simp)
/-- a list that may change is changed -/
theorem Ext.mut {p : Addr} {xs : List V} {u : HO} (hp : p ∈ ms) (h : H p = some (.lst xs)) : Ext T ms H (upd H p u) := ⟨fun b x hb _ e => by
  rw [upd_ne (fun z => hb (by rw [z]; exact hp))]
  exact e, fun t q hq => by
  obtain ⟨ps, h1, h2, h3⟩ := t q hq
  refine ⟨ps, ?_, h2, fun pos cv hc => ?_⟩
  · rw [upd_ne]
    · exact h1
    · intro z
      rw [z, h] at h1
      cases h1
  · obtain ⟨c, e1, e2⟩ := h3 pos cv hc
    refine ⟨c, e1, ?_⟩
    rw [upd_ne]
    · exact e2
    · intro z
      rw [z, h] at e2
      unfold LamX.CodeO at e2
      cases e2⟩
theorem Ext.lst {p : Addr} {xs : List V} (e : Ext T ms H H1) (hp : p ∉ ms) (h : H p = some (.lst xs)) : H1 p = some (.lst xs) := e.keep p _ hp (fun _ z => by cases z) h
theorem Ext.tup {p : Addr} {xs : List V} (e : Ext T ms H H1) (hp : p ∉ ms) (h : H p = some (.tup xs)) : H1 p = some (.tup xs) := e.keep p _ hp (fun _ z => by cases z) h
theorem Ext.seqL {a : Addr} {xs : List V} (e : Ext T ms H H1) (ha : a ∉ ms) (h : SqL K H a xs) : SqL K H1 a xs := by
  rcases h with (h | ⟨o, h⟩) | h
  · exact .inl (.inl (e.keep a _ ha (fun _ z => by cases z) h))
  · exact .inl (.inr ⟨o, e.keep a _ ha (fun _ z => by cases z) h⟩)
  · exact .inr h
theorem Ext.seqT {a : Addr} {xs : List V} (e : Ext T ms H H1) (ha : a ∉ ms) (h : SqT K H a xs) : SqT K H1 a xs := by
  rcases h with (h | ⟨o, h⟩) | h
  · exact .inl (.inl (e.keep a _ ha (fun _ z => by cases z) h))
  · exact .inl (.inr ⟨o, e.keep a _ ha (fun _ z => by cases z) h⟩)
  · exact .inr h
end
/-! ### the law's tape -/
/-- the tape at t: the script's list at l, its place, what is left of a cell, the running number, the budget -/
def Tape (l : Addr) (H : Hp) (t : Addr) : Prop := ∃ (ns : List Int) (pos : Nat) (rest st bud : Int), H t = some (.lst [.ref l, .int (pos : Int), .int rest, .int st, .int bud]) ∧ H l = some (.lst (ns.map V.int)) ∧ l ≠ t ∧ 0 ≤ rest ∧ 0 ≤ st
theorem Tape.ext {T : List (Addr × Str)} {H H1 : Hp} {l t : Addr} (p : Tape l H t) (e : Ext T [] H H1) : Tape l H1 t := by
  obtain ⟨ns, pos, rest, st, bud, h1, h2, h3⟩ := p
  exact ⟨ns, pos, rest, st, bud, e.lst (by simp) h1, e.lst (by simp) h2, h3⟩
theorem Tape.upd {H : Hp} {l t q : Addr} {o : HO} (p : Tape l H t) (h : H q = none) : Tape l (upd H q o) t := p.ext (T := []) (.new h)
/-- another object is changed -/
theorem Tape.own {H : Hp} {l t q : Addr} {o : HO} (p : Tape l H t) (h1 : q ≠ t) (h2 : q ≠ l) : Tape l (L2.upd H q o) t := by
  obtain ⟨ns, pos, rest, st, bud, a1, a2, h3⟩ := p
  exact ⟨ns, pos, rest, st, bud, by rw [upd_ne h1.symm]; exact a1, by rw [upd_ne h2.symm]; exact a2, h3⟩
theorem Tape.ne {H : Hp} {l t q : Addr} (p : Tape l H t) (h : Nw H q) : q ≠ t ∧ q ≠ l := by
  obtain ⟨ns, pos, rest, st, bud, a1, a2, _⟩ := p
  exact ⟨(h.lst a1).symm, (h.lst a2).symm⟩
def mixI (n : Int) : Int :=
  ((n * 6364136223846793005 + 1442695040888963407) % 18446744073709551616 * ((n * 6364136223846793005 + 1442695040888963407) % 18446744073709551616) / 4294967296 + (n * 6364136223846793005 + 1442695040888963407) % 18446744073709551616 * 69621) % 18446744073709551557
theorem mixI_nn (n : Int) : 0 ≤ mixI n := Int.emod_nonneg _ (by decide)
def spMix : Sp := fun vs H Q _ => ∃ n : Int, vs = [.int n] ∧ Q (.int (mixI n)) H
def spTape (T : List (Addr × Str)) (K : PySem.W.Frag) : Sp := fun vs H Q _ => ∃ (a : Addr) (ns : List Int) (b : Int), vs = [.ref a, .int b] ∧ SqL K H a (ns.map V.int) ∧ ns.length ≤ 63 ∧ ∀ t l H', Nw H t → Ext T [] H H' → Tape l H' t → Q (.ref t) H'
def spTake (T : List (Addr × Str)) : Sp := fun vs H Q _ => ∃ (l t : Addr) (m : Int), vs = [.ref t, .int m] ∧ 0 < m ∧ m < 2 ^ 64 ∧ Tape l H t ∧ ∀ d H', 0 ≤ d → d < m → Ext T [t] H H' → Tape l H' t → Q (.int d) H'
section
variable {T : List (Addr × Str)} {ms : List Addr} {K : PySem.W.Frag} {H H1 H2 : Hp}
/-- an own new list is changed -/
theorem Ext.own {p : Addr} {xs : List V} {u : HO} (e : Ext T ms H H1) (hn : Nw H p) (h : H1 p = some (.lst xs)) : Ext T ms H (upd H1 p u) := ⟨fun b x hb hx q => by
  rw [upd_ne (hn.ne q hx)]
  exact e.keep b x hb hx q, fun t => (Ext.mut (T := T) (ms := [p]) (u := u) (by simp) h).tabs (e.tabs t)⟩
theorem Ext.newR {p : Addr} {o : HO} (e : Ext T ms H H1) (h : H1 p = none) : Ext T ms H (upd H1 p o) := e.trans (.new h)
theorem wipe1 {σ : L2.St} {k : Nat} {v : Option V} : wipe ((wipe σ [k]).set k v) [k] = wipe σ [k] := by
  show ((σ.set k none).set k v).set k none = σ.set k none
  rw [List.set_set, List.set_set]
/-- a comprehension over one name whose test and element are functions of the item -/
theorem lc_pure {J : It} {n : Nat} {G : Hp → Prop} {Y : Nat → Hp → V → Hp → Prop} {tt : TT} {te : TE} {σ : L2.St} {D : Addr} {Qd : Hp → Prop} {k : Nat} (w : Walk J n G Y) (xs : List V) (hn : n = xs.length) (hY : ∀ i H x H', Y i H x H' → H' = H ∧ xs[i]? = some x) (hD : H1 D = none)
    (hG : ∀ H, Ext T ms H1 H → G H) (p : V → Bool) (f : V → V) (hl : xs.length < sizeLine)
    (step : ∀ x ∈ xs, ∀ H, Ext T ms H1 H → ∀ (R : V → Hp → Prop) (S : Hp → Prop), (p x = true → ∀ H2, Ext T ms H H2 → R (f x) H2) → (p x = false → ∀ H2, Ext T ms H H2 → S H2) →
      tt ((wipe σ [k]).set k (some x)) H fun b H2 => if b = true then te ((wipe σ [k]).set k (some x)) H2 R else S H2)
    (hDm : D ∉ ms) (hd : ∀ H, Ext T ms H1 H → H D = some (.lst ((xs.filter p).map f)) → Qd H) :
    ∃ W : Nat → Nat → Hp → Prop, (∃ z, W 0 z (upd H1 D (.lst []))) ∧ ∀ j z H, W j z H →
      (J.stop j H ∧ Qd H) ∨ (J.go j H ∧ ∃ Nx : Hp → Prop, (∀ H', Nx H' → ∃ y, y < z ∧ W (j + 1) y H') ∧ ∀ x H', J.yld j H x H' → gName k x (wipe σ [k]) H' fun σ2 H2 => wipe σ2 [k] = wipe σ [k] ∧ tt σ2 H2 fun b H3 =>
        if b = true then te σ2 H3 fun y H4 => ∃ acc, H4 D = some (.lst acc) ∧ acc.length < sizeLine ∧ Nx (upd H4 D (.lst (acc ++ [y]))) else Nx H3) := by
  refine lc_it w (fun i H => Ext T ms H1 H ∧ H D = some (.lst (((xs.take i).filter p).map f))) ⟨.new hD, by rw [List.take_zero]; exact upd_same⟩ (fun i H _ h => hG H h.1) (fun i x H H' hi h y => ?_) (fun H h => ?_)
  · obtain ⟨e1, e2⟩ := hY i H x H' y
    subst e1
    obtain ⟨h1, h2⟩ := h
    have hx : x ∈ xs := List.mem_of_getElem? e2
    have et : xs.take (i + 1) = xs.take i ++ [x] := by rw [List.take_add_one, e2]; rfl
    refine ⟨wipe1, step x hx H' h1 _ _ (fun hp H2 e => ⟨_, e.lst hDm h2, ?_, ?_⟩) (fun hp H2 e => ?_)⟩
    · refine Nat.lt_of_le_of_lt ?_ hl
      rw [List.length_map]
      exact Nat.le_trans (List.length_filter_le _ _) (by rw [List.length_take]; exact Nat.min_le_right _ _)
    · refine ⟨(h1.trans e).own (.of hD) (e.lst hDm h2), ?_⟩
      rw [upd_same, et, List.filter_append, List.map_append, List.filter_cons_of_pos hp]
      rfl
    · refine ⟨h1.trans e, ?_⟩
      rw [et, List.filter_append, List.filter_cons_of_neg (by rw [hp]; decide), List.filter_nil, List.append_nil]
      exact e.lst hDm h2
  · obtain ⟨h1, h2⟩ := h
    rw [hn, List.take_length] at h2
    exact hd H h1 h2
end
/-! ### a list or a tuple walked -/
def iSeq (K : PySem.W.Frag) (tl : TE) : TI := fun σ H R => tl σ H fun x H1 => ∃ a, x = .ref a ∧ (((∃ xs, SqL K H1 a xs) ∧ R (Itl K a) H1) ∨ ((∃ xs, SqT K H1 a xs) ∧ R (Itt K a) H1))
theorem pi_seq {X : Cx} (K : PySem.W.Frag) (hK : X.K = K) {tg l : Expr} {tl : TE} (hl : PE X l tl) : PI X tg l (iSeq K tl) := by
  subst hK
  refine ⟨fun pins s σ H R I h => ?_⟩
  refine thn (hl.run pins s σ H _ I h) fun v s1 ⟨x, H1, I1, r1, a, e, q⟩ => ?_
  subst e
  cases r1
  have fr : ∀ b, b ∈ [s1.heap.objs.size] → ∀ {o : Obj}, FpOk X pins H1 b := fun b hb _ => by
    have e : b = s1.heap.objs.size := by simpa using hb
    rw [e]
    exact I1.fpOk (Nat.le_refl _) (I1.hok.fresh (Nat.le_refl _))
  rcases q with ⟨⟨xs, hq⟩, q⟩ | ⟨⟨xs, hq⟩, q⟩
  · obtain ⟨us, ru, pl, _⟩ := I1.list hq
    refine wpAny_pyIter_list pl.isList ?_
    exact ⟨s1.heap.objs.size, [s1.heap.objs.size], _, _, H1, rfl, I1.kept (t' := s1.toks) fun b o e => Heap.get?_push_of_some _ e, turn_list a _, ⟨_, Heap.get?_push_size _ rfl, rfl, rfl⟩, fun b hb => fr b hb (o := default), q⟩
  · obtain ⟨us, ru, pl, _⟩ := I1.tuple hq
    refine wpAny_pyIter_tuple (show s1.heap.IsTuple a us.toArray from pl) ?_
    exact ⟨s1.heap.objs.size, [s1.heap.objs.size], _, _, H1, rfl, I1.kept (t' := s1.toks) fun b o e => Heap.get?_push_of_some _ e, turn_tuple a _, ⟨_, Heap.get?_push_size _ rfl, rfl, rfl⟩, fun b hb => fr b hb (o := default), q⟩
/-! ### texts as lists of signs -/
abbrev sg (z : Str) : List Nat := z.cps.toList
theorem sg_len (z : Str) : (sg z).length = z.length := Array.length_toList
theorem sg_inj {a b : Str} (h : sg a = sg b) : a = b := TL.ext_tl h
theorem sg_app (a b : Str) : sg (a ++ b) = sg a ++ sg b := TL.tl_append a b
theorem endswith_iff (x y : Str) : Txt.endswith x y = true ↔ sg y <:+ sg x := by
  unfold Txt.endswith
  rw [StrLaws.subAt_eq, Bool.and_eq_true, decide_eq_true_eq, beq_iff_eq]
  rw [List.suffix_iff_eq_drop, ← sg_len, ← sg_len]
  have hx : x.cps.toList.length = (sg x).length := rfl
  constructor
  · rintro ⟨h1, h2⟩
    rw [List.take_of_length_le (by rw [List.length_drop]; omega)] at h2
    exact h2.symm
  · intro h
    have hl := congrArg List.length h
    rw [List.length_drop] at hl
    refine ⟨by omega, ?_⟩
    rw [List.take_of_length_le (by rw [List.length_drop]; omega)]
    exact h.symm
/-! ### comprehensions, read -/
def LcG (J : It) (g : TG) (tt : TT) (te : TE) (vs : List Nat) (σ : L2.St) (H1 : Hp) (Q : VK) : Prop := ∀ D, H1 D = none → ∃ W : Nat → Nat → Hp → Prop, (∃ z, W 0 z (upd H1 D (.lst []))) ∧ ∀ j z H, W j z H →
  (J.stop j H ∧ Q (.ref D) H) ∨ (J.go j H ∧ ∃ Nx : Hp → Prop, (∀ H', Nx H' → ∃ y, y < z ∧ W (j + 1) y H') ∧ ∀ x H', J.yld j H x H' → g x (wipe σ vs) H' fun σ2 H2 => wipe σ2 vs = wipe σ vs ∧ tt σ2 H2 fun b H3 =>
    if b = true then te σ2 H3 fun y H4 => ∃ acc, H4 D = some (.lst acc) ∧ acc.length < sizeLine ∧ Nx (upd H4 D (.lst (acc ++ [y]))) else Nx H3)
section
variable {K : PySem.W.Frag} {σ : L2.St} {H H1 : Hp} {Q : VK} {wi : TI} {g : TG} {tt : TT} {te : TE} {vs : List Nat} {R : It → Hp → Prop}
theorem rd_lc (q : wi σ H fun J H1 => LcG J g tt te vs σ H1 Q) : tLc wi g tt te vs σ H Q := q
theorem rd_iStr (q : te σ H fun v H1 => ∃ x, v = .str x ∧ R (Its x) H1) : iStr te σ H R := q
theorem rd_exStr {z : Str} {P : Str → Prop} (q : P z) : ∃ x, V.str z = .str x ∧ P x := ⟨z, rfl, q⟩
theorem rd_exRef {a : Addr} {P : Addr → Prop} (q : P a) : ∃ x, V.ref a = .ref x ∧ P x := ⟨a, rfl, q⟩
theorem rd_exInt {a : Int} {P : Int → Prop} (q : P a) : ∃ x, V.int a = .int x ∧ P x := ⟨a, rfl, q⟩
theorem rd_exInts {a : Int} {P : Int → Prop} (q : P a) : ∃ x, [V.int a] = [.int x] ∧ P x := ⟨a, rfl, q⟩
theorem rd_seqL {a : Addr} {xs : List V} {B C : Prop} (h : SqL K H1 a xs) (q : B) : ((∃ xs, SqL K H1 a xs) ∧ B) ∨ C := .inl ⟨⟨xs, h⟩, q⟩
theorem rd_iSeq (q : te σ H fun x H1 => ∃ a, x = .ref a ∧ (((∃ xs, SqL K H1 a xs) ∧ R (Itl K a) H1) ∨ ((∃ xs, SqT K H1 a xs) ∧ R (Itt K a) H1))) : iSeq K te σ H R := q
theorem rd_rng {ta : TA} (q : ta σ H fun vs H1 => ∃ j : Int, vs = [.int j] ∧ -(2 ^ 62) ≤ j ∧ j < 2 ^ 62 ∧ R (Itr 0 j.toNat) H1) : iRng1 ta σ H R := q
/-- the signs of a text, each a text -/
def chrs (z : Str) : List V := (sg z).map fun c => .str ⟨#[c]⟩
variable (T : List (Addr × Str)) (ms : List Addr)
theorem lcg_str {z : Str} {k : Nat} (p : V → Bool) (f : V → V) (hz : z.length < sizeLine) (hm : ∀ D, H D = none → D ∉ ms)
    (step : ∀ x ∈ chrs z, ∀ H', Ext T ms H H' → ∀ (R : V → Hp → Prop) (S : Hp → Prop), (p x = true → ∀ H2, Ext T ms H' H2 → R (f x) H2) → (p x = false → ∀ H2, Ext T ms H' H2 → S H2) →
      tt ((wipe σ [k]).set k (some x)) H' fun b H2 => if b = true then te ((wipe σ [k]).set k (some x)) H2 R else S H2)
    (q : ∀ D H2, Nw H D → Ext T ms H H2 → H2 D = some (.lst (((chrs z).filter p).map f)) → Q (.ref D) H2) : LcG (Its z) (gName k) tt te [k] σ H Q := fun D hD =>
  lc_pure walk_str (chrs z) (by rw [chrs, List.length_map, sg_len]; rfl) (fun i H x H' y => by
    obtain ⟨e, c, h1, h2⟩ := y
    refine ⟨e, ?_⟩
    rw [chrs, List.getElem?_map, h2, show (sg z)[i]? = some c by rw [← h1]; exact Array.getElem?_toList]
    rfl) hD (fun _ _ => True.intro) p f (by rw [chrs, List.length_map, sg_len]; exact hz) step (hm D hD) fun H2 e h => q D H2 (.of hD) e h
theorem lcg_list {a : Addr} {xs : List V} {k : Nat} (h : SqL K H a xs) (p : V → Bool) (f : V → V) (hz : xs.length < sizeLine) (ha : a ∉ ms) (hm : ∀ D, H D = none → D ∉ ms)
    (step : ∀ x ∈ xs, ∀ H', Ext T ms H H' → ∀ (R : V → Hp → Prop) (S : Hp → Prop), (p x = true → ∀ H2, Ext T ms H' H2 → R (f x) H2) → (p x = false → ∀ H2, Ext T ms H' H2 → S H2) →
      tt ((wipe σ [k]).set k (some x)) H' fun b H2 => if b = true then te ((wipe σ [k]).set k (some x)) H2 R else S H2)
    (q : ∀ D H2, Nw H D → Ext T ms H H2 → H2 D = some (.lst ((xs.filter p).map f)) → Q (.ref D) H2) : LcG (Itl K a) (gName k) tt te [k] σ H Q := fun D hD =>
  lc_pure walk_list xs rfl (fun i H x H' y => y) hD (fun H' e => e.seqL ha h) p f hz step (hm D hD) fun H2 e h => q D H2 (.of hD) e h
theorem lcg_tup {a : Addr} {xs : List V} {k : Nat} (h : SqT K H a xs) (p : V → Bool) (f : V → V) (hz : xs.length < sizeLine) (ha : a ∉ ms) (hm : ∀ D, H D = none → D ∉ ms)
    (step : ∀ x ∈ xs, ∀ H', Ext T ms H H' → ∀ (R : V → Hp → Prop) (S : Hp → Prop), (p x = true → ∀ H2, Ext T ms H' H2 → R (f x) H2) → (p x = false → ∀ H2, Ext T ms H' H2 → S H2) →
      tt ((wipe σ [k]).set k (some x)) H' fun b H2 => if b = true then te ((wipe σ [k]).set k (some x)) H2 R else S H2)
    (q : ∀ D H2, Nw H D → Ext T ms H H2 → H2 D = some (.lst ((xs.filter p).map f)) → Q (.ref D) H2) : LcG (Itt K a) (gName k) tt te [k] σ H Q := fun D hD =>
  lc_pure walk_tup xs rfl (fun i H x H' y => y) hD (fun H' e => e.seqT ha h) p f hz step (hm D hD) fun H2 e h => q D H2 (.of hD) e h
end
/-! ### loops, read -/
def ForG (J : It) (g : TG) (tb : TS) (D : Ends) (σ : L2.St) (H1 : Hp) : Prop := ∃ W : Nat → Nat → L2.St → Hp → Prop, (∃ z, W 0 z σ H1) ∧ ∀ j z σ H, W j z σ H →
  (J.stop j H ∧ D.nx σ H) ∨ (J.go j H ∧ ∃ N : L2.St → Hp → Prop, (∀ σ' H', N σ' H' → ∃ y, y < z ∧ W (j + 1) y σ' H') ∧ ∀ x H', J.yld j H x H' → g x σ H' fun σ2 H2 => tb { D with nx := N, ct := N, bk := D.nx } σ2 H2)
section
variable {K : PySem.W.Frag} {σ : L2.St} {H H1 : Hp} {wi : TI} {g : TG} {tb : TS} {nx bk ct : L2.St → Hp → Prop} {rt : VK}
theorem rd_for {D : Ends} (q : wi σ H fun J H1 => ForG J g tb D σ H1) : tFor wi g tb D σ H := q
theorem forg_it {J : It} {n : Nat} {G : Hp → Prop} {Y : Nat → Hp → V → Hp → Prop} (w : Walk J n G Y) (Pv : Nat → L2.St → Hp → Prop) (h0 : Pv 0 σ H) (hG : ∀ i σ H, i ≤ n → Pv i σ H → G H)
    (hs : ∀ i x σ H H', i < n → Pv i σ H → Y i H x H' → g x σ H' fun σ2 H2 => tb ⟨Pv (i + 1), rt, nx, Pv (i + 1)⟩ σ2 H2) (hd : ∀ σ H, Pv n σ H → nx σ H) : ForG J g tb ⟨nx, rt, bk, ct⟩ σ H := for_it w Pv h0 hG hs hd
theorem forg_list {a : Addr} {xs : List V} (Pv : Nat → L2.St → Hp → Prop) (h0 : Pv 0 σ H) (hl : ∀ i σ H, i ≤ xs.length → Pv i σ H → SqL K H a xs)
    (hs : ∀ i x σ H, xs[i]? = some x → Pv i σ H → g x σ H fun σ2 H2 => tb ⟨Pv (i + 1), rt, nx, Pv (i + 1)⟩ σ2 H2) (hd : ∀ σ H, Pv xs.length σ H → nx σ H) : ForG (Itl K a) g tb ⟨nx, rt, bk, ct⟩ σ H :=
  forg_it walk_list Pv h0 hl (fun i x σ H H' hi p y => by
    rw [y.1]
    exact hs i x σ H y.2 p) hd
theorem forg_tup {a : Addr} {xs : List V} (Pv : Nat → L2.St → Hp → Prop) (h0 : Pv 0 σ H) (hl : ∀ i σ H, i ≤ xs.length → Pv i σ H → SqT K H a xs)
    (hs : ∀ i x σ H, xs[i]? = some x → Pv i σ H → g x σ H fun σ2 H2 => tb ⟨Pv (i + 1), rt, nx, Pv (i + 1)⟩ σ2 H2) (hd : ∀ σ H, Pv xs.length σ H → nx σ H) : ForG (Itt K a) g tb ⟨nx, rt, bk, ct⟩ σ H :=
  forg_it walk_tup Pv h0 hl (fun i x σ H H' hi p y => by
    rw [y.1]
    exact hs i x σ H y.2 p) hd
theorem forg_range {lo : Int} {n : Nat} (Pv : Nat → L2.St → Hp → Prop) (h0 : Pv 0 σ H)
    (hs : ∀ (i : Nat) σ H, i < n → Pv i σ H → g (.int (lo + i)) σ H fun σ2 H2 => tb ⟨Pv (i + 1), rt, nx, Pv (i + 1)⟩ σ2 H2) (hd : ∀ σ H, Pv n σ H → nx σ H) : ForG (Itr lo n) g tb ⟨nx, rt, bk, ct⟩ σ H :=
  forg_it walk_range Pv h0 (fun _ _ _ _ _ => True.intro) (fun i x σ H H' hi p y => by
    obtain ⟨e1, e2⟩ := y
    rw [e1, e2]
    exact hs i σ H hi p) hd
end
theorem rd_ntt {A B : Prop} (h : B) : if (!true) = true then A else B := h
theorem rd_nff {A B : Prop} (h : A) : if (!false) = true then A else B := h
theorem rd_cut {σ : L2.St} {H : Hp} {nx bk ct : L2.St → Hp → Prop} {rt : VK} {t u : TS} (Mid : L2.St → Hp → Prop) (h1 : ∀ nx' : L2.St → Hp → Prop, (∀ σ' H', Mid σ' H' → nx' σ' H') → t ⟨nx', rt, bk, ct⟩ σ H) (h2 : ∀ σ' H', Mid σ' H' → u ⟨nx, rt, bk, ct⟩ σ' H') : tSeq t u ⟨nx, rt, bk, ct⟩ σ H := h1 _ h2
theorem filtT {α : Type} (l : List α) : l.filter (fun _ => true) = l := List.filter_eq_self.mpr fun _ _ => rfl
/-! ### further steps -/
section
variable {K : PySem.W.Frag} {σ : L2.St} {H : Hp} {Q : VK} {te : TE}
theorem rd_tyes {Q : Bool → Hp → Prop} (q : Q true H) : tYes σ H Q := q
theorem dec_str (a b : Str) : decide (V.str a = V.str b) = decide (a = b) := by
  by_cases h : a = b
  · rw [h]
    simp
  · rw [decide_eq_false h]
    exact decide_eq_false fun z => h (V.str.inj z)
theorem dec_intV (a b : Int) : decide (V.int a = V.int b) = decide (a = b) := by
  by_cases h : a = b
  · rw [h]
    simp
  · rw [decide_eq_false h]
    exact decide_eq_false fun z => h (V.int.inj z)
theorem dec_bl (a b : Bool) : decide (V.bl a = V.bl b) = decide (a = b) := by
  by_cases h : a = b
  · rw [h]
    simp
  · rw [decide_eq_false h]
    exact decide_eq_false fun z => h (V.bl.inj z)
theorem rd_isBool {z : Bool} (q : Q (.bl true) H) : rIsi K [.bl z, .ty "bool"] H Q := ⟨_, _, _, _, true, rfl, .ty _, .base (.bl _), rfl, q⟩
theorem rd_ixS {z : Str} {i : Int} {c : Nat} (hz : z.length ≤ sizeLine) (h : atI z.cps.toList i = some c) (q : Q (.str ⟨#[c]⟩) H) : rIx K (.str z) (.int i) H Q := .inr (.inr ⟨z, i, c, rfl, rfl, hz, h, q⟩)
theorem rd_cat {a b : Addr} {xs ys : List V} (h1 : H a = some (.lst xs)) (h2 : H b = some (.lst ys)) (c : xs.length + ys.length ≤ sizeLine) (q : ∀ p, H p = none → Q (.ref p) (upd H p (.lst (xs ++ ys)))) : rPlus K (.ref a) (.ref b) H Q := .inr (.inr (.inl ⟨a, b, xs, ys, rfl, rfl, h1, h2, c, q⟩))
theorem rd_slS {z : Str} {lo hi : Option Int} (hz : z.length ≤ sizeLine) (q : Q (.str (cutS z lo hi)) H) : rSlU K (.str z) lo hi H Q := .inr (.inl ⟨z, rfl, hz, q⟩)
theorem rd_slL {a : Addr} {xs : List V} {lo hi : Option Int} (h : SqL K H a xs) (q : ∀ p, H p = none → Q (.ref p) (upd H p (.lst (cutV xs lo hi)))) : rSlU K (.ref a) lo hi H Q := .inl ⟨a, xs, rfl, h, q⟩
theorem rd_sl {r : V → Option Int → Option Int → Hp → VK → Prop} {tl th : TO} (q : te σ H fun x H1 => tl σ H1 fun lo H2 => th σ H2 fun hi H3 => r x lo hi H3 Q) : tSl r te tl th σ H Q := q
theorem rd_noP {Q : Option Int → Hp → Prop} (q : Q none H) : tNoPart σ H Q := q
theorem rd_part {Q : Option Int → Hp → Prop} (q : te σ H fun v H1 => ∃ i, v = .int i ∧ Q (some i) H1) : tPart te σ H Q := q
theorem rd_eqStr {a b : Str} (q : Q (.bl (decide (a = b))) H) : rEqU K (.str a) (.str b) H Q := .inl ⟨rfl, by rw [dec_str]; exact q⟩
theorem rd_neStr {a b : Str} (q : Q (.bl (!decide (a = b))) H) : rNeU K (.str a) (.str b) H Q := .inl ⟨rfl, by rw [dec_str]; exact q⟩
theorem rd_eqInt {a b : Int} (q : Q (.bl (decide (a = b))) H) : rEqU K (.int a) (.int b) H Q := .inl ⟨rfl, by rw [dec_intV]; exact q⟩
theorem rd_neInt {a b : Int} (q : Q (.bl (!decide (a = b))) H) : rNeU K (.int a) (.int b) H Q := .inl ⟨rfl, by rw [dec_intV]; exact q⟩
theorem rd_eqBl {a b : Bool} (q : Q (.bl (decide (a = b))) H) : rEqU K (.bl a) (.bl b) H Q := .inl ⟨rfl, by rw [dec_bl]; exact q⟩
theorem rd_rev (q : te σ H fun x H1 => ∃ a xs, x = .ref a ∧ SqL K H1 a xs ∧ ∀ p, H1 p = none → Q (.ref p) (upd H1 p (.lst xs.reverse))) : tRevL K te σ H Q := q
theorem rd_revL {a : Addr} {xs : List V} (h : SqL K H a xs) (q : ∀ p, H p = none → Q (.ref p) (upd H p (.lst xs.reverse))) : ∃ b ys, V.ref a = .ref b ∧ SqL K H b ys ∧ ∀ p, H p = none → Q (.ref p) (upd H p (.lst ys.reverse)) := ⟨a, xs, rfl, h, q⟩
theorem rd_exA {a : Str} {P : Prop} (q : P) : (∃ b, V.str a = .str b) ∧ P := ⟨⟨a, rfl⟩, q⟩
def tFs (ts : List TE) : TE := fun σ H Q => tJs ts Str.empty σ H fun out H1 => Q (.str out) H1
theorem pe_fstr {X : Cx} {v1 v2 : Expr} {rest : List Expr} {ts : List TE} {pos : Pos} (h : PJ X (v1 :: v2 :: rest) ts) : PE X (.JoinedStr (v1 :: v2 :: rest) pos) (tFs ts) := pe_joined h
theorem rd_fs {ts : List TE} (q : tJs ts Str.empty σ H fun out H1 => Q (.str out) H1) : tFs ts σ H Q := q
theorem rd_jc {t : TE} {ts : List TE} {acc : Str} {Q : Str → Hp → Prop} (q : t σ H fun x H1 => ∃ y : Str, x = .str y ∧ (acc ++ y).length ≤ sizeLine ∧ tJs ts (acc ++ y) σ H1 Q) : tJs (t :: ts) acc σ H Q := q
theorem rd_jn {acc : Str} {Q : Str → Hp → Prop} (q : Q acc H) : tJs [] acc σ H Q := q
theorem rd_fmt {t : TE} (q : t σ H fun x H1 => (∃ y : Str, x = .str y ∧ y.length ≤ sizeLine ∧ Q (.str y) H1) ∨ ∃ i : Int, x = .int i ∧ i.natAbs.log2 < 1920 ∧ Q (.str (toString i)) H1) : tFmt t σ H Q := q
theorem rd_fmtS {y : Str} {C : Prop} (h : y.length ≤ sizeLine) (q : Q (.str y) H) : (∃ z : Str, V.str y = .str z ∧ z.length ≤ sizeLine ∧ Q (.str z) H) ∨ C := .inl ⟨y, rfl, h, q⟩
theorem rd_bm {T : String} {r : V → List V → Hp → VK → Prop} {t : TA} (q : te σ H fun x H1 => tyV K T x H1 ∧ t σ H1 fun xs H2 => r x xs H2 Q) : tBM K T r te t σ H Q := q
theorem rd_tyL {p : Addr} {xs : List V} {P : Prop} (h : H p = some (.lst xs)) (q : P) : tyV K "list" (.ref p) H ∧ P := ⟨.inl ⟨rfl, xs, .inl (.inl h)⟩, q⟩
theorem rd_app {p : Addr} {xs : List V} {y : V} (h : H p = some (.lst xs)) (c : xs.length < sizeLine) (q : Q .non (upd H p (.lst (xs ++ [y])))) : rAppend (.ref p) [y] H Q := ⟨p, xs, y, rfl, rfl, h, c, q⟩
end
/-! ### a list of data, sorted -/
section
open PySem.W
def Srt (xs : List V) (ds : List PyData) (ys : List V) : Prop := EachIs (fun y d => (y, d) ∈ xs.zip ds) ys (ds.mergeSort (dataLe false id))
def rSortD (K : PySem.W.Frag) : List V → Hp → VK → Prop := fun vs H Q => ∃ (a : Addr) (xs : List V) (ds : List PyData), vs = [.ref a] ∧ SqL K H a xs ∧ DpAll K H xs ds ∧ AllAlike ds ∧ Sortable ds ∧ (∀ d ∈ ds, d.depth ≤ 60) ∧
  ∀ (ys : List V) (p : Addr), Srt xs ds ys → H p = none → Q (.ref p) (upd H p (.lst ys))
end
def dotS : Str := "."
theorem sg_dot : sg dotS = [46] := by decide +kernel
def lettersS : Str := "abcdefghijklmnopqrstuvwxyz0123456789"
def wordB (z ls : Str) (m : Int) : Bool := decide ((1 : Int) ≤ (z.length : Int)) && (decide ((z.length : Int) ≤ m) && (sg z).all fun c => decide (c ∈ sg ls))
def idB (z : Str) : Bool := wordB z lettersS 4
def labelB (z : Str) : Bool := wordB z lettersS 8
def partsL (z : Str) : List Str := Txt.split z dotS
def nameB (z : Str) : Bool := decide (z = dotS) || (decide (((partsL z).length : Int) ≤ 4) && (partsL z).all labelB)
def labelsL (z : Str) : List Str := if z = dotS then [] else (partsL z).reverse
def endsB (n o : Str) : Bool := decide (o = dotS) || (decide (n = o) || Txt.endswith n (dotS ++ o))
theorem parts_sg (z : Str) : (partsL z).map sg = TL.spl [46] 0 [] (sg z) := by
  have h := TL.split_spl z dotS (by rw [show TL.tl dotS = [46] from sg_dot]; simp) (TL.kind_ok (by decide +kernel))
  rw [show TL.tl dotS = [46] from sg_dot] at h
  exact h
/-- a text is none of its parts longer than itself -/
theorem spl_len : ∀ (l acc : List Nat), (TL.spl [46] 0 acc l).length = l.count 46 + 1
  | [], acc => rfl
  | c :: r, acc => by
    by_cases h : c = 46
    · subst h
      have e : TL.spl [46] 0 acc (46 :: r) = acc :: TL.spl [46] 0 [] r := by
        rw [TL.spl, if_pos (by rfl)]
        rfl
      rw [e, List.length_cons, spl_len r []]
      simp
    · have e : TL.spl [46] 0 acc (c :: r) = TL.spl [46] 0 (acc ++ [c]) r := by
        rw [TL.spl, if_neg]
        show ¬ (TL.pre [46] (c :: r) = true)
        unfold TL.pre
        simpa using h
      rw [e, spl_len r]
      rw [List.count_cons_of_ne h]
theorem parts_len (z : Str) : (partsL z).length = (sg z).count 46 + 1 := by
  rw [← spl_len (sg z) [], ← parts_sg, List.length_map]
theorem parts_le (z : Str) : (partsL z).length ≤ z.length + 1 := by
  have h := List.count_le_length (a := 46) (l := sg z)
  rw [sg_len] at h
  rw [parts_len]
  omega
theorem spl_mem : ∀ (l acc : List Nat) (x : List Nat), x ∈ TL.spl [46] 0 acc l → x.length ≤ acc.length + l.length
  | [], acc, x, h => by
    have h : x ∈ [acc] := h
    rw [List.mem_singleton.mp h]
    omega
  | c :: r, acc, x, h => by
    by_cases hc : c = 46
    · subst hc
      have e : TL.spl [46] 0 acc (46 :: r) = acc :: TL.spl [46] 0 [] r := by
        rw [TL.spl, if_pos (by rfl)]
        rfl
      rw [e] at h
      rcases List.mem_cons.mp h with h | h
      · rw [h]
        omega
      · have := spl_mem r [] x h
        simp only [List.length_cons, List.length_nil] at this ⊢
        omega
    · have e : TL.spl [46] 0 acc (c :: r) = TL.spl [46] 0 (acc ++ [c]) r := by
        rw [TL.spl, if_neg]
        show ¬ (TL.pre [46] (c :: r) = true)
        unfold TL.pre
        simpa using hc
      rw [e] at h
      have := spl_mem r _ x h
      simp only [List.length_cons, List.length_append, List.length_nil] at this ⊢
      omega
theorem parts_mem {z x : Str} (h : x ∈ partsL z) : x.length ≤ z.length := by
  have h1 : sg x ∈ TL.spl [46] 0 [] (sg z) := by
    rw [← parts_sg]
    exact List.mem_map_of_mem h
  have h2 := spl_mem _ _ _ h1
  rw [sg_len, sg_len] at h2
  simpa using h2
theorem fs_dot (u : Str) : (Str.empty ++ Str.ofString ".") ++ u = dotS ++ u := sg_inj (by rw [sg_app, sg_app, sg_app]; rfl)
theorem fs_len (u : Str) (h : u.length ≤ 1000) : (Str.empty ++ Str.ofString "." ++ u).length ≤ sizeLine := by
  have e : (dotS ++ u).length = 1 + u.length := by
    rw [← sg_len, sg_app, List.length_append, sg_dot, sg_len]
    rfl
  rw [fs_dot, e]
  exact Nat.le_trans (show _ ≤ 1001 by omega) (by decide)
theorem dot_len : (Str.ofString ".").length = 1 := by decide +kernel
section
variable (T : List (Addr × Str))
def spTTB (f : Str → Str → Bool) : Sp := fun vs H Q _ => ∃ z u : Str, vs = [.str z, .str u] ∧ z.length ≤ 1000 ∧ u.length ≤ 1000 ∧ ∀ H', Ext T [] H H' → Q (.bl (f z u)) H'
/-- a text in, a new list of texts out -/
def spTL (f : Str → List Str) : Sp := fun vs H Q _ => ∃ z : Str, vs = [.str z] ∧ z.length ≤ 1000 ∧ ∀ p H', Nw H p → Ext T [] H H' → H' p = some (.lst ((f z).map V.str)) → Q (.ref p) H'
end
/-! ### an index that lies in it -/
theorem at_in {α : Type} {l : List α} {i : Int} (h0 : 0 ≤ i) (h : i < l.length) : ∃ c, atI l i = some c ∧ l[i.toNat]? = some c ∧ c ∈ l := by
  have hi : i.toNat < l.length := by omega
  have e : i = ((i.toNat : Nat) : Int) := by omega
  obtain ⟨c, hc⟩ : ∃ c, l[i.toNat]? = some c := ⟨_, List.getElem?_eq_getElem hi⟩
  have h2 := atI_nat hc
  rw [← e] at h2
  exact ⟨c, h2, hc, List.mem_of_getElem? hc⟩
theorem sum_le {B : Nat} : ∀ {l : List Nat}, (∀ x ∈ l, x ≤ B) → l.sum ≤ l.length * B
  | [], _ => by simp
  | x :: r, h => by
    have h1 := h x List.mem_cons_self
    have h2 := sum_le (l := r) fun y hy => h y (List.mem_cons_of_mem _ hy)
    rw [List.sum_cons, List.length_cons, Nat.succ_mul]
    omega
def joinS (ys : List Str) : Str := Txt.join dotS ys
theorem parts_join {ys : List Str} (hne : ys ≠ []) (h : ∀ y ∈ ys, 46 ∉ sg y) : partsL (joinS ys) = ys := TL.split_join sg_dot (by decide +kernel) hne h
theorem label_nodot {y : Str} (h : labelB y = true) : 46 ∉ sg y := fun hm => by
  unfold labelB wordB at h
  rw [Bool.and_eq_true, Bool.and_eq_true] at h
  have h2 := of_decide_eq_true (List.all_eq_true.mp h.2.2 46 hm)
  exact absurd h2 (by decide +kernel)
theorem name_join {ys : List Str} (hne : ys ≠ []) (hl : ys.length ≤ 4) (h : ∀ y ∈ ys, labelB y = true) : nameB (joinS ys) = true := by
  unfold nameB
  rw [parts_join hne fun y hy => label_nodot (h y hy), decide_eq_true (show (ys.length : Int) ≤ 4 by omega), List.all_eq_true.mpr h]
  simp
theorem at_last {α : Type} {l : List α} {v : α} (h : l.getLast? = some v) : atI l (-1) = some v := by
  obtain ⟨r, e⟩ := List.getLast?_eq_some_iff.mp h
  rw [e]
  exact atI_last _ _
/-! ### sorted of data -/
section
open PySem.W
theorem each_vals : ∀ {xs : List V} {us : List Value}, Vals xs us → EachIs (fun u x => RelV x u) us xs
  | _, _, .nil => .nil
  | _, _, .cons r t => .cons r (each_vals t)
theorem each_zip {γ : Type} : ∀ {xs : List V} {us : List Value} {ds : List γ}, Vals xs us → ds.length = xs.length → EachIs (fun u d => ∃ y, RelV y u ∧ (y, d) ∈ xs.zip ds) us ds
  | _, _, [], .nil, _ => .nil
  | _, _, d :: ds, .nil, h => by cases h
  | _, _, [], .cons _ _, h => by cases h
  | _, _, d :: ds, .cons (a := x) r t, h => by
    refine .cons ⟨x, r, List.mem_cons_self⟩ ?_
    exact (each_zip t (by simpa using h)).mono fun u e ⟨y, h1, h2⟩ => ⟨y, h1, List.mem_cons_of_mem _ h2⟩
/-- the sorted values, by their abstract ones -/
theorem each_back {γ : Type} {R : V → γ → Prop} : ∀ {us : List Value} {ds : List γ}, EachIs (fun u d => ∃ y, RelV y u ∧ R y d) us ds → ∃ ys, Vals ys us ∧ EachIs R ys ds
  | _, _, .nil => ⟨[], .nil, .nil⟩
  | _, _, .cons ⟨y, h1, h2⟩ t => by
    obtain ⟨ys, a, b⟩ := each_back t
    exact ⟨y :: ys, .cons h1 a, .cons h2 b⟩
theorem dpAll_len {K : PySem.W.Frag} {H : Hp} : ∀ {xs : List V} {ds : List PyData}, DpAll K H xs ds → ds.length = xs.length
  | _, _, .nil => rfl
  | _, _, .cons _ t => by rw [List.length_cons, List.length_cons, dpAll_len t]
theorem call_sortedU {X : Cx} (K : PySem.W.Frag) (hK : X.K = K) (hu : X.A.units + 64 < cLine) : CallR X (.builtin "sorted") (rSortD K) := by
  subst hK
  intro pins s σ H vs us Q I r h
  obtain ⟨a, xs, ds, rfl, hs, hd, hal, hk, hdep, q⟩ := h
  cases r with
  | cons r t =>
    cases t
    cases r
    obtain ⟨its, rv, hl, hz⟩ := I.list hs
    have hlen := dpAll_len hd
    obtain ⟨as, hr⟩ := Dp.readsAll I ds xs its hd rv
    have er : EachIs (fun v d => ∃ as, Reads s.heap v (id d) as) its ds := readsAll_each (enc := id) (bs := ds) (by rw [List.map_id]; exact hr)
    refine sorted_data (bs := ds) (enc := id) hl.isList (each_zip rv hlen) er (by rw [List.map_id]; exact hal) (by rw [List.map_id]; exact hk) (by rw [hlen]; exact hz) (fun d hm => ?_) fun out ho he => ?_
    · have := hdep d hm
      show X.A.units + 2 + d.depth < cLine
      omega
    · obtain ⟨ys, h1, h2⟩ := each_back he
      obtain ⟨ep, hp⟩ := PyProof.Rows.sortedAll_at s.heap its (List.toArray out)
      refine ⟨.ref _, upd H (s.heap.objs.size + 1) (.lst ys), I.laid (t' := s.toks) (fun _ _ => PyProof.Rows.sortedAll_old) (Nat.le_succ _) ⟨?_, out, ep, h1, hp⟩, rfl, q ys _ h2 (I.hok.fresh (Nat.le_succ _))⟩
      rw [h1.length, ho, hlen]
      exact hz
end
/-! ### sorted(xs, key=lambda x: ..) whose keys are ints -/
section
variable {P : Program} {w : World} {K : PySem.W.Frag} {mg : Str → Option Value} {base : Heap} {N : List Str} {x q : Str} {scope : Scope} {k : Nat} {f c : Addr} {params : Arguments} {body : Expr} {pm ctv : Value} {tb : TE}
/-- a lambda's object without captured names, called on one value -/
theorem lam_run {A : Around} {outer : List Env} {s : Shared} {H : Hp} {u : Value} {v : V} {Q : VK} (of : s.heap.get? f = some (PySem.W.kla_obj "<lambda>" q params body scope [] pm c ctv)) (hc : s.heap.CodeRec (.ref c) q) (S : FnScope N [x] scope) (hr : Room (k + 1) A)
    (e0 : Env0 P w K mg base A outer s H) (hb : bindArgs (PySem.W.kla_fn "<lambda>" q params body scope [] pm (.ref c) ctv) ⟨[u], []⟩ = pure [(x, u)]) (r : RelV v u)
    (hbody : PE (cxOf CX0 P w K mg base N q scope f (.ref c) A outer s H E0) body tb) (h : tb (start N [v]) H Q) :
    codeAny (model P w) A (.call (.ref f) ⟨[u], []⟩) (CR CX0 outer P w H s Q E0) s := by
  have lim : s.heap.NoLimit := e0.mod.nolimit.keeps fun b o e => (e0.bs b o e).1
  refine PySem.W.kla_callFunE hr.depth of rfl S.co S.gen rfl hc ?_
  rw [hb]
  refine wpAny_pure (wpAny_newFunctionEnv_cells S.kind (fun y hy => ?_) fun env he s1 z => ?_)
  · obtain rfl : y = (x, u) := by simpa using hy
    rcases S.par x (by simp) with j | j
    · exact .inl j
    · exact .inr ⟨j, PySem.W.cellsFrom_some _ _ _ (.inl j)⟩
  · subst he
    refine ⟨lim.keeps z.toInCall.keep, ?_⟩
    have I : Inv (cxOf CX0 P w K mg base N q scope f (.ref c) A outer s H E0) [] (start N [v]) H s1 := inv_start S hr.hd e0 rfl (.cons r .nil) z
    refine PySem.W.kla_codeExpr (wpAny_mono (hbody.run [] s1 _ H Q I h) (fun y s' hy => ?_) fun e s' he => he)
    obtain ⟨y', H', J, ry, qy⟩ := hy
    exact ⟨y', H', J.os, J.bare, J.base, J.hok, ry, qy⟩
end
/-- an untracked object is changed -/
theorem hok_free {P : Program} {w : World} {H : Hp} {h h' : Heap} {c : Addr} (ok : HOk P w H h) (n : H c = none) (kp : ∀ b o, b ≠ c → h.get? b = some o → h'.get? b = some o) : HOk P w H h' := fun a o e =>
  (ok a o e).stay (fun b u hb g => kp b u (by
    rintro rfl
    rcases hb with hb | hb
    · rw [← hb, n] at e
      cases e
    · rw [n] at hb
      cases hb) g) (fun _ z => z) fun _ _ z => z
theorem un_free {fs : List Addr} {H : Hp} {h h' : Heap} {c : Addr} (kp : ∀ b o, b ≠ c → h.get? b = some o → h'.get? b = some o) (there : ∃ o, h'.get? c = some o) : Un fs [c] H H h h' where
  keep := fun b o e _ _ hx => kp b o (by simpa using hx) e
  slot := fun b o e _ _ hx => ⟨o.slots, kp b o (by simpa using hx) e⟩
  free := fun _ _ _ n _ => n
  there := fun b o e hx => ⟨o, kp b o (by simpa using hx) e⟩
  tups := fun _ _ e => e
  frzs := fun _ _ _ e => e
  tbls := fun _ ps e => ⟨#[], by simpa using e⟩
/-- what was not there does not count -/
theorem un_drop {fs : List Addr} {H H' : Hp} {h h' : Heap} {c : Addr} (u : Un fs [c] H H' h h') (n : h.get? c = none) : Un fs [] H H' h h' := by
  have ne : ∀ b o, h.get? b = some o → b ∉ [c] := fun b o e z => by
    rw [show b = c by simpa using z, n] at e
    cases e
  exact ⟨fun b o e n1 n2 _ => u.keep b o e n1 n2 (ne b o e), fun b o e n1 n2 _ => u.slot b o e n1 n2 (ne b o e), fun b o e n1 _ => u.free b o e n1 (ne b o e), fun b o e _ => u.there b o e (ne b o e), u.tups, u.frzs, u.tbls⟩
theorem not_fr {X : Cx} {pins : List (Addr × Obj)} {σ : L2.St} {H : Hp} {s : Shared} (I : Inv X pins σ H s) {b : Addr} (hb : s.heap.objs.size ≤ b) : b ∉ frs X.stack := by
  intro z
  cases List.mem_cons.mp (I.stkSub b z) with
  | inl e =>
    have h1 := I.lt
    subst e
    exact absurd (Nat.lt_of_lt_of_le h1 hb) (Nat.lt_irrefl _)
  | inr e => exact I.nofs hb e
theorem vals_each : ∀ {xs : List V} {us : List Value}, PySem.W.EachIs (fun u x => RelV x u) us xs → Vals xs us
  | _, _, .nil => .nil
  | _, _, .cons r t => .cons r (vals_each t)
theorem ints_read (h : Heap) : ∀ {ks : List Int} {us : List Value}, Vals (ks.map V.int) us → PySem.W.EachIs (fun u d => ∃ as, Reads h u d as) us (ks.map PyData.int)
  | [], _, .nil => .nil
  | n :: ks, _, .cons ⟨t, e⟩ r => by
    subst e
    exact .cons ⟨[], .int n t⟩ (ints_read h r)
section
open PySem.W
def tSortLam (T : List (Addr × Str)) (K : PySem.W.Frag) (N : List Str) (ta : TA) (tb : TE) : TE := fun σ H Q => ta σ H fun vs H1 => ∃ (a : Addr) (xs : List V) (κ : V → Int), vs = [.ref a] ∧ SqL K H1 a xs ∧ LamX.Tabs T H1 ∧
  (∀ x ∈ xs, ∀ H2, Ext T [] H1 H2 → ∀ Q' : VK, (∀ H3, Ext T [] H2 H3 → Q' (.int (κ x)) H3) → tb (start N [x]) H2 Q') ∧ ∀ q H3, Nw H1 q → Ext T [] H1 H3 → H3 q = some (.lst (xs.mergeSort fun a b => decide (κ a ≤ κ b))) → Q (.ref q) H3
theorem tab_ext {T : List (Addr × Str)} {H H1 : Hp} (e : LamX.ExtN H H1) (t : LamX.Tabs T H1) : Ext T [] H H1 := ⟨fun b o _ n h => e b o h n, fun _ => t⟩
/-- the sort's loop over the items and its end -/
theorem sort_lam_run {X : Cx} {pins : List (Addr × Obj)} {σ : L2.St} {H : Hp} {s : Shared} {T : List (Addr × Str)} {N : List Str} {x q : Str} {scope : Scope} {k : Nat} {f c l : Addr} {params : Arguments} {body : Expr} {pm ctv : Value} {tb : TE} {xs : List V} {κ : V → Int} {Q : VK}
    (I : Inv X pins σ H s) (of : s.heap.get? f = some (kla_obj "<lambda>" q params body scope [] pm c ctv)) (fn : H f = none) (ff : f ∉ frs X.stack) (hc : H c = some (LamX.CodeO c q)) (S : FnScope N [x] scope) (hr : Room (k + 2) X.A)
    (hb : ∀ u, bindArgs (kla_fn "<lambda>" q params body scope [] pm (.ref c) ctv) ⟨[u], []⟩ = pure [(x, u)])
    (hbody : ∀ (A : Around) (s : Shared) (H : Hp), Room k (A.deeper (envOfC q scope s.heap.objs.size f (.ref c))) → PE (cxOf CX0 X.prog X.w X.K X.mg X.base N q scope f (.ref c) A X.stack s H E0) body tb)
    (hl : SqL X.K H l xs) (turn : ∀ x ∈ xs, ∀ H2, Ext T [] H H2 → ∀ Q' : VK, (∀ H3, Ext T [] H2 H3 → Q' (.int (κ x)) H3) → tb (start N [x]) H2 Q')
    (done : ∀ q H3, Nw H q → Ext T [] H H3 → H3 q = some (.lst (xs.mergeSort fun a b => decide (κ a ≤ κ b))) → Q (.ref q) H3) :
    wpAny (model X.prog X.w) X.A (call (.builtin "sorted") [.ref l] [(Str.ofString "key", .ref f)]) (EP X pins σ Q) X.xe s := by
  obtain ⟨its, rv, pl, hz⟩ := I.list hl
  have hlen : its.length = xs.length := rv.length.symm
  have hz' : its.length ≤ sizeLine := by rw [hlen]; exact hz
  refine sorted_of_sort pl.isList hz' (ksk_s1 _ _) (fun _ => ksk_l1 _ _) fun E' => ?_
  rw [ksk_t1]
  have hA := copyHeap_at s.heap its
  have hsz : (copyHeap s.heap its).objs.size = s.heap.objs.size + 2 := by
    unfold copyHeap
    rw [size_push', Heap.size_update, size_push']
  generalize ha : s.heap.objs.size + 1 = a at hA ⊢
  unfold ksk_tree
  obtain ⟨e1, hA1⟩ : ∃ e1, ((copyHeap s.heap its).update a (Obj.mapSeq fun _ => (#[] : Array Value))).get? a = some (seqObj "list" #[] e1) := ⟨_, get?_update_seq hA fun _ => #[]⟩
  refine wpAny_bind (listItems_at hA rfl ?_)
  refine wpAny_bind (listUpdate_at hA rfl ?_ (by rw [List.size_toArray]; exact hz') (Nat.zero_le _))
  refine wpAny_bind (seqEpoch_at hA1 rfl ?_)
  refine wpAny_bind (wpAny_newTuple ?_ (by show its.length ≤ _; exact hz'))
  refine wpAny_bind (wpAny_newList ?_ (Nat.zero_le _))
  refine wpAny_holding ?_
  have hkv : ((copyHeap s.heap its).update a (Obj.mapSeq fun _ => (#[] : Array Value)) |>.push (seqObj "tuple" its.toArray 0)).objs.size = s.heap.objs.size + 3 := by
    rw [size_push', Heap.size_update, hsz]
  show wpAny _ _ _ _ _ { s with heap := (((copyHeap s.heap its).update a (Obj.mapSeq fun _ => (#[] : Array Value))).push (seqObj "tuple" its.toArray 0)).push (seqObj "list" #[] 0) }
  have gK : ((((copyHeap s.heap its).update a (Obj.mapSeq fun _ => (#[] : Array Value))).push (seqObj "tuple" its.toArray 0)).push (seqObj "list" #[] 0)).get? (s.heap.objs.size + 3) = some (seqObj "list" #[] 0) := by
    rw [← hkv]
    exact Heap.get?_push_size _ rfl
  have gA : ((((copyHeap s.heap its).update a (Obj.mapSeq fun _ => (#[] : Array Value))).push (seqObj "tuple" its.toArray 0)).push (seqObj "list" #[] 0)).get? a = some (seqObj "list" #[] e1) := Heap.get?_push_of_some _ (Heap.get?_push_of_some _ hA1)
  have gO : ∀ b o, s.heap.get? b = some o → ((((copyHeap s.heap its).update a (Obj.mapSeq fun _ => (#[] : Array Value))).push (seqObj "tuple" its.toArray 0)).push (seqObj "list" #[] 0)).get? b = some o := fun b o e => by
    have hb : b ≠ a := by
      rw [← ha]
      exact Nat.ne_of_lt (Nat.lt_succ_of_lt (Heap.lt_size e))
    exact sortingHeap_old hb (copyHeap_old e)
  have eK : (((copyHeap s.heap its).update a (Obj.mapSeq fun _ => (#[] : Array Value))).push (seqObj "tuple" its.toArray 0)).objs.size = s.heap.objs.size + 3 := hkv
  rw [eK]
  generalize hk : s.heap.objs.size + 3 = kS at gK ⊢
  generalize ((((copyHeap s.heap its).update a (Obj.mapSeq fun _ => (#[] : Array Value))).push (seqObj "tuple" its.toArray 0)).push (seqObj "list" #[] 0)) = G at gK gA gO ⊢
  have hka : kS ≠ a := by
    rw [← hk, ← ha]
    exact Nat.ne_of_gt (Nat.lt_succ_of_lt (Nat.lt_succ_self _))
  have hleA : s.heap.objs.size ≤ a := by
    rw [← ha]
    exact Nat.le_succ _
  have hleK : s.heap.objs.size ≤ kS := by
    rw [← hk]
    exact Nat.le_add_right _ 3
  have sA : s.heap.get? a = none := Heap.get?_none_of_le hleA
  have sK : s.heap.get? kS = none := Heap.get?_none_of_le hleK
  have fA := not_fr I hleA
  have fK := not_fr I hleK
  unfold ksk_rest
  refine wpAny_bind (wpAny_rule ?_)
  rw [List.forIn_toArray]
  refine wpAny_bind (ksk_fold (fun i st => ∃ (Hi : Hp) (keys : Array Value) (ep : Nat), st.os = s.os ∧ AllBare st.gens ∧ Un (frs X.stack) [] H Hi s.heap st.heap ∧ HOk X.prog X.w Hi st.heap ∧ Ext T [] H Hi ∧ Hi a = none ∧ Hi kS = none ∧ Hi f = none ∧
      st.heap.get? kS = some (seqObj "list" keys ep) ∧ st.heap.get? a = some (seqObj "list" #[] e1) ∧ st.heap.get? f = some (kla_obj "<lambda>" q params body scope [] pm c ctv) ∧ Vals (((xs.take i).map κ).map V.int) keys.toList) its 0 _
    ⟨H, #[], 0, rfl, I.bare, .kept gO, I.hok.kept gO, .refl, I.hok.fresh hleA, I.hok.fresh hleK, fn, gK, gA, gO _ _ of, .nil⟩ ?step ?fin)
  case step =>
    rintro j v st hv ⟨Hi, keys, ep, k1, k2, k3, k4, k5, k6, k7, k8, k9, k10, k11, k12⟩
    simp only [Nat.zero_add] at k12 ⊢
    have J : Inv X pins σ Hi st := I.call' (ch := []) k1 k3 k4 k2 (by simp)
    have hj : j < its.length := (List.getElem?_eq_some_iff.mp hv).1
    obtain ⟨y, hy⟩ : ∃ y, xs[j]? = some y := ⟨_, List.getElem?_eq_getElem (by omega)⟩
    have hym : y ∈ xs := List.mem_of_getElem? hy
    obtain ⟨v', hv', ry⟩ := rv.get hy
    rw [hv] at hv'
    cases hv'
    have e0 := J.env0
    have hci : Hi c = some (LamX.CodeO c q) := k5.keep c _ (by simp) (fun ps z => LamX.codeO_ne ps z) hc
    obtain ⟨⟨oc, vs0, tq, c1, c2, c3⟩, _, _⟩ := k4 c _ hci
    have hr2 : Room (k + 1) X.A.in1.in1 := ⟨hr.hd, by have := hr.dp; show X.A.depth + 3 * (k + 1) + 5 < _; omega, by have := hr.un; show X.A.units + 1 + 1 + 16 * (k + 1) + 200 < _; omega⟩
    have rc := lam_run (k := k) (A := X.A.in1.in1) (outer := X.stack) (Q := fun r H3 => r = .int (κ y) ∧ Ext T [] Hi H3) k11 ⟨c, oc, vs0, tq, rfl, c1, c2, c3⟩ S hr2 ⟨e0.frames, e0.mod, e0.bs, e0.bsz, e0.funs, e0.frf, e0.hok, e0.bare⟩ (hb v) ry
      (hbody X.A.in1.in1 st Hi (hr2.deeper _)) (turn y hym Hi k5 _ fun H3 e3 => ⟨rfl, e3⟩)
    refine wpAny_bind (wpAny_attempt (wpAny_mono (wpAny_call (Q := fun u s2 => ∃ H', s2.os = s.os ∧ AllBare s2.gens ∧ Un (frs X.stack) [] Hi H' st.heap s2.heap ∧ HOk X.prog X.w H' s2.heap ∧ Ext T [] Hi H' ∧ ∃ t, u = .int (κ y) t) (E := fun _ _ => False)
      (codeAny_mono rc fun r s2 hq => ?_)) (fun u s2 he => ?_) fun _ _ z => z.elim))
    · cases r with
      | error e => exact False.elim hq
      | ok fl =>
        cases fl with
        | next => exact False.elim hq
        | brk => exact False.elim hq
        | cont => exact False.elim hq
        | ret u =>
          obtain ⟨z, H', h1, h2, h3, h4, h5, h6, h7⟩ := hq
          subst h6
          exact ⟨H', h1.trans k1, h2, h3, h4, h7, h5⟩
    · obtain ⟨H', m1, m2, m3, m4, m5, t', rfl⟩ := he
      have nA := m3.free a _ k10 k6 (by simp)
      have nK := m3.free kS _ k9 k7 (by simp)
      have nF := m3.free f _ k11 k8 (by simp)
      have gK2 := m3.keep kS _ k9 k7 fK (by simp)
      have gA2 := m3.keep a _ k10 k6 fA (by simp)
      have gF2 := m3.keep f _ k11 k8 ff (by simp)
      have sb := Heap.SameBut.update s2.heap kS (Obj.mapSeq (·.push (.int (κ y) t')))
      obtain ⟨c2', hc2⟩ : ∃ c2, (s2.heap.update kS (Obj.mapSeq (·.push (.int (κ y) t')))).get? kS = some (seqObj "list" (keys.push (.int (κ y) t')) c2) := ⟨_, get?_update_seq gK2 (·.push (.int (κ y) t'))⟩
      have kp : ∀ b o, b ≠ kS → s2.heap.get? b = some o → (s2.heap.update kS (Obj.mapSeq (·.push (.int (κ y) t')))).get? b = some o := fun b o hb e => (sb.2 b hb).trans e
      have hkl : keys.size = j := by
        have h1 := k12.length
        have h0 : keys.toList.length = keys.size := Array.length_toList
        rw [List.length_map, List.length_map, List.length_take] at h1
        omega
      have hfk : f ≠ kS := fun z => by
        rw [z] at of
        rw [sK] at of
        cases of
      refine wpAny_bind (listUpdate_at gK2 rfl ?_ (by rw [hkl]; omega) (by show (keys.push _).size ≤ _; rw [Array.size_push, hkl]; omega))
      refine wpAny_pure ⟨rfl, H', keys.push (.int (κ y) t'), c2', m1, m2, ?_, hok_free m4 nK kp, k5.trans m5, nA, nK, nF, hc2, kp a _ hka.symm gA2, kp f _ hfk gF2, ?_⟩
      · exact un_drop (((k3.mono (fun _ z => z) (fun _ z => absurd z (by simp))).trans (m3.mono (fun _ z => z) (fun _ z => absurd z (by simp)))).trans (un_free kp ⟨_, hc2⟩)) sK
      · rw [List.take_add_one, hy, Array.toList_push, List.map_append, List.map_append]
        exact k12.append (.cons ⟨t', rfl⟩ .nil)
  case fin =>
    rintro st ⟨Hi, keys, ep, k1, k2, k3, k4, k5, k6, k7, k8, k9, k10, k11, k12⟩
    have et : xs.take (0 + its.length) = xs := List.take_of_length_le (by omega)
    rw [et] at k12
    have hkl : keys.size = its.length := by
      have h1 := k12.length
      have h0 : keys.toList.length = keys.size := Array.length_toList
      rw [List.length_map, List.length_map] at h1
      omega
    refine wpAny_bind (listItems_at k9 rfl ?_)
    have hrd : EachIs (fun u d => ∃ as, Reads st.heap u d as) keys.toList (xs.map fun y => PyData.int (κ y)) := by
      have h1 := ints_read st.heap (ks := xs.map κ) k12
      rw [List.map_map] at h1
      exact h1
    have hal : AllAlike (xs.map fun y => PyData.int (κ y)) := fun d hd d' hd' => by
      obtain ⟨y, _, rfl⟩ := List.mem_map.mp hd
      obtain ⟨y', _, rfl⟩ := List.mem_map.mp hd'
      rfl
    have hso : PySem.W.Sortable (xs.map fun y => PyData.int (κ y)) := .inr fun d hd => by
      obtain ⟨y, _, rfl⟩ := List.mem_map.mp hd
      exact ⟨(fun z => nomatch z), (fun _ z => nomatch z)⟩
    refine keyH_end (κ := dataKind st.heap (xs.map fun y => PyData.int (κ y))) (h₁ := hideAll st.heap [kS]) (fun b o _ e => of_hideAll _ e) (hideAll_none _ (by simp)) k9 k10 hka
      (SortsAt.data (s := st) hrd hal hso fun d hd => ?_) hkl hz' fun h' tk c3 kb na => ?_
    · obtain ⟨y, _, rfl⟩ := List.mem_map.mp hd
      have h1 := hr.un
      show X.A.units + 1 + 1 + 0 < cLine
      omega
    · refine ⟨rfl, ?_⟩
      have ho := keyedOut_each (fun y : V => PyData.int (κ y)) (rev := false) (bs := xs) (vs := its) ⟨st.heap, keys.toList, hal, rfl, hrd⟩ (each_vals rv)
      rw [dataLe_int] at ho
      have hv := vals_each ho
      have kp : ∀ b o, b ≠ a → b ≠ kS → st.heap.get? b = some o → h'.get? b = some o := fun b o h1 h2 e => kb b o h1 (hideAll_get _ e (by simpa using h2))
      have nA : ∀ b u, Hi b = some u → b ≠ a := fun b u e => ne_of_none e k6
      have nK : ∀ b u, Hi b = some u → b ≠ kS := fun b u e => ne_of_none e k7
      have oA : ∀ b o, s.heap.get? b = some o → b ≠ a := fun b o e z => by
        rw [z, sA] at e
        cases e
      have oK : ∀ b o, s.heap.get? b = some o → b ≠ kS := fun b o e z => by
        rw [z, sK] at e
        cases e
      have hml : (xs.mergeSort fun a b => decide (κ a ≤ κ b)).length ≤ sizeLine := by
        rw [List.length_mergeSort]
        exact hz
      have hok2 : HOk X.prog X.w (upd Hi a (.lst (xs.mergeSort fun a b => decide (κ a ≤ κ b)))) h' := fun b u e => by
        by_cases hb : b = a
        · subst hb
          rw [upd_same] at e
          cases e
          exact ⟨hml, _, c3, hv, na⟩
        · rw [upd_ne hb] at e
          refine (k4 b u e).stay (fun d o hd g => ?_) (fun d g => by rw [upd_ne (nA d _ g)]; exact g) fun d ys g => by rw [upd_ne (nA d _ g)]; exact g
          rcases hd with rfl | hd
          · exact kp _ _ hb (nK _ _ e) g
          · exact kp _ _ (nA _ _ hd) (nK _ _ hd) g
      have un2 : Un (frs X.stack) [] H (upd Hi a (.lst (xs.mergeSort fun a b => decide (κ a ≤ κ b)))) s.heap h' := by
        refine ⟨fun b o e n nf nx => kp b o (oA b o e) (oK b o e) (k3.keep b o e n nf nx), fun b o e n nf nx => ?_, fun b o e n nx => ?_, fun b o e nx => ?_, fun b ys e => ?_, fun b o u e => ?_, fun b ps e => ?_⟩
        · obtain ⟨sl, e2⟩ := k3.slot b o e n nf nx
          exact ⟨sl, kp b _ (oA b o e) (oK b o e) e2⟩
        · rw [upd_ne (oA b o e)]
          exact k3.free b o e n nx
        · obtain ⟨o', e2⟩ := k3.there b o e nx
          exact ⟨o', kp b _ (oA b o e) (oK b o e) e2⟩
        · have e2 := k3.tups b ys e
          rw [upd_ne (nA b _ e2)]
          exact e2
        · have e2 := k3.frzs b o u e
          rw [upd_ne (nA b _ e2)]
          exact e2
        · obtain ⟨more, e2⟩ := k3.tbls b ps e
          exact ⟨more, by rw [upd_ne (nA b _ e2)]; exact e2⟩
      refine ⟨.ref a, _, I.call' (s' := { st with heap := h', toks := tk }) (ch := []) k1 un2 hok2 k2 (by simp), rfl, done a _ (.of (I.hok.fresh hleA)) (k5.newR k6) upd_same⟩
theorem pe_sortedLam {X : Cx} {T : List (Addr × Str)} (K : PySem.W.Frag) (hK : X.K = K) {N : List Str} {x : Str} {e : Expr} {ta : TA} {tb : TE} {c P : Addr} {k : Nat} {params : Arguments} {body : Expr} {scope : Scope} {p lpos kpos pos : Pos}
    (TB : LamX.TabB X.base X.mg c P) (hcode : X.env.code = .ref c) (hmT : (P, X.env.qual ++ "<lambda>") ∈ T) (hu : ∀ z ∈ T, z.1 = P → z.2 = X.env.qual ++ "<lambda>") (hr : Room (k + 2) X.A) (S : FnScope N [x] scope)
    (hbody : ∀ (A : Around) (s : Shared) (H : Hp) (f c' : Addr), Room k (A.deeper (envOfC (X.env.qual ++ "<lambda>") scope s.heap.objs.size f (.ref c'))) → PE (cxOf CX0 X.prog X.w X.K X.mg X.base N (X.env.qual ++ "<lambda>") scope f (.ref c') A X.stack s H E0) body tb)
    (hg : Gl X "sorted") (hm : X.mg "sorted" = none) (ha : PA X [e] ta) (hcl : cloFrom X.env.cells scope.names [] = [] := by rfl) (hfr : ∀ y ∈ scope.names, y.2 ≠ .free := by decide +kernel)
    (hdef : defaultsOf params X.env = ([], []) := by rfl)
    (hb : ∀ (q : Str) (pm cv ctv u : Value), bindArgs (kla_fn "<lambda>" q params body scope [] pm cv ctv) ⟨[u], []⟩ = pure [(x, u)] := by intros; rfl)
    (hst : backTo pos (starEach [e] X.env) = (false, eval e X.env) :: backTo pos (starEach [] X.env) := by rfl) (hpl : (backTo pos (starEach [e] X.env)).any (·.1) = false := by rfl) :
    PE X (.Call (.Name "sorted" p) [e] [⟨some "key", .Lambda params body scope lpos, kpos⟩] pos) (tSortLam T K N ta tb) := by
  subst hK
  refine ⟨fun pins s σ H Q I h => ?_⟩
  refine wpAny_Call_Name_kw (ld_blt I hg hm (by decide +kernel : bootBuiltins "sorted" = some (.builtin "sorted")) ?_)
  refine PyProof.Rows.callWith_kw (thn (ha.run pos pins s σ H _ I h) fun us s1 ⟨vs, H1, I1, r1, a, xs, κ, ea, hl, ht, turn, done⟩ => ?_) hst hpl rfl rfl
  subst ea
  cases r1 with
  | cons r rr =>
    cases rr
    cases r
    show wpAny _ _ (evalAll [do let v ← eval (.Lambda params body scope lpos) X.env; standAt pos; pure v]) _ _ s1
    refine wpAny_evalAll_cons (wpAny_bind (LamX.lam_make2 I1 TB hcode hmT hu ht hdef (fun y hy z => absurd z (hfr y hy)) fun f c' pm ctv H2 s2 I2 eN T2 hf hfn hff hco => ?_))
    refine wpAny_bind (wpAny_standAt (wpAny_pure (wpAny_evalAll_nil ?_)))
    rw [hcl] at hf
    have e2 := tab_ext eN T2
    exact sort_lam_run (k := k) (κ := κ) (T := T) (I2) hf hfn hff hco S hr (fun u => hb _ _ _ _ u) (fun A s H hr' => hbody A s H f c' hr') (e2.seqL (by simp) hl) (fun x hx H3 e3 => turn x hx H3 (e2.trans e3)) fun q H3 nq e3 hq => done q H3 (e2.back (by simp) nq) (e2.trans e3) hq
theorem rd_sortLam {T : List (Addr × Str)} {K : PySem.W.Frag} {N : List Str} {ta : TA} {tb : TE} {σ : L2.St} {H : Hp} {Q : VK} (q : ta σ H fun vs H1 => ∃ (a : Addr) (xs : List V) (κ : V → Int), vs = [.ref a] ∧ SqL K H1 a xs ∧ LamX.Tabs T H1 ∧
  (∀ x ∈ xs, ∀ H2, Ext T [] H1 H2 → ∀ Q' : VK, (∀ H3, Ext T [] H2 H3 → Q' (.int (κ x)) H3) → tb (start N [x]) H2 Q') ∧ ∀ q H3, Nw H1 q → Ext T [] H1 H3 → H3 q = some (.lst (xs.mergeSort fun a b => decide (κ a ≤ κ b))) → Q (.ref q) H3) : tSortLam T K N ta tb σ H Q := q
end
/-! ### a def whose own code object is known: it makes a lambda -/
def DefC (K : PySem.W.Frag) (mg : Str → Option Value) (x : Str) (st : Stmt) (ps : List Str) (c : Addr) : Prop :=
  ∃ (f : Addr) (oc : Value) (od : Option Addr) (kV doc pm : Value) (an : Option Addr) (ct : Value) (osl : Array (Option Value)),
    K.lookup f = some ⟨oc, od, .func (PySem.W.fnOf x x (defArgs st) (defBody st) (defScope st) .none kV doc pm an (.ref c) ct), osl⟩ ∧ PySem.W.codeIn K (.ref c) x = true ∧ PySem.W.keepIn K (.ref f) = true ∧ mg x = some (.ref f) ∧
    Binds K (PySem.W.fnOf x x (defArgs st) (defBody st) (defScope st) .none kV doc pm an (.ref c) ct) ps []
theorem DefC.ok {P : Program} {w : World} {K : PySem.W.Frag} {mg : Str → Option Value} {base : Heap} {x : Str} {st : Stmt} {N ps : List Str} {k : Nat} {sp : Sp} {c : Addr} (D : DefC K mg x st ps c) (S : FnScope N ps (defScope st)) (len : ∀ vs H Q E, sp vs H Q E → vs.length = ps.length)
    (hbody : ∀ (f : Addr) (A : Around) (outer : List Env) (s : Shared) (H : Hp) (vs : List V) (Q : VK) (E : XK), Room k (A.deeper (envOfC x (defScope st) s.heap.objs.size f (.ref c))) → sp vs H Q E →
      ∃ t, PSs (cxOf CX0 P w K mg base N x (defScope st) f (.ref c) A outer s H E).nox (defBody st) t ∧ t { nx := fun _ H' => Q .non H', rt := Q } (start N vs) H) : Ok P w K mg base (k + 1) x ps sp := by
  obtain ⟨f, oc, od, kV, doc, pm, an, ct, osl, lk, hcd, hk, hm, hb⟩ := D
  refine ⟨f, _, fn_of lk hcd S len fun A outer s H vs Q E hr h => ?_, hm, hk, hb⟩
  obtain ⟨t, h1, h2⟩ := hbody f A outer s H vs Q E hr h
  exact ⟨t, h1.nox, h2⟩
/-! ### tuple(xs) whose object is known, dict() of it -/
section
variable {X : Cx}
/-- a tuple's object without a dict of its own -/
def PlT (H : Hp) (a : Addr) (xs : List V) : Prop := ∃ o : Obj, o.dict = none ∧ H a = some (.frz o (.tup xs))
def rTupF (K : PySem.W.Frag) : List V → Hp → VK → Prop := fun xs H Q => ∃ p ys, xs = [.ref p] ∧ ((SqL K H p ys ∧ ∀ l o, H l = none → o.dict = none → Q (.ref l) (upd H l (.frz o (.tup ys)))) ∨ (SqT K H p ys ∧ Q (.ref p) H))
theorem call_tupF (K : PySem.W.Frag) (hK : X.K = K) : CallR X (.type "tuple") (rTupF K) := by
  subst hK
  intro pins s σ H xs us Q I r h
  obtain ⟨p, ys, rfl, h⟩ := h
  obtain ⟨u, rfl, rx⟩ := vals1 r
  cases rx
  rcases h with ⟨hq, q⟩ | ⟨hq, q⟩
  · obtain ⟨its, r', pl, hz⟩ := I.list hq
    have hlen := r'.length
    refine call_tuple_list pl.isList (fun h' kp => ?_) (by simp only [List.size_toArray] <;> omega)
    have I1 : Inv X pins σ H { s with heap := h' } := I.kept (t' := s.toks) kp
    have I2 : Inv X pins σ (upd H h'.objs.size (.frz { cls := .type "tuple", data := .seq its.toArray } (.tup ys))) { s with heap := h'.push { cls := .type "tuple", data := .seq its.toArray } } :=
      I1.laid (t' := s.toks) (fun b o e => Heap.get?_push_of_some _ e) (Nat.le_refl _) (show ObjOk X.prog X.w _ _ _ (.frz _ (.tup ys)) from ⟨Heap.get?_push_size _ rfl, hz, its, r', IsTup.new _ _⟩)
    exact ⟨.ref h'.objs.size, _, I2, rfl, q _ _ (I1.hok.fresh (Nat.le_refl _)) rfl⟩
  · obtain ⟨its, r', pl, hz⟩ := I.tuple hq
    exact call_tuple_same pl ⟨.ref p, H, I, rfl, q⟩
/-- the pairs of a tuple, whose keys are texts or numbers -/
def rDictK (K : PySem.W.Frag) : List V → Hp → VK → Prop := fun xs H Q => ∃ (a : Addr) (ps : List Addr) (kvs : List (L2.Key × V)), xs = [.ref a] ∧ PlT H a (ps.map V.ref) ∧ Paired (fun p kv => SqT K H p [kV kv.1, kv.2]) ps kvs ∧
    ∀ p, H p = none → Q (.ref p) (upd H p (.dK (mergeK [] kvs)))
end
/-! ### data without lists -/
def SqP (H : Hp) (a : Addr) (xs : List V) : Prop := Rd H a (.tup xs)
mutual
inductive Im (H : Hp) : V → PyData → Prop
  | non : Im H .non .none
  | int (i : Int) : Im H (.int i) (.int i)
  | str (x : Str) (h : PyData.strOk x = true) : Im H (.str x) (.str x)
  | tup {a : Addr} {xs : List V} {ds : List PyData} : H a = some (.tup xs) → ImAll H xs ds → Im H (.ref a) (.tuple ds)
  | tupF {a : Addr} {xs : List V} {ds : List PyData} {o : Obj} : H a = some (.frz o (.tup xs)) → (∀ d ∈ ds, ∃ es, d = .tuple es) → ImAll H xs ds → Im H (.ref a) (.tuple ds)
inductive ImAll (H : Hp) : List V → List PyData → Prop
  | nil : ImAll H [] []
  | cons {v : V} {vs : List V} {d : PyData} {ds : List PyData} : Im H v d → ImAll H vs ds → ImAll H (v :: vs) (d :: ds)
end
theorem SqP.of {H : Hp} {a : Addr} {xs : List V} (h : H a = some (.tup xs)) : SqP H a xs := .inl h
theorem SqP.sq {K : PySem.W.Frag} {H : Hp} {a : Addr} {xs : List V} (h : SqP H a xs) : SqT K H a xs := .inl h
theorem Im.tup' {H : Hp} {v : V} {ds : List PyData} (h : Im H v (.tuple ds)) : ∃ a xs, v = .ref a ∧ SqP H a xs ∧ ImAll H xs ds := by
  cases h with
  | tup h1 h2 => exact ⟨_, _, rfl, .inl h1, h2⟩
  | tupF h1 _ h2 => exact ⟨_, _, rfl, .inr ⟨_, h1⟩, h2⟩
/-- a tuple that begins with something else than a tuple is one that is tracked -/
theorem Im.tupS {H : Hp} {v : V} {d : PyData} {ds : List PyData} (h : Im H v (.tuple (d :: ds))) (hd : ∀ es, d ≠ .tuple es) : ∃ a xs, v = .ref a ∧ H a = some (.tup xs) ∧ ImAll H xs (d :: ds) := by
  cases h with
  | tup h1 h2 => exact ⟨_, _, rfl, h1, h2⟩
  | tupF h1 h3 h2 =>
    obtain ⟨es, e⟩ := h3 d List.mem_cons_self
    exact absurd e (hd es)
mutual
theorem Im.dp {K : PySem.W.Frag} {H : Hp} : ∀ (d : PyData) (v : V), Im H v d → Dp K H v d
  | .none, _, h => by cases h; exact .non
  | .bool b, _, h => by cases h
  | .int i, _, h => by cases h; exact .int i
  | .str x, _, h => by cases h; exact .str x
  | .list _, _, h => by cases h
  | .dict _, _, h => by cases h
  | .tuple ds, _, h => by
    obtain ⟨a, xs, rfl, h1, h2⟩ := h.tup'
    exact .tup h1.sq (ImAll.dp ds _ h2)
theorem ImAll.dp {K : PySem.W.Frag} {H : Hp} : ∀ (ds : List PyData) (vs : List V), ImAll H vs ds → DpAll K H vs ds
  | [], _, h => by cases h; exact .nil
  | d :: ds, _, h => by
    cases h with
    | cons h1 h2 => exact .cons (Im.dp d _ h1) (ImAll.dp ds _ h2)
end
/-- all the objects that may change are lists -/
def Lsts (H : Hp) (ms : List Addr) : Prop := ∀ b ∈ ms, ∃ xs, H b = some (.lst xs)
theorem tup.ext {T : List (Addr × Str)} {ms : List Addr} {H H' : Hp} {a : Addr} {xs : List V} (h : H a = some (.tup xs)) (e : Ext T ms H H') (hm : Lsts H ms) : H' a = some (.tup xs) := by
  have hn : ∀ o, H a = some o → (∀ xs, o ≠ .lst xs) → a ∉ ms := fun o ho hl hb => by
    obtain ⟨ys, hy⟩ := hm a hb
    rw [ho] at hy
    exact hl ys (Option.some.inj hy)
  exact e.keep a _ (hn _ h fun _ z => by cases z) (fun _ z => by cases z) h
theorem frz.ext {T : List (Addr × Str)} {ms : List Addr} {H H' : Hp} {a : Addr} {o : Obj} {u : HO} (h : H a = some (.frz o u)) (e : Ext T ms H H') (hm : Lsts H ms) : H' a = some (.frz o u) := by
  have hn : ∀ o, H a = some o → (∀ xs, o ≠ .lst xs) → a ∉ ms := fun o ho hl hb => by
    obtain ⟨ys, hy⟩ := hm a hb
    rw [ho] at hy
    exact hl ys (Option.some.inj hy)
  exact e.keep a _ (hn _ h fun _ z => by cases z) (fun _ z => by cases z) h
theorem SqP.ext {T : List (Addr × Str)} {ms : List Addr} {H H' : Hp} {a : Addr} {xs : List V} (h : SqP H a xs) (e : Ext T ms H H') (hm : Lsts H ms) : SqP H' a xs := by
  rcases h with h | ⟨o, h⟩
  · exact .inl (tup.ext h e hm)
  · exact .inr ⟨o, frz.ext h e hm⟩
theorem SqP.inj {H : Hp} {a : Addr} {xs ys : List V} (h : SqP H a xs) (q : SqP H a ys) : xs = ys := by
  rcases h with h | ⟨o, h⟩ <;> rcases q with q | ⟨o', q⟩ <;> rw [h] at q <;> cases q <;> rfl
mutual
theorem Im.ext {T : List (Addr × Str)} {ms : List Addr} {H H' : Hp} (e : Ext T ms H H') (hm : Lsts H ms) : ∀ (d : PyData) (v : V), Im H v d → Im H' v d
  | .none, _, h => by cases h; exact .non
  | .bool b, _, h => by cases h
  | .int i, _, h => by cases h; exact .int i
  | .str x, _, h => by
    cases h with
    | str _ q => exact .str x q
  | .list _, _, h => by cases h
  | .dict _, _, h => by cases h
  | .tuple ds, _, h => by
    cases h with
    | tup h1 h2 => exact .tup (tup.ext h1 e hm) (ImAll.ext e hm ds _ h2)
    | tupF h1 h3 h2 => exact .tupF (frz.ext h1 e hm) h3 (ImAll.ext e hm ds _ h2)
theorem ImAll.ext {T : List (Addr × Str)} {ms : List Addr} {H H' : Hp} (e : Ext T ms H H') (hm : Lsts H ms) : ∀ (ds : List PyData) (vs : List V), ImAll H vs ds → ImAll H' vs ds
  | [], _, h => by cases h; exact .nil
  | d :: ds, _, h => by
    cases h with
    | cons h1 h2 => exact .cons (Im.ext e hm d _ h1) (ImAll.ext e hm ds _ h2)
end
theorem ImAll.len {H : Hp} : ∀ {vs : List V} {ds : List PyData}, ImAll H vs ds → vs.length = ds.length
  | _, _, .nil => rfl
  | _, _, .cons _ t => by rw [List.length_cons, List.length_cons, t.len]
theorem ImAll.get {H : Hp} : ∀ {vs : List V} {ds : List PyData} {i : Nat} {d : PyData}, ImAll H vs ds → ds[i]? = some d → ∃ v, vs[i]? = some v ∧ Im H v d
  | _, _, 0, d, .cons h t, e => ⟨_, rfl, by rw [← Option.some.inj (show some _ = some d from e)]; exact h⟩
  | _, _, i + 1, d, .cons h t, e => t.get (i := i) e
theorem ImAll.get' {H : Hp} : ∀ {vs : List V} {ds : List PyData} {i : Nat} {v : V}, ImAll H vs ds → vs[i]? = some v → ∃ d, ds[i]? = some d ∧ Im H v d
  | _, _, 0, d, .cons h t, e => ⟨_, rfl, by rw [← Option.some.inj (show some _ = some d from e)]; exact h⟩
  | _, _, i + 1, d, .cons h t, e => t.get' (i := i) e
theorem ImAll.app {H : Hp} : ∀ {vs ws : List V} {ds es : List PyData}, ImAll H vs ds → ImAll H ws es → ImAll H (vs ++ ws) (ds ++ es)
  | _, _, _, _, .nil, h => h
  | _, _, _, _, .cons a t, h => .cons a (t.app h)
theorem ImAll.snoc {H : Hp} {vs : List V} {ds : List PyData} {v : V} {d : PyData} (h : ImAll H vs ds) (x : Im H v d) : ImAll H (vs ++ [v]) (ds ++ [d]) := h.app (.cons x .nil)
theorem ImAll.drop {H : Hp} : ∀ {vs : List V} {ds : List PyData} (n : Nat), ImAll H vs ds → ImAll H (vs.drop n) (ds.drop n)
  | _, _, 0, h => h
  | _, _, n + 1, .nil => .nil
  | _, _, n + 1, .cons _ t => t.drop n
theorem ImAll.take {H : Hp} : ∀ {vs : List V} {ds : List PyData} (n : Nat), ImAll H vs ds → ImAll H (vs.take n) (ds.take n)
  | _, _, 0, h => .nil
  | _, _, n + 1, .nil => .nil
  | _, _, n + 1, .cons h t => .cons h (t.take n)
theorem ImAll.strs {H : Hp} : ∀ {zs : List Str}, (∀ z ∈ zs, PyData.strOk z = true) → ImAll H (zs.map V.str) (zs.map PyData.str)
  | [], _ => .nil
  | z :: zs, h => .cons (.str z (h z List.mem_cons_self)) (ImAll.strs fun y hy => h y (List.mem_cons_of_mem _ hy))
mutual
theorem Im.lay {H : Hp} : ∀ (d : PyData) (v : V), Im H v d → d.canLay0 = true
  | .none, _, h => rfl
  | .bool b, _, h => by cases h
  | .int i, _, h => rfl
  | .str x, _, h => by
    cases h with
    | str _ q => exact q
  | .list _, _, h => by cases h
  | .dict _, _, h => by cases h
  | .tuple ds, _, h => by
    obtain ⟨a, xs, rfl, h1, h2⟩ := h.tup'
    exact ImAll.lay ds _ h2
theorem ImAll.lay {H : Hp} : ∀ (ds : List PyData) (vs : List V), ImAll H vs ds → PyData.canLayAll0 ds = true
  | [], _, h => rfl
  | d :: ds, _, h => by
    cases h with
    | cons h1 h2 =>
      show (d.canLay0 && PyData.canLayAll0 ds) = true
      rw [Im.lay d _ h1, ImAll.lay ds _ h2]
      rfl
end
theorem Im.shaped {H : Hp} {d : PyData} {v : V} (h : Im H v d) (hd : d.depth ≤ 64) : SeqAt.shaped d = true := by
  unfold SeqAt.shaped
  rw [Im.lay d v h, decide_eq_true hd]
  rfl
theorem ImAll.strs' {H : Hp} : ∀ {zs : List Str} {vs : List V}, ImAll H vs (zs.map PyData.str) → vs = zs.map V.str
  | [], _, h => by cases h; rfl
  | z :: zs, _, h => by
    cases h with
    | cons a t =>
      cases a
      rw [List.map_cons, ImAll.strs' t]
theorem Im.str' {H : Hp} {v : V} {z : Str} (h : Im H v (.str z)) : v = .str z := by cases h; rfl
theorem Im.int' {H : Hp} {v : V} {z : Int} (h : Im H v (.int z)) : v = .int z := by cases h; rfl
theorem Im.pair' {H : Hp} {v : V} {d1 d2 : PyData} (h : Im H v (.tuple [d1, d2])) : ∃ a x y, v = .ref a ∧ SqP H a [x, y] ∧ Im H x d1 ∧ Im H y d2 := by
  obtain ⟨a, xs, rfl, h1, h2⟩ := h.tup'
  cases h2 with
  | cons a1 t =>
    cases t with
    | cons a2 t =>
      cases t
      exact ⟨a, _, _, rfl, h1, a1, a2⟩
theorem Im.new2 {H : Hp} {a : Addr} {v1 v2 : V} {d1 d2 : PyData} (h1 : Im H v1 d1) (h2 : Im H v2 d2) (ha : H a = some (.tup [v1, v2])) : Im H (.ref a) (.tuple [d1, d2]) := .tup ha (.cons h1 (.cons h2 .nil))
theorem Im.new3 {H : Hp} {a : Addr} {v1 v2 v3 : V} {d1 d2 d3 : PyData} (h1 : Im H v1 d1) (h2 : Im H v2 d2) (h3 : Im H v3 d3) (ha : H a = some (.tup [v1, v2, v3])) : Im H (.ref a) (.tuple [d1, d2, d3]) := .tup ha (.cons h1 (.cons h2 (.cons h3 .nil)))
/-- a list of such data -/
def Ls (H : Hp) (a : Addr) (ds : List PyData) : Prop := ∃ xs, H a = some (.lst xs) ∧ ImAll H xs ds
theorem Ls.ext {T : List (Addr × Str)} {ms : List Addr} {H H' : Hp} {a : Addr} {ds : List PyData} (h : Ls H a ds) (e : Ext T ms H H') (ha : a ∉ ms) (hm : Lsts H ms) : Ls H' a ds := by
  obtain ⟨xs, h1, h2⟩ := h
  exact ⟨xs, e.lst ha h1, ImAll.ext e hm _ _ h2⟩
theorem Lsts.nil {H : Hp} : Lsts H [] := fun b hb => by cases hb
theorem Tape.lsts {H : Hp} {l t : Addr} (h : Tape l H t) : Lsts H [t] := fun b hb => by
  rw [List.mem_singleton.mp hb]
  obtain ⟨ns, pos, rest, st, bud, h1, _⟩ := h
  exact ⟨_, h1⟩
theorem no_iff {p : Prop} {q : Prop} (h1 : ¬ p) (h2 : ¬ q) : p ↔ q := ⟨fun h => absurd h h1, fun h => absurd h h2⟩
mutual
theorem Im.eqv {H G : Hp} : ∀ (d e : PyData) (v u : V), Im H v d → Im G u e → (PyData.eqv d e = true ↔ d = e)
  | .none, e, v, u, _, h2 => by
    cases h2 with
    | non => exact ⟨fun _ => rfl, fun _ => rfl⟩
    | int i => exact no_iff (fun h => by cases h) (fun h => by cases h)
    | str i _ => exact no_iff (fun h => by cases h) (fun h => by cases h)
    | tup a b => exact no_iff (fun h => by cases h) (fun h => by cases h)
    | tupF a c b => exact no_iff (fun h => by cases h) (fun h => by cases h)
  | .bool _, e, v, u, h1, h2 => by cases h1
  | .list _, e, v, u, h1, h2 => by cases h1
  | .dict _, e, v, u, h1, h2 => by cases h1
  | .int i, e, v, u, _, h2 => by
    cases h2 with
    | non => exact no_iff (fun h => by cases h) (fun h => by cases h)
    | int j =>
      show ((i == j) = true) ↔ _
      rw [beq_iff_eq]
      exact ⟨fun h => by rw [h], fun h => by injection h⟩
    | str i _ => exact no_iff (fun h => by cases h) (fun h => by cases h)
    | tup a b => exact no_iff (fun h => by cases h) (fun h => by cases h)
    | tupF a c b => exact no_iff (fun h => by cases h) (fun h => by cases h)
  | .str x, e, v, u, _, h2 => by
    cases h2 with
    | non => exact no_iff (fun h => by cases h) (fun h => by cases h)
    | int i => exact no_iff (fun h => by cases h) (fun h => by cases h)
    | str y _ =>
      show ((x == y) = true) ↔ _
      rw [beq_iff_eq]
      exact ⟨fun h => by rw [h], fun h => by injection h⟩
    | tup a b => exact no_iff (fun h => by cases h) (fun h => by cases h)
    | tupF a c b => exact no_iff (fun h => by cases h) (fun h => by cases h)
  | .tuple ds, e, v, u, h0, h2 => by
    obtain ⟨_, _, _, _, h1⟩ := h0.tup'
    cases h2 with
    | non => exact no_iff (fun h => by cases h) (fun h => by cases h)
    | int i => exact no_iff (fun h => by cases h) (fun h => by cases h)
    | str i _ => exact no_iff (fun h => by cases h) (fun h => by cases h)
    | tup _ h3 =>
      have key := ImAll.eqv ds _ _ _ h1 h3
      exact ⟨fun h => by rw [key.mp h], fun h => key.mpr (by injection h)⟩
    | tupF _ _ h3 =>
      have key := ImAll.eqv ds _ _ _ h1 h3
      exact ⟨fun h => by rw [key.mp h], fun h => key.mpr (by injection h)⟩
theorem ImAll.eqv {H G : Hp} : ∀ (ds es : List PyData) (vs us : List V), ImAll H vs ds → ImAll G us es → (PyData.eqvAll ds es = true ↔ ds = es)
  | [], es, vs, us, h1, h2 => by
    cases h2 with
    | nil => exact ⟨fun _ => rfl, fun _ => rfl⟩
    | cons a b => exact no_iff (fun h => by cases h) (fun h => by cases h)
  | d :: ds, es, vs, us, h1, h2 => by
    cases h1 with
    | cons h3 h4 =>
      cases h2 with
      | nil => exact no_iff (fun h => by cases h) (fun h => by cases h)
      | cons h5 h6 =>
        have k1 := Im.eqv d _ _ _ h3 h5
        have k2 := ImAll.eqv ds _ _ _ h4 h6
        show ((PyData.eqv _ _ && PyData.eqvAll _ _) = true) ↔ _
        rw [Bool.and_eq_true, k1, k2]
        exact ⟨fun h => by rw [h.1, h.2], fun h => (by injection h with a b; exact ⟨a, b⟩)⟩
end
theorem any_eqv {H : Hp} {v : V} {d : PyData} (h : Im H v d) : ∀ {ds : List PyData} {vs : List V}, ImAll H vs ds → ((ds.any fun z => PyData.eqv z d) = true ↔ d ∈ ds)
  | [], _, _ => by simp
  | e :: ds, _, .cons h1 h2 => by
    rw [List.any_cons, Bool.or_eq_true, Im.eqv _ _ _ _ h1 h, any_eqv h h2, List.mem_cons]
    exact ⟨fun h => h.imp Eq.symm id, fun h => h.imp Eq.symm id⟩
theorem bool_of {a b : Bool} (h : a = true ↔ b = true) : a = b := by
  cases a <;> cases b <;> simp_all
/-! ### reading such data -/
section
variable {K : PySem.W.Frag} {σ : L2.St} {H : Hp} {Q : VK}
theorem SqP.t {a : Addr} {xs : List V} (h : SqP H a xs) : SqT K H a xs := h.sq
theorem rd_ixI {v : V} {ds : List PyData} {i : Int} {d : PyData} (h : Im H v (.tuple ds)) (a : atI ds i = some d) (q : ∀ u, Im H u d → Q u H) : rIx K v (.int i) H Q := by
  obtain ⟨p, xs, rfl, h1, h2⟩ := h.tup'
  have key : ∃ u, atI xs i = some u ∧ Im H u d := by
    unfold atI at a ⊢
    cases e : ixN ds.length i with
    | none =>
      rw [e] at a
      cases a
    | some k =>
      rw [e] at a
      obtain ⟨u, e1, e2⟩ := h2.get (i := k) (by simpa using a)
      exact ⟨u, by rw [h2.len, e]; simpa using e1, e2⟩
  obtain ⟨u, h3, h4⟩ := key
  exact rd_ixT (SqP.t h1) h3 (q u h4)
end
open PySem.W (EachIs AllAlike Sortable dataLe)
/-! ### signs over data -/
section
variable {X : Cx}
def rInDT (K : PySem.W.Frag) : R2 := fun x y H Q => ∃ d ds, Dp K H x d ∧ Dp K H y (.tuple ds) ∧ SeqAt.shaped d = true ∧ SeqAt.shaped (.tuple ds) = true ∧ Q (.bl (ds.any fun z => PyData.eqv z d)) H
def rNinDT (K : PySem.W.Frag) : R2 := fun x y H Q => ∃ d ds, Dp K H x d ∧ Dp K H y (.tuple ds) ∧ SeqAt.shaped d = true ∧ SeqAt.shaped (.tuple ds) = true ∧ Q (.bl (!ds.any fun z => PyData.eqv z d)) H
theorem canLay_shapedT {xs : List PyData} (h : SeqAt.shaped (.tuple xs) = true) : PyData.canLayAll0 xs = true := (Bool.and_eq_true _ _ ▸ h : _ ∧ _).1
theorem room_in_shapedT {a : Nat} {d : PyData} {xs : List PyData} (h : SeqAt.shaped d = true) (hu : a + 65 < cLine) : a + 1 + min (PyData.depthAll xs) d.depth < cLine := by
  have h1 : d.depth ≤ 64 := of_decide_eq_true (Bool.and_eq_true _ _ ▸ h : _ ∧ _).2
  have h2 : min (PyData.depthAll xs) d.depth ≤ d.depth := Nat.min_le_right _ _
  omega
theorem op_inDT (hu : X.A.units + 65 < cLine) : OpR X (compareOp .In) (rInDT X.K) := by
  intro pins s σ H x y v u Q I rx ry h
  obtain ⟨d, ds, hd, he, sd, se, q⟩ := h
  obtain ⟨as, r1⟩ := Dp.reads I d x v hd rx
  obtain ⟨bs, r2⟩ := Dp.reads I (.tuple ds) y u he ry
  exact SeqAt.in_tuple_reads r2 r1 (canLay_shapedT se) (SeqAt.canLay_of_shaped sd) (room_in_shapedT sd hu) ⟨.bl _, H, I, rfl, q⟩
theorem op_ninDT (hu : X.A.units + 65 < cLine) : OpR X (compareOp .NotIn) (rNinDT X.K) := by
  intro pins s σ H x y v u Q I rx ry h
  obtain ⟨d, ds, hd, he, sd, se, q⟩ := h
  obtain ⟨as, r1⟩ := Dp.reads I d x v hd rx
  obtain ⟨bs, r2⟩ := Dp.reads I (.tuple ds) y u he ry
  exact SeqAt.notIn_tuple_reads r2 r1 (canLay_shapedT se) (SeqAt.canLay_of_shaped sd) (room_in_shapedT sd hu) ⟨.bl _, H, I, rfl, q⟩
def rInW (K : PySem.W.Frag) : R2 := fun x y H Q => rInU K x y H Q ∨ (rInD K x y H Q ∨ rInDT K x y H Q)
def rNinW (K : PySem.W.Frag) : R2 := fun x y H Q => rNinU K x y H Q ∨ (rNotInD K x y H Q ∨ rNinDT K x y H Q)
theorem Room.units65 {k : Nat} {A : Around} (r : Room k A) : A.units + 65 < cLine := by have := r.un; omega
theorem op_inW (K : PySem.W.Frag) (hK : X.K = K) (hu : X.A.units + 65 < cLine) : OpR X (compareOp .In) (rInW K) := by
  have h := op_inU (X := X) K hK
  subst hK
  exact h.or ((op_inD hu).or (op_inDT hu))
theorem op_ninW (K : PySem.W.Frag) (hK : X.K = K) (hu : X.A.units + 65 < cLine) : OpR X (compareOp .NotIn) (rNinW K) := by
  have h := op_ninU (X := X) K hK
  subst hK
  exact h.or ((op_notInD hu).or (op_ninDT hu))
/-- unpacking a tuple or a list -/
def gTupU (K : PySem.W.Frag) (n : Nat) (t : TGs) : TG := fun v σ H Q => gTup K n t v σ H Q ∨ gUnl K n t v σ H Q
theorem pg_tupU (K : PySem.W.Frag) (hK : X.K = K) {es : List Expr} {k : Nat} {t : TGs} {n : Nat} {pos : Pos} (hc : X.calm = true) (h : PGs X es t)
    (hn : (assignEach es X.env).length = n := by rfl) (hst : (assignEach es X.env).findIdx? (·.1) = none := by rfl) : PG X (.Tuple es k pos) (gTupU K n t) := by
  subst hK
  refine ⟨fun pins s σ H v u Q I r hw => ?_⟩
  rcases hw with hw | hw
  · exact (pg_tup hc h hn hst).run pins s σ H v u Q I r hw
  · exact (pg_unl hc h hn hst).run pins s σ H v u Q I r hw
end
/-! ### reading -/
section
variable {K : PySem.W.Frag} {σ : L2.St} {H : Hp} {Q : VK}
theorem rd_star {te : TE} {t : TA} {Q : List V → Hp → Prop} (q : te σ H fun x H1 => ∃ p xs, x = V.ref p ∧ (SqT K H1 p xs ∨ SqL K H1 p xs) ∧ t σ H1 fun ys H2 => Q (xs ++ ys) H2) : StX.tStar K te t σ H Q := q
theorem rd_gtup {n : Nat} {t : TGs} {a : Addr} {xs : List V} {Q : L2.St → Hp → Prop} (h : SqT K H a xs) (hl : xs.length = n) (q : t xs σ H Q) : gTupU K n t (.ref a) σ H Q := .inl ⟨a, xs, rfl, h, hl, q⟩
theorem rd_glst {n : Nat} {t : TGs} {a : Addr} {xs : List V} {Q : L2.St → Hp → Prop} (h : SqL K H a xs) (hl : xs.length = n) (q : t xs σ H Q) : gTupU K n t (.ref a) σ H Q := .inr ⟨a, xs, rfl, h, hl, q⟩
theorem rd_gcons {t : TG} {u : TGs} {v : V} {r : List V} {Q : L2.St → Hp → Prop} (q : t v σ H fun σ' H' => u r σ' H' Q) : gCons t u (v :: r) σ H Q := ⟨v, r, rfl, q⟩
theorem rd_gnil {Q : L2.St → Hp → Prop} (q : Q σ H) : gNil [] σ H Q := ⟨rfl, q⟩
theorem rd_gpair {i j : Nat} {v : V} {d1 d2 : PyData} {Q : L2.St → Hp → Prop} (h : Im H v (.tuple [d1, d2])) (q : ∀ v1 v2, Im H v1 d1 → Im H v2 d2 → Q ((σ.set i (some v1)).set j (some v2)) H) : gTupU K 2 (gCons (gName i) (gCons (gName j) gNil)) v σ H Q := by
  obtain ⟨a, x, y, rfl, h1, h2, h3⟩ := h.pair'
  exact rd_gtup (SqP.t h1) rfl (rd_gcons (rd_name (rd_gcons (rd_name (rd_gnil (q x y h2 h3))))))
theorem rd_inWs {o : Str} {a : Addr} {zs : List Str} (ha : H a = some (.lst (zs.map V.str))) (q : Q (.bl (decide (o ∈ zs))) H) : rInW K (.str o) (.ref a) H Q := by
  refine .inl (.inl ⟨a, _, rfl, .inl (.inl (.inl ha)), rfl, ?_, ?_⟩)
  · rw [List.all_map]
    exact List.all_eq_true.mpr fun _ _ => rfl
  · have e : inV (.str o) (zs.map V.str) = decide (o ∈ zs) := by
      induction zs with
      | nil => rfl
      | cons z zs ih =>
        have h2 : inV (.str o) ((z :: zs).map V.str) = ((z == o) || inV (.str o) (zs.map V.str)) := rfl
        rw [h2]
        have ih2 : inV (.str o) (zs.map V.str) = decide (o ∈ zs) := by
          clear h2 ha q ih
          induction zs with
          | nil => rfl
          | cons y ys ih =>
            show ((y == o) || inV (.str o) (ys.map V.str)) = _
            rw [ih]
            by_cases h : y = o
            · subst h
              simp
            · have h2 : ¬ o = y := fun e => h e.symm
              simp [h, h2]
        rw [ih2]
        by_cases h : z = o
        · subst h
          simp
        · have h2 : ¬ o = z := fun e => h e.symm
          simp [h, h2]
    rw [show (if false = true then (!inV (.str o) (zs.map V.str)) else inV (.str o) (zs.map V.str)) = inV (.str o) (zs.map V.str) from rfl, e]
    exact q
theorem inV_strs0 (o : Str) : ∀ zs : List Str, inV (.str o) (zs.map V.str) = decide (o ∈ zs)
  | [] => rfl
  | z :: zs => by
    show ((z == o) || inV (.str o) (zs.map V.str)) = _
    rw [inV_strs0 o zs]
    by_cases h : z = o
    · subst h
      simp
    · have h2 : ¬ o = z := fun e => h e.symm
      simp [h, h2]
theorem rd_ninWs {o : Str} {a : Addr} {zs : List Str} (ha : H a = some (.lst (zs.map V.str))) (q : Q (.bl (!decide (o ∈ zs))) H) : rNinW K (.str o) (.ref a) H Q := by
  refine .inl (.inl ⟨a, _, rfl, .inl (.inl (.inl ha)), rfl, ?_, ?_⟩)
  · rw [List.all_map]
    exact List.all_eq_true.mpr fun _ _ => rfl
  · rw [if_pos rfl, inV_strs0]
    exact q
theorem rd_eqI {v u : V} {d e : PyData} (h1 : Im H v d) (h2 : Im H u e) (s1 : d.depth ≤ 64) (s2 : e.depth ≤ 64) {b : Bool} (hb : d = e ↔ b = true) (q : Q (.bl b) H) : rEqU K v u H Q := .inr ⟨_, _, h1.dp, h2.dp, h1.shaped s1, h2.shaped s2, by rw [bool_of ((Im.eqv _ _ _ _ h1 h2).trans hb)]; exact q⟩
theorem rd_neI {v u : V} {d e : PyData} (h1 : Im H v d) (h2 : Im H u e) (s1 : d.depth ≤ 64) (s2 : e.depth ≤ 64) {b : Bool} (hb : d = e ↔ b = true) (q : Q (.bl (!b)) H) : rNeU K v u H Q := .inr ⟨_, _, h1.dp, h2.dp, h1.shaped s1, h2.shaped s2, by rw [bool_of ((Im.eqv _ _ _ _ h1 h2).trans hb)]; exact q⟩
theorem rd_inWI {v u : V} {d : PyData} {ds : List PyData} (h1 : Im H v d) (h2 : Im H u (.tuple ds)) (s1 : d.depth ≤ 64) (s2 : PyData.depth (.tuple ds) ≤ 64) {b : Bool} (hb : d ∈ ds ↔ b = true) (q : Q (.bl b) H) : rInW K v u H Q := .inr (.inr ⟨d, ds, h1.dp, h2.dp, h1.shaped s1, h2.shaped s2, by
  obtain ⟨a, xs, _, _, h3⟩ := h2.tup'
  rw [bool_of ((any_eqv h1 h3).trans hb)]
  exact q⟩)
theorem Ls.dp {a : Addr} {ds : List PyData} (h : Ls H a ds) : Dp K H (.ref a) (.list ds) := by
  obtain ⟨xs, h1, h2⟩ := h
  exact .lst (SqL.of h1) h2.dp
theorem rd_ninWL {v : V} {a : Addr} {d : PyData} {ds : List PyData} (h1 : Im H v d) (h2 : Ls H a ds) (s1 : d.depth ≤ 64) (s2 : PyData.depth (.list ds) ≤ 64) {b : Bool} (hb : d ∈ ds ↔ b = true) (q : Q (.bl (!b)) H) : rNinW K v (.ref a) H Q := .inr (.inl ⟨d, ds, h1.dp, h2.dp, h1.shaped s1, by
  obtain ⟨xs, e1, e2⟩ := h2
  unfold SeqAt.shaped
  rw [show PyData.canLay0 (.list ds) = true from ImAll.lay ds _ e2, decide_eq_true s2]
  rfl, by
  obtain ⟨xs, e1, e2⟩ := h2
  rw [bool_of ((any_eqv h1 e2).trans hb)]
  exact q⟩)
theorem each_im {H : Hp} {xs : List V} {ds : List PyData} (h : ImAll H xs ds) : ∀ {ys : List V} {es : List PyData}, EachIs (fun y d => (y, d) ∈ xs.zip ds) ys es → ImAll H ys es
  | _, _, .nil => .nil
  | _, _, .cons a t => by
    refine .cons ?_ (each_im h t)
    clear t
    have key : ∀ {xs : List V} {ds : List PyData} {v : V} {d : PyData}, ImAll H xs ds → (v, d) ∈ xs.zip ds → Im H v d := by
      intro xs ds v d h
      induction xs generalizing ds with
      | nil => intro a; simp at a
      | cons x xs ih =>
        cases h with
        | cons h1 h2 =>
          intro a
          rw [List.zip_cons_cons] at a
          rcases List.mem_cons.mp a with a | a
          · cases a
            exact h1
          · exact ih h2 a
    exact key h a
/-- sorted of a list of data -/
def srtD (ds : List PyData) : List PyData := ds.mergeSort (dataLe false id)
theorem rd_sortI {a : Addr} {ds : List PyData} (h : Ls H a ds) (h1 : AllAlike ds) (h2 : Sortable ds) (h3 : ∀ d ∈ ds, d.depth ≤ 60) (q : ∀ p ys, H p = none → ImAll H ys (srtD ds) → Q (.ref p) (upd H p (.lst ys))) : rSortD K [.ref a] H Q := by
  obtain ⟨xs, e1, e2⟩ := h
  exact ⟨a, xs, ds, rfl, SqL.of e1, e2.dp, h1, h2, h3, fun ys p hs hp => q p ys hp (each_im e2 hs)⟩
theorem rd_tupF {p : Addr} {ys : List V} (h : SqL K H p ys) (q : ∀ l o, H l = none → o.dict = none → Q (.ref l) (upd H l (.frz o (.tup ys)))) : rTupF K [.ref p] H Q := ⟨p, ys, rfl, .inl ⟨h, q⟩⟩
theorem rd_lenT {p : Addr} {ys : List V} (h : SqT K H p ys) (q : Q (.int ys.length) H) : rLenU K [.ref p] H Q := .inr ⟨p, ys, rfl, .inr h, q⟩
theorem rd_slT {a : Addr} {xs : List V} {lo hi : Option Int} (h : SqT K H a xs) (hw : ¬ (HT.sIx xs.length 0 lo = 0 ∧ HT.sIx xs.length xs.length hi = xs.length)) (q : ∀ p, H p = none → Q (.ref p) (upd H p (.tup (cutV xs lo hi)))) : rSlU K (.ref a) lo hi H Q := .inr (.inr ⟨a, xs, rfl, h, hw, q⟩)
theorem rd_catT {a b : Addr} {xs ys : List V} (h1 : SqT K H a xs) (h2 : SqT K H b ys) (n1 : xs ≠ []) (n2 : ys ≠ []) (c : xs.length + ys.length ≤ sizeLine) (q : ∀ p, H p = none → Q (.ref p) (upd H p (.tup (xs ++ ys)))) : rPlus K (.ref a) (.ref b) H Q := .inr (.inr (.inr (.inl ⟨a, b, xs, ys, rfl, rfl, h1, h2, n1, c, fun e => absurd e n2, fun _ => q⟩)))
/-! ### comprehensions over data -/
theorem lcg_im (T : List (Addr × Str)) (ms : List Addr) {J : It} {n : Nat} {G : Hp → Prop} {Y : Nat → Hp → V → Hp → Prop} {g : TG} {tt : TT} {te : TE} {vs : List Nat} (w : Walk J n G Y) (xs : List V) (hn : n = xs.length) (hY : ∀ i H x H', Y i H x H' → H' = H ∧ xs[i]? = some x)
    (Iv : Hp → Prop) (h0 : Iv H) (hI0 : ∀ D o, H D = none → Iv (upd H D o)) (hI : ∀ D H', Nw H D → Iv H' → ∀ ys u, H' D = some (.lst ys) → Iv (upd H' D u)) (hL : ∀ H', Iv H' → Lsts H' ms) (hG : ∀ H', Ext T ms H H' → Iv H' → G H') (hl : xs.length < sizeLine)
    (p : V → Bool) (Rel : PyData → V → Prop)
    (step : ∀ (i : Nat) (x : V), xs[i]? = some x → ∀ H', Ext T ms H H' → Iv H' → ∀ (R : V → Hp → Prop) (S : Hp → Prop), (p x = true → ∀ v d H2, Ext T ms H' H2 → Iv H2 → Im H2 v d → Rel d x → R v H2) → (p x = false → ∀ H2, Ext T ms H' H2 → Iv H2 → S H2) →
      g x (wipe σ vs) H' fun σ2 H2 => wipe σ2 vs = wipe σ vs ∧ tt σ2 H2 fun b H3 => if b = true then te σ2 H3 R else S H3)
    (q : ∀ D H2 ds, Nw H D → Ext T ms H H2 → Iv H2 → Ls H2 D ds → EachIs Rel ds (xs.filter p) → Q (.ref D) H2) : LcG J g tt te vs σ H Q := fun D hD => by
  have hDm : D ∉ ms := fun hm => by
    obtain ⟨ys, e⟩ := hL H h0 D hm
    rw [hD] at e
    cases e
  refine lc_it w (fun i H2 => Ext T ms H H2 ∧ Iv H2 ∧ ∃ ds, Ls H2 D ds ∧ EachIs Rel ds ((xs.take i).filter p)) ⟨.new hD, hI0 D _ hD, [], ⟨[], upd_same, .nil⟩, .nil⟩ (fun i H2 _ h => hG H2 h.1 h.2.1) (fun i x H1 H' hi h y => ?_) (fun H1 h => ?_)
  · obtain ⟨e1, e2⟩ := hY i H1 x H' y
    subst e1
    obtain ⟨h1, h2, ds, h3, h4⟩ := h
    have et : xs.take (i + 1) = xs.take i ++ [x] := by rw [List.take_add_one, e2]; rfl
    refine step i x e2 H' h1 h2 _ _ (fun hp v d H2 e i2 hv hr => ?_) (fun hp H2 e i2 => ?_)
    · have h3' := h3.ext e hDm (hL H' h2)
      obtain ⟨acc, h5, h6⟩ := h3'
      refine ⟨acc, h5, ?_, (h1.trans e).own (.of hD) h5, hI D H2 (.of hD) i2 acc _ h5, ds ++ [d], ⟨acc ++ [v], upd_same, ?_⟩, ?_⟩
      · refine Nat.lt_of_le_of_lt ?_ hl
        rw [h6.len, h4.length]
        exact Nat.le_trans (List.length_filter_le _ _) (by rw [List.length_take]; exact Nat.min_le_right _ _)
      · have eD : Ext T [D] H2 (upd H2 D (.lst (acc ++ [v]))) := Ext.mut (by simp) h5
        have hLD : Lsts H2 [D] := fun b hb => ⟨acc, by rw [List.mem_singleton.mp hb]; exact h5⟩
        exact (ImAll.ext eD hLD _ _ h6).snoc (Im.ext eD hLD _ _ hv)
      · rw [et, List.filter_append, List.filter_cons_of_pos hp]
        exact PySem.W.each_snoc hr h4
    · refine ⟨h1.trans e, i2, ds, h3.ext e hDm (hL H' h2), ?_⟩
      rw [et, List.filter_append, List.filter_cons_of_neg (by rw [hp]; decide), List.filter_nil, List.append_nil]
      exact h4
  · obtain ⟨h1, h2, ds, h3, h4⟩ := h
    rw [hn, List.take_length] at h4
    exact q D H1 ds (.of hD) h1 h2 h3 h4
end
/-! ### names are plain texts -/
theorem spl_cover : ∀ (l acc : List Nat) (c : Nat), c ∈ l → c = 46 ∨ ∃ p ∈ TL.spl [46] 0 acc l, c ∈ p
  | [], _, _, h => by cases h
  | d :: r, acc, c, h => by
    by_cases hd : d = 46
    · subst hd
      have e : TL.spl [46] 0 acc (46 :: r) = acc :: TL.spl [46] 0 [] r := by
        rw [TL.spl, if_pos (by rfl)]
        rfl
      rcases List.mem_cons.mp h with h | h
      · exact .inl h
      · rcases spl_cover r [] c h with h2 | ⟨p, h2, h3⟩
        · exact .inl h2
        · exact .inr ⟨p, by rw [e]; exact List.mem_cons_of_mem _ h2, h3⟩
    · have e : TL.spl [46] 0 acc (d :: r) = TL.spl [46] 0 (acc ++ [d]) r := by
        rw [TL.spl, if_neg]
        show ¬ (TL.pre [46] (d :: r) = true)
        unfold TL.pre
        simpa using hd
      rw [e]
      rcases List.mem_cons.mp h with h | h
      · refine .inr ?_
        subst h
        have key : ∀ (l acc : List Nat), c ∈ acc → ∃ p ∈ TL.spl [46] 0 acc l, c ∈ p := by
          intro l
          induction l with
          | nil => exact fun acc h => ⟨acc, List.mem_singleton.mpr rfl, h⟩
          | cons d r ih =>
            intro acc h
            by_cases hd : d = 46
            · subst hd
              have e : TL.spl [46] 0 acc (46 :: r) = acc :: TL.spl [46] 0 [] r := by
                rw [TL.spl, if_pos (by rfl)]
                rfl
              exact ⟨acc, by rw [e]; exact List.mem_cons_self, h⟩
            · have e : TL.spl [46] 0 acc (d :: r) = TL.spl [46] 0 (acc ++ [d]) r := by
                rw [TL.spl, if_neg]
                show ¬ (TL.pre [46] (d :: r) = true)
                unfold TL.pre
                simpa using hd
              rw [e]
              exact ih _ (List.mem_append_left _ h)
        exact key r _ (by simp)
      · exact spl_cover r _ c h
theorem label_mem {y : Str} (h : labelB y = true) {c : Nat} (hc : c ∈ sg y) : c ∈ sg lettersS := by
  unfold labelB wordB at h
  rw [Bool.and_eq_true, Bool.and_eq_true] at h
  exact of_decide_eq_true (List.all_eq_true.mp h.2.2 c hc)
theorem label_len {y : Str} (h : labelB y = true) : y.length ≤ 8 := by
  unfold labelB wordB at h
  rw [Bool.and_eq_true, Bool.and_eq_true] at h
  have := of_decide_eq_true h.2.1
  omega
theorem letters_lt : ∀ c ∈ sg lettersS, c < 128 := by decide +kernel
theorem name_parts {z : Str} (h : nameB z = true) : z = dotS ∨ ((partsL z).length ≤ 4 ∧ ∀ p ∈ partsL z, labelB p = true) := by
  unfold nameB at h
  rw [Bool.or_eq_true, Bool.and_eq_true] at h
  rcases h with h | ⟨h1, h2⟩
  · exact .inl (of_decide_eq_true h)
  · have := of_decide_eq_true h1
    exact .inr ⟨by omega, List.all_eq_true.mp h2⟩
theorem name_plain {z : Str} (h : nameB z = true) : ∀ c ∈ sg z, c < 128 := fun c hc => by
  rcases name_parts h with e | ⟨_, h2⟩
  · rw [e, sg_dot] at hc
    rw [List.mem_singleton.mp hc]
    decide
  · rcases spl_cover (sg z) [] c hc with e | ⟨p, hp, hcp⟩
    · rw [e]
      decide
    · rw [← parts_sg] at hp
      obtain ⟨y, hy, rfl⟩ := List.mem_map.mp hp
      exact letters_lt c (label_mem (h2 y hy) hcp)
/-! ### texts that may stand in data -/
theorem plain_ok {z : Str} (h : ∀ c ∈ sg z, c < 128) : PyData.strOk z = true := by
  unfold PyData.strOk
  rw [← Array.all_toList, List.all_eq_true]
  intro c hc
  have := h c hc
  exact decide_eq_true (by omega)
theorem id_plain {y : Str} (h : idB y = true) : ∀ c ∈ sg y, c < 128 := fun c hc => by
  unfold idB wordB at h
  rw [Bool.and_eq_true, Bool.and_eq_true] at h
  exact letters_lt c (of_decide_eq_true (List.all_eq_true.mp h.2.2 c hc))
theorem id_ok {y : Str} (h : idB y = true) : PyData.strOk y = true := plain_ok (id_plain h)
theorem id_len {y : Str} (h : idB y = true) : y.length ≤ 4 := by
  unfold idB wordB at h
  rw [Bool.and_eq_true, Bool.and_eq_true] at h
  have := of_decide_eq_true h.2.1
  omega
theorem label_ok {y : Str} (h : labelB y = true) : PyData.strOk y = true := plain_ok fun c hc => letters_lt c (label_mem h hc)
theorem name_ok {y : Str} (h : nameB y = true) : PyData.strOk y = true := plain_ok (name_plain h)
theorem app_len (a b : Str) : (a ++ b).length = a.length + b.length := by rw [← sg_len, sg_app, List.length_append, sg_len, sg_len]
theorem dotS_len : dotS.length = 1 := by decide +kernel
/-- a word made of two -/
theorem word_app {a b : Str} {n m k : Int} (ha : wordB a lettersS n = true) (hb : wordB b lettersS m = true) (hk : n + m ≤ k) : wordB (a ++ b) lettersS k = true := by
  unfold wordB at ha hb ⊢
  rw [Bool.and_eq_true, Bool.and_eq_true] at ha hb ⊢
  have h1 := of_decide_eq_true ha.1
  have h2 := of_decide_eq_true ha.2.1
  have h3 := of_decide_eq_true hb.2.1
  rw [app_len, sg_app, List.all_append, Bool.and_eq_true]
  refine ⟨decide_eq_true ?_, decide_eq_true ?_, ha.2.2, hb.2.2⟩
  · have := of_decide_eq_true hb.1
    omega
  · omega
theorem word_mono {a : Str} {n k : Int} (ha : wordB a lettersS n = true) (hk : n ≤ k) : wordB a lettersS k = true := by
  unfold wordB at ha ⊢
  rw [Bool.and_eq_true, Bool.and_eq_true] at ha ⊢
  have h2 := of_decide_eq_true ha.2.1
  exact ⟨ha.1, decide_eq_true (by omega), ha.2.2⟩
/-! ### names joined of labels -/
theorem join_sg (ys : List Str) : sg (joinS ys) = TL.joinL [46] (ys.map sg) := by
  show sg (Txt.join dotS ys) = _
  rw [TL.join_eq, ← sg_dot]
  exact TL.tl_join dotS ys
theorem join_one (y : Str) : joinS [y] = y := sg_inj (by rw [join_sg]; rfl)
theorem join_cons (y : Str) {ys : List Str} (h : ys ≠ []) : joinS (y :: ys) = y ++ (dotS ++ joinS ys) := by
  refine sg_inj ?_
  rw [sg_app, sg_app, join_sg, join_sg, sg_dot]
  cases ys with
  | nil => exact absurd rfl h
  | cons z r => rfl
theorem str_assoc (a b c : Str) : (a ++ b) ++ c = a ++ (b ++ c) := sg_inj (by rw [sg_app, sg_app, sg_app, sg_app, List.append_assoc])
/-- a zone below the root -/
def zoneB (z : Str) : Prop := ∃ ys : List Str, z = joinS ys ∧ ys ≠ [] ∧ ys.length ≤ 3 ∧ ∀ y ∈ ys, labelB y = true
theorem zone_name {z : Str} (h : zoneB z) : nameB z = true := by
  obtain ⟨ys, rfl, h1, h2, h3⟩ := h
  exact name_join h1 (by omega) h3
theorem dot_name : nameB dotS = true := by decide +kernel
theorem zone_ne {z : Str} (h : zoneB z) : z ≠ dotS := fun e => by
  obtain ⟨ys, rfl, h1, h2, h3⟩ := h
  have e2 := parts_join h1 fun y hy => label_nodot (h3 y hy)
  rw [e] at e2
  have e3 : partsL dotS = [⟨#[]⟩, ⟨#[]⟩] := by decide +kernel
  rw [e3] at e2
  have := h3 ⟨#[]⟩ (by rw [← e2]; simp)
  exact absurd this (by decide +kernel)
theorem join_inj {ys zs : List Str} (h1 : ys ≠ []) (h2 : zs ≠ []) (h3 : ∀ y ∈ ys, labelB y = true) (h4 : ∀ y ∈ zs, labelB y = true) (e : joinS ys = joinS zs) : ys = zs := by
  have e1 := parts_join h1 fun y hy => label_nodot (h3 y hy)
  have e2 := parts_join h2 fun y hy => label_nodot (h4 y hy)
  rw [← e1, ← e2, e]
/-- a label put ahead of a zone, or alone -/
theorem name_cons {a z : Str} (ha : labelB a = true) (h : zoneB z) : nameB (a ++ (dotS ++ z)) = true := by
  obtain ⟨ys, rfl, h1, h2, h3⟩ := h
  rw [← join_cons a h1]
  refine name_join (by simp) (by rw [List.length_cons]; omega) fun y hy => ?_
  rcases List.mem_cons.mp hy with e | hy
  · rw [e]
    exact ha
  · exact h3 y hy
theorem label_name {a : Str} (ha : labelB a = true) : nameB a = true := by
  rw [← join_one a]
  exact name_join (by simp) (by simp) fun y hy => by rw [List.mem_singleton.mp hy]; exact ha
theorem name_len {z : Str} (h : nameB z = true) : z.length ≤ 40 := by
  rcases name_parts h with e | ⟨h1, h2⟩
  · rw [e, dotS_len]
    omega
  · have key : ∀ (l acc : List Nat) (B : Nat), (∀ p ∈ TL.spl [46] 0 acc l, p.length ≤ B) → acc.length + l.length ≤ (TL.spl [46] 0 acc l).length * (B + 1) - 1 ∧ 0 < (TL.spl [46] 0 acc l).length := by
      intro l
      induction l with
      | nil =>
        intro acc B h
        have := h acc (List.mem_singleton.mpr rfl)
        exact ⟨by show acc.length + 0 ≤ 1 * (B + 1) - 1; omega, Nat.one_pos⟩
      | cons c r ih =>
        intro acc B h
        by_cases hc : c = 46
        · subst hc
          have e : TL.spl [46] 0 acc (46 :: r) = acc :: TL.spl [46] 0 [] r := by
            rw [TL.spl, if_pos (by rfl)]
            rfl
          rw [e] at h ⊢
          have h1 := h acc List.mem_cons_self
          obtain ⟨h2, h3⟩ := ih [] B fun p hp => h p (List.mem_cons_of_mem _ hp)
          have h5 := Nat.mul_pos h3 (show 0 < B + 1 by omega)
          simp only [List.length_cons, List.length_nil] at h2 ⊢
          rw [Nat.succ_mul]
          omega
        · have e : TL.spl [46] 0 acc (c :: r) = TL.spl [46] 0 (acc ++ [c]) r := by
            rw [TL.spl, if_neg]
            show ¬ (TL.pre [46] (c :: r) = true)
            unfold TL.pre
            simpa using hc
          rw [e] at h ⊢
          obtain ⟨h2, h3⟩ := ih (acc ++ [c]) B h
          have h5 := Nat.mul_pos h3 (show 0 < B + 1 by omega)
          simp only [List.length_cons, List.length_append, List.length_nil] at h2 ⊢
          omega
    have hp : ∀ p ∈ TL.spl [46] 0 [] (sg z), p.length ≤ 8 := fun p hp => by
      rw [← parts_sg] at hp
      obtain ⟨y, hy, rfl⟩ := List.mem_map.mp hp
      rw [sg_len]
      exact label_len (h2 y hy)
    obtain ⟨h3, _⟩ := key (sg z) [] 8 hp
    have h4 : (TL.spl [46] 0 [] (sg z)).length ≤ 4 := by rw [← parts_sg, List.length_map]; exact h1
    rw [sg_len] at h3
    simp only [List.length_nil] at h3
    omega
open PySem.W (sort_maps dataLe_eq dataLt_pair dataLt_int dataLt_str)
/-! ### the data of a realm, a state, a plan -/
def siD (p : Str × Int) : PyData := .tuple [.str p.1, .int p.2]
def ssD (p : Str × Str) : PyData := .tuple [.str p.1, .str p.2]
inductive Sl where
  | k (z : Str) | l (z : Str) | h (z : Str) | s (n k : Str)
  deriving DecidableEq
def slD : Sl → PyData
  | .k z => .tuple [.str "keys", .str z]
  | .l z => .tuple [.str "link", .str z]
  | .h z => .tuple [.str "hosts", .str z]
  | .s n k => .tuple [.str "set", .str n, .str k]
structure Itm where
  c : List Str
  li : Int
  g : List Str
  a : Int
  b : Int
def itD (i : Itm) : PyData := .tuple [.tuple (i.c.map .str), .int i.li, .tuple (i.g.map .str), .int i.a, .int i.b]
structure Rm where
  zs : List (Str × Int)
  an : List Str
  ss : List (Str × Str)
def rmD (r : Rm) : PyData := .tuple [.tuple (r.zs.map siD), .tuple (r.an.map .str), .tuple (r.ss.map ssD)]
def rowD2 (r : Sl × Itm) : PyData := .tuple [slD r.1, itD r.2]
structure Sta where
  its : List (Sl × Itm)
  on : List (Str × Str)
def stD (s : Sta) : PyData := .tuple [.tuple (s.its.map rowD2), .tuple (s.on.map ssD)]
inductive Dd where
  | put (s : Sl) (i : Itm) | on (x z : Str) | off (x z : Str)
theorem ssD_inj {a b : Str × Str} (h : ssD a = ssD b) : a = b := by
  obtain ⟨a1, a2⟩ := a
  obtain ⟨b1, b2⟩ := b
  unfold ssD at h
  injection h with h
  injection h with h1 h
  injection h with h2 _
  injection h1 with h1
  injection h2 with h2
  have h1 : a1 = b1 := h1
  have h2 : a2 = b2 := h2
  rw [h1, h2]
theorem dep_strs0 : ∀ zs : List Str, PyData.depthAll (zs.map PyData.str) = 0
  | [] => rfl
  | z :: zs => by
    show max (PyData.depth (.str z)) (PyData.depthAll (zs.map PyData.str)) = 0
    rw [dep_strs0 zs]
    rfl
theorem dep_map {α : Type} {f : α → PyData} {n : Nat} (hf : ∀ a, (f a).depth ≤ n) : ∀ xs : List α, PyData.depthAll (xs.map f) ≤ n
  | [] => Nat.zero_le _
  | x :: xs => Nat.max_le.mpr ⟨hf x, dep_map hf xs⟩
theorem dep_ss (p : Str × Str) : (ssD p).depth ≤ 1 := by show 0 + 1 ≤ 1; omega
theorem dep_sl (s : Sl) : (slD s).depth ≤ 1 := by cases s <;> (show 0 + 1 ≤ 1; omega)
theorem dep_it (i : Itm) : (itD i).depth ≤ 2 := by
  show max (PyData.depthAll (i.c.map .str) + 1) (max 0 (max (PyData.depthAll (i.g.map .str) + 1) (max 0 (max 0 0)))) + 1 ≤ 2
  rw [dep_strs0, dep_strs0]
  decide
/-! ### deeds done -/
def srtSS (l : List (Str × Str)) : List (Str × Str) := l.mergeSort fun a b => dataLe false id (ssD a) (ssD b)
theorem srtSS_eq (l : List (Str × Str)) : srtD (l.map ssD) = (srtSS l).map ssD := (sort_maps ssD fun _ _ _ _ => rfl).symm
def srtS (l : List Str) : List Str := l.mergeSort fun a b => dataLe false id (.str a) (.str b)
theorem srtS_eq (l : List Str) : srtD (l.map .str) = (srtS l).map .str := (sort_maps PyData.str fun _ _ _ _ => rfl).symm
theorem srtS_perm (l : List Str) : (srtS l).Perm l := List.mergeSort_perm _ _
theorem srtSS_perm (l : List (Str × Str)) : (srtSS l).Perm l := List.mergeSort_perm _ _
theorem alike_ss (l : List (Str × Str)) : AllAlike (l.map ssD) := fun d hd e he => by
  obtain ⟨y, _, rfl⟩ := List.mem_map.mp hd
  obtain ⟨z, _, rfl⟩ := List.mem_map.mp he
  rfl
theorem sortable_ss (l : List (Str × Str)) : Sortable (l.map ssD) := .inl fun d hd => by
  obtain ⟨y, _, rfl⟩ := List.mem_map.mp hd
  exact ⟨_, _, rfl⟩
theorem depth_ss (l : List (Str × Str)) : ∀ d ∈ l.map ssD, d.depth ≤ 60 := fun d hd => by
  obtain ⟨y, _, rfl⟩ := List.mem_map.mp hd
  exact Nat.le_trans (dep_ss y) (by decide)
theorem alike_s (l : List Str) : AllAlike (l.map PyData.str) := fun d hd e he => by
  obtain ⟨y, _, rfl⟩ := List.mem_map.mp hd
  obtain ⟨z, _, rfl⟩ := List.mem_map.mp he
  rfl
theorem sortable_s (l : List Str) : Sortable (l.map PyData.str) := .inr fun d hd => by
  obtain ⟨y, _, rfl⟩ := List.mem_map.mp hd
  exact ⟨fun h => (by cases h), fun _ h => (by cases h)⟩
theorem depth_s (l : List Str) : ∀ d ∈ l.map PyData.str, d.depth ≤ 60 := fun d hd => by
  obtain ⟨y, _, rfl⟩ := List.mem_map.mp hd
  show 0 ≤ 60
  decide
/-! ### what the drawing functions give -/
theorem nodup_len {α : Type} [DecidableEq α] : ∀ {l ys : List α}, l.Nodup → (∀ x ∈ l, x ∈ ys) → l.length ≤ ys.length
  | [], ys, _, _ => Nat.zero_le _
  | x :: l, ys, hn, h => by
    have hx := h x List.mem_cons_self
    have h1 := List.nodup_cons.mp hn
    have h2 := nodup_len (ys := ys.erase x) h1.2 fun y hy => (List.mem_erase_of_ne (fun e => h1.1 (by rw [← e]; exact hy))).mpr (h y (List.mem_cons_of_mem _ hy))
    rw [List.length_erase_of_mem hx] at h2
    have := List.length_pos_of_mem hx
    rw [List.length_cons]
    omega
theorem nodup_snoc {α : Type} {l : List α} {x : α} (h : l.Nodup) (hx : x ∉ l) : (l ++ [x]).Nodup := by
  rw [List.nodup_append]
  refine ⟨h, by simp, fun a ha b hb e => ?_⟩
  rw [List.mem_singleton.mp hb] at e
  rw [e] at ha
  exact hx ha
section
variable (T : List (Addr × Str))
def spId : Sp := fun vs H Q _ => ∃ (l t : Addr), vs = [.ref t] ∧ Tape l H t ∧ ∀ z H', idB z = true → Ext T [t] H H' → Tape l H' t → Q (.str z) H'
def spIds : Sp := fun vs H Q _ => ∃ (l t : Addr) (m : Int), vs = [.ref t, .int m] ∧ 0 ≤ m ∧ m ≤ 5 ∧ Tape l H t ∧
  ∀ (p : Addr) (ys : List Str) (H' : Hp), Nw H p → (ys.length : Int) = m → ys.Nodup → (∀ y ∈ ys, idB y = true) → H' p = some (.lst (ys.map V.str)) → Ext T [t] H H' → Tape l H' t → Q (.ref p) H'
def spLabel : Sp := fun vs H Q _ => ∃ (l t : Addr), vs = [.ref t] ∧ Tape l H t ∧ ∀ z H', labelB z = true → Ext T [t] H H' → Tape l H' t → Q (.str z) H'
def spLabels : Sp := fun vs H Q _ => ∃ (l t : Addr), vs = [.ref t] ∧ Tape l H t ∧
  ∀ (p : Addr) (ys : List Str) (a b c : Str) (H' : Hp), Nw H p → a ≠ b → a ≠ c → b ≠ c → (∀ y ∈ (a :: b :: c :: ys), labelB y = true) → ys.length ≤ 10 → H' p = some (.lst ((a :: b :: c :: ys).map V.str)) → Ext T [t] H H' → Tape l H' t → Q (.ref p) H'
/-- a number of a range drawn -/
def spInt (lo hi : Int) : Sp := fun vs H Q _ => ∃ (l t : Addr), vs = [.ref t] ∧ Tape l H t ∧ ∀ z H', lo ≤ z → z ≤ hi → Ext T [t] H H' → Tape l H' t → Q (.int z) H'
end
def qsL : List Str := ["q1", "q2", "q3", "q4", "q5"]
theorem qs_ok : ∀ y ∈ qsL, idB y = true := by decide +kernel
theorem qs_nodup : qsL.Nodup := by decide +kernel
/-! ### three labels -/
def ksL : List Str := ["k1", "k22", "k333", "k4"]
theorem ks_ok : ∀ y ∈ ksL, labelB y = true := by decide +kernel
/-- the text ends with this sign and a w -/
def EndW (c : Nat) (y : Str) : Prop := ∃ a, sg y = a ++ [c, 119]
theorem endW_inj {c d : Nat} {y : Str} (h1 : EndW c y) (h2 : EndW d y) : c = d := by
  obtain ⟨a, e1⟩ := h1
  obtain ⟨b, e2⟩ := h2
  rw [e1] at e2
  have e3 := congrArg List.reverse e2
  simp only [List.reverse_append, List.reverse_cons, List.reverse_nil, List.nil_append, List.cons_append] at e3
  injection e3 with _ e3
  injection e3 with e3 _
theorem endW_last {c : Nat} {y : Str} (h : EndW c y) : (sg y).getLast? = some 119 := by
  obtain ⟨a, e⟩ := h
  rw [e]
  simp
theorem k1_last : (sg "k1").getLast? = some 49 := by decide +kernel
theorem labels_shape {F fs : List Str} (hn : F.Nodup) (hl : ∀ y ∈ F, labelB y = true) (h4 : F.length + fs.length = 4) (hf : fs.Nodup) (hs : ∀ y ∈ fs, y ∈ F ∧ ∃ c, EndW c y) :
    ∃ a b c r, F ++ ksL = a :: b :: c :: r ∧ a ≠ b ∧ a ≠ c ∧ b ≠ c ∧ (∀ y ∈ (a :: b :: c :: r), labelB y = true) ∧ r.length ≤ 10 := by
  have hall : ∀ y ∈ F ++ ksL, labelB y = true := fun y hy => (List.mem_append.mp hy).elim (hl y) (ks_ok y)
  have hle := nodup_len hf fun y hy => (hs y hy).1
  match F, hn, hl, h4, hs, hle, hall with
  | [], _, _, h4, _, hle, _ => simp only [List.length_nil] at h4 hle; omega
  | [a], _, _, h4, _, hle, _ => simp only [List.length_cons, List.length_nil] at h4 hle; omega
  | [a, b], hn, _, h4, hs, _, hall =>
    have e2 : fs.length = 2 := by simp only [List.length_cons, List.length_nil] at h4; omega
    have hab : a ≠ b := fun e => by simp [e] at hn
    have hsub : ∀ y ∈ [a, b], y ∈ fs := by
      intro y hy
      refine Classical.byContradiction fun hno => ?_
      have h5 := nodup_len (ys := [a, b].erase y) hf fun z hz => (List.mem_erase_of_ne (fun e => hno (by rw [← e]; exact hz))).mpr (hs z hz).1
      rw [List.length_erase_of_mem hy, e2] at h5
      simp at h5
    have nk : ∀ y ∈ [a, b], y ≠ "k1" := fun y hy e => by
      obtain ⟨c, hc⟩ := (hs y (hsub y hy)).2
      have h6 := endW_last hc
      rw [e, k1_last] at h6
      cases h6
    exact ⟨a, b, "k1", ["k22", "k333", "k4"], rfl, hab, nk a (by simp), nk b (by simp), hall, by decide⟩
  | a :: b :: c :: r, hn, _, h4, _, _, hall =>
    refine ⟨a, b, c, r ++ ksL, rfl, fun e => ?_, fun e => ?_, fun e => ?_, hall, ?_⟩
    · simp [e] at hn
    · simp [e] at hn
    · simp [e] at hn
    · rw [List.length_append]
      simp only [List.length_cons] at h4
      show r.length + 4 ≤ 10
      omega
/-- the last eight signs of a word with two more -/
theorem cut8 (z : Str) (hz : 1 ≤ z.length) (hc : ∀ c ∈ sg z, c ∈ sg lettersS) : labelB (cutS z (some (-8)) none) = true ∧ (∀ c, EndW c z → EndW c (cutS z (some (-8)) none)) := by
  have e : sg (cutS z (some (-8)) none) = (sg z).drop (z.length - 8) := by
    unfold cutS
    have h : HT.sIx z.length 0 (some (-8)) = z.length - 8 := by
      unfold HT.sIx
      simp only []
      split <;> omega
    rw [h, HT.sIx_none]
    show (List.toArray _).toList = _
    rw [List.take_of_length_le]
    rw [List.length_drop, show z.cps.toList.length = z.length from sg_len z]
    omega
  have hl : (cutS z (some (-8)) none).length = z.length - (z.length - 8) := by
    rw [← sg_len, e, List.length_drop, sg_len]
  constructor
  · unfold labelB wordB
    rw [decide_eq_true (show (1 : Int) ≤ ((cutS z (some (-8)) none).length : Int) by omega), decide_eq_true (show ((cutS z (some (-8)) none).length : Int) ≤ 8 by omega), e]
    rw [List.all_eq_true.mpr fun c h => decide_eq_true (hc c (List.mem_of_mem_drop h))]
    rfl
  · rintro c ⟨a, ea⟩
    refine ⟨a.drop (z.length - 8), ?_⟩
    have h9 : z.length = a.length + 2 := by
      rw [← sg_len, ea, List.length_append]
      rfl
    rw [e, ea, List.drop_append_of_le_length (by omega)]
def xyzL : List Str := ["", "x", "y", "z"]
def xyzC : List Nat := [0, 120, 121, 122]
theorem xyz_len : ∀ y ∈ xyzL, y.length ≤ 1 := by decide +kernel
theorem xyz_let : ∀ y ∈ xyzL, ∀ c ∈ sg y, c ∈ sg lettersS := by decide +kernel
theorem w_let : ∀ c ∈ sg (Str.ofString "w"), c ∈ sg lettersS := by decide +kernel
theorem w_len : (Str.ofString "w").length = 1 := by decide +kernel
theorem w_sg : sg (Str.ofString "w") = [119] := by decide +kernel
theorem xyz_end {i : Nat} {y : Str} (h0 : i ≠ 0) (h : xyzL[i]? = some y) : ∃ c, xyzC[i]? = some c ∧ sg y = [c] := by
  match i, h0, h with
  | 0, h0, _ => exact absurd rfl h0
  | 1, _, h => exact ⟨120, rfl, by rw [← Option.some.inj h]; decide +kernel⟩
  | 2, _, h => exact ⟨121, rfl, by rw [← Option.some.inj h]; decide +kernel⟩
  | 3, _, h => exact ⟨122, rfl, by rw [← Option.some.inj h]; decide +kernel⟩
  | n + 4, _, h => cases h
theorem xyz_ne {i j c d : Nat} (h : j < i) (h1 : xyzC[j]? = some c) (h2 : xyzC[i]? = some d) : c ≠ d := fun e => by
  subst e
  have hn : xyzC.Nodup := by decide
  have e := (List.getElem?_inj (List.getElem?_eq_some_iff.mp h1).1 hn).mp (h1.trans h2.symm)
  omega
section
variable (T : List (Addr × Str))
def spZones : Sp := fun vs H Q _ => ∃ (l t : Addr) (m : Int), vs = [.ref t, .int m] ∧ 0 ≤ m ∧ m ≤ 5 ∧ Tape l H t ∧
  ∀ (p : Addr) (lag : Int) (rest : List (Str × Int)) (ns : List Str) (H' : Hp), Nw H p → rest.map (·.1) = srtS ns → ns.Nodup → (ns.length : Int) ≤ m → (∀ z ∈ ns, zoneB z) → (∀ r ∈ (dotS, lag) :: rest, 0 ≤ r.2 ∧ r.2 ≤ 100) → Ls H' p (((dotS, lag) :: rest).map siD) → Ext T [t] H H' → Tape l H' t → Q (.ref p) H'
end
/-- what a row of a zone is made of -/
def ZRel (d : PyData) (x : V) : Prop := ∃ (z : Str) (n : Int), x = .str z ∧ d = siD (z, n) ∧ 0 ≤ n ∧ n ≤ 100
theorem zrel_all : ∀ {ds : List PyData} {zs : List Str}, PySem.W.EachIs ZRel ds (zs.map V.str) → ∃ rest : List (Str × Int), ds = rest.map siD ∧ rest.map (·.1) = zs ∧ ∀ r ∈ rest, 0 ≤ r.2 ∧ r.2 ≤ 100
  | _, [], .nil => ⟨[], rfl, rfl, by simp⟩
  | _, z :: zs, .cons h t => by
    obtain ⟨rest, e1, e2, h3⟩ := zrel_all t
    obtain ⟨z', n, e3, e4, h4⟩ := h
    injection e3 with e3
    subst e3
    refine ⟨(z, n) :: rest, by rw [e4, e1]; rfl, by rw [List.map_cons, e2], fun r hr => ?_⟩
    rcases List.mem_cons.mp hr with e | hr
    · rw [e]
      exact h4
    · exact h3 r hr
/-- the six names that zones may have -/
def poolL (a b c : Str) : List Str := [a, b ++ dotS ++ a, c ++ dotS ++ b ++ dotS ++ a, b, c, c ++ dotS ++ a]
theorem pool_eq (a b c : Str) : poolL a b c = [joinS [a], joinS [b, a], joinS [c, b, a], joinS [b], joinS [c], joinS [c, a]] := by
  unfold poolL
  rw [join_cons c (ys := [b, a]) (by simp), join_cons b (ys := [a]) (by simp), join_cons c (ys := [a]) (by simp), join_one, join_one, join_one, str_assoc, str_assoc, str_assoc, str_assoc, str_assoc]
theorem pool_zone {a b c : Str} (h : ∀ y ∈ [a, b, c], labelB y = true) : ∀ z ∈ poolL a b c, zoneB z := by
  rw [pool_eq]
  have ha := h a (by simp)
  have hb := h b (by simp)
  have hc := h c (by simp)
  intro z hz
  simp only [List.mem_cons, List.not_mem_nil, or_false] at hz
  rcases hz with rfl | rfl | rfl | rfl | rfl | rfl
  all_goals refine ⟨_, rfl, by simp, by simp, ?_⟩
  all_goals
    intro y hy
    simp only [List.mem_cons, List.not_mem_nil, or_false] at hy
    first
      | (subst hy; assumption)
      | (rcases hy with rfl | rfl <;> assumption)
      | (rcases hy with rfl | rfl | rfl <;> assumption)
theorem pool_nodup {a b c : Str} (h : ∀ y ∈ [a, b, c], labelB y = true) (h1 : a ≠ b) (h2 : a ≠ c) (h3 : b ≠ c) : (poolL a b c).Nodup := by
  rw [pool_eq]
  have ha := h a (by simp)
  have hb := h b (by simp)
  have hc := h c (by simp)
  have hl : ∀ ys ∈ [[a], [b, a], [c, b, a], [b], [c], [c, a]], ys ≠ [] ∧ ∀ y ∈ ys, labelB y = true := by
    intro ys hy
    simp only [List.mem_cons, List.not_mem_nil, or_false] at hy
    rcases hy with rfl | rfl | rfl | rfl | rfl | rfl <;> simp [ha, hb, hc]
  have hn : [[a], [b, a], [c, b, a], [b], [c], [c, a]].Nodup := by
    simp [h1, h2, h3, h1.symm, h2.symm, h3.symm]
  have key : ∀ {L : List (List Str)}, (∀ ys ∈ L, ys ≠ [] ∧ ∀ y ∈ ys, labelB y = true) → L.Nodup → (L.map joinS).Nodup := by
    intro L
    induction L with
    | nil => intro _ _; simp
    | cons x L ih =>
      intro hL hn
      rw [List.map_cons, List.nodup_cons]
      have h4 := List.nodup_cons.mp hn
      refine ⟨fun hm => ?_, ih (fun ys hy => hL ys (List.mem_cons_of_mem _ hy)) h4.2⟩
      obtain ⟨y, hy, e⟩ := List.mem_map.mp hm
      have hx := hL x List.mem_cons_self
      have hy2 := hL y (List.mem_cons_of_mem _ hy)
      have := join_inj hy2.1 hx.1 hy2.2 hx.2 e
      rw [this] at hy
      exact h4.1 hy
  exact key hl hn
/-- a member of a list in place of what an index gives -/
theorem at_inV {xs : List V} {i : Int} (h0 : 0 ≤ i) (h : i < xs.length) : ∃ c, atI xs i = some c ∧ xs[i.toNat]? = some c := by
  obtain ⟨c, h1, h2, _⟩ := at_in h0 h
  exact ⟨c, h1, h2⟩
/-! ### a realm drawn -/
structure RmOk (R : Rm) (m : Int) : Prop where
  zs : ∃ (lag : Int) (rest : List (Str × Int)) (ns : List Str), R.zs = (dotS, lag) :: rest ∧ rest.map (·.1) = srtS ns ∧ ns.Nodup ∧ (ns.length : Int) ≤ m ∧ ∀ z ∈ ns, zoneB z
  lags : ∀ r ∈ R.zs, 0 ≤ r.2 ∧ r.2 ≤ 100
  ss : ∃ l, R.ss.Sublist (srtSS l)
  ssn : R.ss.Nodup
  ssok : ∀ p ∈ R.ss, nameB p.1 = true ∧ idB p.2 = true
  used : ∀ z ∈ R.zs, ∃ p ∈ R.ss, endsB p.1 z.1 = true
  slen : (R.ss.length : Int) ≤ m + 2
  an : ∃ ys, R.an = srtS ys ∧ ys.Nodup ∧ (∀ y ∈ ys, idB y = true) ∧ 1 ≤ ys.length ∧ ys.length ≤ 3
/-- a realm whose tuple of zones is a plain one: dict of it -/
def RmF (H : Hp) (v : V) (R : Rm) : Prop := ∃ (a za : Addr) (x y : V) (xs : List V) (o : Obj), v = .ref a ∧ H a = some (.tup [.ref za, x, y]) ∧ H za = some (.frz o (.tup xs)) ∧ o.dict = none ∧ ImAll H xs (R.zs.map siD)
theorem RmF.ext {T : List (Addr × Str)} {ms : List Addr} {H H' : Hp} {v : V} {R : Rm} (h : RmF H v R) (e : Ext T ms H H') (hm : Lsts H ms) : RmF H' v R := by
  obtain ⟨a, za, x, y, xs, o, e1, e2, e3, e4, e5⟩ := h
  exact ⟨a, za, x, y, xs, o, e1, tup.ext e2 e hm, frz.ext e3 e hm, e4, ImAll.ext e hm _ _ e5⟩
theorem RmF.x {T : List (Addr × Str)} {H H' : Hp} {v : V} {R : Rm} (h : RmF H v R) (e : Ext T [] H H') : RmF H' v R := h.ext e Lsts.nil
theorem RmF.y {T : List (Addr × Str)} {H H' : Hp} {l t : Addr} {v : V} {R : Rm} (h : RmF H v R) (e : Ext T [t] H H') (hT : Tape l H t) : RmF H' v R := h.ext e hT.lsts
theorem siD_tups (zs : List (Str × Int)) : ∀ d ∈ zs.map siD, ∃ es, d = .tuple es := fun d hd => by
  obtain ⟨z, _, rfl⟩ := List.mem_map.mp hd
  exact ⟨_, rfl⟩
section
variable (T : List (Addr × Str))
def spRealm : Sp := fun vs H Q _ => ∃ (l t : Addr) (m : Int), vs = [.ref t, .int m] ∧ 0 ≤ m ∧ m ≤ 5 ∧ Tape l H t ∧ ∀ (v : V) (R : Rm) (H' : Hp), RmOk R m → RmF H' v R → Im H' v (rmD R) → Ext T [t] H H' → Tape l H' t → Q v H'
end
theorem rd_appLs {H : Hp} {Q : VK} {p : Addr} {ds : List PyData} {v : V} {d : PyData} (h : Ls H p ds) (hv : Im H v d) (c : ds.length < sizeLine) (q : ∀ xs, H p = some (.lst xs) → Ls (upd H p (.lst (xs ++ [v]))) p (ds ++ [d]) → Q .non (upd H p (.lst (xs ++ [v])))) : rAppend (.ref p) [v] H Q := by
  obtain ⟨xs, h1, h2⟩ := h
  refine rd_app h1 (by rw [h2.len]; exact c) (q xs h1 ⟨_, upd_same, ?_⟩)
  have e : Ext [] [p] H (upd H p (.lst (xs ++ [v]))) := Ext.mut (by simp) h1
  have hl : Lsts H [p] := fun b hb => ⟨xs, by rw [List.mem_singleton.mp hb]; exact h1⟩
  exact (ImAll.ext e hl _ _ h2).snoc (Im.ext e hl _ _ hv)
theorem Ls.list {H : Hp} {p : Addr} {ds : List PyData} (h : Ls H p ds) : ∃ xs, H p = some (.lst xs) ∧ ImAll H xs ds := h
theorem lsts_one {H : Hp} {p : Addr} {xs : List V} (h : H p = some (.lst xs)) : Lsts H [p] := fun b hb => ⟨xs, by rw [List.mem_singleton.mp hb]; exact h⟩
theorem Ls.new {H : Hp} {p q : Addr} {o : HO} {ds : List PyData} (h : Ls H p ds) (hq : H q = none) : Ls (upd H q o) p ds := h.ext (T := []) (ms := []) (.new hq) (by simp) Lsts.nil
theorem Im.new {H : Hp} {q : Addr} {o : HO} {v : V} {d : PyData} (h : Im H v d) (hq : H q = none) : Im (upd H q o) v d := Im.ext (T := []) (ms := []) (.new hq) Lsts.nil _ _ h
theorem SqP.new {H : Hp} {q a : Addr} {o : HO} {xs : List V} (h : SqP H a xs) (hq : H q = none) : SqP (upd H q o) a xs := SqP.ext (T := []) (ms := []) h (.new hq) Lsts.nil
theorem ImAll.new {H : Hp} {q : Addr} {o : HO} {vs : List V} {ds : List PyData} (h : ImAll H vs ds) (hq : H q = none) : ImAll (upd H q o) vs ds := ImAll.ext (T := []) (ms := []) (.new hq) Lsts.nil _ _ h
theorem Ls.ne {H : Hp} {p q : Addr} {ds : List PyData} (h : Ls H p ds) (hq : H q = none) : p ≠ q := by
  obtain ⟨xs, h1, _⟩ := h
  exact (Nw.of hq).lst h1
theorem ends_self (n : Str) : endsB n n = true := by
  unfold endsB
  rw [decide_eq_true (show n = n from rfl)]
  simp
theorem ends_dot (n : Str) : endsB n dotS = true := by
  unfold endsB
  rw [decide_eq_true (show dotS = dotS from rfl)]
  rfl
theorem ends_app (a z : Str) : endsB (a ++ (dotS ++ z)) z = true := by
  unfold endsB
  rw [(endswith_iff _ _).mpr ⟨sg a, (sg_app a (dotS ++ z)).symm⟩]
  simp
theorem mem_ssD {r : Str × Str} {l : List (Str × Str)} : ssD r ∈ l.map ssD ↔ r ∈ l := by
  constructor
  · intro h
    obtain ⟨x, hx, e⟩ := List.mem_map.mp h
    rw [← ssD_inj e]
    exact hx
  · exact fun h => List.mem_map_of_mem h
theorem rd_ixLs {K : PySem.W.Frag} {H : Hp} {Q : VK} {p : Addr} {ds : List PyData} {i : Int} {d : PyData} (h : Ls H p ds) (a : atI ds i = some d) (q : ∀ u, Im H u d → Q u H) : rIx K (.ref p) (.int i) H Q := by
  obtain ⟨xs, h1, h2⟩ := h
  have key : ∃ u, atI xs i = some u ∧ Im H u d := by
    unfold atI at a ⊢
    cases e : ixN ds.length i with
    | none =>
      rw [e] at a
      cases a
    | some k =>
      rw [e] at a
      obtain ⟨u, e1, e2⟩ := h2.get (i := k) (by simpa using a)
      exact ⟨u, by rw [h2.len, e]; simpa using e1, e2⟩
  obtain ⟨u, h3, h4⟩ := key
  exact rd_ixL (SqL.of h1) h3 (q u h4)
theorem rd_ixSs {K : PySem.W.Frag} {H : Hp} {Q : VK} {v : V} {ds : List PyData} {i : Int} {z : Str} (h : Im H v (.tuple ds)) (a : atI ds i = some (.str z)) (q : Q (.str z) H) : rIx K v (.int i) H Q := rd_ixI h a fun u hu => by
  rw [hu.str']
  exact q
theorem last_map {α β : Type} {f : α → β} {l : List α} {x : α} (h : l.getLast? = some x) : atI (l.map f) (-1) = some (f x) := at_last (by rw [List.getLast?_map, h]; rfl)
theorem last_some {α : Type} {l : List α} (h : l ≠ []) : ∃ x, l.getLast? = some x ∧ x ∈ l := ⟨l.getLast h, List.getLast?_eq_some_getLast h, List.getLast_mem h⟩
mutual
theorem Im.inj {H : Hp} : ∀ (d e : PyData) (v : V), Im H v d → Im H v e → d = e
  | .none, e, v, h1, h2 => by
    cases h1
    cases h2
    rfl
  | .bool _, e, v, h1, h2 => by cases h1
  | .list _, e, v, h1, h2 => by cases h1
  | .dict _, e, v, h1, h2 => by cases h1
  | .int i, e, v, h1, h2 => by
    cases h1
    cases h2
    rfl
  | .str x, e, v, h1, h2 => by
    cases h1
    cases h2
    rfl
  | .tuple ds, e, v, h1, h2 => by
    obtain ⟨a, xs, rfl, a1, b⟩ := h1.tup'
    cases h2 with
    | tup c d =>
      have e1 := a1.inj (.inl c)
      subst e1
      rw [ImAll.inj ds _ _ b d]
    | tupF c _ d =>
      have e1 := a1.inj (.inr ⟨_, c⟩)
      subst e1
      rw [ImAll.inj ds _ _ b d]
theorem ImAll.inj {H : Hp} : ∀ (ds es : List PyData) (vs : List V), ImAll H vs ds → ImAll H vs es → ds = es
  | [], es, vs, h1, h2 => by
    cases h1
    cases h2
    rfl
  | d :: ds, es, vs, h1, h2 => by
    cases h1 with
    | cons a b =>
      cases h2 with
      | cons c d =>
        rw [Im.inj _ _ _ a c, ImAll.inj _ _ _ b d]
end
/-- a comprehension whose items are told by a relation that no heap changes -/
theorem lcg_rel (T : List (Addr × Str)) (ms : List Addr) {σ : L2.St} {H : Hp} {Q : VK} {J : It} {n : Nat} {G : Hp → Prop} {Y : Nat → Hp → V → Hp → Prop} {g : TG} {tt : TT} {te : TE} {vs : List Nat} (w : Walk J n G Y) (xs : List V) (hn : n = xs.length) (hY : ∀ i H x H', Y i H x H' → H' = H ∧ xs[i]? = some x)
    (hDm : ∀ D, H D = none → D ∉ ms) (hG : ∀ H', Ext T ms H H' → G H') (hl : xs.length < sizeLine) (p : V → Bool) (Rel : V → V → Prop)
    (step : ∀ (i : Nat) (x : V), xs[i]? = some x → ∀ H', Ext T ms H H' → ∀ (R : V → Hp → Prop) (S : Hp → Prop), (p x = true → ∀ v H2, Ext T ms H' H2 → Rel v x → R v H2) → (p x = false → ∀ H2, Ext T ms H' H2 → S H2) →
      g x (wipe σ vs) H' fun σ2 H2 => wipe σ2 vs = wipe σ vs ∧ tt σ2 H2 fun b H3 => if b = true then te σ2 H3 R else S H3)
    (q : ∀ D H2 ys, Nw H D → Ext T ms H H2 → H2 D = some (.lst ys) → EachIs Rel ys (xs.filter p) → Q (.ref D) H2) : LcG J g tt te vs σ H Q := fun D hD => by
  refine lc_it w (fun i H2 => Ext T ms H H2 ∧ ∃ ys, H2 D = some (.lst ys) ∧ EachIs Rel ys ((xs.take i).filter p)) ⟨.new hD, [], upd_same, .nil⟩ (fun i H2 _ h => hG H2 h.1) (fun i x H1 H' hi h y => ?_) (fun H1 h => ?_)
  · obtain ⟨e1, e2⟩ := hY i H1 x H' y
    subst e1
    obtain ⟨h1, ys, h3, h4⟩ := h
    have et : xs.take (i + 1) = xs.take i ++ [x] := by rw [List.take_add_one, e2]; rfl
    refine step i x e2 H' h1 _ _ (fun hp v H2 e hr => ?_) (fun hp H2 e => ?_)
    · have h5 := e.lst (hDm D hD) h3
      refine ⟨ys, h5, ?_, (h1.trans e).own (.of hD) h5, ys ++ [v], upd_same, ?_⟩
      · refine Nat.lt_of_le_of_lt ?_ hl
        rw [h4.length]
        exact Nat.le_trans (List.length_filter_le _ _) (by rw [List.length_take]; exact Nat.min_le_right _ _)
      · rw [et, List.filter_append, List.filter_cons_of_pos hp]
        exact PySem.W.each_snoc hr h4
    · refine ⟨h1.trans e, ys, e.lst (hDm D hD) h3, ?_⟩
      rw [et, List.filter_append, List.filter_cons_of_neg (by rw [hp]; decide), List.filter_nil, List.append_nil]
      exact h4
  · obtain ⟨h1, ys, h3, h4⟩ := h
    rw [hn, List.take_length] at h4
    exact q D H1 ys (.of hD) h1 h3 h4
/-! ### the law's chain, slots, home -/
def isD (p : Int × Str) : PyData := .tuple [.int p.1, .str p.2]
def onZ (n : Str) (z : Str × Int) : Bool := !decide (z.1 = dotS) && endsB n z.1
def chF (R : Rm) (n : Str) : List (Int × Str) := (0, dotS) :: ((R.zs.filter (onZ n)).map fun z => ((z.1.length : Int), z.1))
def srtIS (l : List (Int × Str)) : List (Int × Str) := l.mergeSort fun a b => dataLe false id (isD a) (isD b)
theorem srtIS_eq (l : List (Int × Str)) : srtD (l.map isD) = (srtIS l).map isD := (sort_maps isD fun _ _ _ _ => rfl).symm
theorem srtIS_perm (l : List (Int × Str)) : (srtIS l).Perm l := List.mergeSort_perm _ _
theorem alike_is (l : List (Int × Str)) : AllAlike (l.map isD) := fun d hd e he => by
  obtain ⟨y, _, rfl⟩ := List.mem_map.mp hd
  obtain ⟨z, _, rfl⟩ := List.mem_map.mp he
  rfl
theorem sortable_is (l : List (Int × Str)) : Sortable (l.map isD) := .inl fun d hd => by
  obtain ⟨y, _, rfl⟩ := List.mem_map.mp hd
  exact ⟨_, _, rfl⟩
theorem depth_is (l : List (Int × Str)) : ∀ d ∈ l.map isD, d.depth ≤ 60 := fun d hd => by
  obtain ⟨y, _, rfl⟩ := List.mem_map.mp hd
  show 0 + 1 ≤ 60
  omega
def chL (R : Rm) (n : Str) : List Str := (srtIS (chF R n)).map (·.2)
theorem chL_mem {R : Rm} {n z : Str} : z ∈ chL R n ↔ z = dotS ∨ ∃ y ∈ R.zs, onZ n y = true ∧ y.1 = z := by
  unfold chL
  rw [((srtIS_perm (chF R n)).map _).mem_iff]
  unfold chF
  simp only [List.map_cons, List.mem_cons, List.map_map, List.mem_map, List.mem_filter, Function.comp_apply]
  constructor
  · rintro (h | ⟨y, ⟨h1, h2⟩, h3⟩)
    · exact .inl h
    · exact .inr ⟨y, h1, h2, h3⟩
  · rintro (h | ⟨y, h1, h2, h3⟩)
    · exact .inl h
    · exact .inr ⟨y, ⟨h1, h2⟩, h3⟩
theorem chL_len (R : Rm) (n : Str) : (chL R n).length = 1 + (R.zs.filter (onZ n)).length := by
  unfold chL
  rw [List.length_map, (srtIS_perm (chF R n)).length_eq]
  unfold chF
  rw [List.length_cons, List.length_map]
  omega
def slotsR (R : Rm) : List Sl := (.k dotS :: R.zs.tail.flatMap fun z => [.k z.1, .l z.1, .h z.1]) ++ R.ss.map fun p => .s p.1 p.2
def homeR (R : Rm) : Sl → Str
  | .k z => z
  | .s n _ => (chL R n).getLast?.getD dotS
  | .l z => (chL R z).dropLast.getLast?.getD dotS
  | .h z => (chL R z).dropLast.getLast?.getD dotS
theorem at_last2 {α : Type} {l : List α} {v : α} (h : l.dropLast.getLast? = some v) : atI l (-2) = some v := by
  obtain ⟨r, e⟩ := List.getLast?_eq_some_iff.mp h
  have hl : l ≠ [] := fun z => by rw [z] at h; cases h
  have e2 := List.dropLast_concat_getLast hl
  rw [e] at e2
  obtain ⟨x, e3⟩ : ∃ x, l = r ++ [v, x] := ⟨l.getLast hl, by rw [List.append_assoc] at e2; exact e2.symm⟩
  rw [e3]
  unfold atI
  have h1 : ixN (r ++ [v, x]).length (-2) = some r.length := by
    unfold ixN
    rw [List.length_append]
    simp only [List.length_cons, List.length_nil]
    rw [if_neg (by decide), if_pos (by omega)]
    congr 1
    omega
  rw [h1]
  simp
theorem cutV_from {α : Type} (l : List V) {i : Int} (h0 : 0 ≤ i) : cutV l (some i) none = l.drop i.toNat := by
  unfold cutV
  rw [HT.sIx_none]
  have e : HT.sIx l.length 0 (some i) = min i.toNat l.length := by
    obtain ⟨k, rfl⟩ := Int.eq_ofNat_of_zero_le h0
    exact HT.sIx_nat l.length 0 k
  rw [e, List.take_of_length_le (by rw [List.length_drop]; omega)]
  by_cases h : i.toNat ≤ l.length
  · rw [Nat.min_eq_left h]
  · rw [Nat.min_eq_right (by omega), List.drop_length, List.drop_eq_nil_of_le (by omega)]
theorem cutV_to (l : List V) {i : Int} (h0 : 0 ≤ i) : cutV l none (some i) = l.take i.toNat := by
  unfold cutV
  have e0 : HT.sIx l.length 0 none = 0 := HT.sIx_none ..
  have e : HT.sIx l.length l.length (some i) = min i.toNat l.length := by
    obtain ⟨k, rfl⟩ := Int.eq_ofNat_of_zero_le h0
    exact HT.sIx_nat l.length l.length k
  rw [e0, e]
  show (l.drop 0).take (min i.toNat l.length - 0) = _
  rw [List.drop_zero, Nat.sub_zero]
  by_cases h : i.toNat ≤ l.length
  · rw [Nat.min_eq_left h]
  · rw [Nat.min_eq_right (by omega), List.take_length, List.take_of_length_le (by omega)]
/-- a realm as the drawing functions read it -/
structure RmIn (R : Rm) : Prop where
  ne : ∃ lag rest, R.zs = (dotS, lag) :: rest ∧ ∀ r ∈ rest, r.1 ≠ dotS
  len : R.zs.length ≤ 6
  nm : ∀ z ∈ R.zs, nameB z.1 = true
  nd : (R.zs.map (·.1)).Nodup
  sok : ∀ p ∈ R.ss, nameB p.1 = true ∧ idB p.2 = true
  sn : R.ss.Nodup
  slen : R.ss.length ≤ 7
  an : ∃ a r, R.an = a :: r ∧ idB a = true
section
variable (T : List (Addr × Str))
def spChainL : Sp := fun vs H Q _ => ∃ (v : V) (R : Rm) (n : Str), vs = [v, .str n] ∧ Im H v (rmD R) ∧ RmIn R ∧ nameB n = true ∧ ∀ (p : Addr) (H' : Hp), Nw H p → Ext T [] H H' → H' p = some (.lst ((chL R n).map V.str)) → Q (.ref p) H'
def spSlots : Sp := fun vs H Q _ => ∃ (v : V) (R : Rm), vs = [v] ∧ Im H v (rmD R) ∧ RmIn R ∧ ∀ (p : Addr) (H' : Hp), Nw H p → Ext T [] H H' → Ls H' p ((slotsR R).map slD) → Q (.ref p) H'
def spHome : Sp := fun vs H Q _ => ∃ (v u : V) (R : Rm) (s : Sl), vs = [v, u] ∧ Im H v (rmD R) ∧ Im H u (slD s) ∧ RmIn R ∧ s ∈ slotsR R ∧ ∀ (H' : Hp), Ext T [] H H' → homeR R s ∈ R.zs.map (·.1) → Q (.str (homeR R s)) H'
end
theorem RmOk.rin {R : Rm} {m : Int} (h : RmOk R m) (hm : m ≤ 5) : RmIn R := by
  obtain ⟨lag, rest, ns, e1, e2, e3, e4, e5⟩ := h.zs
  have hmem : ∀ z, z ∈ rest.map (·.1) ↔ z ∈ ns := fun z => by rw [e2]; exact (srtS_perm ns).mem_iff
  have hr : ∀ r ∈ rest, zoneB r.1 := fun r hr => e5 _ ((hmem _).mp (List.mem_map_of_mem hr))
  have hlen : rest.length = ns.length := by
    have := congrArg List.length e2
    rw [List.length_map, (srtS_perm ns).length_eq] at this
    exact this
  refine ⟨⟨lag, rest, e1, fun r hr' => zone_ne (hr r hr')⟩, ?_, fun z hz => ?_, ?_, h.ssok, h.ssn, ?_, ?_⟩
  · rw [e1, List.length_cons]
    omega
  · rw [e1] at hz
    rcases List.mem_cons.mp hz with e | hz
    · rw [e]
      exact dot_name
    · exact zone_name (hr z hz)
  · rw [e1, List.map_cons, List.nodup_cons, e2]
    refine ⟨fun hd => ?_, (srtS_perm ns).nodup_iff.mpr e3⟩
    exact zone_ne (e5 _ ((srtS_perm ns).mem_iff.mp hd)) rfl
  · have := h.slen
    omega
  · obtain ⟨ys, h1, h2, h3, h4, h5⟩ := h.an
    cases e : srtS ys with
    | nil =>
      have := (srtS_perm ys).length_eq
      rw [e] at this
      simp only [List.length_nil] at this
      omega
    | cons a r =>
      exact ⟨a, r, by rw [h1, e], h3 a ((srtS_perm ys).mem_iff.mp (by rw [e]; simp))⟩
/-! ### the keys of the zones: a list of pairs whose seconds are lists -/
def PoolRow (H : Hp) (ms : List Addr) (v : V) (r : Str × List Str) : Prop := ∃ ta pa, v = .ref ta ∧ H ta = some (.tup [.str r.1, .ref pa]) ∧ H pa = some (.lst (r.2.map V.str)) ∧ pa ∉ ms
def Pools (H : Hp) (t a : Addr) (ps : List (Str × List Str)) : Prop := ∃ xs, H a = some (.lst xs) ∧ a ≠ t ∧ EachIs (PoolRow H [t]) xs ps
theorem PoolRow.ext {T : List (Addr × Str)} {ms ms' : List Addr} {H H' : Hp} {v : V} {r : Str × List Str} (h : PoolRow H ms v r) (e : Ext T ms' H H') (hs : ∀ b ∈ ms', b ∈ ms) (hl : Lsts H ms') : PoolRow H' ms v r := by
  obtain ⟨ta, pa, e1, e2, e3, e4⟩ := h
  exact ⟨ta, pa, e1, tup.ext (xs := [.str r.1, .ref pa]) e2 e hl, e.lst (fun hb => e4 (hs _ hb)) e3, e4⟩
theorem rows_ext {T : List (Addr × Str)} {ms ms' : List Addr} {H H' : Hp} {xs : List V} {ps : List (Str × List Str)} (h : EachIs (PoolRow H ms) xs ps) (e : Ext T ms' H H') (hs : ∀ b ∈ ms', b ∈ ms) (hl : Lsts H ms') : EachIs (PoolRow H' ms) xs ps := h.mono fun _ _ x => x.ext e hs hl
theorem rows_weak {ms ms' : List Addr} {H : Hp} {xs : List V} {ps : List (Str × List Str)} (h : EachIs (PoolRow H ms) xs ps) (hs : ∀ b ∈ ms', b ∈ ms) : EachIs (PoolRow H ms') xs ps := h.mono fun _ _ ⟨ta, pa, e1, e2, e3, e4⟩ => ⟨ta, pa, e1, e2, e3, fun hb => e4 (hs _ hb)⟩
theorem Pools.ext {T : List (Addr × Str)} {H H' : Hp} {l t a : Addr} {ps : List (Str × List Str)} (h : Pools H t a ps) (e : Ext T [t] H H') (hT : Tape l H t) : Pools H' t a ps := by
  obtain ⟨xs, h1, h2, h3⟩ := h
  exact ⟨xs, e.lst (by simpa using h2) h1, h2, rows_ext h3 e (fun _ h => h) hT.lsts⟩
theorem Pools.new {H : Hp} {t a q : Addr} {o : HO} {ps : List (Str × List Str)} (h : Pools H t a ps) (hq : H q = none) : Pools (upd H q o) t a ps := by
  obtain ⟨xs, h1, h2, h3⟩ := h
  have e : Ext [] [] H (upd H q o) := .new hq
  exact ⟨xs, e.lst (by simp) h1, h2, rows_ext h3 e (by simp) Lsts.nil⟩
theorem Pools.ext0 {T : List (Addr × Str)} {H H' : Hp} {t a : Addr} {ps : List (Str × List Str)} (h : Pools H t a ps) (e : Ext T [] H H') : Pools H' t a ps := by
  obtain ⟨xs, h1, h2, h3⟩ := h
  exact ⟨xs, e.lst (by simp) h1, h2, rows_ext h3 e (by simp) Lsts.nil⟩
structure PsOk (R : Rm) (ps : List (Str × List Str)) : Prop where
  nm : ps.map (·.1) = R.zs.map (·.1)
  nd : ∀ p ∈ ps, p.2.Nodup
  ok : ∀ p ∈ ps, ∀ y ∈ p.2, idB y = true
  len : ∀ p ∈ ps, p.2.length = 3
structure ItmOk (s : Sl) (i : Itm) : Prop where
  c : ∃ cs : List Str, i.c = srtS cs ∧ cs.Nodup ∧ (∀ y ∈ cs, idB y = true) ∧ cs.length ≤ 4
  g : ∃ gs : List Str, i.g = srtS gs ∧ gs.Nodup ∧ (∀ y ∈ gs, idB y = true) ∧ gs.length ≤ 3
  li : 1 ≤ i.li ∧ i.li ≤ 1000
  ab : 0 ≤ i.a ∧ i.a ≤ i.b ∧ i.b ≤ 10000
  h : ∀ z, s = .h z → i.g = [] ∧ i.a = 0 ∧ i.b = 10000
  kc : ∀ z, s = .k z → i.c ≠ []
/-- the first of the servers that an item names, s1 where it names none -/
def Itm.hd (i : Itm) : Str := i.c.headD "s1"
/-- one signer, and it is one of the keys -/
def Seal (i : Itm) : Prop := ∃ x, i.g = [x] ∧ x ∈ i.c
section
variable (T : List (Addr × Str))
def spPools : Sp := fun vs H Q _ => ∃ (l t : Addr) (v : V) (R : Rm), vs = [.ref t, v] ∧ Tape l H t ∧ Im H v (rmD R) ∧ RmIn R ∧ ∀ (a : Addr) (ps : List (Str × List Str)) (H' : Hp), Nw H a → Pools H' t a ps → PsOk R ps → Ext T [t] H H' → Tape l H' t → Q (.ref a) H'
def spPool : Sp := fun vs H Q _ => ∃ (t a : Addr) (ps : List (Str × List Str)) (z : Str) (ks : List Str), vs = [.ref a, .str z] ∧ Pools H t a ps ∧ ps.length ≤ 6 ∧ (ps.map (·.1)).Nodup ∧ (z, ks) ∈ ps ∧
  ∀ (pa : Addr) (H' : Hp), pa ≠ t → H pa = some (.lst (ks.map V.str)) → Ext T [] H H' → Q (.ref pa) H'
def spItem : Sp := fun vs H Q _ => ∃ (ca sa : Addr) (cs gs : List Str) (li : Int), vs = [.ref ca, .int li, .ref sa] ∧ H ca = some (.lst (cs.map V.str)) ∧ H sa = some (.lst (gs.map V.str)) ∧ (∀ y ∈ cs, idB y = true) ∧ (∀ y ∈ gs, idB y = true) ∧
  ∀ (v : V) (H' : Hp), Ext T [] H H' → Im H' v (itD ⟨srtS cs, li, srtS gs, 0, 10000⟩) → Q v H'
def spFirst : Sp := fun vs H Q _ => ∃ (l t pa : Addr) (v u : V) (R : Rm) (ps : List (Str × List Str)) (s : Sl), vs = [.ref t, v, .ref pa, u] ∧ Tape l H t ∧ Im H v (rmD R) ∧ RmIn R ∧ Pools H t pa ps ∧ PsOk R ps ∧ Im H u (slD s) ∧ s ∈ slotsR R ∧
  ∀ (x : V) (i : Itm) (H' : Hp), ItmOk s i → (∀ z, s = .k z → Seal i) → (∀ z, s = .h z → i.hd = "s1") → Im H' x (itD i) → Ext T [t] H H' → Tape l H' t → Q x H'
end
theorem filter_key {ps : List (Str × List Str)} {z : Str} {ks : List Str} (hn : (ps.map (·.1)).Nodup) (hm : (z, ks) ∈ ps) : ps.filter (fun p => decide (p.1 = z)) = [(z, ks)] := by
  induction ps with
  | nil => cases hm
  | cons p ps ih =>
    rw [List.map_cons, List.nodup_cons] at hn
    rcases List.mem_cons.mp hm with e | hm
    · subst e
      rw [List.filter_cons_of_pos (by simp), List.filter_eq_nil_iff.mpr]
      intro y hy h
      have h2 : y.1 = z := of_decide_eq_true h
      exact hn.1 (List.mem_map.mpr ⟨y, hy, h2⟩)
    · rw [List.filter_cons_of_neg, ih hn.2 hm]
      intro h
      have h2 : p.1 = z := of_decide_eq_true h
      exact hn.1 (List.mem_map.mpr ⟨_, hm, h2.symm⟩)
theorem filter_others {ks : List Str} {a : Str} (hn : ks.Nodup) : ks.length ≤ (ks.filter fun k => !decide (k = a)).length + 1 := by
  induction ks with
  | nil => simp
  | cons k ks ih =>
    rw [List.nodup_cons] at hn
    by_cases h : k = a
    · rw [List.filter_cons_of_neg (by simp [h])]
      have : ks.filter (fun k => !decide (k = a)) = ks := List.filter_eq_self.mpr fun x hx => by
        simp only [Bool.not_eq_true', decide_eq_false_iff_not]
        intro e
        rw [← h] at e
        rw [e] at hx
        exact hn.1 hx
      rw [this]
      simp
    · rw [List.filter_cons_of_pos (by simp [h])]
      have := ih hn.2
      simp only [List.length_cons]
      omega
theorem srtS_ne {cs : List Str} (h : cs ≠ []) : srtS cs ≠ [] := fun e => h (by
  have := (srtS_perm cs).length_eq
  rw [e] at this
  exact List.eq_nil_of_length_eq_zero this.symm)
theorem srtS_oneL (z : Str) : srtS [z] = [z] := List.mergeSort_singleton _
theorem seal_srt {cs gs : List Str} {li a b : Int} (h : ∃ x, gs = [x] ∧ x ∈ cs) : Seal ⟨srtS cs, li, srtS gs, a, b⟩ := by
  obtain ⟨x, rfl, hx⟩ := h
  exact ⟨x, srtS_oneL x, (srtS_perm cs).mem_iff.mpr hx⟩
/-! ### what is made new, the heap told by what it keeps -/
section
variable {T : List (Addr × Str)} {H H' : Hp}
theorem Im.x {v : V} {d : PyData} (h : Im H v d) (e : Ext T [] H H') : Im H' v d := Im.ext e Lsts.nil _ _ h
theorem ImAll.x {vs : List V} {ds : List PyData} (h : ImAll H vs ds) (e : Ext T [] H H') : ImAll H' vs ds := ImAll.ext e Lsts.nil _ _ h
theorem Ls.x {a : Addr} {ds : List PyData} (h : Ls H a ds) (e : Ext T [] H H') : Ls H' a ds := h.ext e (by simp) Lsts.nil
theorem tup.x {a : Addr} {xs : List V} (h : H a = some (.tup xs)) (e : Ext T [] H H') : H' a = some (.tup xs) := e.tup (by simp) h
theorem tup.y {l t a : Addr} {xs : List V} (h : H a = some (.tup xs)) (e : Ext T [t] H H') (hT : Tape l H t) : H' a = some (.tup xs) := tup.ext h e hT.lsts
theorem SqP.x {a : Addr} {xs : List V} (h : SqP H a xs) (e : Ext T [] H H') : SqP H' a xs := SqP.ext h e Lsts.nil
theorem lst.x {a : Addr} {xs : List V} (h : H a = some (.lst xs)) (e : Ext T [] H H') : H' a = some (.lst xs) := e.lst (by simp) h
theorem Im.y {l t : Addr} {v : V} {d : PyData} (h : Im H v d) (e : Ext T [t] H H') (hT : Tape l H t) : Im H' v d := Im.ext e hT.lsts _ _ h
theorem ImAll.y {l t : Addr} {vs : List V} {ds : List PyData} (h : ImAll H vs ds) (e : Ext T [t] H H') (hT : Tape l H t) : ImAll H' vs ds := ImAll.ext e hT.lsts _ _ h
theorem Ls.y {l t a : Addr} {ds : List PyData} (h : Ls H a ds) (e : Ext T [t] H H') (ha : a ≠ t) (hT : Tape l H t) : Ls H' a ds := h.ext e (by simpa using ha) hT.lsts
theorem lst.y {t a : Addr} {xs : List V} (h : H a = some (.lst xs)) (e : Ext T [t] H H') (ha : a ≠ t) : H' a = some (.lst xs) := e.lst (by simpa using ha) h
end
section
variable (T : List (Addr × Str)) {K : PySem.W.Frag} {H : Hp} {Q : VK}
theorem rd_takeS {a : Addr} {zs : List Str} {i : Int} (h : H a = some (.lst (zs.map V.str))) (h0 : 0 ≤ i) (q : ∀ p H', Nw H p → Ext T [] H H' → H' p = some (.lst ((zs.take i.toNat).map V.str)) → Q (.ref p) H') : rSlU K (.ref a) none (some i) H Q :=
  rd_slL (SqL.of h) fun p hp => q p _ (.of hp) (.new hp) (by rw [cutV_to _ h0, ← List.map_take]; exact upd_same)
theorem rd_tupA {p : Addr} {ys : List V} (h : H p = some (.lst ys)) (q : ∀ l H', Nw H l → Ext T [] H H' → H' l = some (.tup ys) → Q (.ref l) H') : rTupOf K [.ref p] H Q := rd_tupL (SqL.of h) fun l hl => q l _ (.of hl) (.new hl) upd_same
theorem rd_sortA {a : Addr} {ds : List PyData} (h : Ls H a ds) (h1 : PySem.W.AllAlike ds) (h2 : PySem.W.Sortable ds) (h3 : ∀ d ∈ ds, d.depth ≤ 60) (q : ∀ p H' ys, Nw H p → Ext T [] H H' → H' p = some (.lst ys) → ImAll H' ys (srtD ds) → Q (.ref p) H') : rSortD K [.ref a] H Q :=
  rd_sortI h h1 h2 h3 fun p ys hp hy => q p _ ys (.of hp) (.new hp) upd_same (hy.new hp)
end
/-! ### a state: its items' tuple is a plain one -/
def StAt (H : Hp) (v : V) (s : Sta) : Prop := ∃ (a ia : Addr) (oa : V) (xs : List V) (o : Obj), v = .ref a ∧ H a = some (.tup [.ref ia, oa]) ∧ H ia = some (.frz o (.tup xs)) ∧ o.dict = none ∧ ImAll H xs (s.its.map rowD2) ∧ Im H oa (.tuple (s.on.map ssD))
theorem StAt.ext {T : List (Addr × Str)} {ms : List Addr} {H H' : Hp} {v : V} {s : Sta} (h : StAt H v s) (e : Ext T ms H H') (hm : Lsts H ms) : StAt H' v s := by
  obtain ⟨a, ia, oa, xs, o, e1, e2, e3, e4, e5, e6⟩ := h
  refine ⟨a, ia, oa, xs, o, e1, tup.ext (xs := [.ref ia, oa]) e2 e hm, e.keep ia _ (fun hb => ?_) (fun _ z => by cases z) e3, e4, ImAll.ext e hm _ _ e5, Im.ext e hm _ _ e6⟩
  obtain ⟨ys, hy⟩ := hm ia hb
  rw [e3] at hy
  cases hy
theorem StAt.x {T : List (Addr × Str)} {H H' : Hp} {v : V} {s : Sta} (h : StAt H v s) (e : Ext T [] H H') : StAt H' v s := h.ext e Lsts.nil
theorem StAt.y {T : List (Addr × Str)} {H H' : Hp} {l t : Addr} {v : V} {s : Sta} (h : StAt H v s) (e : Ext T [t] H H') (hT : Tape l H t) : StAt H' v s := h.ext e hT.lsts
theorem srt_two : srtS ["s1", "s2"] = (["s1", "s2"] : List Str) := List.mergeSort_of_pairwise (by decide +kernel)
theorem nodup_mapI {α β : Type} {f : α → β} (hf : ∀ a b, f a = f b → a = b) : ∀ {l : List α}, l.Nodup → (l.map f).Nodup
  | [], _ => by simp
  | x :: l, h => by
    rw [List.nodup_cons] at h
    rw [List.map_cons, List.nodup_cons]
    refine ⟨fun hm => ?_, nodup_mapI hf h.2⟩
    obtain ⟨y, hy, e⟩ := List.mem_map.mp hm
    rw [hf _ _ e] at hy
    exact h.1 hy
/-- an object made at p: what the new heap keeps -/
theorem alL {T : List (Addr × Str)} {H : Hp} {p : Addr} (h : H p = none) (xs : List V) : Nw H p ∧ Ext T [] H (upd H p (.lst xs)) ∧ (upd H p (.lst xs)) p = some (.lst xs) := ⟨.of h, .new h, upd_same⟩
theorem alT {T : List (Addr × Str)} {H : Hp} {p : Addr} (h : H p = none) (xs : List V) : Nw H p ∧ Ext T [] H (upd H p (.tup xs)) ∧ (upd H p (.tup xs)) p = some (.tup xs) := ⟨.of h, .new h, upd_same⟩
/-! ### items of data that pass a test -/
theorem SqF {K : PySem.W.Frag} {H : Hp} {a : Addr} {o : Obj} {xs : List V} (h : H a = some (.frz o (.tup xs))) : SqT K H a xs := .inl (.inr ⟨o, h⟩)
theorem frz.x {T : List (Addr × Str)} {H H' : Hp} {a : Addr} {o : Obj} {u : HO} (h : H a = some (.frz o u)) (e : Ext T [] H H') : H' a = some (.frz o u) := e.keep a _ (by simp) (fun _ z => by cases z) h
/-! ### deeds drawn -/
def DdOk (R : Rm) : Dd → Prop
  | .put s i => s ∈ slotsR R ∧ ItmOk s i
  | .on x z => idB x = true ∧ z ∈ R.zs.tail.map (·.1)
  | .off x z => idB x = true ∧ z ∈ R.zs.tail.map (·.1)
theorem zin {R : Rm} (h : RmIn R) {z : Str} (hz : z ∈ R.zs.tail.map (·.1)) : nameB z = true ∧ Sl.h z ∈ slotsR R := by
  obtain ⟨y, hy, rfl⟩ := List.mem_map.mp hz
  refine ⟨h.nm y (List.mem_of_mem_tail hy), ?_⟩
  unfold slotsR
  refine List.mem_append_left _ (List.mem_cons_of_mem _ (List.mem_flatMap.mpr ⟨y, hy, by simp⟩))
/-! ### lists of ids -/
structure CL (H : Hp) (t a : Addr) (n : Nat) (cs : List Str) : Prop where
  at_ : H a = some (.lst (cs.map V.str))
  ne : a ≠ t
  nd : cs.Nodup
  ok : ∀ y ∈ cs, idB y = true
  len : cs.length ≤ n
section
variable {T : List (Addr × Str)} {K : PySem.W.Frag} {H H' : Hp} {Q : VK} {l t a : Addr} {n : Nat} {cs : List Str}
theorem CL.x (h : CL H t a n cs) (e : Ext T [] H H') : CL H' t a n cs := ⟨lst.x h.at_ e, h.ne, h.nd, h.ok, h.len⟩
theorem CL.y (h : CL H t a n cs) (e : Ext T [t] H H') : CL H' t a n cs := ⟨lst.y h.at_ e h.ne, h.ne, h.nd, h.ok, h.len⟩
theorem CL.sub {ds : List Str} (h : CL H t a n cs) (hs : ds.Sublist cs) (p : Addr) (hp : H' p = some (.lst (ds.map V.str))) (hn : p ≠ t) : CL H' t p n ds := ⟨hp, hn, h.nd.sublist hs, fun y hy => h.ok y (hs.subset hy), Nat.le_trans hs.length_le h.len⟩
theorem CL.wide {m : Nat} (h : CL H t a n cs) (hm : n ≤ m) : CL H t a m cs := ⟨h.at_, h.ne, h.nd, h.ok, Nat.le_trans h.len hm⟩
theorem CL.take {i : Int} (h : CL H t a n cs) (hT : Tape l H t) (h0 : 0 ≤ i) (q : ∀ p H', Nw H p → Ext T [] H H' → CL H' t p n (cs.take i.toNat) → Q (.ref p) H') : rSlU K (.ref a) none (some i) H Q :=
  rd_takeS T h.at_ h0 fun p H' np e hp => q p H' np e (h.sub (List.take_sublist _ _) p hp (hT.ne np).1)
end
/-! ### what a new heap keeps, on demand -/
theorem al_of {T : List (Addr × Str)} {H G : Hp} {p : Addr} {o : HO} (np : H p = none) (hG : upd H p o = G) : Nw H p ∧ Ext T [] H G ∧ G p = some o := by
  subst hG
  exact ⟨.of np, .new np, upd_same⟩
section
variable {T : List (Addr × Str)} {H H' H1 : Hp}
theorem SqP.y {l t a : Addr} {xs : List V} (h : SqP H a xs) (e : Ext T [t] H H') (hT : Tape l H t) : SqP H' a xs := SqP.ext h e hT.lsts
theorem frz.y {l t a : Addr} {o : Obj} {u : HO} (h : H a = some (.frz o u)) (e : Ext T [t] H H') (hT : Tape l H t) : H' a = some (.frz o u) := e.keep a _ (fun hb => by
  obtain ⟨ys, hy⟩ := hT.lsts a hb
  rw [h] at hy
  cases hy) (fun _ z => by cases z) h
theorem Tape.ne1 {l t q : Addr} (p : Tape l H t) (h : Nw H q) : q ≠ t := (p.ne h).1
theorem Ext.back1 {p t : Addr} (e : Ext T [t] H H1) (hp : p ≠ t) (f : Nw H1 p) : Nw H p := e.back (by simpa using hp) f
theorem Ext.back0 {p : Addr} (e : Ext T [] H H1) (f : Nw H1 p) : Nw H p := e.back (by simp) f
end
/-! ### rows of deeds drawn -/
theorem zn_key {H : Hp} : ∀ {us ys : List V} {rs : List (Str × Int)}, ImAll H ys (rs.map siD) → EachIs (fun v x => ∃ r, Im H x (siD r) ∧ v = .str r.1) us ys → us = (rs.map (·.1)).map V.str := by
  intro us ys rs
  induction rs generalizing us ys with
  | nil =>
    intro h1 h2
    cases h1
    cases h2
    rfl
  | cons r rs ih =>
    intro h1 h2
    cases h1 with
    | cons a b =>
      cases h2 with
      | cons c d =>
        obtain ⟨r', c1, c2⟩ := c
        have e := Im.inj _ _ _ a c1
        injection e with e
        injection e with e _
        injection e with e
        rw [ih b d, c2, List.map_cons, List.map_cons, e]
/-- an item whose content may be of six ids: a move adds a server -/
structure ItmW (s : Sl) (i : Itm) : Prop where
  c : ∃ cs : List Str, i.c = srtS cs ∧ cs.Nodup ∧ (∀ y ∈ cs, idB y = true) ∧ cs.length ≤ 6
  g : ∃ gs : List Str, i.g = srtS gs ∧ gs.Nodup ∧ (∀ y ∈ gs, idB y = true) ∧ gs.length ≤ 3
  li : 1 ≤ i.li ∧ i.li ≤ 1000
  ab : 0 ≤ i.a ∧ i.a ≤ i.b ∧ i.b ≤ 10000
  h : ∀ z, s = .h z → i.g = [] ∧ i.a = 0 ∧ i.b = 10000
  kc : ∀ z, s = .k z → i.c ≠ []
theorem ItmOk.w {s : Sl} {i : Itm} (h : ItmOk s i) : ItmW s i := by
  obtain ⟨cs, h1, h2, h3, h4⟩ := h.c
  exact ⟨⟨cs, h1, h2, h3, by omega⟩, h.g, h.li, h.ab, h.h, h.kc⟩
def DdW (R : Rm) : Dd → Prop
  | .put s i => s ∈ slotsR R ∧ ItmW s i
  | .on x z => idB x = true ∧ z ∈ R.zs.tail.map (·.1)
  | .off x z => idB x = true ∧ z ∈ R.zs.tail.map (·.1)
theorem DdOk.w {R : Rm} {d : Dd} (h : DdOk R d) : DdW R d := by
  cases d with
  | put s i => exact ⟨h.1, h.2.w⟩
  | on x z => exact h
  | off x z => exact h
/-! ### a list of one's own that grows -/
section
variable {T : List (Addr × Str)} {H H' : Hp}
theorem Im.z {p : Addr} {v : V} {d : PyData} (h : Im H v d) (e : Ext T [p] H H') (hm : Lsts H [p]) : Im H' v d := Im.ext e hm _ _ h
theorem ImAll.z {p : Addr} {vs : List V} {ds : List PyData} (h : ImAll H vs ds) (e : Ext T [p] H H') (hm : Lsts H [p]) : ImAll H' vs ds := ImAll.ext e hm _ _ h
theorem StAt.z {p : Addr} {v : V} {s : Sta} (h : StAt H v s) (e : Ext T [p] H H') (hm : Lsts H [p]) : StAt H' v s := h.ext e hm
theorem SqP.z {p a : Addr} {xs : List V} (h : SqP H a xs) (e : Ext T [p] H H') (hm : Lsts H [p]) : SqP H' a xs := SqP.ext h e hm
theorem tup.z {p a : Addr} {xs : List V} (h : H a = some (.tup xs)) (e : Ext T [p] H H') (hm : Lsts H [p]) : H' a = some (.tup xs) := tup.ext h e hm
theorem Ls.z {p a : Addr} {ds : List PyData} (h : Ls H a ds) (e : Ext T [p] H H') (hm : Lsts H [p]) (ha : a ≠ p) : Ls H' a ds := h.ext e (by simpa using ha) hm
theorem lst.z {p a : Addr} {xs : List V} (h : H a = some (.lst xs)) (e : Ext T [p] H H') (ha : a ≠ p) : H' a = some (.lst xs) := e.lst (by simpa using ha) h
theorem CL.z {p a t : Addr} {n : Nat} {cs : List Str} (h : CL H t a n cs) (e : Ext T [p] H H') (ha : a ≠ p) : CL H' t a n cs := ⟨lst.z h.at_ e ha, h.ne, h.nd, h.ok, h.len⟩
end
/-! ### the program's chain is the law's chain -/
def keyOf : V → Int := fun v => match v with | .str z => ((labelsL z).length : Int) | _ => 0
def chainL (zs : List Str) (n : Str) : List V := ((zs.filter fun z => endsB n z).map V.str).mergeSort fun a b => decide (keyOf a ≤ keyOf b)
theorem suffix_or {n z : Str} (h : endsB n z = true) : z = dotS ∨ sg z <:+ sg n ∧ (sg z = sg n ∨ ∃ a, sg n = a ++ 46 :: sg z) := by
  unfold endsB at h
  rw [Bool.or_eq_true, Bool.or_eq_true] at h
  rcases h with h | h | h
  · exact .inl (of_decide_eq_true h)
  · rw [of_decide_eq_true h]
    exact .inr ⟨List.suffix_refl _, .inl rfl⟩
  · rw [endswith_iff, sg_app, sg_dot] at h
    obtain ⟨a, e⟩ := h
    refine .inr ⟨⟨a ++ [46], by rw [← e]; simp⟩, .inr ⟨a, by rw [← e]; simp⟩⟩
theorem count_lt {n u v : List Nat} (hu : u <:+ n) (hv : v = n ∨ ∃ a, n = a ++ 46 :: v) (hvs : v <:+ n) (hl : v.length < u.length) : v.count 46 < u.count 46 := by
  obtain ⟨a, ea⟩ := hu
  rcases hv with e | ⟨b, eb⟩
  · rw [e, ← ea, List.length_append] at hl
    omega
  · have hl2 : (46 :: v).length ≤ u.length := hl
    have h1 : (46 :: v) <:+ u := by
      refine List.suffix_of_suffix_length_le (l₃ := n) ⟨b, by rw [eb]⟩ ⟨a, ea⟩ hl2
    obtain ⟨x, ex⟩ := h1
    rw [← ex, List.count_append, List.count_cons_self]
    omega
theorem key_lab {z : Str} : keyOf (.str z) = if z = dotS then 0 else (((sg z).count 46 + 1 : Nat) : Int) := by
  show ((labelsL z).length : Int) = _
  unfold labelsL
  by_cases h : z = dotS
  · rw [if_pos h, if_pos h]
    rfl
  · rw [if_neg h, if_neg h, List.length_reverse, parts_len]
theorem key_inj {n u v : Str} (hu : endsB n u = true) (hv : endsB n v = true) (h : keyOf (.str u) = keyOf (.str v)) : u = v := by
  rw [key_lab, key_lab] at h
  rcases suffix_or hu with e1 | ⟨s1, c1⟩
  · rcases suffix_or hv with e2 | ⟨s2, c2⟩
    · rw [e1, e2]
    · by_cases e2 : v = dotS
      · rw [e1, e2]
      · rw [if_pos e1, if_neg e2] at h
        omega
  · by_cases e1 : u = dotS
    · by_cases e2 : v = dotS
      · rw [e1, e2]
      · rw [if_pos e1, if_neg e2] at h
        omega
    · by_cases e2 : v = dotS
      · rw [if_neg e1, if_pos e2] at h
        omega
      · rw [if_neg e1, if_neg e2] at h
        rcases suffix_or hv with e3 | ⟨s2, c2⟩
        · exact absurd e3 e2
        · refine sg_inj ?_
          rcases Nat.lt_trichotomy (sg u).length (sg v).length with hl | hl | hl
          · have := count_lt s2 c1 s1 hl
            omega
          · have h1 := List.suffix_iff_eq_drop.mp s1
            have h2 := List.suffix_iff_eq_drop.mp s2
            rw [h1, h2, hl]
          · have := count_lt s1 c2 s2 hl
            omega
def leK (a b : Str) : Bool := decide (keyOf (.str a) ≤ keyOf (.str b))
def chainS (zs : List Str) (n : Str) : List Str := (zs.filter fun z => endsB n z).mergeSort leK
theorem chainL_eq (zs : List Str) (n : Str) : chainL zs n = (chainS zs n).map V.str := by
  unfold chainL chainS
  exact (sort_maps V.str (fun a _ b _ => rfl)).symm
theorem name_pos {z : Str} (h : nameB z = true) : 1 ≤ z.length := by
  by_cases hz : z.length = 0
  · have e : z = ⟨#[]⟩ := by
      refine sg_inj ?_
      have : (sg z).length = 0 := by rw [sg_len]; exact hz
      rw [List.length_eq_zero_iff.mp this]
    rw [e] at h
    have h2 : nameB ⟨#[]⟩ = false := by decide +kernel
    rw [h2] at h
    cases h
  · omega
def lk (z : Str) : Int := if z = dotS then 0 else (z.length : Int)
theorem lk_lt {n u v : Str} (hu : endsB n u = true) (hv : endsB n v = true) (nu : nameB u = true) (nv : nameB v = true) : lk u < lk v ↔ keyOf (.str u) < keyOf (.str v) := by
  rw [key_lab, key_lab]
  unfold lk
  have pu := name_pos nu
  have pv := name_pos nv
  by_cases e1 : u = dotS
  · by_cases e2 : v = dotS
    · rw [if_pos e1, if_pos e2, if_pos e1, if_pos e2]
    · rw [if_pos e1, if_neg e2, if_pos e1, if_neg e2]
      omega
  · by_cases e2 : v = dotS
    · rw [if_neg e1, if_pos e2, if_neg e1, if_pos e2]
      omega
    · rw [if_neg e1, if_neg e2, if_neg e1, if_neg e2]
      rcases suffix_or hu with e | ⟨s1, c1⟩
      · exact absurd e e1
      rcases suffix_or hv with e | ⟨s2, c2⟩
      · exact absurd e e2
      rw [← sg_len u, ← sg_len v]
      rcases Nat.lt_trichotomy (sg u).length (sg v).length with hl | hl | hl
      · have := count_lt s2 c1 s1 hl
        omega
      · have h1 := List.suffix_iff_eq_drop.mp s1
        have h2 := List.suffix_iff_eq_drop.mp s2
        have : sg u = sg v := by rw [h1, h2, hl]
        rw [this]
        omega
      · have := count_lt s1 c2 s2 hl
        omega
theorem key_le {n u v : Str} (hu : endsB n u = true) (hv : endsB n v = true) (nu : nameB u = true) (nv : nameB v = true) : leK u v = dataLe false id (isD (lk u, u)) (isD (lk v, v)) := by
  rw [dataLe_eq]
  show leK u v = !PySem.W.dataLt (isD (lk v, v)) (isD (lk u, u))
  have h := lk_lt hv hu nv nu
  unfold isD leK
  rw [dataLt_pair (by rfl) (by rfl)]
  by_cases h1 : lk v = lk u
  · have h3 : ¬ lk u < lk v := by omega
    have h4 : ¬ lk v < lk u := by omega
    rw [h] at h4
    rw [lk_lt hu hv nu nv] at h3
    have e : v = u := key_inj hv hu (by omega)
    subst e
    rw [if_pos (by simp [PyData.eqv]), if_pos (by simp [PyData.eqv])]
    simp
  · rw [if_neg (by simp [PyData.eqv, h1]), dataLt_int]
    by_cases h2 : lk v < lk u
    · rw [decide_eq_true h2, decide_eq_false (by have := h.mp h2; omega)]
      rfl
    · rw [decide_eq_false h2, decide_eq_true (by have := mt h.mpr h2; omega)]
      rfl
theorem chain_chL {R : Rm} (h : RmIn R) (n : Str) : chainS (R.zs.map (·.1)) n = chL R n := by
  obtain ⟨lag, rest, e, hr⟩ := h.ne
  have e1 : chF R n = ((R.zs.map (·.1)).filter fun z => endsB n z).map fun z => (lk z, z) := by
    unfold chF
    have a1 : R.zs.filter (onZ n) = rest.filter fun z => endsB n z.1 := by
      rw [e, List.filter_cons_of_neg (by unfold onZ; simp)]
      refine List.filter_congr fun z hz => ?_
      unfold onZ
      rw [decide_eq_false (hr z hz)]
      rfl
    rw [a1, e, List.map_cons, List.filter_cons_of_pos (ends_dot n), List.map_cons, List.filter_map, List.map_map]
    rw [show lk dotS = 0 by unfold lk; rw [if_pos rfl]]
    refine congrArg (List.cons _) ?_
    refine List.map_congr_left fun z hz => ?_
    show _ = (lk z.1, z.1)
    unfold lk
    rw [if_neg (hr z (List.mem_filter.mp hz).1)]
  have e2 : srtIS (chF R n) = (((R.zs.map (·.1)).filter fun z => endsB n z).mergeSort leK).map fun z => (lk z, z) := by
    rw [e1]
    unfold srtIS
    refine (sort_maps (fun z => (lk z, z)) fun a ha b hb => ?_).symm
    obtain ⟨ya, hya, ea⟩ := List.mem_map.mp (List.mem_filter.mp ha).1
    obtain ⟨yb, hyb, eb⟩ := List.mem_map.mp (List.mem_filter.mp hb).1
    exact key_le (List.mem_filter.mp ha).2 (List.mem_filter.mp hb).2 (by rw [← ea]; exact h.nm _ hya) (by rw [← eb]; exact h.nm _ hyb)
  unfold chL chainS
  rw [e2, List.map_map]
  exact (List.map_id _).symm
/-! ### dict of a plain tuple of pairs whose keys are texts or numbers -/
section
variable {X : Cx}
theorem pairsK_of {pins : List (Addr × Obj)} {σ : L2.St} {H : Hp} {s : Shared} (I : Inv X pins σ H s) : ∀ {ps : List Addr} {kvs : List (L2.Key × V)}, Paired (fun p kv => SqT X.K H p [kV kv.1, kv.2]) ps kvs →
    ∃ (prs : List (L2.Key × Value)) (uvs : List (Value × Value)), KV kvs prs ∧ prs.length = ps.length ∧ uvs.length = ps.length ∧ ∀ (j : Nat) (q : Value × Value), uvs[j]? = some q → ∃ (b : Addr) (k : L2.Key), ps[j]? = some b ∧ IsTup s.heap b #[q.1, q.2] ∧ prs[j]? = some (k, q.2) ∧ (mixKind X.prog X.w).is k q.1 = true
  | _, _, .nil => ⟨[], [], .nil, rfl, rfl, fun j q e => by simp at e⟩
  | _, _, .cons (a := p) (b := kv) h t => by
    obtain ⟨prs, uvs, r, hl, hl2, hp⟩ := pairsK_of I t
    obtain ⟨its, rv, ht, _⟩ := I.tuple h
    obtain ⟨u, y, ei, ru, ry⟩ := vals2 rv
    subst ei
    refine ⟨(kv.1, y) :: prs, (u, y) :: uvs, .cons ⟨rfl, ry⟩ r, by rw [List.length_cons, List.length_cons, hl], by rw [List.length_cons, List.length_cons, hl2], fun j q e => ?_⟩
    cases j with
    | zero =>
      have e' : (u, y) = q := Option.some.inj e
      subst e'
      exact ⟨p, kv.1, rfl, ht, rfl, kV_is (P := X.prog) (w := X.w) ru⟩
    | succ j =>
      obtain ⟨b, k, e1, e2, e3, e4⟩ := hp j q (by simpa using e)
      exact ⟨b, k, by simpa using e1, e2, by simpa using e3, e4⟩
theorem call_dictK (K : PySem.W.Frag) (hK : X.K = K) (hcalm : X.calm = true) (hu : X.A.units + 64 < cLine) : CallR X (.type "dict") (rDictK K) := by
  subst hK
  intro pins s σ H xs us Q I r q
  obtain ⟨a, ps, kvs, ex, ⟨o, hdn, ha⟩, hp, q⟩ := q
  subst ex
  obtain ⟨u, eu, rx⟩ := vals1 r
  subst eu
  cases rx
  obtain ⟨hget, hz, its, rv, hit⟩ := (show ObjOk X.prog X.w H s.heap a (.frz o (.tup (ps.map V.ref))) from I.hok a _ ha)
  have ei := refs_at rv
  subst ei
  rw [List.length_map] at hz
  obtain ⟨prs, uvs, rel, hl, hl2, hpr⟩ := pairsK_of I hp
  obtain ⟨o', ho', hc, n, hd⟩ := hit
  have eo : o' = o := by
    rw [hget] at ho'
    exact (Option.some.inj ho').symm
  subst eo
  have hP := PySem.PairArg.tuple (prog := X.prog) (w := X.w) a (ps.map Value.ref).toArray (fun j => ps.getD j 0) uvs
  have hitem : PySem.PairItems s.heap (ps.map Value.ref).toArray (fun j => ps.getD j 0) uvs := by
    refine ⟨by simp [hl2], fun j k v e => ?_⟩
    obtain ⟨b, k', h1, h2, h3, h4⟩ := hpr j (k, v) e
    have e5 : ps.getD j 0 = b := by rw [List.getD_eq_getElem?_getD, h1]; rfl
    refine ⟨by simp [h1], ?_⟩
    show PySem.PairAt s.heap (ps.getD j 0) _ _
    rw [e5]
    exact .inl h2
  refine PySem.call_dict_pairs (knd := mixKind X.prog X.w) (kvs := prs) hP (I.ok.hd hcalm) ⟨⟨o', n, hget, hc, hdn, hd⟩, hitem⟩ ⟨by rw [hl, hl2], fun i key v e => ?_⟩ (by rw [hl2]; exact hz) fun h' tk hd' k => ?_
  · obtain ⟨b, k', h1, h2, h3, h4⟩ := hpr i (key, v) e
    exact ⟨k', h3, h4⟩
  · have hm : (s.heap.objs.size == sysModules) = false := beq_eq_false_iff_ne.mpr (Nat.ne_of_gt I.big)
    have hlen : (mergeK [] kvs).length ≤ sizeLine := by
      refine Nat.le_trans (length_mergeK kvs []) ?_
      rw [List.length_nil, Nat.zero_add, rel.length, hl]
      exact hz
    exact ⟨.ref s.heap.objs.size, upd H s.heap.objs.size (.dK (mergeK [] kvs)), I.laid (t' := tk) (fun b u e => k b u (by simp) e) (Nat.le_refl _) (show ObjOk X.prog X.w _ _ _ (.dK (mergeK [] kvs)) from ⟨hlen, hm, merged [] prs, KV.merge rel .nil, hd'⟩), rfl, q _ (I.hok.fresh (Nat.le_refl _))⟩
end
theorem Im.trip' {H : Hp} {v : V} {d1 d2 d3 : PyData} (h : Im H v (.tuple [d1, d2, d3])) : ∃ a x y z, v = .ref a ∧ SqP H a [x, y, z] ∧ Im H x d1 ∧ Im H y d2 ∧ Im H z d3 := by
  obtain ⟨a, xs, rfl, h1, h2⟩ := h.tup'
  cases h2 with
  | cons a1 t =>
    cases t with
    | cons a2 t =>
      cases t with
      | cons a3 t =>
        cases t
        exact ⟨a, _, _, _, rfl, h1, a1, a2, a3⟩
/-! ### spans, item by item -/
/-! ### how deep the data are -/
theorem dep_row2 (r : Sl × Itm) : (rowD2 r).depth ≤ 3 := by
  show max (slD r.1).depth (max (itD r.2).depth 0) + 1 ≤ 3
  have h1 := dep_sl r.1
  have h2 := dep_it r.2
  omega
theorem dep_st (s : Sta) : (stD s).depth ≤ 64 := by
  show max (PyData.depthAll (s.its.map rowD2) + 1) (max (PyData.depthAll (s.on.map ssD) + 1) 0) + 1 ≤ 64
  have h1 := dep_map dep_row2 s.its
  have h2 := dep_map dep_ss s.on
  omega
section
variable {K : PySem.W.Frag}
theorem StAt.dp {H : Hp} {v : V} {s : Sta} (h : StAt H v s) : Dp K H v (stD s) ∧ SeqAt.shaped (stD s) = true ∧ PyData.eqv (stD s) (stD s) = true := by
  obtain ⟨a, ia, oa, xs, o, rfl, ha, hia, hod, hxi, hoa⟩ := h
  refine ⟨.tup (SqT.of ha) (.cons (.tup (SqF hia) hxi.dp) (.cons hoa.dp .nil)), ?_, ?_⟩
  · unfold SeqAt.shaped
    rw [show PyData.canLay0 (stD s) = true from ?_, decide_eq_true (dep_st s)]
    · rfl
    · show (PyData.canLay0 (.tuple (s.its.map rowD2)) && (PyData.canLay0 (.tuple (s.on.map ssD)) && true)) = true
      rw [show PyData.canLay0 (.tuple (s.its.map rowD2)) = true from ImAll.lay _ _ hxi, show PyData.canLay0 (.tuple (s.on.map ssD)) = true from Im.lay _ _ hoa]
      rfl
  · show (PyData.eqvAll (s.its.map rowD2) (s.its.map rowD2) && (PyData.eqv (.tuple (s.on.map ssD)) (.tuple (s.on.map ssD)) && true)) = true
    rw [(ImAll.eqv _ _ _ _ hxi hxi).mpr rfl, (Im.eqv _ _ _ _ hoa hoa).mpr rfl]
    rfl
end
/-! ### a tuple of texts that the module has made: read, compared, a key of a dict -/
def TupK (K : PySem.W.Frag) (a : Addr) (xs : List V) : Prop := ∃ (o : Obj) (its : Array Value) (n : Nat), K.lookup a = some o ∧ o.cls = .type "tuple" ∧ o.data = .seq its n ∧ its.size ≤ sizeLine ∧ Vals xs its.toList
theorem TupK.sq {K : PySem.W.Frag} {H : Hp} {a : Addr} {xs : List V} (h : TupK K a xs) : SqT K H a xs := .inr h
/-- ('put', ROOT) and ROOT itself as data -/
def rootD : PyData := slD (.k dotS)
section
variable {K : PySem.W.Frag} {H : Hp} {Q : VK}
/-- what lies at the module's ROOT -/
def RootK (K : PySem.W.Frag) (ra : Addr) : Prop := TupK K ra [.str "keys", .str dotS]
theorem RootK.dp {ra : Addr} (h : RootK K ra) : Dp K H (.ref ra) rootD := .tup h.sq (.cons (.str _) (.cons (.str _) .nil))
end
theorem wipe_setG {σ : L2.St} {k : Nat} {x : Option V} : ∀ vs : List Nat, wipe (σ.set k x) vs = if k ∈ vs then wipe σ vs else (wipe σ vs).set k x
  | [] => rfl
  | v :: vs => by
    show (wipe (σ.set k x) vs).set v none = _
    rw [wipe_setG vs]
    by_cases h : k ∈ vs
    · rw [if_pos h, if_pos (List.mem_cons_of_mem _ h)]
      rfl
    · rw [if_neg h]
      by_cases e : k = v
      · subst e
        rw [if_pos List.mem_cons_self, List.set_set]
        rfl
      · rw [if_neg (by rw [List.mem_cons]; exact fun z => z.elim e h), List.set_comm _ _ e]
        rfl
theorem wipe_set {σ : L2.St} {k : Nat} {x : Option V} {vs : List Nat} (h : k ∈ vs) : wipe (σ.set k x) vs = wipe σ vs := by rw [wipe_setG, if_pos h]
theorem wipe_wipeG {σ : L2.St} {vs : List Nat} : ∀ us : List Nat, (∀ u ∈ us, u ∈ vs) → wipe (wipe σ us) vs = wipe σ vs
  | [], _ => rfl
  | u :: us, h => by
    show wipe ((wipe σ us).set u none) vs = _
    rw [wipe_set (h u List.mem_cons_self), wipe_wipeG us fun u hu => h u (List.mem_cons_of_mem _ hu)]
theorem wipe_wipe {σ : L2.St} {vs : List Nat} : wipe (wipe σ vs) vs = wipe σ vs := wipe_wipeG vs fun _ h => h
/-- a comprehension over data, told item by item; its elements are data -/
theorem lcg_fm (T : List (Addr × Str)) {α : Type} (f g : α → PyData) (c : α → Bool) {σ : L2.St} {H : Hp} {Q : VK} {J : It} {n : Nat} {G : Hp → Prop} {Y : Nat → Hp → V → Hp → Prop} {gT : TG} {tt : TT} {te : TE} {vs : List Nat} (w : Walk J n G Y) {xs : List V} {as : List α} (hx : ImAll H xs (as.map f)) (hn : n = xs.length)
    (hY : ∀ i H x H', Y i H x H' → H' = H ∧ xs[i]? = some x) (hG : ∀ H', Ext T [] H H' → G H') (hl : as.length ≤ 100000)
    (step : ∀ (i : Nat) (a : α) (x : V), as[i]? = some a → ∀ H', Ext T [] H H' → Im H' x (f a) → ∀ (R : V → Hp → Prop) (S : Hp → Prop), (c a = true → ∀ v H2, Ext T [] H' H2 → Im H2 v (g a) → R v H2) → (c a = false → ∀ H2, Ext T [] H' H2 → S H2) →
      gT x (wipe σ vs) H' fun σ2 H2 => wipe σ2 vs = wipe σ vs ∧ tt σ2 H2 fun b H3 => if b = true then te σ2 H3 R else S H3)
    (q : ∀ D H2, Nw H D → Ext T [] H H2 → Ls H2 D ((as.filter c).map g) → Q (.ref D) H2) : LcG J gT tt te vs σ H Q := fun D hD => by
  have hxl : xs.length = as.length := by rw [hx.len, List.length_map]
  refine lc_it w (fun i H2 => Ext T [] H H2 ∧ Ls H2 D (((as.take i).filter c).map g)) ⟨.new hD, ⟨[], upd_same, .nil⟩⟩ (fun i H2 _ h => hG H2 h.1) (fun i x H1 H' hi h y => ?_) (fun H1 h => ?_)
  · obtain ⟨e1, e2⟩ := hY i H1 x H' y
    subst e1
    obtain ⟨h1, h3⟩ := h
    obtain ⟨d, hd, hxd⟩ := hx.get' e2
    rw [List.getElem?_map] at hd
    obtain ⟨a, ha, rfl⟩ := Option.map_eq_some_iff.mp hd
    have et : as.take (i + 1) = as.take i ++ [a] := by rw [List.take_add_one, ha]; rfl
    have hD0 : D ∉ ([] : List Addr) := by simp
    refine step i a x ha H' h1 (Im.ext h1 Lsts.nil _ _ hxd) _ _ (fun hp v H2 e hv => ?_) (fun hp H2 e => ?_)
    · obtain ⟨acc, h5, h6⟩ := h3.ext e hD0 Lsts.nil
      refine ⟨acc, h5, ?_, (h1.trans e).own (.of hD) h5, ?_⟩
      · refine Nat.lt_of_le_of_lt ?_ (Nat.lt_of_le_of_lt hl (show (100000 : Nat) < sizeLine by decide))
        rw [h6.len, List.length_map]
        exact Nat.le_trans (List.length_filter_le _ _) (by rw [List.length_take]; exact Nat.min_le_right _ _)
      · have eD : Ext T [D] H2 (upd H2 D (.lst (acc ++ [v]))) := Ext.mut (by simp) h5
        have hLD : Lsts H2 [D] := fun b hb => ⟨acc, by rw [List.mem_singleton.mp hb]; exact h5⟩
        refine ⟨acc ++ [v], upd_same, ?_⟩
        rw [et, List.filter_append, List.filter_cons_of_pos hp, List.map_append]
        exact (ImAll.ext eD hLD _ _ h6).snoc (Im.ext eD hLD _ _ hv)
    · refine ⟨h1.trans e, ?_⟩
      rw [et, List.filter_append, List.filter_cons_of_neg (by rw [hp]; decide), List.filter_nil, List.append_nil]
      exact h3.ext e hD0 Lsts.nil
  · obtain ⟨h1, h3⟩ := h
    rw [hn, hxl, List.take_length] at h3
    exact q D H1 (.of hD) h1 h3
/-! an own exception whose __init__ says super().__init__(f"..") and keeps its one argument -/
section
open PySem.W PySem.Calls PySem.HandSPX
def supA (fld : Str) (p1 p2 : Pos) : Arguments := { posonlyargs := [], args := [{ arg := "self", annotation := none, pos := p1 }, { arg := fld, annotation := none, pos := p2 }], vararg := none, kwonlyargs := [], kw_defaults := [], kwarg := none, defaults := [] }
def supB (fld : Str) (parts : List Expr) (ps : List Pos) (q1 q2 q3 q4 : Pos) : List Stmt :=
  [.Expr (.Call (.Attribute (.Call (.Name "super" (ps.getD 0 ⟨0, 0, 0, 0⟩)) [] [] (ps.getD 1 ⟨0, 0, 0, 0⟩)) "__init__" (ps.getD 2 ⟨0, 0, 0, 0⟩)) [.JoinedStr parts (ps.getD 3 ⟨0, 0, 0, 0⟩)] [] (ps.getD 4 ⟨0, 0, 0, 0⟩)) (ps.getD 5 ⟨0, 0, 0, 0⟩),
   .Assign [.Attribute (.Name "self" q1) fld q2] (.Name fld q3) q4]
def supS (fld : Str) : Scope := { kind := .function, names := [(PySem.Str.ofString "self", .local), (fld, .local), (PySem.Str.ofString "__class__", .free), (PySem.Str.ofString "super", .globalImplicit)], isGenerator := false, isCoroutine := false, more := [] }
/-- a word or a number that an f-string shows -/
def Showable (v : Value) : Prop := (∃ z t, v = .str z t ∧ z.length ≤ 1000) ∨ ∃ i t, v = .int i t ∧ i.natAbs.log2 < 1920
/-- the f-string gives some text -/
def PartsOk (fld : Str) (parts : List Expr) (jp : Pos) : Prop := ∀ (prog : Program) (w : World) (A : Around) (E : Value → Shared → Prop) (qual : Str) (L a cc : Addr) (cd : Value) (s : Shared) (m : Str → Option Value) (v : Value) (Q : Value → Shared → Prop),
  s.heap.Ns L m → m fld = some v → Showable v → (∀ z tk t', Q (.str z tk) { s with toks := t' }) → wpAny (model prog w) A (eval (.JoinedStr parts jp) (ksEnv qual (supS fld) L a cd cc)) Q E s
def pz (ps : List Pos) (i : Nat) : Pos := ps.getD i ⟨0, 0, 0, 0⟩
def CallOk (fld : Str) (parts : List Expr) (ps : List Pos) : Prop := ∀ (qual : Str) (L a cc : Addr) (cd : Value), ∃ pl : Sem Bool,
  eval (.Call (.Attribute (.Call (.Name "super" (pz ps 0)) [] [] (pz ps 1)) "__init__" (pz ps 2)) [.JoinedStr parts (pz ps 3)] [] (pz ps 4)) (ksEnv qual (supS fld) L a cd cc) = (do
      let ov ← attributeBase (.Call (.Name "super" (pz ps 0)) [] [] (pz ps 1)) "__init__" (ksEnv qual (supS fld) L a cd cc) (eval (.Call (.Name "super" (pz ps 0)) [] [] (pz ps 1)) (ksEnv qual (supS fld) L a cd cc))
      standAt (pz ps 2).atName
      let (f, first) ← holding [ov] (getMethod ov "__init__" pl)
      callWith (pz ps 4) f first (backTo (pz ps 4) (starEach [.JoinedStr parts (pz ps 3)] (ksEnv qual (supS fld) L a cd cc))) [])
structure SupTxt (P : Program) (K : Frag) (mg : Str → Option Value) (nm fld : Str) (C fI : Addr) : Prop where
  gC : mg nm = some (.ref C)
  cls : ∃ nm q N bs bm sn sub ab col dd k0 k1 k2 k3 k5, K.lookup C = some (excClassObj nm q C N bs bm true sn sub ab col dd k0 k1 k2 k3 k5 "ValueError.__new__") ∧ refsVE bm = true
  sa : findIn K (.ref C) "__setattr__" = some (some (.builtin "object.__setattr__"))
  ga : findIn K (.ref C) "__getattribute__" = some (some (.builtin "BaseException.__getattribute__"))
  gg : findIn K (.ref C) "__getattr__" = some none
  noN : findIn K (.ref C) fld = some none
  iC : findIn K (.ref C) "__init__" = some (some (.ref fI))
  tC : typeIn K (.ref fI) = some (.type "function")
  kC : keepIn K (.ref C) = true
  exC : subIn K (.ref C) (.type "BaseException") = some true
  tyC : typeIn K (.ref C) = some (.type "type")
  hdC : hasDictIn K C = true
  te : exmOne K (.ref C) (.ref C) = some true
  sup : ks_superIn K C C "__init__" = some (some (.builtin "ValueError.__init__"))
  subV : subIn K (.ref C) (.type "ValueError") = some true
  selfC : mroIn K C (.ref C) = some true
  gsup : nsIn K mainGlobals "super" = some none
  opq : nsIn K cStatics "thirdparty.any" = some none
  htop : (P.main.scope.names.lookup ("super" : Str)).isSome = false
  fn : ∃ (oc : Value) (od : Option Addr) (doc pm kV : Value) (an : Option Addr) (cda cc : Addr) (ct : Value) (osl : Array (Option Value)) (p1 p2 q1 q2 q3 q4 : Pos) (ps : List Pos) (parts : List Expr) (qual : Str),
    K.lookup fI = some ⟨oc, od, .func (ksFn "__init__" qual (supA fld p1 p2) (supB fld parts ps q1 q2 q3 q4) (supS fld) .none kV doc pm an (.ref cda) ct cc), osl⟩ ∧ codeIn K (.ref cda) qual = true ∧
    (∃ ccl cdd vs ccs file tf, K.lookup cda = some ⟨ccl, cdd, .fields vs, ccs⟩ ∧ vs[2]? = some (.str file tf) ∧ ((P.main.file : Str) == file) = true) ∧
    (∃ cl cld csl, K.lookup cc = some ⟨cl, cld, .cell (some (.ref C)), csl⟩) ∧ PartsOk fld parts (pz ps 3) ∧ CallOk fld parts ps
end
/-! ### rows of moments: the least moments, and what a round of raising does -/
abbrev Rw := Nat × Nat × Int
def RwIn (n : Nat) (rs : List Rw) : Prop := ∀ r ∈ rs, r.1 ≤ n ∧ r.2.1 ≤ n
def fn (m : List Int) (k : Nat) : Int := m.getD k 0
structure Feas (rs : List Rw) (m : Nat → Int) : Prop where
  zero : m 0 = 0
  nn : ∀ k, 0 ≤ m k
  rows : ∀ r ∈ rs, m r.2.1 + r.2.2 ≤ m r.1
def Least (rs : List Rw) (n : Nat) (t : List Int) : Prop := t.length = n ∧ Feas rs (fn (0 :: t)) ∧ ∀ m, Feas rs m → ∀ k, fn (0 :: t) k ≤ m k
def LM (rs : List Rw) (n : Nat) : Option (List Int) → Prop
  | some t => Least rs n t
  | none => ∀ m, ¬ Feas rs m
theorem nat_min {P : Nat → Prop} : ∀ (n : Nat), P n → ∃ m, P m ∧ ∀ k, P k → m ≤ k := by
  intro n
  induction n using Nat.strongRecOn with
  | _ n ih =>
    intro h
    by_cases e : ∃ k, k < n ∧ P k
    · obtain ⟨k, h1, h2⟩ := e
      exact ih k h1 h2
    · exact ⟨n, h, fun k hk => Nat.le_of_not_lt fun hl => e ⟨k, hl, hk⟩⟩
theorem least_of {rs : List Rw} {m0 : Nat → Int} (h : Feas rs m0) : ∃ M, Feas rs M ∧ ∀ m, Feas rs m → ∀ k, M k ≤ m k := by
  have key : ∀ k, ∃ v : Int, (∃ m, Feas rs m ∧ m k = v) ∧ ∀ m, Feas rs m → v ≤ m k := fun k => by
    obtain ⟨v, ⟨m, h1, h2⟩, h3⟩ := nat_min (P := fun v => ∃ m, Feas rs m ∧ m k = (v : Int)) (m0 k).toNat ⟨m0, h, by have := h.nn k; omega⟩
    refine ⟨v, ⟨m, h1, h2⟩, fun m' h' => ?_⟩
    have := h3 (m' k).toNat ⟨m', h', by have := h'.nn k; omega⟩
    have := h'.nn k
    omega
  refine ⟨fun k => (key k).choose, ⟨?_, fun k => ?_, fun r hr => ?_⟩, fun m hm k => (key k).choose_spec.2 m hm⟩
  · obtain ⟨m, h1, h2⟩ := (key 0).choose_spec.1
    rw [← h2]
    exact h1.zero
  · obtain ⟨m, h1, h2⟩ := (key k).choose_spec.1
    rw [← h2]
    exact h1.nn k
  · obtain ⟨m, h1, h2⟩ := (key r.1).choose_spec.1
    have h3 := (key r.2.1).choose_spec.2 m h1
    have h4 := h1.rows r hr
    show (key r.2.1).choose + r.2.2 ≤ (key r.1).choose
    rw [← h2]
    omega
/-- how many of the numbers up to n are not yet at their least -/
def offs (M m : Nat → Int) (n : Nat) : Nat := (List.range (n + 1)).countP fun k => decide (m k ≠ M k)
theorem offs_zero {M m : Nat → Int} {n : Nat} (h : offs M m n = 0) : ∀ k, k ≤ n → m k = M k := fun k hk => by
  unfold offs at h
  rw [List.countP_eq_zero] at h
  have h2 := h k (List.mem_range.mpr (by omega))
  exact Classical.byContradiction fun e => h2 (decide_eq_true e)
/-! ### a round over a list of moments -/
/-- the state of the moments within the law's own search: a is the state at the begin of the round -/
structure Mid (rs : List Rw) (n : Nat) (a m : List Int) (i : Nat) : Prop where
  len : m.length = n + 1
  up : ∀ k, fn a k ≤ fn m k
  le : ∀ M, Feas rs M → ∀ k, fn m k ≤ M k
  rows : ∀ r ∈ rs.take i, fn a r.2.1 + r.2.2 ≤ fn m r.1
/-! ### the program's search: moments, causes, and what was raised last -/
structure SS where
  m : List Int
  c : List (Option Rw)
  r : Option Nat
def SS.step (s : SS) (w : Rw) : SS := if fn s.m w.1 < fn s.m w.2.1 + w.2.2 then ⟨s.m.set w.1 (fn s.m w.2.1 + w.2.2), s.c.set w.1 (some w), some w.1⟩ else s
def SS.pass (ws : List Rw) (s : SS) : SS := ws.foldl SS.step ⟨s.m, s.c, none⟩
def allRows (rs : List Rw) (n : Nat) : List Rw := rs ++ (List.range (n + 1)).map fun k => (k, 0, 0)
def SS.zero (n : Nat) : SS := ⟨List.replicate (n + 1) 0, List.replicate (n + 1) none, none⟩
theorem allRows_in {rs : List Rw} {n : Nat} (h : RwIn n rs) : RwIn n (allRows rs n) := fun r hr => by
  rcases List.mem_append.mp hr with hr | hr
  · exact h r hr
  · obtain ⟨k, hk, rfl⟩ := List.mem_map.mp hr
    have := List.mem_range.mp hk
    exact ⟨by show k ≤ n; omega, Nat.zero_le _⟩
theorem Feas.all {rs : List Rw} {n : Nat} {M : Nat → Int} (h : Feas rs M) : ∀ r ∈ allRows rs n, M r.2.1 + r.2.2 ≤ M r.1 := fun r hr => by
  rcases List.mem_append.mp hr with hr | hr
  · exact h.rows r hr
  · obtain ⟨k, hk, rfl⟩ := List.mem_map.mp hr
    show M 0 + 0 ≤ M k
    have := h.zero
    have := h.nn k
    omega
structure Search (rs : List Rw) (n i : Nat) (s : SS) : Prop where
  len : s.m.length = n + 1
  clen : s.c.length = n + 1
  nn : ∀ k, 0 ≤ fn s.m k
  le : ∀ M, Feas rs M → ∀ k, fn s.m k ≤ M k
  off : ∀ M, Feas rs M → (∀ m, Feas rs m → ∀ k, M k ≤ m k) → offs M (fn s.m) n ≤ n - i
theorem Search.never {rs : List Rw} {n i : Nat} {s : SS} (h : Search rs n i s) (hn : RwIn n rs) (hi : n ≤ i) (hr : (s.pass (allRows rs n)).r ≠ none) : LM rs n none := fun m0 h0 => by
  obtain ⟨M, hM, hl⟩ := least_of h0
  have hz := offs_zero (Nat.le_zero.mp (Nat.le_trans (h.off M hM hl) (by omega)))
  -- nothing is raised where all are at their least
  have key : ∀ ws : List Rw, (∀ r ∈ ws, r ∈ allRows rs n) → (ws.foldl SS.step ⟨s.m, s.c, none⟩) = ⟨s.m, s.c, none⟩ := by
    intro ws
    induction ws with
    | nil => intro _; rfl
    | cons w ws ih =>
      intro hw
      have h1 := hw w List.mem_cons_self
      have h2 := hM.all w h1
      obtain ⟨h3, h4⟩ := allRows_in hn w h1
      have e : SS.step ⟨s.m, s.c, none⟩ w = ⟨s.m, s.c, none⟩ := if_neg (by
        show ¬ fn s.m w.1 < fn s.m w.2.1 + w.2.2
        rw [hz _ h3, hz _ h4]
        omega)
      rw [List.foldl_cons, e]
      exact ih fun r hr => hw r (List.mem_cons_of_mem _ hr)
  refine hr ?_
  show ((allRows rs n).foldl SS.step ⟨s.m, s.c, none⟩).r = none
  rw [key _ fun _ h => h]
/-! ### the law's own search -/
/-! ### a list or a tuple, by one word -/
def SqK (K : PySem.W.Frag) (kd : Bool) (H : Hp) (a : Addr) (xs : List V) : Prop := if kd = true then SqL K H a xs else SqT K H a xs
theorem SqK.l {K : PySem.W.Frag} {H : Hp} {a : Addr} {xs : List V} (h : SqL K H a xs) : SqK K true H a xs := h
theorem SqK.ext {K : PySem.W.Frag} {kd : Bool} {T : List (Addr × Str)} {ms : List Addr} {H H' : Hp} {a : Addr} {xs : List V} (h : SqK K kd H a xs) (e : Ext T ms H H') (ha : a ∉ ms) : SqK K kd H' a xs := by
  cases kd with
  | true => exact e.seqL ha h
  | false => exact e.seqT ha h
theorem SqK.x {K : PySem.W.Frag} {kd : Bool} {T : List (Addr × Str)} {H H' : Hp} {a : Addr} {xs : List V} (h : SqK K kd H a xs) (e : Ext T [] H H') : SqK K kd H' a xs := h.ext e (by simp)
theorem SqK.or {K : PySem.W.Frag} {kd : Bool} {H : Hp} {a : Addr} {xs : List V} (h : SqK K kd H a xs) : SqT K H a xs ∨ SqL K H a xs := by
  cases kd with
  | true => exact .inr h
  | false => exact .inl h
/-- what is made later may change -/
theorem SqK.own {K : PySem.W.Frag} {kd : Bool} {T : List (Addr × Str)} {H H' : Hp} {a p : Addr} {xs : List V} (h : SqK K kd H a xs) (np : Nw H p) (e : Ext T [p] H H') : SqK K kd H' a xs := by
  have key : ∀ o, (∀ ps, o ≠ .tbl ps) → H a = some o → H' a = some o := fun o ho h1 => e.keep a o (by
    intro hm
    have := np.ne h1 ho
    simp at hm
    exact this hm) ho h1
  cases kd with
  | true =>
    rcases h with (h | ⟨o, h⟩) | h
    · exact .inl (.inl (key _ (fun _ z => by cases z) h))
    · exact .inl (.inr ⟨o, key _ (fun _ z => by cases z) h⟩)
    · exact .inr h
  | false =>
    rcases h with (h | ⟨o, h⟩) | h
    · exact .inl (.inl (key _ (fun _ z => by cases z) h))
    · exact .inl (.inr ⟨o, key _ (fun _ z => by cases z) h⟩)
    · exact .inr h
/-- data in a list or a tuple -/
def DsK (K : PySem.W.Frag) (kd : Bool) (H : Hp) (a : Addr) (ds : List PyData) : Prop := ∃ xs, SqK K kd H a xs ∧ ImAll H xs ds
theorem DsK.x {K : PySem.W.Frag} {kd : Bool} {T : List (Addr × Str)} {H H' : Hp} {a : Addr} {ds : List PyData} (h : DsK K kd H a ds) (e : Ext T [] H H') : DsK K kd H' a ds := by
  obtain ⟨xs, h1, h2⟩ := h
  exact ⟨xs, h1.x e, h2.x e⟩
section
variable {K : PySem.W.Frag} {σ : L2.St} {H : Hp} {Q : VK} {te : TE}
theorem rd_isBl {a b : Bool} (q : Q (.bl (decide (a = b))) H) : rIsU (.bl a) (.bl b) H Q := .inl ⟨a, b, rfl, rfl, q⟩
theorem rd_isnBl {a b : Bool} (q : Q (.bl (!decide (a = b))) H) : rIsNU (.bl a) (.bl b) H Q := .inl ⟨a, b, rfl, rfl, q⟩
end
/-! ### walked, whichever of the two it is -/
/-! ### rows of three numbers -/
theorem Ls.app {T : List (Addr × Str)} {H : Hp} {a : Addr} {xs : List V} {ds : List PyData} {v : V} {d : PyData} (ha : H a = some (.lst xs)) (hi : ImAll H xs ds) (hv : Im H v d) : Ls (upd H a (.lst (xs ++ [v]))) a (ds ++ [d]) ∧ Ext T [a] H (upd H a (.lst (xs ++ [v]))) := by
  have eD : Ext T [a] H (upd H a (.lst (xs ++ [v]))) := Ext.mut (by simp) ha
  have hLD : Lsts H [a] := fun b hb => ⟨xs, by rw [List.mem_singleton.mp hb]; exact ha⟩
  exact ⟨⟨_, upd_same, (ImAll.ext eD hLD _ _ hi).snoc (Im.ext eD hLD _ _ hv)⟩, eD⟩
/-! ### causes: where they lead -/
def cz (c : List (Option Rw)) (k : Nat) : Option Rw := c.getD k none
/-! ### the way along the causes -/
def cs (c : List (Option Rw)) (k : Nat) : Rw := (cz c k).getD (0, 0, 0)
/-! ### rings -/
/-! ### the least of a list of data: one of its elements -/
/-! ### a slice that is the whole tuple: the tuple itself -/
namespace HTW
open PySem.W PySem.Calls HT
section
variable {prog : Program} {w : World} {A : Around} {E : Value → Shared → Prop} {s : Shared}
theorem tupleIsExact_ {t : Addr} {items : Array Value} {Q : Bool → Shared → Prop} (ht : IsTup s.heap t items) (h : Q true s) : wpAny (model prog w) A (Builtin.Tuple.tupleIsExact (.ref t)) Q E s := by
  obtain ⟨o, ho, hc, n, hd⟩ := id ht
  unfold Builtin.Tuple.tupleIsExact
  refine wpAny_bind (wpAny_typeOf ht.typeIs ?_)
  exact wpAny_pure h
theorem getItem_tuple_whole {t sl : Addr} {items : Array Value} {vl vu : Value} {lo hi : Option Int} {Q : Value → Shared → Prop} (ht : IsTup s.heap t items) (hs : s.heap.IsSliceOf sl vl vu .none) (pl : IsPart vl lo) (pu : IsPart vu hi)
    (hw : sIx items.size 0 lo = 0 ∧ sIx items.size items.size hi = items.size)
    (h : Q (.ref t) s) : wpAny (model prog w) A (getItem (.ref t) (.ref sl)) Q E s := by
  obtain ⟨os, hos, hcs, hds⟩ := id hs
  have hTs : s.TypeIs (.ref sl) "slice" := ⟨os, hos, hcs⟩
  unfold getItem
  try with_reducible refine wpAny_holding ?_
  first | refine wpAny_bind (wpAny_pure ?_) | skip
  refine wpAny_bind (wpAny_sequenceKey ht.typeIs (by decide) ?_)
  refine wpAny_bind (wpAny_callSpecial?_slot (name := Str.ofString "__getitem__") ht.typeIs PyProof.Rows.slot_tuple_getitem
    (wpAny_call_entry PyProof.Rows.slot_tuple_getitem ht.typeIs entry_tuple_getitem ?_ (args_tuple_getitem _ _)))
  show wpAny _ _ (Builtin.Tuple.tupleItemsOf (.ref t) >>= _) _ _ s
  refine wpAny_bind (tupleItemsOf_ ht ?_)
  refine wpAny_bind (wpAny_typeOf hTs ?_)
  rw [if_pos (by decide)]
  refine wpAny_bind (sliceApplied_gen hs pl pu ?_)
  have hyes : (((sIx items.size 0 lo : Nat) : Int) == 0 && (1 : Int) == 1 && (sIx items.size items.size hi - sIx items.size 0 lo) == items.size) = true := by
    rw [hw.1, hw.2]
    simp
  show wpAny _ _ (if (((sIx items.size 0 lo : Nat) : Int) == 0 && (1 : Int) == 1 && (sIx items.size items.size hi - sIx items.size 0 lo) == items.size) = true then _ else _) _ _ s
  rw [if_pos hyes]
  refine wpAny_bind (tupleIsExact_ ht ?_)
  rw [if_pos rfl]
  first
    | exact wpAny_bind (wpAny_rule (wpAny_bind (wpAny_pure (wpAny_pure ⟨_, rfl, wpAny_pure h⟩))))
    | exact wpAny_bind (wpAny_rule (wpAny_pure ⟨_, rfl, wpAny_pure h⟩))
    | exact wpAny_bind (wpAny_rule (wpAny_bind (wpAny_pure ⟨_, rfl, wpAny_pure h⟩)))
end
end HTW
section
def rSlW (K : PySem.W.Frag) : V → Option Int → Option Int → Hp → VK → Prop := fun x lo hi H Q => ∃ a xs, x = .ref a ∧ SqT K H a xs ∧ HT.sIx xs.length 0 lo = 0 ∧ HT.sIx xs.length xs.length hi = xs.length ∧ Q (.ref a) H
theorem sl_tupW {X : Cx} : SlR X (rSlW X.K) := by
  intro pins s σ H x v vl vu lo hi sl Q I rx hs pl pu h
  obtain ⟨a, xs, rfl, hx, hw1, hw2, q⟩ := h
  cases rx
  obtain ⟨its, r, ht, hz⟩ := I.tuple hx
  have hlen : its.toArray.size = xs.length := by rw [List.size_toArray]; exact r.length.symm
  refine ⟨"tuple", _, PyProof.Rows.slot_tuple_getitem.lookup, ht.typeIs, ?_⟩
  exact HTW.getItem_tuple_whole ht hs pl pu (by rw [hlen]; exact ⟨hw1, hw2⟩) ⟨.ref a, H, I, rfl, q⟩
def rSlU2 (K : PySem.W.Frag) : V → Option Int → Option Int → Hp → VK → Prop := fun x lo hi H Q => rSlU K x lo hi H Q ∨ rSlW K x lo hi H Q
theorem sl_U2 {X : Cx} (K : PySem.W.Frag) (hK : X.K = K) : SlR X (rSlU2 K) := by
  have h := sl_U (X := X) K hK
  subst hK
  exact h.or sl_tupW
end
/-! a caught exception with its own dict: isinstance, fields; defs that may raise -/
section
/-- what is more to be seen of such a class -/
structure ExcT (P : Program) (K : PySem.W.Frag) (mg : Str → Option Value) (nm fld : Str) (C fI : Addr) : Prop extends SupTxt P K mg nm fld C fI where
  ec : ExcC K C
/-! ### a def that may raise, found by its name -/
def OkX (P : Program) (w : World) (K : PySem.W.Frag) (mg : Str → Option Value) (base : Heap) (k : Nat) (x : Str) (ps : List Str) (sp : Sp) : Prop :=
  ∃ (f : Addr) (fd : FuncData), FnOk P w K mg base (L2.CX P w) k f fd ps sp ∧ mg x = some (.ref f) ∧ PySem.W.keepIn K (.ref f) = true ∧ Binds K fd ps []
section
variable {P : Program} {w : World} {K : PySem.W.Frag} {mg : Str → Option Value} {base : Heap}
theorem OkX.mono {j k : Nat} {x : Str} {ps : List Str} {sp : Sp} (h : OkX P w K mg base j x ps sp) (hk : j ≤ k) : OkX P w K mg base k x ps sp := by
  obtain ⟨f, fd, F, r⟩ := h
  exact ⟨f, fd, F.mono hk, r⟩
end
end
/-! ### tables of waits: words, numbers, promises -/
section
variable {X : Cx}
theorem pi_zipAU (K : PySem.W.Frag) (hK : X.K = K) {e e2 : Expr} {ta : TA} {p pos tpos : Pos} {elts : List Expr} {kk : Nat} (hg : Gl X "zip") (hm : X.mg "zip" = none) (ha : PA X [e, e2] ta)
    (h1 : starEach [e, e2] X.env = (false, eval e X.env) :: starEach [e2] X.env := by rfl) (h2 : (backTo pos (starEach [e2] X.env)).any (·.1) = false := by rfl) : PI X (.Tuple elts kk tpos) (.Call (.Name "zip" p) [e, e2] [] pos) (RZ.iZipA K ta) := by
  subst hK
  exact RZ.pi_zipA hg hm ha h1 h2
end
section
variable {K : PySem.W.Frag} {σ : L2.St} {H : Hp} {Q : VK} {te : TE}
theorem rd_zipA {ta : TA} {R : It → Hp → Prop} (q : ta σ H fun vs H1 => ∃ a b xs ys, vs = [V.ref a, V.ref b] ∧ ((SqL K H1 a xs ∧ SqL K H1 b ys ∧ R (Itz K a b) H1) ∨ (SqT K H1 a xs ∧ SqT K H1 b ys ∧ R (RZ.ItzT K a b) H1))) : RZ.iZipA K ta σ H R := q
theorem rd_slW {a : Addr} {xs : List V} {lo hi : Option Int} (h : SqT K H a xs) (h1 : HT.sIx xs.length 0 lo = 0) (h2 : HT.sIx xs.length xs.length hi = xs.length) (q : Q (.ref a) H) : rSlU2 K (.ref a) lo hi H Q := .inr ⟨a, xs, rfl, h, h1, h2, q⟩
theorem rd_slT2 {a : Addr} {xs : List V} {lo hi : Option Int} (h : SqT K H a xs) (hw : ¬ (HT.sIx xs.length 0 lo = 0 ∧ HT.sIx xs.length xs.length hi = xs.length)) (q : ∀ p, H p = none → Q (.ref p) (upd H p (.tup (cutV xs lo hi)))) : rSlU2 K (.ref a) lo hi H Q := .inl (rd_slT h hw q)
end
abbrev Bd := Int × Int
theorem walk_zipT {K : PySem.W.Frag} {a b : Addr} {xs ys : List V} {n : Nat} (hn : n = min xs.length ys.length) : Walk (RZ.ItzT K a b) n (fun H => SqT K H a xs ∧ SqT K H b ys) (YPair (fun i => xs[i]?) (fun i => ys[i]?)) := by
  subst hn
  refine ⟨fun i _ hi q => ?_, fun _ q => ⟨xs, ys, q.1, q.2, by omega⟩, fun i H v H' _ q y => ?_⟩
  · have h1 : i < xs.length := by omega
    have h2 : i < ys.length := by omega
    exact ⟨xs, ys, xs[i], ys[i], q.1, q.2, by simp [h1], by simp [h2]⟩
  · obtain ⟨T, x, z, h1, h2, h3, h4, h5⟩ := y
    exact ⟨T, x, z, h1, h2, h3, h4 xs q.1, h5 ys q.2⟩
def DIn (bs : List Bd) (ds : List Int) : Prop := ∀ j, j < ds.length → (bs.getD j (0, 0)).1 ≤ ds.getD j 0 ∧ ds.getD j 0 ≤ (bs.getD j (0, 0)).2
theorem getD_app_lt {α : Type} {l : List α} {x d : α} {j : Nat} (h : j < l.length) : (l ++ [x]).getD j d = l.getD j d := by
  rw [List.getD_eq_getElem?_getD, List.getD_eq_getElem?_getD, List.getElem?_append_left h]
theorem getD_app_eq {α : Type} {l : List α} {x d : α} : (l ++ [x]).getD l.length d = x := by
  rw [List.getD_eq_getElem?_getD, List.getElem?_append_right (Nat.le_refl _)]
  simp
theorem DIn.snoc {bs : List Bd} {ds : List Int} {d : Int} (h : DIn bs ds) (h1 : (bs.getD ds.length (0, 0)).1 ≤ d) (h2 : d ≤ (bs.getD ds.length (0, 0)).2) : DIn bs (ds ++ [d]) := by
  intro j hj
  rw [List.length_append] at hj
  by_cases c : j < ds.length
  · rw [getD_app_lt c]
    exact h j c
  · have e : j = ds.length := by
      have : [d].length = 1 := rfl
      omega
    rw [e, getD_app_eq]
    exact ⟨h1, h2⟩
theorem rd_rng2 {σ : L2.St} {H : Hp} {ta : TA} {R : It → Hp → Prop} (q : ta σ H fun vs H1 => ∃ i j : Int, vs = [.int i, .int j] ∧ (-(2 ^ 62) ≤ i ∧ i < 2 ^ 62 ∧ -(2 ^ 62) ≤ j ∧ j < 2 ^ 62) ∧ R (Itr i (j - i).toNat) H1) : iRng2 ta σ H R := q
open PySem.W (dataLt)
/-! ### tables out of rows: the numbers -/
/-! ### the two lists of waits -/
/-! ### both in order -/
theorem dT.x {T : List (Addr × Str)} {H H' : Hp} {a : Addr} {kvs : List (List L2.Key × V)} (h : H a = some (.dT kvs)) (e : Ext T [] H H') : H' a = some (.dT kvs) := e.keep a _ (by simp) (fun _ z => by cases z) h
theorem rd_any {K : PySem.W.Frag} {H : Hp} {Q : VK} {a : Addr} {bs : List Bool} (h : SqL K H a (bs.map V.bl)) (q : Q (.bl (bs.any id)) H) : rAny K [.ref a] H Q := ⟨a, bs, rfl, h, q⟩
/-- a comprehension over data, told item by item; its elements are plain values -/
theorem lcg_fv (T : List (Addr × Str)) {α : Type} (f : α → PyData) (g : α → V) (c : α → Bool) {σ : L2.St} {H : Hp} {Q : VK} {J : It} {n : Nat} {G : Hp → Prop} {Y : Nat → Hp → V → Hp → Prop} {gT : TG} {tt : TT} {te : TE} {vs : List Nat} (w : Walk J n G Y) {xs : List V} {as : List α} (hx : ImAll H xs (as.map f)) (hn : n = xs.length)
    (hY : ∀ i H x H', Y i H x H' → H' = H ∧ xs[i]? = some x) (hG : ∀ H', Ext T [] H H' → G H') (hl : as.length ≤ 100000)
    (step : ∀ (i : Nat) (a : α) (x : V), as[i]? = some a → ∀ H', Ext T [] H H' → Im H' x (f a) → ∀ (R : V → Hp → Prop) (S : Hp → Prop), (c a = true → ∀ H2, Ext T [] H' H2 → R (g a) H2) → (c a = false → ∀ H2, Ext T [] H' H2 → S H2) →
      gT x (wipe σ vs) H' fun σ2 H2 => wipe σ2 vs = wipe σ vs ∧ tt σ2 H2 fun b H3 => if b = true then te σ2 H3 R else S H3)
    (q : ∀ D H2, Nw H D → Ext T [] H H2 → H2 D = some (.lst ((as.filter c).map g)) → Q (.ref D) H2) : LcG J gT tt te vs σ H Q := fun D hD => by
  have hxl : xs.length = as.length := by rw [hx.len, List.length_map]
  refine lc_it w (fun i H2 => Ext T [] H H2 ∧ H2 D = some (.lst (((as.take i).filter c).map g))) ⟨.new hD, upd_same⟩ (fun i H2 _ h => hG H2 h.1) (fun i x H1 H' hi h y => ?_) (fun H1 h => ?_)
  · obtain ⟨e1, e2⟩ := hY i H1 x H' y
    subst e1
    obtain ⟨h1, h3⟩ := h
    obtain ⟨d, hd, hxd⟩ := hx.get' e2
    rw [List.getElem?_map] at hd
    obtain ⟨a, ha, rfl⟩ := Option.map_eq_some_iff.mp hd
    have et : as.take (i + 1) = as.take i ++ [a] := by rw [List.take_add_one, ha]; rfl
    refine step i a x ha H' h1 (Im.ext h1 Lsts.nil _ _ hxd) _ _ (fun hp H2 e => ?_) (fun hp H2 e => ?_)
    · have h5 := lst.x h3 e
      refine ⟨_, h5, ?_, (h1.trans e).own (.of hD) h5, ?_⟩
      · refine Nat.lt_of_le_of_lt ?_ (Nat.lt_of_le_of_lt hl (show (100000 : Nat) < sizeLine by decide))
        rw [List.length_map]
        exact Nat.le_trans (List.length_filter_le _ _) (by rw [List.length_take]; exact Nat.min_le_right _ _)
      · rw [et, List.filter_append, List.filter_cons_of_pos hp, List.map_append]
        exact upd_same
    · refine ⟨h1.trans e, ?_⟩
      rw [et, List.filter_append, List.filter_cons_of_neg (by rw [hp]; decide), List.filter_nil, List.append_nil]
      exact lst.x h3 e
  · obtain ⟨h1, h3⟩ := h
    rw [hn, hxl, List.take_length] at h3
    exact q D H1 (.of hD) h1 h3
/-! own classes: methods that may raise, called under a try -/
/-! ### an own class: made, its fields, its methods -/
/-! own classes: made under a try; methods where nothing is raised -/
/-! match: patterns of lists of texts -/
/-! ### the cases -/
/-! enumerate(list, start=1) -/
abbrev S (l : List Nat) : Str := ⟨l.toArray⟩
/-! the text of a book: lines of entries -/
abbrev Ent := Str × Nat × Nat
def askedS : Str := "asked"
def doneS : Str := "done"
def lastM (es : List Ent) : Nat := match es.getLast? with | none => 0 | some e => e.2.2
def lastK (es : List Ent) : Nat := match es.getLast? with | none => 0 | some e => e.2.1
def isEntV (es : List Ent) (e : Ent) : Bool :=
  if es.length % 2 = 0 then decide (e.1 = askedS) && (decide (lastM es < e.2.2) && decide (e.2.1 = es.length / 2 + 1))
  else decide (e.1 = doneS) && (decide (lastM es ≤ e.2.2) && decide (e.2.1 = lastK es))
def lineP (e : Ent) : List (List Nat) := [sg e.1, TL.numL e.2.1, TL.numL e.2.2]
def lineL (e : Ent) : List Nat := TL.joinL [32] (lineP e)
/-! numbers -/
theorem num_free {n s : Nat} (h : s < 48 ∨ 57 < s) : s ∉ TL.numL n := TL.numL_free h
/-! an entry's line -/
def freeP (ps : List (List Nat)) : Prop := ∀ p ∈ ps, 32 ∉ p ∧ 10 ∉ p
theorem join_free : ∀ {ps : List (List Nat)}, freeP ps → 10 ∉ TL.joinL [32] ps
  | [], _ => by simp [TL.joinL]
  | [p], h => (h p List.mem_cons_self).2
  | p :: q :: r, h => by
    show 10 ∉ p ++ ([32] ++ TL.joinL [32] (q :: r))
    have ih := join_free (ps := q :: r) fun x hx => h x (List.mem_cons_of_mem _ hx)
    intro hx
    rcases List.mem_append.mp hx with hx | hx
    · exact (h p List.mem_cons_self).2 hx
    · rcases List.mem_append.mp hx with hx | hx
      · simp at hx
      · exact ih hx
def EntOk (e : Ent) : Prop := (e.1 = askedS ∨ e.1 = doneS) ∧ e.2.1 < 100000 ∧ e.2.2 < 100000
theorem word_free {a : Str} (h : a = askedS ∨ a = doneS) : 32 ∉ sg a ∧ 10 ∉ sg a := by
  rcases h with rfl | rfl <;> decide +kernel
theorem line_free {e : Ent} (h : EntOk e) : freeP (lineP e) := fun p hp => by
  rcases List.mem_cons.mp hp with rfl | hp
  · exact word_free h.1
  rcases List.mem_cons.mp hp with rfl | hp
  · exact ⟨num_free (.inl (by decide)), num_free (.inl (by decide))⟩
  rw [List.mem_singleton.mp hp]
  exact ⟨num_free (.inl (by decide)), num_free (.inl (by decide))⟩
/-- a history that a book may hold -/
def Good (es : List Ent) : Prop := ∀ i e, es[i]? = some e → EntOk e ∧ isEntV (es.take i) e = true
theorem Good.take {es : List Ent} (h : Good es) (n : Nat) : Good (es.take n) := fun i e hi => by
  have hl : i < (es.take n).length := (List.getElem?_eq_some_iff.mp hi).1
  rw [List.length_take] at hl
  rw [List.getElem?_take_of_lt (by omega)] at hi
  have := h i e hi
  rw [List.take_take, Nat.min_eq_left (by omega)]
  exact this
theorem Good.free {es : List Ent} (h : Good es) : ∀ l ∈ es.map lineL, 10 ∉ l := fun l hl => by
  obtain ⟨e, he, rfl⟩ := List.mem_map.mp hl
  obtain ⟨i, hi⟩ := List.getElem?_of_mem he
  exact join_free (line_free (h i e hi).1)
/-! lines that are no entry -/
/-! texts made of parts -/
/-! texts of words: numbers, lists of ids, slots, items, events -/
/-! ### slots, items, events -/
open PySem.W (alike)
/-! ### data of any form: of which type it is, which is less -/
section
variable {X : Cx}
def rLtD (K : PySem.W.Frag) : R2 := fun x y H Q => ∃ d e, Dp K H x d ∧ Dp K H y e ∧ alike d e = true ∧ d ≠ .none ∧ d.depth ≤ 64 ∧ Q (.bl (dataLt d e)) H
theorem op_ltD0 (hu : X.A.units + 65 < cLine) : OpR X (compareOp .Lt) (rLtD X.K) := by
  intro pins s σ H x y v u Q I rx ry h
  obtain ⟨d, e, hd, he, ha, hn, hl, q⟩ := h
  obtain ⟨as, r1⟩ := Dp.reads I d x v hd rx
  obtain ⟨bs, r2⟩ := Dp.reads I e y u he ry
  have h2 : min d.depth e.depth ≤ d.depth := Nat.min_le_left _ _
  exact PySem.W.lt_data r1 r2 ha hn (by omega) ⟨.bl _, H, I, rfl, q⟩
theorem op_ltD (K : PySem.W.Frag) (hK : X.K = K) (hu : X.A.units + 65 < cLine) : OpR X (compareOp .Lt) (rLtD K) := by
  subst hK
  exact op_ltD0 hu
end
section
variable {K : PySem.W.Frag} {H : Hp} {Q : VK}
theorem rd_ltD {v u : V} {d e : PyData} (h1 : Im H v d) (h2 : Im H u e) (ha : alike d e = true) (hn : d ≠ .none) (hl : d.depth ≤ 64) (q : Q (.bl (dataLt d e)) H) : rLtD K v u H Q := ⟨d, e, h1.dp, h2.dp, ha, hn, hl, q⟩
def tyN : PyData → String
  | .none => "NoneType"
  | .bool _ => "bool"
  | .int _ => "int"
  | .str _ => "str"
  | .list _ => "list"
  | .dict _ => "dict"
  | .tuple _ => "tuple"
theorem Im.ty {v : V} {d : PyData} (h : Im H v d) : TyX K H v (.type (tyN d)) := by
  cases h with
  | non => exact .base .non
  | int i => exact .base (.int i)
  | str x _ => exact .base (.str x)
  | tup h1 _ => exact .base (.tup h1)
  | tupF h1 _ _ => exact .fTuple h1
theorem Im.cases4 {v : V} {d : PyData} (h : Im H v d) : d = .none ∨ (∃ i, d = .int i) ∨ (∃ z, d = .str z) ∨ ∃ ds, d = .tuple ds := by
  cases h with
  | non => exact .inl rfl
  | int i => exact .inr (.inl ⟨i, rfl⟩)
  | str x _ => exact .inr (.inr (.inl ⟨x, rfl⟩))
  | tup h1 _ => exact .inr (.inr (.inr ⟨_, rfl⟩))
  | tupF h1 _ _ => exact .inr (.inr (.inr ⟨_, rfl⟩))
def isTup : PyData → Bool
  | .tuple _ => true
  | _ => false
def isInt : PyData → Bool
  | .int _ => true
  | _ => false
def isStr : PyData → Bool
  | .str _ => true
  | _ => false
theorem rd_isTupD {v : V} {d : PyData} (h : Im H v d) (q : Q (.bl (isTup d)) H) : rIsi K [v, .ty "tuple"] H Q := by
  refine ⟨_, _, _, _, isTup d, rfl, .ty _, h.ty, ?_, q⟩
  rcases h.cases4 with rfl | ⟨i, rfl⟩ | ⟨z, rfl⟩ | ⟨ds, rfl⟩
  · exact kit_ty (show kitB "NoneType" "tuple" = some false by decide +kernel)
  · exact kit_ty (show kitB "int" "tuple" = some false by decide +kernel)
  · exact kit_ty (show kitB "str" "tuple" = some false by decide +kernel)
  · exact kit_ty (show kitB "tuple" "tuple" = some true by decide +kernel)
theorem rd_isIntD {v : V} {d : PyData} (h : Im H v d) (q : Q (.bl (isInt d)) H) : rIsi K [v, .ty "int"] H Q := by
  refine ⟨_, _, _, _, isInt d, rfl, .ty _, h.ty, ?_, q⟩
  rcases h.cases4 with rfl | ⟨i, rfl⟩ | ⟨z, rfl⟩ | ⟨ds, rfl⟩
  · exact kit_ty (show kitB "NoneType" "int" = some false by decide +kernel)
  · exact kit_ty (show kitB "int" "int" = some true by decide +kernel)
  · exact kit_ty (show kitB "str" "int" = some false by decide +kernel)
  · exact kit_ty (show kitB "tuple" "int" = some false by decide +kernel)
theorem rd_isStrD {v : V} {d : PyData} (h : Im H v d) (q : Q (.bl (isStr d)) H) : rIsi K [v, .ty "str"] H Q := by
  refine ⟨_, _, _, _, isStr d, rfl, .ty _, h.ty, ?_, q⟩
  rcases h.cases4 with rfl | ⟨i, rfl⟩ | ⟨z, rfl⟩ | ⟨ds, rfl⟩
  · exact kit_ty (show kitB "NoneType" "str" = some false by decide +kernel)
  · exact kit_ty (show kitB "int" "str" = some false by decide +kernel)
  · exact kit_ty (show kitB "str" "str" = some true by decide +kernel)
  · exact kit_ty (show kitB "tuple" "str" = some false by decide +kernel)
theorem rd_isBlI {i : Int} (q : Q (.bl false) H) : rIsi K [.int i, .ty "bool"] H Q := ⟨_, _, _, _, false, rfl, .ty _, .base (.int i), kit_ty (by decide +kernel), q⟩
end
/-! ### the forms, as functions of data -/
mutual
/-- no text longer than a thousand signs, no tuple longer than a thousand -/
def Sm : PyData → Prop
  | .none => True
  | .bool _ => True
  | .int _ => True
  | .str z => z.length ≤ 1000
  | .list _ => True
  | .dict _ => True
  | .tuple ds => ds.length ≤ 1000 ∧ SmAll ds
def SmAll : List PyData → Prop
  | [] => True
  | d :: ds => Sm d ∧ SmAll ds
end
theorem smAll_iff : ∀ {ds : List PyData}, SmAll ds ↔ ∀ d ∈ ds, Sm d
  | [] => ⟨fun _ d h => (by cases h), fun _ => trivial⟩
  | e :: ds => by
    show Sm e ∧ SmAll ds ↔ _
    rw [smAll_iff (ds := ds)]
    exact ⟨fun h d hd => by
      rcases List.mem_cons.mp hd with e | hd
      · rw [e]; exact h.1
      · exact h.2 d hd, fun h => ⟨h e List.mem_cons_self, fun d hd => h d (List.mem_cons_of_mem _ hd)⟩⟩
theorem sm_tup {ds : List PyData} : Sm (.tuple ds) ↔ ds.length ≤ 1000 ∧ ∀ d ∈ ds, Sm d := by
  show ds.length ≤ 1000 ∧ SmAll ds ↔ _
  rw [smAll_iff]
def wordD (ls : Str) (m : Int) : PyData → Bool
  | .str z => wordB z ls m
  | _ => false
def idD : PyData → Bool
  | .str z => idB z
  | _ => false
def labelD : PyData → Bool
  | .str z => labelB z
  | _ => false
def nameD : PyData → Bool
  | .str z => nameB z
  | _ => false
def intB (lo hi : Int) : PyData → Bool
  | .int i => decide (lo ≤ i) && decide (i ≤ hi)
  | _ => false
def tupB (lo hi : Int) : PyData → Bool
  | .tuple ds => decide (lo ≤ (ds.length : Int)) && decide ((ds.length : Int) ≤ hi)
  | _ => false
theorem tupB_some {lo hi : Int} {d : PyData} (h : tupB lo hi d = true) : ∃ ds, d = .tuple ds ∧ lo ≤ (ds.length : Int) ∧ (ds.length : Int) ≤ hi := by
  cases d with
  | tuple ds =>
    have h : (decide (lo ≤ (ds.length : Int)) && decide ((ds.length : Int) ≤ hi)) = true := h
    rw [Bool.and_eq_true, decide_eq_true_eq, decide_eq_true_eq] at h
    exact ⟨ds, rfl, h.1, h.2⟩
  | none => cases h
  | bool _ => cases h
  | int _ => cases h
  | str _ => cases h
  | list _ => cases h
  | dict _ => cases h
/-- each is less than the next -/
def ascD : List PyData → Bool
  | [] => true
  | a :: r => match r with
    | [] => true
    | b :: _ => dataLt a b && ascD r
theorem ascD_cons (a b : PyData) (r : List PyData) : ascD (a :: b :: r) = (dataLt a b && ascD (b :: r)) := rfl
/-- the tests of neighbours, one by one -/
def ltAt (ds : List PyData) (i : Nat) : Bool := match ds[i]?, ds[i + 1]? with
  | some a, some b => dataLt a b
  | _, _ => true
theorem ascD_at : ∀ (ds : List PyData), ascD ds = (List.range (ds.length - 1)).all (ltAt ds)
  | [] => rfl
  | [a] => rfl
  | a :: b :: r => by
    have ih := ascD_at (b :: r)
    rw [ascD_cons, ih, show (a :: b :: r).length - 1 = ((b :: r).length - 1) + 1 by simp, List.range_succ_eq_map, List.all_cons, List.all_map]
    rfl
/-- data of one kind: texts, or pairs of texts -/
def Alike1 (ds : List PyData) : Prop := ∀ d ∈ ds, ∀ e ∈ ds, alike d e = true ∧ d ≠ .none ∧ d.depth ≤ 60
theorem alike_ss1 (l : List (Str × Str)) : Alike1 (l.map ssD) := fun d hd e he => by
  obtain ⟨y, _, rfl⟩ := List.mem_map.mp hd
  obtain ⟨z, _, rfl⟩ := List.mem_map.mp he
  exact ⟨rfl, (by intro h; cases h), Nat.le_trans (dep_ss y) (by decide)⟩
theorem alike_s1 (l : List Str) : Alike1 (l.map PyData.str) := fun d hd e he => by
  obtain ⟨y, _, rfl⟩ := List.mem_map.mp hd
  obtain ⟨z, _, rfl⟩ := List.mem_map.mp he
  exact ⟨rfl, (by intro h; cases h), show 0 ≤ 60 by decide⟩
theorem id_str {d : PyData} (h : idD d = true) : ∃ z, d = .str z ∧ idB z = true := by
  cases d with
  | str z => exact ⟨z, rfl, h⟩
  | none => cases h
  | bool _ => cases h
  | int _ => cases h
  | tuple _ => cases h
  | list _ => cases h
  | dict _ => cases h
theorem name_str {d : PyData} (h : nameD d = true) : ∃ z, d = .str z ∧ nameB z = true := by
  cases d with
  | str z => exact ⟨z, rfl, h⟩
  | none => cases h
  | bool _ => cases h
  | int _ => cases h
  | tuple _ => cases h
  | list _ => cases h
  | dict _ => cases h
theorem ids_strs : ∀ {ds : List PyData}, ds.all idD = true → ∃ zs : List Str, ds = zs.map .str ∧ ∀ z ∈ zs, idB z = true
  | [], _ => ⟨[], rfl, by simp⟩
  | d :: ds, h => by
    rw [List.all_cons, Bool.and_eq_true] at h
    obtain ⟨zs, e, h2⟩ := ids_strs h.2
    obtain ⟨z, rfl, hz⟩ := id_str h.1
    refine ⟨z :: zs, by rw [e]; rfl, fun y hy => ?_⟩
    rcases List.mem_cons.mp hy with e | hy
    · rw [e]; exact hz
    · exact h2 y hy
/-- over two lists or two tuples, the elements told by their places -/
theorem lcg_zipG (T : List (Addr × Str)) {J : It} {n : Nat} {G : Hp → Prop} {σ : L2.St} {H : Hp} {Q : VK} {g : TG} {te : TE} {vs : List Nat} {xs ys : List V} (w : Walk J n G (YPair (fun i => xs[i]?) (fun i => ys[i]?))) (hG : ∀ H', Ext T [] H H' → G H') (hs : n < sizeLine) (f : Nat → V)
    (step : ∀ (i : Nat) (x y : V) (t : Addr), xs[i]? = some x → ys[i]? = some y → ∀ H', Ext T [] H H' → H' t = some (.tup [x, y]) → ∀ R : VK, (∀ H2, Ext T [] H' H2 → R (f i) H2) → g (.ref t) (wipe σ vs) H' fun σ2 H2 => wipe σ2 vs = wipe σ vs ∧ tYes σ2 H2 fun b H3 => if b = true then te σ2 H3 R else True)
    (q : ∀ D H2, Nw H D → Ext T [] H H2 → H2 D = some (.lst ((List.range n).map f)) → Q (.ref D) H2) : LcG J g tYes te vs σ H Q := fun D hD => by
  refine lc_it w (fun i H2 => Ext T [] H H2 ∧ H2 D = some (.lst ((List.range i).map f))) ⟨.new hD, upd_same⟩ (fun i H2 _ h => hG H2 h.1) (fun i x H1 H' hi h y => ?_) (fun H1 h => ?_)
  · obtain ⟨t, u, v, rfl, nt, rfl, hu, hv⟩ := y
    obtain ⟨e1, e2⟩ := h
    obtain ⟨nt2, e3, ht⟩ := alT (T := T) nt [u, v]
    generalize upd H1 t _ = H' at e3 ht ⊢
    have h3 := step i u v t hu hv H' (e1.trans e3) ht
    have hD2 := lst.x e2 e3
    have h4 := h3 (fun y H4 => ∃ acc, H4 D = some (.lst acc) ∧ acc.length < sizeLine ∧ (Ext T [] H (upd H4 D (.lst (acc ++ [y]))) ∧ (upd H4 D (.lst (acc ++ [y]))) D = some (.lst ((List.range (i + 1)).map f)))) (fun H2 e4 => by
      have hD3 := lst.x hD2 e4
      refine ⟨_, hD3, ?_, ((e1.trans e3).trans e4).own (.of hD) hD3, ?_⟩
      · rw [List.length_map, List.length_range]
        omega
      · rw [upd_same, List.range_succ, List.map_append]
        rfl)
    exact h4
  · exact q D H1 (.of hD) h.1 h.2
/-! ### forms over data -/
def els : PyData → List PyData
  | .tuple ds => ds
  | _ => []
def idsD (lo hi : Int) (d : PyData) : Bool := tupB lo hi d && ((els d).all idD && ascD (els d))
def zoneD : PyData → Bool
  | .tuple [n, l] => nameD n && intB 0 100 l
  | _ => false
def setD : PyData → Bool
  | .tuple [n, k] => nameD n && idD k
  | _ => false
def fstD : PyData → PyData
  | .tuple (a :: _) => a
  | d => d
def dotD : PyData → Bool
  | .str z => decide (z = dotS)
  | _ => false
def hdD : List PyData → Bool
  | a :: _ => dotD a
  | [] => false
def zonesD (d : PyData) : Bool := tupB 1 6 d && ((els d).all zoneD && (hdD ((els d).map fstD) && ascD ((els d).map fstD)))
def setsD (d : PyData) : Bool := tupB 1 8 d && ((els d).all setD && ascD (els d))
def usedD (z : PyData) (ds : List PyData) : Bool := ds.any fun r => match fstD r, z with
  | .str n, .str y => endsB n y
  | _, _ => false
def realmD : PyData → Bool
  | .tuple [z, a, s] => zonesD z && (idsD 1 3 a && (setsD s && (els z).all fun r => usedD (fstD r) (els s)))
  | _ => false
theorem int_some {lo hi : Int} {d : PyData} (h : intB lo hi d = true) : ∃ i, d = .int i ∧ lo ≤ i ∧ i ≤ hi := by
  cases d with
  | int i =>
    have h : (decide (lo ≤ i) && decide (i ≤ hi)) = true := h
    rw [Bool.and_eq_true, decide_eq_true_eq, decide_eq_true_eq] at h
    exact ⟨i, rfl, h.1, h.2⟩
  | none => cases h
  | bool _ => cases h
  | str _ => cases h
  | tuple _ => cases h
  | list _ => cases h
  | dict _ => cases h
theorem zone_tup {d : PyData} (h : zoneD d = true) : ∃ a b, d = .tuple [a, b] := by
  cases d with
  | tuple ds =>
    match ds, h with
    | [a, b], _ => exact ⟨a, b, rfl⟩
    | [], h => cases h
    | [_], h => cases h
    | _ :: _ :: _ :: _, h => cases h
  | none => cases h
  | bool _ => cases h
  | int _ => cases h
  | str _ => cases h
  | list _ => cases h
  | dict _ => cases h
theorem set_tup {d : PyData} (h : setD d = true) : ∃ a b, d = .tuple [a, b] := by
  cases d with
  | tuple ds =>
    match ds, h with
    | [a, b], _ => exact ⟨a, b, rfl⟩
    | [], h => cases h
    | [_], h => cases h
    | _ :: _ :: _ :: _, h => cases h
  | none => cases h
  | bool _ => cases h
  | int _ => cases h
  | str _ => cases h
  | list _ => cases h
  | dict _ => cases h
theorem zone_some {d : PyData} (h : zoneD d = true) : ∃ r : Str × Int, d = siD r ∧ nameB r.1 = true ∧ 0 ≤ r.2 ∧ r.2 ≤ 100 := by
  obtain ⟨a, b, rfl⟩ := zone_tup h
  have h : (nameD a && intB 0 100 b) = true := h
  rw [Bool.and_eq_true] at h
  obtain ⟨z, rfl, hz⟩ := name_str h.1
  obtain ⟨i, rfl, h1, h2⟩ := int_some h.2
  exact ⟨(z, i), rfl, hz, h1, h2⟩
theorem set_some {d : PyData} (h : setD d = true) : ∃ r : Str × Str, d = ssD r ∧ nameB r.1 = true ∧ idB r.2 = true := by
  obtain ⟨a, b, rfl⟩ := set_tup h
  have h : (nameD a && idD b) = true := h
  rw [Bool.and_eq_true] at h
  obtain ⟨z, rfl, hz⟩ := name_str h.1
  obtain ⟨i, rfl, h1⟩ := id_str h.2
  exact ⟨(z, i), rfl, hz, h1⟩
theorem all_some {α : Type} {f : PyData → Bool} {g : α → PyData} {p : α → Prop} (h : ∀ d, f d = true → ∃ r, d = g r ∧ p r) : ∀ {ds : List PyData}, ds.all f = true → ∃ l : List α, ds = l.map g ∧ ∀ r ∈ l, p r
  | [], _ => ⟨[], rfl, fun _ h => by cases h⟩
  | d :: ds, ha => by
    rw [List.all_cons, Bool.and_eq_true] at ha
    obtain ⟨r, e, hr⟩ := h d ha.1
    obtain ⟨l, e2, hl⟩ := all_some h ha.2
    exact ⟨r :: l, by rw [e, e2]; rfl, fun r' hr' => by
      rcases List.mem_cons.mp hr' with rfl | hr'
      · exact hr
      · exact hl r' hr'⟩
theorem zones_rows {ds : List PyData} (h : ds.all zoneD = true) : ∃ l : List (Str × Int), ds = l.map siD ∧ ∀ r ∈ l, nameB r.1 = true ∧ 0 ≤ r.2 ∧ r.2 ≤ 100 := all_some (fun _ => zone_some) h
theorem sets_rows {ds : List PyData} (h : ds.all setD = true) : ∃ l : List (Str × Str), ds = l.map ssD ∧ ∀ r ∈ l, nameB r.1 = true ∧ idB r.2 = true := all_some (fun _ => set_some) h
/-- an item, of a slot that is hosts' or not -/
def fromB : PyData → PyData → Bool
  | .int a, b => intB a 10000 b
  | _, _ => false
def bareB (g a b : PyData) : Bool := match g, a, b with
  | .tuple [], .int x, .int y => decide (x = 0) && decide (y = 10000)
  | _, _, _ => false
def itemD (hosts : Bool) : PyData → Bool
  | .tuple [c, l, g, a, b] => idsD 0 4 c && (intB 1 1000 l && (idsD 0 3 g && (intB 0 10000 a && (fromB a b && (!hosts || bareB g a b)))))
  | _ => false
theorem spl_in : ∀ (l acc : List Nat) (x : List Nat), x ∈ TL.spl [46] 0 acc l → ∀ c ∈ x, c ∈ acc ∨ c ∈ l
  | [], acc, x, h, c, hc => by
    have h : x ∈ [acc] := h
    rw [List.mem_singleton.mp h] at hc
    exact .inl hc
  | c0 :: r, acc, x, h, c, hc => by
    by_cases h0 : c0 = 46
    · subst h0
      have e : TL.spl [46] 0 acc (46 :: r) = acc :: TL.spl [46] 0 [] r := by
        rw [TL.spl, if_pos (by rfl)]
        rfl
      rw [e] at h
      rcases List.mem_cons.mp h with h | h
      · rw [h] at hc
        exact .inl hc
      · rcases spl_in r [] x h c hc with h | h
        · cases h
        · exact .inr (List.mem_cons_of_mem _ h)
    · have e : TL.spl [46] 0 acc (c0 :: r) = TL.spl [46] 0 (acc ++ [c0]) r := by
        rw [TL.spl, if_neg]
        show ¬ (TL.pre [46] (c0 :: r) = true)
        unfold TL.pre
        simpa using h0
      rw [e] at h
      rcases spl_in r _ x h c hc with h | h
      · rcases List.mem_append.mp h with h | h
        · exact .inl h
        · rw [List.mem_singleton.mp h]
          exact .inr List.mem_cons_self
      · exact .inr (List.mem_cons_of_mem _ h)
theorem parts_ok {z : Str} (h : PyData.strOk z = true) : ∀ y ∈ partsL z, PyData.strOk y = true := fun y hy => by
  have h1 : sg y ∈ TL.spl [46] 0 [] (sg z) := by
    rw [← parts_sg]
    exact List.mem_map_of_mem hy
  unfold PyData.strOk at h ⊢
  rw [← Array.all_toList, List.all_eq_true] at h ⊢
  intro c hc
  rcases spl_in _ _ _ h1 c hc with h2 | h2
  · cases h2
  · exact h c h2
theorem Im.sok {H : Hp} {v : V} {z : Str} (h : Im H v (.str z)) : PyData.strOk z = true := by
  cases h with
  | str _ q => exact q
theorem realm_no {d : PyData} (h : tupB 3 3 d = false) : realmD d = false := by
  cases d with
  | tuple ds =>
    match ds, h with
    | [a, b, c], h => cases h
    | [], _ => rfl
    | [_], _ => rfl
    | [_, _], _ => rfl
    | _ :: _ :: _ :: _ :: _, _ => rfl
  | none => rfl
  | bool _ => rfl
  | int _ => rfl
  | str _ => rfl
  | list _ => rfl
  | dict _ => rfl
theorem zonesD_rows {d : PyData} (h : zonesD d = true) : ∃ l : List (Str × Int), d = .tuple (l.map siD) ∧ (1 ≤ l.length ∧ l.length ≤ 6) ∧ ∀ r ∈ l, nameB r.1 = true ∧ 0 ≤ r.2 ∧ r.2 ≤ 100 := by
  unfold zonesD at h
  rw [Bool.and_eq_true, Bool.and_eq_true] at h
  obtain ⟨ds, rfl, h1, h2⟩ := tupB_some h.1
  obtain ⟨l, e, hl⟩ := zones_rows (ds := ds) h.2.1
  subst e
  rw [List.length_map] at h1 h2
  exact ⟨l, rfl, ⟨by omega, by omega⟩, hl⟩
theorem setsD_rows {d : PyData} (h : setsD d = true) : ∃ l : List (Str × Str), d = .tuple (l.map ssD) ∧ (1 ≤ l.length ∧ l.length ≤ 8) ∧ ∀ r ∈ l, nameB r.1 = true ∧ idB r.2 = true := by
  unfold setsD at h
  rw [Bool.and_eq_true, Bool.and_eq_true] at h
  obtain ⟨ds, rfl, h1, h2⟩ := tupB_some h.1
  obtain ⟨l, e, hl⟩ := sets_rows (ds := ds) h.2.1
  subst e
  rw [List.length_map] at h1 h2
  exact ⟨l, rfl, ⟨by omega, by omega⟩, hl⟩
theorem used_all (zl : List (Str × Int)) (sl : List (Str × Str)) : (true && (true && (true && (els (.tuple (zl.map siD))).all fun r => usedD (fstD r) (els (.tuple (sl.map ssD)))))) = zl.all fun r => sl.any fun p => endsB p.1 r.1 := by
  rw [Bool.true_and, Bool.true_and, Bool.true_and]
  show ((zl.map siD).all fun r => usedD (fstD r) (sl.map ssD)) = _
  rw [List.all_map]
  congr 1
  funext r
  show ((sl.map ssD).any _) = _
  rw [List.any_map]
  rfl
/-! ### the stretches in which a server is off -/
/-! ### lost keys, items that were published, keys that are known -/
/-! ### the form of lost keys -/
/-! ### texts, pairs and triples in their order -/
abbrev sLt (x y : Str) : Prop := sg x < sg y
theorem sLt_tri {x y : Str} (h1 : ¬ sLt y x) (h2 : x ≠ y) : sLt x y := by
  rcases List.le_iff_lt_or_eq.mp (List.not_lt.mp h1) with h | h
  · exact h
  · exact absurd (sg_inj h) h2
theorem sLt_tri3 (x y : Str) : sLt x y ∨ x = y ∨ sLt y x := by
  by_cases h : sLt y x
  · exact .inr (.inr h)
  · by_cases e : x = y
    · exact .inr (.inl e)
    · exact .inl (sLt_tri h e)
theorem sLt_irr (x : Str) : ¬ sLt x x := List.lt_irrefl _
theorem sLt_tr {x y z : Str} (h1 : sLt x y) (h2 : sLt y z) : sLt x z := List.lt_trans h1 h2
theorem eqv_str (x y : Str) : PyData.eqv (.str x) (.str y) = decide (x = y) := by
  show (x == y) = _
  by_cases h : x = y
  · rw [h]
    simp
  · rw [decide_eq_false h]
    exact beq_false_of_ne h
def ssLt (p q : Str × Str) : Prop := sLt p.1 q.1 ∨ (p.1 = q.1 ∧ sLt p.2 q.2)
theorem lt_s {x y : Str} : dataLt (.str x) (.str y) = true ↔ sLt x y := by
  rw [dataLt_str, decide_eq_true_eq]
theorem lt_ss {p q : Str × Str} : dataLt (ssD p) (ssD q) = true ↔ ssLt p q := by
  unfold ssD ssLt
  rw [dataLt_pair rfl rfl, eqv_str, eqv_str]
  by_cases h : p.1 = q.1
  · rw [if_pos (decide_eq_true h), h]
    by_cases h2 : p.2 = q.2
    · rw [if_pos (decide_eq_true h2), h2]
      exact ⟨(fun h => by cases h), fun h => h.elim (fun h => absurd h (sLt_irr _)) fun h => absurd h.2 (sLt_irr _)⟩
    · rw [if_neg (by rw [decide_eq_false h2]; decide), lt_s]
      exact ⟨fun h => .inr ⟨rfl, h⟩, fun h => h.elim (fun h => absurd h (sLt_irr _)) fun h => h.2⟩
  · rw [if_neg (by rw [decide_eq_false h]; decide), lt_s]
    exact ⟨fun h => .inl h, fun hh => hh.elim id fun hh => absurd hh.1 h⟩
/-- sorting by «not less the other way» -/
theorem sorted_of {α : Type} {f : α → PyData} {L : α → α → Prop} (hL : ∀ a b, dataLt (f a) (f b) = true ↔ L a b) (ir : ∀ a, ¬ L a a) (tr : ∀ a b c, L a b → L b c → L a c) (tri : ∀ a b, L a b ∨ a = b ∨ L b a) (l : List α) :
    (l.mergeSort fun a b => dataLe false id (f a) (f b)).Pairwise fun a b => ¬ L b a := by
  have hle : ∀ a b, dataLe false id (f a) (f b) = true ↔ ¬ L b a := fun a b => by
    rw [← hL b a, PySem.W.dataLe_eq]
    show (!dataLt (f b) (f a)) = true ↔ _
    cases dataLt (f b) (f a) <;> simp
  have h := List.pairwise_mergeSort (le := fun a b => dataLe false id (f a) (f b)) (fun a b c h1 h2 => by
    rw [hle] at *
    intro h3
    rcases tri a b with h | h | h
    · exact h2 (tr _ _ _ h3 h)
    · subst h
      exact h2 h3
    · exact h1 h) (fun a b => by
    rw [Bool.or_eq_true, hle, hle]
    by_cases h : L b a
    · exact .inr fun h2 => ir _ (tr _ _ _ h h2)
    · exact .inl h) l
  exact h.imp fun {a b} h => (hle a b).mp h
theorem ss_irr (p : Str × Str) : ¬ ssLt p p := fun h => h.elim (sLt_irr _) fun h => sLt_irr _ h.2
theorem ss_tr (a b c : Str × Str) (h1 : ssLt a b) (h2 : ssLt b c) : ssLt a c := by
  rcases h1 with h1 | ⟨e1, h1⟩ <;> rcases h2 with h2 | ⟨e2, h2⟩
  · exact .inl (sLt_tr h1 h2)
  · exact .inl (by rw [← e2]; exact h1)
  · exact .inl (by rw [e1]; exact h2)
  · exact .inr ⟨e1.trans e2, sLt_tr h1 h2⟩
theorem ss_tri (a b : Str × Str) : ssLt a b ∨ a = b ∨ ssLt b a := by
  rcases sLt_tri3 a.1 b.1 with h | h | h
  · exact .inl (.inl h)
  · rcases sLt_tri3 a.2 b.2 with h2 | h2 | h2
    · exact .inl (.inr ⟨h, h2⟩)
    · exact .inr (.inl (Prod.ext h h2))
    · exact .inr (.inr (.inr ⟨h.symm, h2⟩))
  · exact .inr (.inr (.inl h))
/-- a list told by its pairs in strict order ascends -/
theorem ascD_of {α : Type} {f : α → PyData} : ∀ {l : List α}, l.Pairwise (fun a b => dataLt (f a) (f b) = true) → ascD (l.map f) = true
  | [], _ => rfl
  | [a], _ => rfl
  | a :: b :: r, h => by
    have h1 := List.pairwise_cons.mp h
    show ascD (f a :: f b :: r.map f) = true
    rw [ascD_cons, h1.1 b List.mem_cons_self, Bool.true_and]
    exact ascD_of (l := b :: r) h1.2
/-! ### a drawn realm has the form -/
theorem pair_srtS {l : List Str} (hn : l.Nodup) : (srtS l).Pairwise fun a b => dataLt (.str a) (.str b) = true := by
  have h1 := sorted_of (f := PyData.str) (fun a b => lt_s) sLt_irr (fun _ _ _ => sLt_tr) sLt_tri3 l
  have h2 : (srtS l).Nodup := (srtS_perm l).nodup_iff.mpr hn
  refine (List.pairwise_and_iff.mpr ⟨h1, h2⟩).imp fun {a b} h => ?_
  rw [lt_s]
  rcases sLt_tri3 a b with g | g | g
  · exact g
  · exact absurd g h.2
  · exact absurd g h.1
theorem asc_srtS {l : List Str} (hn : l.Nodup) : ascD ((srtS l).map .str) = true := ascD_of (pair_srtS hn)
theorem asc_sub {ss l : List (Str × Str)} (hs : ss.Sublist (srtSS l)) (hn : ss.Nodup) : ascD (ss.map ssD) = true := by
  have h1 := (sorted_of (f := ssD) (fun a b => lt_ss) ss_irr ss_tr ss_tri l).sublist hs
  refine ascD_of ((List.pairwise_and_iff.mpr ⟨h1, hn⟩).imp fun {a b} h => ?_)
  rw [lt_ss]
  rcases ss_tri a b with g | g | g
  · exact g
  · exact absurd g h.2
  · exact absurd g h.1
theorem ids_okD {an : List Str} (h : ∃ ys, an = srtS ys ∧ ys.Nodup ∧ (∀ y ∈ ys, idB y = true) ∧ 1 ≤ ys.length ∧ ys.length ≤ 3) : idsD 1 3 (.tuple (an.map .str)) = true := by
  obtain ⟨ys, rfl, hn, hi, h1, h2⟩ := h
  have hl := (srtS_perm ys).length_eq
  unfold idsD
  rw [Bool.and_eq_true, Bool.and_eq_true]
  refine ⟨?_, ?_, asc_srtS hn⟩
  · show (decide ((1 : Int) ≤ (((srtS ys).map PyData.str).length : Int)) && decide ((((srtS ys).map PyData.str).length : Int) ≤ 3)) = true
    rw [Bool.and_eq_true, decide_eq_true_eq, decide_eq_true_eq, List.length_map]
    omega
  · show ((srtS ys).map PyData.str).all idD = true
    rw [List.all_map, List.all_eq_true]
    exact fun y hy => hi y ((srtS_perm ys).mem_iff.mp hy)
theorem letters_gt : ∀ c ∈ sg lettersS, 46 < c := by decide +kernel
theorem label_gt {y : Str} (h : labelB y = true) : ∃ c r, sg y = c :: r ∧ 46 < c := by
  cases e : sg y with
  | nil =>
    have h : wordB y lettersS 8 = true := h
    unfold wordB at h
    rw [Bool.and_eq_true, decide_eq_true_eq] at h
    have h1 := h.1
    have h2 := sg_len y
    rw [e] at h2
    simp at h2
    omega
  | cons c r => exact ⟨c, r, rfl, letters_gt c (label_mem h (by rw [e]; exact List.mem_cons_self))⟩
theorem zone_gt {z : Str} (h : zoneB z) : sLt dotS z := by
  obtain ⟨ys, rfl, h1, h2, h3⟩ := h
  obtain ⟨y, r, rfl⟩ : ∃ y r, ys = y :: r := by
    cases ys with
    | nil => exact absurd rfl h1
    | cons y r => exact ⟨y, r, rfl⟩
  obtain ⟨c, cs, e, hc⟩ := label_gt (h3 y List.mem_cons_self)
  have : ∃ t, sg (joinS (y :: r)) = c :: t := by
    cases r with
    | nil => exact ⟨cs, by rw [join_one, e]⟩
    | cons y2 r => exact ⟨_, by rw [join_cons y (by simp), sg_app, e]; rfl⟩
  obtain ⟨t, e2⟩ := this
  show sg dotS < sg (joinS (y :: r))
  rw [e2, sg_dot]
  exact List.Lex.rel hc
theorem zones_okD {R : Rm} {m : Int} (h : RmOk R m) (hm : m ≤ 5) : zonesD (.tuple (R.zs.map siD)) = true := by
  obtain ⟨lag, rest, ns, e1, e2, e3, e4, e5⟩ := h.zs
  have hl : rest.length = ns.length := by
    have := congrArg List.length e2
    rw [List.length_map, (srtS_perm ns).length_eq] at this
    exact this
  have hlen : R.zs.length = ns.length + 1 := by rw [e1, List.length_cons, hl]
  have hnm : ∀ r ∈ rest, zoneB r.1 := fun r hr => e5 r.1 ((srtS_perm ns).mem_iff.mp (by rw [← e2]; exact List.mem_map_of_mem hr))
  unfold zonesD
  rw [Bool.and_eq_true, Bool.and_eq_true, Bool.and_eq_true]
  refine ⟨?_, ?_, ?_, ?_⟩
  · show (decide ((1 : Int) ≤ ((R.zs.map siD).length : Int)) && decide (((R.zs.map siD).length : Int) ≤ 6)) = true
    rw [Bool.and_eq_true, decide_eq_true_eq, decide_eq_true_eq, List.length_map]
    omega
  · show (R.zs.map siD).all zoneD = true
    rw [List.all_map, List.all_eq_true]
    intro r hr
    show (nameB r.1 && (decide ((0 : Int) ≤ r.2) && decide (r.2 ≤ 100))) = true
    rw [Bool.and_eq_true, Bool.and_eq_true, decide_eq_true_eq, decide_eq_true_eq]
    refine ⟨?_, h.lags r hr⟩
    rw [e1] at hr
    rcases List.mem_cons.mp hr with rfl | hr
    · exact dot_name
    · exact zone_name (hnm r hr)
  · show hdD ((R.zs.map siD).map fstD) = true
    rw [e1]
    exact decide_eq_true (p := dotS = dotS) rfl
  · show ascD ((R.zs.map siD).map fstD) = true
    have ef : (R.zs.map siD).map fstD = (dotS :: srtS ns).map .str := by
      rw [e1, ← e2, List.map_map]
      show PyData.str dotS :: rest.map (fstD ∘ siD) = PyData.str dotS :: (rest.map (·.1)).map .str
      rw [List.map_map]
      rfl
    rw [ef]
    refine ascD_of (List.pairwise_cons.mpr ⟨fun z hz => ?_, pair_srtS e3⟩)
    rw [lt_s]
    exact zone_gt (e5 z ((srtS_perm ns).mem_iff.mp hz))
theorem sets_okD {R : Rm} {m : Int} (h : RmOk R m) (hm : m ≤ 5) : setsD (.tuple (R.ss.map ssD)) = true := by
  obtain ⟨l, hl⟩ := h.ss
  have h1 : 1 ≤ R.ss.length := by
    obtain ⟨lag, rest, ns, e1, _⟩ := h.zs
    obtain ⟨p, hp, _⟩ := h.used (dotS, lag) (by rw [e1]; exact List.mem_cons_self)
    exact List.length_pos_of_mem hp
  have h2 := h.slen
  unfold setsD
  rw [Bool.and_eq_true, Bool.and_eq_true]
  refine ⟨?_, ?_, asc_sub hl h.ssn⟩
  · show (decide ((1 : Int) ≤ ((R.ss.map ssD).length : Int)) && decide (((R.ss.map ssD).length : Int) ≤ 8)) = true
    rw [Bool.and_eq_true, decide_eq_true_eq, decide_eq_true_eq, List.length_map]
    omega
  · show (R.ss.map ssD).all setD = true
    rw [List.all_map, List.all_eq_true]
    intro r hr
    show (nameB r.1 && idB r.2) = true
    rw [Bool.and_eq_true]
    exact h.ssok r hr
theorem realm_okD {R : Rm} {m : Int} (h : RmOk R m) (hm : m ≤ 5) : realmD (rmD R) = true := by
  show (zonesD (.tuple (R.zs.map siD)) && (idsD 1 3 (.tuple (R.an.map .str)) && (setsD (.tuple (R.ss.map ssD)) && ((R.zs.map siD).all fun r => usedD (fstD r) (R.ss.map ssD))))) = true
  rw [zones_okD h hm, ids_okD h.an, sets_okD h hm, Bool.true_and, Bool.true_and, Bool.true_and, List.all_map, List.all_eq_true]
  intro r hr
  obtain ⟨p, hp, he⟩ := h.used r hr
  show ((R.ss.map ssD).any _) = true
  rw [List.any_map, List.any_eq_true]
  exact ⟨p, hp, he⟩
/-! ### a label that no name ends with -/
theorem spl_hit (acc r : List Nat) : TL.spl [46] 0 acc (46 :: r) = acc :: TL.spl [46] 0 [] r := by
  rw [TL.spl, if_pos (by rfl)]
  rfl
theorem spl_go {c : Nat} (h : c ≠ 46) (acc r : List Nat) : TL.spl [46] 0 acc (c :: r) = TL.spl [46] 0 (acc ++ [c]) r := by
  rw [TL.spl, if_neg]
  show ¬ (TL.pre [46] (c :: r) = true)
  unfold TL.pre
  simpa using h
theorem spl_none : ∀ (l acc : List Nat), 46 ∉ l → TL.spl [46] 0 acc l = [acc ++ l]
  | [], acc, _ => by rw [List.append_nil]; rfl
  | c :: r, acc, h => by
    rw [spl_go (fun e => h (by rw [e]; exact List.mem_cons_self)), spl_none r _ fun hm => h (List.mem_cons_of_mem _ hm), List.append_assoc]
    rfl
theorem last_cons {α : Type} {a : α} {l : List α} (h : l ≠ []) : (a :: l).getLast? = l.getLast? := by
  cases l with
  | nil => exact absurd rfl h
  | cons b l => exact List.getLast?_cons_cons
theorem spl_ne (l acc : List Nat) : TL.spl [46] 0 acc l ≠ [] := fun e => by
  have := spl_len l acc
  rw [e] at this
  simp at this
theorem spl_last {b : List Nat} (hb : 46 ∉ b) : ∀ (a acc : List Nat), (TL.spl [46] 0 acc (a ++ 46 :: b)).getLast? = some b
  | [], acc => by
    rw [List.nil_append, spl_hit, spl_none b [] hb]
    rfl
  | c :: r, acc => by
    by_cases h : c = 46
    · subst h
      rw [List.cons_append, spl_hit, last_cons (spl_ne _ _), spl_last hb r []]
    · rw [List.cons_append, spl_go h]
      exact spl_last hb r _
def lastL (z : Str) : Str := (partsL z).getLast?.getD ⟨#[]⟩
theorem parts_ne (z : Str) : partsL z ≠ [] := fun e => by
  have := parts_len z
  rw [e] at this
  simp at this
theorem parts_last (z : Str) : (partsL z).getLast? = some (lastL z) := by
  unfold lastL
  rw [List.getLast?_eq_some_getLast (parts_ne z)]
  rfl
theorem last_of {n f : Str} (hf : labelB f = true) (h : endsB n f = true) : lastL n = f := by
  have hd := label_nodot hf
  have hne : f ≠ dotS := fun e => by
    rw [e, sg_dot] at hd
    exact hd (by simp)
  have key : ((partsL n).map sg).getLast? = some (sg f) := by
    rw [parts_sg]
    rcases suffix_or h with h | ⟨_, h | ⟨a, h⟩⟩
    · exact absurd h hne
    · rw [← h, spl_none _ _ hd]
      rfl
    · rw [h]
      exact spl_last hd a []
  rw [List.getLast?_map, parts_last] at key
  exact sg_inj (Option.some.inj key)
/-! ### realms out of form -/
def zR (R : Rm) : PyData := .tuple (R.zs.map siD)
def aR (R : Rm) : PyData := .tuple (R.an.map .str)
def sR (R : Rm) : PyData := .tuple (R.ss.map ssD)
def zP (R : Rm) (r : PyData) : PyData := .tuple (R.zs.map siD ++ [r])
def sP (R : Rm) (r : PyData) : PyData := .tuple (R.ss.map ssD ++ [r])
def lastZ (R : Rm) : Str × Int := R.zs.getLast?.getD (dotS, 0)
def lastS (R : Rm) : Str × Str := R.ss.getLast?.getD (dotS, dotS)
def t1D (z : Str) : PyData := .tuple [.str z]
def t2D (x y : Str) : PyData := .tuple [.str x, .str y]
def badR (R : Rm) (n : Int) (f : Str) : List PyData :=
  [.tuple [zR R, aR R], .tuple [zR R, aR R, sR R, .tuple []], .tuple [.tuple (R.zs.tail.map siD), aR R, sR R],
   .tuple [zP R (siD (f, 101)), aR R, sP R (t2D f "a")], .tuple [zP R (siD (f, -n)), aR R, sP R (t2D f "a")], .tuple [zP R (siD (f, n)), aR R, sR R],
   .tuple [zP R (siD (lastZ R)), aR R, sR R], .tuple [.tuple (siD (f, 0) :: R.zs.map siD), aR R, sP R (t2D f "a")],
   .tuple [zR R, .tuple [], sR R], .tuple [zR R, aR R, .tuple []],
   .tuple [zR R, .tuple [.str "aa", .str "ab", .str "ac", .str "ad"], sR R], .tuple [zR R, t2D "b" "a", sR R], .tuple [zR R, t2D "a" "a", sR R],
   .tuple [zR R, t1D "", sR R], .tuple [zR R, t1D "abcde", sR R], .tuple [zR R, t1D "A", sR R],
   .tuple [zR R, aR R, sP R (ssD (lastS R))], .tuple [zR R, aR R, sP R (t2D "zz9" "")], .tuple [zR R, aR R, sP R (t2D "zz9." "a")],
   .tuple [zR R, aR R, sP R (t2D "zz9zz9zz9" "a")], .tuple [zR R, aR R, sP R (t1D f)], .tuple [zR R, aR R, sP R (t2D "zz9..a" "a")],
   .tuple [zR R, aR R, sP R (t2D "zz9.a.a.a.a" "a")], zR R, .tuple [], .int 7, .str "realm",
   .tuple [zP R (t2D f "1"), aR R, sP R (t2D f "a")], .tuple [zP R (t1D f), aR R, sP R (t2D f "a")]]
theorem badR_len (R : Rm) (n : Int) (f : Str) : (badR R n f).length = 29 := rfl
theorem rm_f1 {z a s : PyData} (h : zonesD z = false) : realmD (.tuple [z, a, s]) = false := by
  show (zonesD z && _) = false
  rw [h, Bool.false_and]
theorem rm_f2 {z a s : PyData} (h : idsD 1 3 a = false) : realmD (.tuple [z, a, s]) = false := by
  show (zonesD z && (idsD 1 3 a && _)) = false
  rw [h, Bool.false_and, Bool.and_false]
theorem rm_f3 {z a s : PyData} (h : setsD s = false) : realmD (.tuple [z, a, s]) = false := by
  show (zonesD z && (idsD 1 3 a && (setsD s && _))) = false
  rw [h, Bool.false_and, Bool.and_false, Bool.and_false]
theorem zP_no {R : Rm} {r : PyData} (h : zoneD r = false) : zonesD (zP R r) = false := by
  show (tupB 1 6 _ && ((R.zs.map siD ++ [r]).all zoneD && _)) = false
  rw [show (R.zs.map siD ++ [r]).all zoneD = false by rw [List.all_append, List.all_cons, h, Bool.false_and, Bool.and_false], Bool.false_and, Bool.and_false]
theorem sP_no {R : Rm} {r : PyData} (h : setD r = false) : setsD (sP R r) = false := by
  show (tupB 1 8 _ && ((R.ss.map ssD ++ [r]).all setD && _)) = false
  rw [show (R.ss.map ssD ++ [r]).all setD = false by rw [List.all_append, List.all_cons, h, Bool.false_and, Bool.and_false], Bool.false_and, Bool.and_false]
theorem asc_dup {x : PyData} (hx : dataLt x x = false) : ∀ {l : List PyData}, l.getLast? = some x → ascD (l ++ [x]) = false
  | [], h => by cases h
  | [a], h => by
    obtain rfl : a = x := Option.some.inj h
    show (dataLt a a && true) = false
    rw [hx]
    rfl
  | a :: b :: r, h => by
    show (dataLt a b && ascD ((b :: r) ++ [x])) = false
    rw [asc_dup hx (l := b :: r) (by rw [← h]; exact (List.getLast?_cons_cons).symm), Bool.and_false]
theorem lt_no_s (x : Str) : dataLt (.str x) (.str x) = false := by
  cases h : dataLt (PyData.str x) (.str x) with
  | false => rfl
  | true => exact absurd (lt_s.mp h) (sLt_irr x)
theorem lt_no_ss (p : Str × Str) : dataLt (ssD p) (ssD p) = false := by
  cases h : dataLt (ssD p) (ssD p) with
  | false => rfl
  | true => exact absurd (lt_ss.mp h) (ss_irr p)
theorem last_ne {α : Type} {l : List α} (d : α) (h : l ≠ []) : l.getLast? = some (l.getLast?.getD d) := by
  rw [List.getLast?_eq_some_getLast h]
  rfl
theorem dupZ {R : Rm} (h : R.zs ≠ []) : zonesD (zP R (siD (lastZ R))) = false := by
  show (tupB 1 6 _ && (_ && (_ && ascD ((R.zs.map siD ++ [siD (lastZ R)]).map fstD)))) = false
  have e : (R.zs.map siD ++ [siD (lastZ R)]).map fstD = (R.zs.map fun r => PyData.str r.1) ++ [PyData.str (lastZ R).1] := by
    rw [List.map_append, List.map_map]
    rfl
  rw [e, asc_dup (lt_no_s _) (by rw [List.getLast?_map, last_ne (dotS, 0) h]; rfl), Bool.and_false, Bool.and_false, Bool.and_false]
theorem dupS {R : Rm} (h : R.ss ≠ []) : setsD (sP R (ssD (lastS R))) = false := by
  show (tupB 1 8 _ && (_ && ascD (R.ss.map ssD ++ [ssD (lastS R)]))) = false
  rw [asc_dup (lt_no_ss _) (by rw [List.getLast?_map, last_ne (dotS, dotS) h]; rfl), Bool.and_false, Bool.and_false]
theorem unused {R : Rm} {f : Str} {n : Int} (hf : labelB f = true) (hs : ∀ p ∈ R.ss, lastL p.1 ≠ f) : realmD (.tuple [zP R (siD (f, n)), aR R, sR R]) = false := by
  show (_ && (_ && (_ && ((R.zs.map siD ++ [siD (f, n)]).all fun r => usedD (fstD r) (R.ss.map ssD))))) = false
  have h : usedD (fstD (siD (f, n))) (R.ss.map ssD) = false := by
    show ((R.ss.map ssD).any _) = false
    rw [List.any_map, List.any_eq_false]
    intro p hp
    show ¬ endsB p.1 f = true
    exact fun he => hs p hp (last_of hf he)
  rw [List.all_append, List.all_cons, h, Bool.false_and, Bool.and_false, Bool.and_false, Bool.and_false, Bool.and_false]
theorem headZ {r : Str × Int} {ds : List PyData} (h : r.1 ≠ dotS) : zonesD (.tuple (siD r :: ds)) = false := by
  show (_ && (_ && (decide (r.1 = dotS) && _))) = false
  rw [decide_eq_false h, Bool.false_and, Bool.and_false, Bool.and_false]
theorem tailZ {R : Rm} (hR : RmIn R) : zonesD (.tuple (R.zs.tail.map siD)) = false := by
  obtain ⟨lag, rest, e, hn⟩ := hR.ne
  rw [e, List.tail_cons]
  cases rest with
  | nil => rfl
  | cons r rest => exact headZ (hn r List.mem_cons_self)
theorem zR_no {R : Rm} : realmD (zR R) = false := by
  unfold zR
  match h : R.zs.map siD with
  | [] => rfl
  | [_] => rfl
  | [_, _] => rfl
  | [a, b, c] =>
    refine rm_f1 ?_
    have : a ∈ R.zs.map siD := by rw [h]; exact List.mem_cons_self
    obtain ⟨r, _, rfl⟩ := List.mem_map.mp this
    rfl
  | _ :: _ :: _ :: _ :: _ => rfl
theorem label_ne_dot {f : Str} (h : labelB f = true) : f ≠ dotS := fun e => by
  have := label_nodot h
  rw [e, sg_dot] at this
  exact this (by simp)
theorem bad_realm {R : Rm} {m : Int} (hO : RmOk R m) (hR : RmIn R) {f : Str} {n : Int} (hf : labelB f = true) (hn : 1 ≤ n) (hs : ∀ p ∈ R.ss, lastL p.1 ≠ f) : ∀ d ∈ badR R n f, realmD d = false := by
  have hz : R.zs ≠ [] := by
    obtain ⟨lag, rest, e, _⟩ := hR.ne
    rw [e]
    simp
  have hs0 : R.ss ≠ [] := by
    obtain ⟨lag, rest, ns, e1, _⟩ := hO.zs
    obtain ⟨p, hp, _⟩ := hO.used (dotS, lag) (by rw [e1]; exact List.mem_cons_self)
    exact List.ne_nil_of_mem hp
  have int_no : ∀ (z : Str) (i : Int), ¬ (0 ≤ i ∧ i ≤ 100) → zoneD (siD (z, i)) = false := fun z i h => by
    show (nameB z && (decide (0 ≤ i) && decide (i ≤ 100))) = false
    by_cases h0 : 0 ≤ i
    · rw [decide_eq_false (fun h1 => h ⟨h0, h1⟩), Bool.and_false, Bool.and_false]
    · rw [decide_eq_false h0, Bool.false_and, Bool.and_false]
  have name_no : ∀ x y : Str, (nameB x && idB y) = false → setD (t2D x y) = false := fun x y h => h
  intro d hd
  unfold badR at hd
  rcases List.mem_cons.mp hd with rfl | hd
  · rfl
  rcases List.mem_cons.mp hd with rfl | hd
  · rfl
  rcases List.mem_cons.mp hd with rfl | hd
  · exact rm_f1 (tailZ hR)
  rcases List.mem_cons.mp hd with rfl | hd
  · exact rm_f1 (zP_no (int_no _ _ (by decide)))
  rcases List.mem_cons.mp hd with rfl | hd
  · exact rm_f1 (zP_no (int_no _ _ (by omega)))
  rcases List.mem_cons.mp hd with rfl | hd
  · exact unused hf hs
  rcases List.mem_cons.mp hd with rfl | hd
  · exact rm_f1 (dupZ hz)
  rcases List.mem_cons.mp hd with rfl | hd
  · exact rm_f1 (headZ (label_ne_dot hf))
  rcases List.mem_cons.mp hd with rfl | hd
  · exact rm_f2 rfl
  rcases List.mem_cons.mp hd with rfl | hd
  · exact rm_f3 rfl
  rcases List.mem_cons.mp hd with rfl | hd
  · exact rm_f2 rfl
  rcases List.mem_cons.mp hd with rfl | hd
  · exact rm_f2 (by decide +kernel)
  rcases List.mem_cons.mp hd with rfl | hd
  · exact rm_f2 (by decide +kernel)
  rcases List.mem_cons.mp hd with rfl | hd
  · exact rm_f2 (by decide +kernel)
  rcases List.mem_cons.mp hd with rfl | hd
  · exact rm_f2 (by decide +kernel)
  rcases List.mem_cons.mp hd with rfl | hd
  · exact rm_f2 (by decide +kernel)
  rcases List.mem_cons.mp hd with rfl | hd
  · exact rm_f3 (dupS hs0)
  rcases List.mem_cons.mp hd with rfl | hd
  · exact rm_f3 (sP_no (name_no _ _ (by decide +kernel)))
  rcases List.mem_cons.mp hd with rfl | hd
  · exact rm_f3 (sP_no (name_no _ _ (by decide +kernel)))
  rcases List.mem_cons.mp hd with rfl | hd
  · exact rm_f3 (sP_no (name_no _ _ (by decide +kernel)))
  rcases List.mem_cons.mp hd with rfl | hd
  · exact rm_f3 (sP_no rfl)
  rcases List.mem_cons.mp hd with rfl | hd
  · exact rm_f3 (sP_no (name_no _ _ (by decide +kernel)))
  rcases List.mem_cons.mp hd with rfl | hd
  · exact rm_f3 (sP_no (name_no _ _ (by decide +kernel)))
  rcases List.mem_cons.mp hd with rfl | hd
  · exact zR_no
  rcases List.mem_cons.mp hd with rfl | hd
  · rfl
  rcases List.mem_cons.mp hd with rfl | hd
  · rfl
  rcases List.mem_cons.mp hd with rfl | hd
  · rfl
  rcases List.mem_cons.mp hd with rfl | hd
  · refine rm_f1 (zP_no ?_)
    show (nameB f && intB 0 100 (.str "1")) = false
    rw [show intB 0 100 (.str "1") = false from rfl, Bool.and_false]
  · rw [List.mem_singleton.mp hd]
    exact rm_f1 (zP_no rfl)
/-! ### they are small -/
theorem sn_tup {ds : List PyData} {k : Nat} (hl : ds.length ≤ 1000) (hk : k + 1 ≤ 40) (h : ∀ d ∈ ds, Sm d ∧ d.depth ≤ k) : Sm (.tuple ds) ∧ PyData.depth (.tuple ds) ≤ k + 1 := by
  refine ⟨sm_tup.mpr ⟨hl, fun d hd => (h d hd).1⟩, ?_⟩
  show PyData.depthAll ds + 1 ≤ k + 1
  have key : ∀ ds : List PyData, (∀ d ∈ ds, d.depth ≤ k) → PyData.depthAll ds ≤ k := by
    intro ds
    induction ds with
    | nil => intro _; exact Nat.zero_le _
    | cons d ds ih => exact fun h => Nat.max_le.mpr ⟨h d List.mem_cons_self, ih fun e he => h e (List.mem_cons_of_mem _ he)⟩
  have := key ds fun d hd => (h d hd).2
  omega
abbrev SnK (k : Nat) (d : PyData) : Prop := Sm d ∧ d.depth ≤ k
theorem snk_up {j k : Nat} {d : PyData} (h : SnK j d) (hk : j ≤ k) : SnK k d := ⟨h.1, Nat.le_trans h.2 hk⟩
theorem snk_str {z : Str} (h : z.length ≤ 1000) : SnK 0 (.str z) := ⟨h, Nat.le_refl _⟩
theorem snk_int (i : Int) : SnK 0 (.int i) := ⟨trivial, Nat.le_refl _⟩
theorem snk2 {k : Nat} {a b : PyData} (ha : SnK k a) (hb : SnK k b) (hk : k + 1 ≤ 40) : SnK (k + 1) (.tuple [a, b]) := sn_tup (by show 2 ≤ 1000; decide) hk fun d hd => by
  rcases List.mem_cons.mp hd with rfl | hd
  · exact ha
  · rw [List.mem_singleton.mp hd]
    exact hb
theorem snk1 {k : Nat} {a : PyData} (ha : SnK k a) (hk : k + 1 ≤ 40) : SnK (k + 1) (.tuple [a]) := sn_tup (by show 1 ≤ 1000; decide) hk fun d hd => by
  rw [List.mem_singleton.mp hd]
  exact ha
theorem snk0 {k : Nat} (hk : k + 1 ≤ 40) : SnK (k + 1) (.tuple []) := sn_tup (by show 0 ≤ 1000; decide) hk fun d hd => by cases hd
theorem snk3 {k : Nat} {a b c : PyData} (ha : SnK k a) (hb : SnK k b) (hc : SnK k c) (hk : k + 1 ≤ 40) : SnK (k + 1) (.tuple [a, b, c]) := sn_tup (by show 3 ≤ 1000; decide) hk fun d hd => by
  rcases List.mem_cons.mp hd with rfl | hd
  · exact ha
  rcases List.mem_cons.mp hd with rfl | hd
  · exact hb
  · rw [List.mem_singleton.mp hd]
    exact hc
section
variable {R : Rm} (hR : RmIn R)
include hR
theorem sn_zs : ∀ d ∈ R.zs.map siD, SnK 1 d := fun d hd => by
  obtain ⟨r, hr, rfl⟩ := List.mem_map.mp hd
  exact snk2 (snk_str (Nat.le_trans (name_len (hR.nm r hr)) (by decide))) (snk_int _) (by decide)
theorem sn_ss : ∀ d ∈ R.ss.map ssD, SnK 1 d := fun d hd => by
  obtain ⟨r, hr, rfl⟩ := List.mem_map.mp hd
  exact snk2 (snk_str (Nat.le_trans (name_len (hR.sok r hr).1) (by decide))) (snk_str (by have := id_len (hR.sok r hr).2; omega)) (by decide)
theorem sn_zR : SnK 2 (zR R) := sn_tup (by rw [List.length_map]; have := hR.len; omega) (by decide) (sn_zs hR)
theorem sn_sR : SnK 2 (sR R) := sn_tup (by rw [List.length_map]; have := hR.slen; omega) (by decide) (sn_ss hR)
theorem sn_zP {r : PyData} (h : SnK 1 r) : SnK 2 (zP R r) := sn_tup (by rw [List.length_append, List.length_map, List.length_singleton]; have := hR.len; omega) (by decide) fun d hd => by
  rcases List.mem_append.mp hd with hd | hd
  · exact sn_zs hR d hd
  · rw [List.mem_singleton.mp hd]
    exact h
theorem sn_sP {r : PyData} (h : SnK 1 r) : SnK 2 (sP R r) := sn_tup (by rw [List.length_append, List.length_map, List.length_singleton]; have := hR.slen; omega) (by decide) fun d hd => by
  rcases List.mem_append.mp hd with hd | hd
  · exact sn_ss hR d hd
  · rw [List.mem_singleton.mp hd]
    exact h
end
theorem sn_aR {R : Rm} {m : Int} (h : RmOk R m) : SnK 2 (aR R) := by
  obtain ⟨ys, e, hn, hi, h1, h2⟩ := h.an
  refine sn_tup (k := 1) ?_ (by decide) fun d hd => ?_
  · rw [List.length_map, e, (srtS_perm ys).length_eq]
    omega
  · obtain ⟨y, hy, rfl⟩ := List.mem_map.mp hd
    rw [e] at hy
    exact snk_up (snk_str (by have := id_len (hi y ((srtS_perm ys).mem_iff.mp hy)); omega)) (by decide)
theorem bad_small {R : Rm} {m : Int} (hO : RmOk R m) (hR : RmIn R) {f : Str} {n : Int} (hf : f.length ≤ 1000) : ∀ d ∈ badR R n f, SnK 3 d := by
  have hs0 : R.ss ≠ [] := by
    obtain ⟨lag, rest, ns, e1, _⟩ := hO.zs
    obtain ⟨p, hp, _⟩ := hO.used (dotS, lag) (by rw [e1]; exact List.mem_cons_self)
    exact List.ne_nil_of_mem hp
  have hz0 : R.zs ≠ [] := by
    obtain ⟨lag, rest, e, _⟩ := hR.ne
    rw [e]
    simp
  have z := sn_zR hR
  have s := sn_sR hR
  have a := sn_aR hO
  have si : ∀ i : Int, SnK 1 (siD (f, i)) := fun i => snk2 (snk_str hf) (snk_int i) (by decide)
  have ssn : ∀ x y : Str, x.length ≤ 1000 → y.length ≤ 1000 → SnK 1 (t2D x y) := fun x y h1 h2 => snk2 (snk_str h1) (snk_str h2) (by decide)
  have sx := sn_sP hR (ssn f "a" hf (by decide +kernel))
  have t3 : ∀ {x y w : PyData}, SnK 2 x → SnK 2 y → SnK 2 w → SnK 3 (.tuple [x, y, w]) := fun h1 h2 h3 => snk3 h1 h2 h3 (by decide)
  have t1 : ∀ x : Str, x.length ≤ 1000 → SnK 1 (t1D x) := fun x h1 => snk1 (snk_str h1) (by decide)
  have up : ∀ {d : PyData}, SnK 1 d → SnK 2 d := fun h => snk_up h (by decide)
  have e0 : SnK 2 (.tuple []) := snk0 (k := 1) (by decide)
  intro d hd
  unfold badR at hd
  rcases List.mem_cons.mp hd with rfl | hd
  · exact snk2 z a (by decide)
  rcases List.mem_cons.mp hd with rfl | hd
  · refine sn_tup (k := 2) (by show 4 ≤ 1000; decide) (by decide) fun d hd => ?_
    rcases List.mem_cons.mp hd with rfl | hd
    · exact z
    rcases List.mem_cons.mp hd with rfl | hd
    · exact a
    rcases List.mem_cons.mp hd with rfl | hd
    · exact s
    · rw [List.mem_singleton.mp hd]
      exact e0
  rcases List.mem_cons.mp hd with rfl | hd
  · refine t3 (sn_tup (k := 1) ?_ (by decide) fun d hd => ?_) a s
    · rw [List.length_map, List.length_tail]
      have := hR.len
      omega
    · obtain ⟨r, hr, rfl⟩ := List.mem_map.mp hd
      exact sn_zs hR _ (List.mem_map_of_mem (List.mem_of_mem_tail hr))
  rcases List.mem_cons.mp hd with rfl | hd
  · exact t3 (sn_zP hR (si _)) a sx
  rcases List.mem_cons.mp hd with rfl | hd
  · exact t3 (sn_zP hR (si _)) a sx
  rcases List.mem_cons.mp hd with rfl | hd
  · exact t3 (sn_zP hR (si _)) a s
  rcases List.mem_cons.mp hd with rfl | hd
  · refine t3 (sn_zP hR ?_) a s
    have := last_ne (dotS, 0) hz0
    exact sn_zs hR _ (List.mem_map_of_mem (List.mem_of_getLast? this))
  rcases List.mem_cons.mp hd with rfl | hd
  · refine t3 (sn_tup (k := 1) ?_ (by decide) fun d hd => ?_) a sx
    · rw [List.length_cons, List.length_map]
      have := hR.len
      omega
    · rcases List.mem_cons.mp hd with rfl | hd
      · exact si 0
      · exact sn_zs hR d hd
  rcases List.mem_cons.mp hd with rfl | hd
  · exact t3 z e0 s
  rcases List.mem_cons.mp hd with rfl | hd
  · exact t3 z a e0
  rcases List.mem_cons.mp hd with rfl | hd
  · refine t3 z (up (sn_tup (k := 0) (by show 4 ≤ 1000; decide) (by decide) fun d hd => ?_)) s
    rcases List.mem_cons.mp hd with rfl | hd
    · exact snk_str (by decide +kernel)
    rcases List.mem_cons.mp hd with rfl | hd
    · exact snk_str (by decide +kernel)
    rcases List.mem_cons.mp hd with rfl | hd
    · exact snk_str (by decide +kernel)
    · rw [List.mem_singleton.mp hd]
      exact snk_str (by decide +kernel)
  rcases List.mem_cons.mp hd with rfl | hd
  · exact t3 z (up (ssn _ _ (by decide +kernel) (by decide +kernel))) s
  rcases List.mem_cons.mp hd with rfl | hd
  · exact t3 z (up (ssn _ _ (by decide +kernel) (by decide +kernel))) s
  rcases List.mem_cons.mp hd with rfl | hd
  · exact t3 z (up (t1 _ (by decide +kernel))) s
  rcases List.mem_cons.mp hd with rfl | hd
  · exact t3 z (up (t1 _ (by decide +kernel))) s
  rcases List.mem_cons.mp hd with rfl | hd
  · exact t3 z (up (t1 _ (by decide +kernel))) s
  rcases List.mem_cons.mp hd with rfl | hd
  · refine t3 z a (sn_sP hR ?_)
    have := last_ne (dotS, dotS) hs0
    exact sn_ss hR _ (List.mem_map_of_mem (List.mem_of_getLast? this))
  rcases List.mem_cons.mp hd with rfl | hd
  · exact t3 z a (sn_sP hR (ssn _ _ (by decide +kernel) (by decide +kernel)))
  rcases List.mem_cons.mp hd with rfl | hd
  · exact t3 z a (sn_sP hR (ssn _ _ (by decide +kernel) (by decide +kernel)))
  rcases List.mem_cons.mp hd with rfl | hd
  · exact t3 z a (sn_sP hR (ssn _ _ (by decide +kernel) (by decide +kernel)))
  rcases List.mem_cons.mp hd with rfl | hd
  · exact t3 z a (sn_sP hR (t1 _ hf))
  rcases List.mem_cons.mp hd with rfl | hd
  · exact t3 z a (sn_sP hR (ssn _ _ (by decide +kernel) (by decide +kernel)))
  rcases List.mem_cons.mp hd with rfl | hd
  · exact t3 z a (sn_sP hR (ssn _ _ (by decide +kernel) (by decide +kernel)))
  rcases List.mem_cons.mp hd with rfl | hd
  · exact snk_up z (by decide)
  rcases List.mem_cons.mp hd with rfl | hd
  · exact snk_up e0 (by decide)
  rcases List.mem_cons.mp hd with rfl | hd
  · exact snk_up (snk_int _) (by decide)
  rcases List.mem_cons.mp hd with rfl | hd
  · exact snk_up (snk_str (by decide +kernel)) (by decide)
  rcases List.mem_cons.mp hd with rfl | hd
  · exact t3 (sn_zP hR (ssn _ _ hf (by decide +kernel))) a sx
  · rw [List.mem_singleton.mp hd]
    exact t3 (sn_zP hR (t1 _ hf)) a sx
/-! ### items out of form -/
def cI (i : Itm) : PyData := .tuple (i.c.map .str)
def gI (i : Itm) : PyData := .tuple (i.g.map .str)
def i5 (c l g a b : PyData) : PyData := .tuple [c, l, g, a, b]
def badI (i : Itm) (n : Int) : List PyData :=
  [.tuple [cI i, .int i.li, gI i, .int i.a], .tuple ([cI i, .int i.li, gI i, .int i.a, .int i.b] ++ [.int 0]),
   i5 (t2D "b" "a") (.int i.li) (gI i) (.int i.a) (.int i.b), i5 (t2D "a" "a") (.int i.li) (gI i) (.int i.a) (.int i.b),
   i5 (.tuple [.str "a", .str "b", .str "c", .str "d", .str "e"]) (.int i.li) (gI i) (.int i.a) (.int i.b), i5 (t1D "abcde") (.int i.li) (gI i) (.int i.a) (.int i.b),
   i5 (cI i) (.int 0) (gI i) (.int i.a) (.int i.b), i5 (cI i) (.int 1001) (gI i) (.int i.a) (.int i.b), i5 (cI i) (.int (-n)) (gI i) (.int i.a) (.int i.b),
   i5 (cI i) (.int i.li) (.tuple [.str "a", .str "b", .str "c", .str "d"]) (.int i.a) (.int i.b), i5 (cI i) (.int i.li) (t2D "b" "a") (.int i.a) (.int i.b),
   i5 (cI i) (.int i.li) (gI i) (.int n) (.int (n - 1)), i5 (cI i) (.int i.li) (gI i) (.int (-1)) (.int i.b), i5 (cI i) (.int i.li) (gI i) (.int i.a) (.int 10001),
   i5 (cI i) (.int i.li) (.str "a") (.int i.a) (.int i.b), i5 (.str "a") (.int i.li) (gI i) (.int i.a) (.int i.b),
   .tuple [], .int 5, .str "item", i5 (cI i) (.str "1") (gI i) (.int i.a) (.int i.b), i5 (t1D "") (.int i.li) (gI i) (.int i.a) (.int i.b), i5 (t1D "A") (.int i.li) (gI i) (.int i.a) (.int i.b)]
theorem badI_len (i : Itm) (n : Int) : (badI i n).length = 22 := rfl
section
variable {h : Bool} {c l g a b : PyData}
theorem it_f1 (e : idsD 0 4 c = false) : itemD h (i5 c l g a b) = false := by
  show (idsD 0 4 c && _) = false
  rw [e, Bool.false_and]
theorem it_f2 (e : intB 1 1000 l = false) : itemD h (i5 c l g a b) = false := by
  show (_ && (intB 1 1000 l && _)) = false
  rw [e, Bool.false_and, Bool.and_false]
theorem it_f3 (e : idsD 0 3 g = false) : itemD h (i5 c l g a b) = false := by
  show (_ && (_ && (idsD 0 3 g && _))) = false
  rw [e, Bool.false_and, Bool.and_false, Bool.and_false]
theorem it_f4 (e : intB 0 10000 a = false) : itemD h (i5 c l g a b) = false := by
  show (_ && (_ && (_ && (intB 0 10000 a && _)))) = false
  rw [e, Bool.false_and, Bool.and_false, Bool.and_false, Bool.and_false]
theorem it_f5 (e : fromB a b = false) : itemD h (i5 c l g a b) = false := by
  show (_ && (_ && (_ && (_ && (fromB a b && _))))) = false
  rw [e, Bool.false_and, Bool.and_false, Bool.and_false, Bool.and_false, Bool.and_false]
end
theorem int_no {lo hi i : Int} (h : ¬ (lo ≤ i ∧ i ≤ hi)) : intB lo hi (.int i) = false := by
  show (decide (lo ≤ i) && decide (i ≤ hi)) = false
  by_cases h0 : lo ≤ i
  · rw [decide_eq_false (fun h1 => h ⟨h0, h1⟩), Bool.and_false]
  · rw [decide_eq_false h0, Bool.false_and]
theorem bad_item {i : Itm} {n : Int} (hn : 1 ≤ n) (h : Bool) : ∀ d ∈ badI i n, itemD h d = false := by
  intro d hd
  unfold badI at hd
  rcases List.mem_cons.mp hd with rfl | hd
  · rfl
  rcases List.mem_cons.mp hd with rfl | hd
  · rfl
  rcases List.mem_cons.mp hd with rfl | hd
  · exact it_f1 (by decide +kernel)
  rcases List.mem_cons.mp hd with rfl | hd
  · exact it_f1 (by decide +kernel)
  rcases List.mem_cons.mp hd with rfl | hd
  · exact it_f1 rfl
  rcases List.mem_cons.mp hd with rfl | hd
  · exact it_f1 (by decide +kernel)
  rcases List.mem_cons.mp hd with rfl | hd
  · exact it_f2 rfl
  rcases List.mem_cons.mp hd with rfl | hd
  · exact it_f2 rfl
  rcases List.mem_cons.mp hd with rfl | hd
  · exact it_f2 (int_no (by omega))
  rcases List.mem_cons.mp hd with rfl | hd
  · exact it_f3 rfl
  rcases List.mem_cons.mp hd with rfl | hd
  · exact it_f3 (by decide +kernel)
  rcases List.mem_cons.mp hd with rfl | hd
  · exact it_f5 (int_no (by omega))
  rcases List.mem_cons.mp hd with rfl | hd
  · exact it_f4 rfl
  rcases List.mem_cons.mp hd with rfl | hd
  · exact it_f5 (int_no (by omega))
  rcases List.mem_cons.mp hd with rfl | hd
  · exact it_f3 rfl
  rcases List.mem_cons.mp hd with rfl | hd
  · exact it_f1 rfl
  rcases List.mem_cons.mp hd with rfl | hd
  · rfl
  rcases List.mem_cons.mp hd with rfl | hd
  · rfl
  rcases List.mem_cons.mp hd with rfl | hd
  · rfl
  rcases List.mem_cons.mp hd with rfl | hd
  · exact it_f2 rfl
  rcases List.mem_cons.mp hd with rfl | hd
  · exact it_f1 (by decide +kernel)
  · rw [List.mem_singleton.mp hd]
    exact it_f1 (by decide +kernel)
theorem sn_strs {zs : List Str} (hl : zs.length ≤ 1000) (h : ∀ z ∈ zs, z.length ≤ 1000) : SnK 1 (.tuple (zs.map .str)) := sn_tup (by rw [List.length_map]; exact hl) (by decide) fun d hd => by
  obtain ⟨z, hz, rfl⟩ := List.mem_map.mp hd
  exact snk_str (h z hz)
theorem bad_item_small {i : Itm} {n : Int} (hc : SnK 1 (cI i)) (hg : SnK 1 (gI i)) : ∀ d ∈ badI i n, SnK 3 d := by
  have up : ∀ {d : PyData}, SnK 0 d → SnK 1 d := fun h => snk_up h (by decide)
  have I : ∀ j : Int, SnK 1 (.int j) := fun j => up (snk_int j)
  have S : ∀ z : Str, z.length ≤ 1000 → SnK 1 (.str z) := fun z h => up (snk_str h)
  have f5 : ∀ {c l g a b : PyData}, SnK 1 c → SnK 1 l → SnK 1 g → SnK 1 a → SnK 1 b → SnK 3 (i5 c l g a b) := fun h1 h2 h3 h4 h5 => snk_up (sn_tup (k := 1) (by show 5 ≤ 1000; decide) (by decide) fun d hd => by
    rcases List.mem_cons.mp hd with rfl | hd
    · exact h1
    rcases List.mem_cons.mp hd with rfl | hd
    · exact h2
    rcases List.mem_cons.mp hd with rfl | hd
    · exact h3
    rcases List.mem_cons.mp hd with rfl | hd
    · exact h4
    · rw [List.mem_singleton.mp hd]
      exact h5) (by decide)
  have t2 : ∀ x y : Str, x.length ≤ 1000 → y.length ≤ 1000 → SnK 1 (t2D x y) := fun x y h1 h2 => snk2 (snk_str h1) (snk_str h2) (by decide)
  have t1 : ∀ x : Str, x.length ≤ 1000 → SnK 1 (t1D x) := fun x h1 => snk1 (snk_str h1) (by decide)
  intro d hd
  unfold badI at hd
  rcases List.mem_cons.mp hd with rfl | hd
  · refine snk_up (sn_tup (k := 1) (by show 4 ≤ 1000; decide) (by decide) fun d hd => ?_) (by decide)
    rcases List.mem_cons.mp hd with rfl | hd
    · exact hc
    rcases List.mem_cons.mp hd with rfl | hd
    · exact I _
    rcases List.mem_cons.mp hd with rfl | hd
    · exact hg
    · rw [List.mem_singleton.mp hd]
      exact I _
  rcases List.mem_cons.mp hd with rfl | hd
  · refine snk_up (sn_tup (k := 1) (by show 6 ≤ 1000; decide) (by decide) fun d hd => ?_) (by decide)
    rcases List.mem_cons.mp hd with rfl | hd
    · exact hc
    rcases List.mem_cons.mp hd with rfl | hd
    · exact I _
    rcases List.mem_cons.mp hd with rfl | hd
    · exact hg
    rcases List.mem_cons.mp hd with rfl | hd
    · exact I _
    rcases List.mem_cons.mp hd with rfl | hd
    · exact I _
    · rw [List.mem_singleton.mp hd]
      exact I _
  rcases List.mem_cons.mp hd with rfl | hd
  · exact f5 (t2 _ _ (by decide +kernel) (by decide +kernel)) (I _) hg (I _) (I _)
  rcases List.mem_cons.mp hd with rfl | hd
  · exact f5 (t2 _ _ (by decide +kernel) (by decide +kernel)) (I _) hg (I _) (I _)
  rcases List.mem_cons.mp hd with rfl | hd
  · exact f5 (sn_strs (zs := ["a", "b", "c", "d", "e"]) (by decide) (by decide +kernel)) (I _) hg (I _) (I _)
  rcases List.mem_cons.mp hd with rfl | hd
  · exact f5 (t1 _ (by decide +kernel)) (I _) hg (I _) (I _)
  rcases List.mem_cons.mp hd with rfl | hd
  · exact f5 hc (I _) hg (I _) (I _)
  rcases List.mem_cons.mp hd with rfl | hd
  · exact f5 hc (I _) hg (I _) (I _)
  rcases List.mem_cons.mp hd with rfl | hd
  · exact f5 hc (I _) hg (I _) (I _)
  rcases List.mem_cons.mp hd with rfl | hd
  · exact f5 hc (I _) (sn_strs (zs := ["a", "b", "c", "d"]) (by decide) (by decide +kernel)) (I _) (I _)
  rcases List.mem_cons.mp hd with rfl | hd
  · exact f5 hc (I _) (t2 _ _ (by decide +kernel) (by decide +kernel)) (I _) (I _)
  rcases List.mem_cons.mp hd with rfl | hd
  · exact f5 hc (I _) hg (I _) (I _)
  rcases List.mem_cons.mp hd with rfl | hd
  · exact f5 hc (I _) hg (I _) (I _)
  rcases List.mem_cons.mp hd with rfl | hd
  · exact f5 hc (I _) hg (I _) (I _)
  rcases List.mem_cons.mp hd with rfl | hd
  · exact f5 hc (I _) (S _ (by decide +kernel)) (I _) (I _)
  rcases List.mem_cons.mp hd with rfl | hd
  · exact f5 (S _ (by decide +kernel)) (I _) hg (I _) (I _)
  rcases List.mem_cons.mp hd with rfl | hd
  · exact snk0 (by decide)
  rcases List.mem_cons.mp hd with rfl | hd
  · exact snk_up (snk_int _) (by decide)
  rcases List.mem_cons.mp hd with rfl | hd
  · exact snk_up (snk_str (by decide +kernel)) (by decide)
  rcases List.mem_cons.mp hd with rfl | hd
  · exact f5 hc (S _ (by decide +kernel)) hg (I _) (I _)
  rcases List.mem_cons.mp hd with rfl | hd
  · exact f5 (t1 _ (by decide +kernel)) (I _) hg (I _) (I _)
  · rw [List.mem_singleton.mp hd]
    exact f5 (t1 _ (by decide +kernel)) (I _) hg (I _) (I _)
/-! ### realms at the limits -/
def rowsM (ls : List Str) (m : Nat) : List PyData := (ls.take m).map fun l => t2D l "a"
def znsM (ls : List Str) (m : Nat) : List PyData := siD (dotS, 3) :: (ls.take m).map fun l => siD (l, 100)
/-- labels in their order -/
structure LbOk (ls : List Str) : Prop where
  asc : ls.Pairwise fun a b => dataLt (.str a) (.str b) = true
  ok : ∀ l ∈ ls, labelB l = true
theorem LbOk.take {ls : List Str} (h : LbOk ls) (m : Nat) : LbOk (ls.take m) := ⟨h.asc.sublist (List.take_sublist _ _), fun l hl => h.ok l (List.mem_of_mem_take hl)⟩
theorem label_zone {l : Str} (h : labelB l = true) : zoneB l := ⟨[l], (join_one l).symm, by simp, by simp, fun y hy => by rw [List.mem_singleton.mp hy]; exact h⟩
theorem lb_sets {ls : List Str} (h : LbOk ls) (h1 : 1 ≤ ls.length) (h2 : ls.length ≤ 8) : setsD (.tuple (ls.map fun l => t2D l "a")) = true := by
  unfold setsD
  rw [Bool.and_eq_true, Bool.and_eq_true]
  refine ⟨?_, ?_, ?_⟩
  · show (decide ((1 : Int) ≤ ((ls.map fun l => t2D l "a").length : Int)) && decide (((ls.map fun l => t2D l "a").length : Int) ≤ 8)) = true
    rw [Bool.and_eq_true, decide_eq_true_eq, decide_eq_true_eq, List.length_map]
    omega
  · show (ls.map fun l => t2D l "a").all setD = true
    rw [List.all_map, List.all_eq_true]
    intro l hl
    show (nameB l && idB "a") = true
    rw [zone_name (label_zone (h.ok l hl)), show idB "a" = true by decide +kernel]
    rfl
  · show ascD (ls.map fun l => t2D l "a") = true
    refine ascD_of (h.asc.imp fun {a b} hab => ?_)
    show dataLt (ssD (a, "a")) (ssD (b, "a")) = true
    rw [lt_ss]
    exact .inl (lt_s.mp hab)
theorem lb_zones {ls : List Str} (h : LbOk ls) (h2 : ls.length ≤ 5) (lag : Int) (h0 : 0 ≤ lag ∧ lag ≤ 100) : zonesD (.tuple (siD (dotS, lag) :: ls.map fun l => siD (l, 100))) = true := by
  unfold zonesD
  rw [Bool.and_eq_true, Bool.and_eq_true, Bool.and_eq_true]
  refine ⟨?_, ?_, ?_, ?_⟩
  · show (decide ((1 : Int) ≤ ((siD (dotS, lag) :: ls.map fun l => siD (l, 100)).length : Int)) && decide (((siD (dotS, lag) :: ls.map fun l => siD (l, 100)).length : Int) ≤ 6)) = true
    rw [Bool.and_eq_true, decide_eq_true_eq, decide_eq_true_eq, List.length_cons, List.length_map]
    omega
  · show ((nameB dotS && (decide (0 ≤ lag) && decide (lag ≤ 100))) && (ls.map fun l => siD (l, 100)).all zoneD) = true
    rw [dot_name, decide_eq_true h0.1, decide_eq_true h0.2, List.all_map]
    show (ls.all _) = true
    rw [List.all_eq_true]
    intro l hl
    show (nameB l && (decide ((0 : Int) ≤ 100) && decide ((100 : Int) ≤ 100))) = true
    rw [zone_name (label_zone (h.ok l hl))]
    rfl
  · exact decide_eq_true (p := dotS = dotS) rfl
  · show ascD ((siD (dotS, lag) :: ls.map fun l => siD (l, 100)).map fstD) = true
    have e : (siD (dotS, lag) :: ls.map fun l => siD (l, 100)).map fstD = (dotS :: ls).map .str := by
      rw [List.map_cons, List.map_map]
      rfl
    rw [e]
    refine ascD_of (List.pairwise_cons.mpr ⟨fun z hz => ?_, h.asc⟩)
    rw [lt_s]
    exact zone_gt (label_zone (h.ok z hz))
theorem lim_ok {ls : List Str} (h : LbOk ls) (h9 : ls.length = 9) {an : PyData} (ha : idsD 1 3 an = true) :
    realmD (.tuple [.tuple (znsM ls 5), an, .tuple (rowsM ls 5)]) = true ∧ realmD (.tuple [.tuple [siD (dotS, 0)], an, .tuple (rowsM ls 8)]) = true := by
  have l5 : (ls.take 5).length = 5 := by rw [List.length_take]; omega
  have l8 : (ls.take 8).length = 8 := by rw [List.length_take]; omega
  refine ⟨?_, ?_⟩
  · show (zonesD (.tuple (siD (dotS, 3) :: (ls.take 5).map fun l => siD (l, 100))) && (idsD 1 3 an && (setsD (.tuple (rowsM ls 5)) && ((znsM ls 5).all fun r => usedD (fstD r) (rowsM ls 5))))) = true
    rw [lb_zones (h.take 5) (by omega) 3 (by decide), ha, show setsD (.tuple (rowsM ls 5)) = true from lb_sets (h.take 5) (by omega) (by omega), Bool.true_and, Bool.true_and, Bool.true_and, List.all_eq_true]
    intro r hr
    unfold znsM at hr
    unfold usedD rowsM
    rw [List.any_map, List.any_eq_true]
    rcases List.mem_cons.mp hr with rfl | hr
    · obtain ⟨l, hl⟩ : ∃ l, l ∈ ls.take 5 := List.exists_mem_of_length_pos (by omega)
      exact ⟨l, hl, ends_dot l⟩
    · obtain ⟨l, hl, rfl⟩ := List.mem_map.mp hr
      exact ⟨l, hl, ends_self l⟩
  · show (zonesD (.tuple [siD (dotS, 0)]) && (idsD 1 3 an && (setsD (.tuple (rowsM ls 8)) && ([siD (dotS, 0)].all fun r => usedD (fstD r) (rowsM ls 8))))) = true
    rw [show zonesD (.tuple [siD (dotS, 0)]) = true from lb_zones (ls := []) ⟨List.Pairwise.nil, fun _ h => by cases h⟩ (by decide) 0 (by decide), ha, show setsD (.tuple (rowsM ls 8)) = true from lb_sets (h.take 8) (by omega) (by omega), Bool.true_and, Bool.true_and, Bool.true_and, List.all_eq_true]
    intro r hr
    rw [List.mem_singleton.mp hr]
    unfold usedD rowsM
    rw [List.any_map, List.any_eq_true]
    obtain ⟨l, hl⟩ : ∃ l, l ∈ ls.take 8 := List.exists_mem_of_length_pos (by omega)
    exact ⟨l, hl, ends_dot l⟩
theorem asc_rev {α : Type} {f : α → PyData} {L : α → α → Prop} (hL : ∀ a b, dataLt (f a) (f b) = true ↔ L a b) (hn : ∀ a b, L a b → ¬ L b a) {l : List α} (h : l.Pairwise fun a b => dataLt (f a) (f b) = true) (h2 : 2 ≤ l.length) : ascD (l.reverse.map f) = false := by
  match hr : l.reverse with
  | [] =>
    have := congrArg List.length hr
    rw [List.length_reverse] at this
    simp only [List.length_nil, List.length_cons] at this
    omega
  | [_] =>
    have := congrArg List.length hr
    rw [List.length_reverse] at this
    simp only [List.length_nil, List.length_cons] at this
    omega
  | a :: b :: r =>
    have hp : (a :: b :: r).Pairwise fun x y => dataLt (f y) (f x) = true := by
      rw [← hr, List.pairwise_reverse]
      exact h
    have hab := (List.pairwise_cons.mp hp).1 b List.mem_cons_self
    show (dataLt (f a) (f b) && _) = false
    have : dataLt (f a) (f b) = false := by
      cases hc : dataLt (f a) (f b) with
      | false => rfl
      | true => exact absurd ((hL a b).mp hc) (hn b a ((hL b a).mp hab))
    rw [this, Bool.false_and]
theorem s_asym (a b : Str) (h : sLt a b) : ¬ sLt b a := fun h2 => sLt_irr a (sLt_tr h h2)
theorem lim_no {ls : List Str} (h : LbOk ls) (h9 : ls.length = 9) {an : PyData} :
    realmD (.tuple [.tuple (znsM ls 6), an, .tuple (rowsM ls 6)]) = false ∧ realmD (.tuple [.tuple [siD (dotS, 0)], an, .tuple (rowsM ls 9)]) = false ∧
    realmD (.tuple [.tuple (siD (dotS, 3) :: (((ls.take 5).map fun l => siD (l, 100)).reverse)), an, .tuple (rowsM ls 5)]) = false ∧ realmD (.tuple [.tuple (znsM ls 5), an, .tuple (rowsM ls 5).reverse]) = false := by
  have l5 : (ls.take 5).length = 5 := by rw [List.length_take]; omega
  refine ⟨rm_f1 ?_, rm_f3 ?_, rm_f1 ?_, rm_f3 ?_⟩
  · have : tupB 1 6 (.tuple (znsM ls 6)) = false := by
      show (decide ((1 : Int) ≤ ((znsM ls 6).length : Int)) && decide (((znsM ls 6).length : Int) ≤ 6)) = false
      unfold znsM
      rw [decide_eq_false (p := (((siD (dotS, 3) :: (ls.take 6).map fun l => siD (l, 100)).length : Nat) : Int) ≤ 6) (by rw [List.length_cons, List.length_map, List.length_take]; omega), Bool.and_false]
    unfold zonesD
    rw [this, Bool.false_and]
  · have : tupB 1 8 (.tuple (rowsM ls 9)) = false := by
      show (decide ((1 : Int) ≤ ((rowsM ls 9).length : Int)) && decide (((rowsM ls 9).length : Int) ≤ 8)) = false
      unfold rowsM
      rw [decide_eq_false (p := ((((ls.take 9).map fun l => t2D l "a").length : Nat) : Int) ≤ 8) (by rw [List.length_map, List.length_take]; omega), Bool.and_false]
    unfold setsD
    rw [this, Bool.false_and]
  · show (_ && (_ && (_ && ascD ((siD (dotS, 3) :: (((ls.take 5).map fun l => siD (l, 100)).reverse)).map fstD)))) = false
    have e : (siD (dotS, 3) :: (((ls.take 5).map fun l => siD (l, 100)).reverse)).map fstD = PyData.str dotS :: (ls.take 5).reverse.map .str := by
      rw [← List.map_reverse, List.map_cons, List.map_map]
      rfl
    rw [e]
    have hr := asc_rev (f := PyData.str) (fun a b => lt_s) s_asym (h.take 5).asc (by omega)
    have : ascD (PyData.str dotS :: (ls.take 5).reverse.map .str) = false := by
      cases hq : (ls.take 5).reverse.map PyData.str with
      | nil => rw [hq] at hr; cases hr
      | cons x r =>
        rw [ascD_cons, ← hq, hr, Bool.and_false]
    rw [this, Bool.and_false, Bool.and_false, Bool.and_false]
  · show (_ && (_ && ascD ((rowsM ls 5).reverse))) = false
    have e : (rowsM ls 5).reverse = (ls.take 5).reverse.map fun l => t2D l "a" := by
      unfold rowsM
      rw [List.map_reverse]
    have hp : (ls.take 5).Pairwise fun a b => dataLt (t2D a "a") (t2D b "a") = true := (h.take 5).asc.imp fun {a b} hab => by
      show dataLt (ssD (a, "a")) (ssD (b, "a")) = true
      rw [lt_ss]
      exact .inl (lt_s.mp hab)
    have hL : ∀ a b : Str, dataLt (t2D a "a") (t2D b "a") = true ↔ sLt a b := fun a b => by
      show dataLt (ssD (a, "a")) (ssD (b, "a")) = true ↔ _
      rw [lt_ss]
      exact ⟨fun h => h.elim id fun h => absurd h.2 (sLt_irr _), .inl⟩
    rw [e, asc_rev (f := fun l => t2D l "a") hL s_asym hp (by omega), Bool.and_false, Bool.and_false]
/-! a tuple's slices with the step -1: t[::-1] and t[:0:-1] -/
namespace HT
open _root_.HT
section
variable {prog : Program} {w : World} {A : Around} {E : Value → Shared → Prop} {s : Shared}
/-- what the slice leaves out in front -/
def dnC : Option Int → Nat
  | none => 0
  | some _ => 1
theorem adjust_dn {hi : Option Int} (h0 : hi = none ∨ hi = some 0) (n : Nat) : Builtin.Slice.sliceAdjust none hi (-1) (n : Int) = ((n : Int) - 1, if hi = none then -1 else min 0 ((n : Int) - 1)) := by
  unfold Builtin.Slice.sliceAdjust
  have h1 : ((-1 : Int) < 0) := by omega
  rcases h0 with rfl | rfl
  · simp only [h1, if_true]
  · simp only [h1, if_true]
    refine Prod.ext rfl ?_
    show (if (0 : Int) < 0 then max (0 + (n : Int)) (-1) else min 0 ((n : Int) - 1)) = _
    rw [if_neg (by omega), if_neg (by simp)]
theorem places_dn {hi : Option Int} (h0 : hi = none ∨ hi = some 0) (n : Nat) : Builtin.Slice.slicePlaces ((n : Int) - 1) (if hi = none then -1 else min 0 ((n : Int) - 1)) (-1) = n - dnC hi := by
  unfold Builtin.Slice.slicePlaces
  have h1 : ¬ ((-1 : Int) > 0) := by omega
  rcases h0 with rfl | rfl
  · simp only [h1, if_false, if_true, show (- -1 : Int) = 1 from rfl, Int.ediv_one]
    show _ = n - 0
    split <;> omega
  · rw [if_neg (by simp : ¬ (some (0 : Int) = none))]
    simp only [h1, if_false, show (- -1 : Int) = 1 from rfl, Int.ediv_one]
    show _ = n - 1
    split <;> omega
theorem sliceApplied_dn {sl : Addr} {vl vu vs : Value} {hi : Option Int} {n : Nat} {Q : Int × Int × Nat → Shared → Prop} (h0 : hi = none ∨ hi = some 0) (hs : s.heap.IsSliceOf sl vl vu vs) (pl : IsPart vl none) (pu : IsPart vu hi) (ps : IsPart vs (some (-1)))
    (h : Q ((n : Int) - 1, -1, n - dnC hi) s) : wpAny (model prog w) A (Builtin.Slice.sliceApplied (.ref sl) (pure (n : Int))) Q E s := by
  obtain ⟨os, hos, hcs, hds⟩ := id hs
  unfold Builtin.Slice.sliceApplied Builtin.Slice.sliceFields
  refine wpAny_bind (wpAny_bind (wpAny_field hos hds (x := vl) rfl (wpAny_bind (wpAny_field hos hds (x := vu) rfl (wpAny_bind (wpAny_field hos hds (x := vs) rfl (wpAny_pure ?_)))))))
  refine wpAny_bind (slicePart_ ps ?_)
  show wpAny _ _ (if ((-1 : Int) == 0) = true then _ else _) _ _ s
  rw [if_neg (by decide)]
  refine wpAny_bind (slicePart_ pl (wpAny_bind (slicePart_ pu (wpAny_bind (wpAny_pure ?_)))))
  show wpAny _ _ (match Builtin.Slice.sliceAdjust none hi (-1) (n : Int) with | (lo, hi) => pure (lo, (-1 : Int), Builtin.Slice.slicePlaces lo hi (-1))) _ _ s
  rw [adjust_dn h0 n]
  show wpAny _ _ (pure ((n : Int) - 1, (-1 : Int), Builtin.Slice.slicePlaces ((n : Int) - 1) (if hi = none then -1 else min 0 ((n : Int) - 1)) (-1))) _ _ s
  rw [places_dn h0]
  exact wpAny_pure h
theorem fm_some {α β : Type} {f : α → Option β} {g : α → β} : ∀ {l : List α}, (∀ m ∈ l, f m = some (g m)) → l.filterMap f = l.map g
  | [], _ => rfl
  | m :: l, h => by
    rw [List.filterMap_cons, h m List.mem_cons_self, List.map_cons, fm_some fun x hx => h x (List.mem_cons_of_mem _ hx)]
theorem pick_dn (xs : Array Value) (c : Nat) : ((List.range (xs.size - c)).filterMap fun (m : Nat) => xs[(((xs.size : Int) - 1) + (m : Int) * -1).toNat]?).toArray = ((xs.toList.drop c).reverse).toArray := by
  congr 1
  apply List.ext_getElem?
  intro i
  have e : (fun (m : Nat) => xs[(((xs.size : Int) - 1) + (m : Int) * -1).toNat]?) = fun m => xs[xs.size - 1 - m]? := by
    funext m
    by_cases hm : m ≤ xs.size - 1
    · have : (((xs.size : Int) - 1) + (m : Int) * -1).toNat = xs.size - 1 - m := by omega
      rw [this]
    · have : (((xs.size : Int) - 1) + (m : Int) * -1).toNat = xs.size - 1 - m := by omega
      rw [this]
  rw [e]
  have e2 : (List.range (xs.size - c)).filterMap (fun m => xs[xs.size - 1 - m]?) = (List.range (xs.size - c)).map (fun m => (xs[xs.size - 1 - m]?).getD .none) := by
    refine fm_some fun m hm => ?_
    have := List.mem_range.mp hm
    have h2 : xs.size - 1 - m < xs.size := by omega
    simp [h2]
  rw [e2, List.getElem?_map]
  by_cases hi : i < xs.size - c
  · rw [List.getElem?_range hi, List.getElem?_reverse (by rw [List.length_drop, Array.length_toList]; exact hi), List.length_drop, Array.length_toList, List.getElem?_drop]
    have h2 : xs.size - 1 - i < xs.size := by omega
    have h3 : c + (xs.size - c - 1 - i) = xs.size - 1 - i := by omega
    rw [h3]
    simp [h2]
  · rw [List.getElem?_eq_none (by rw [List.length_range]; omega), List.getElem?_eq_none (by rw [List.length_reverse, List.length_drop, Array.length_toList]; omega)]
    rfl
theorem getItem_tuple_dn {t sl : Addr} {items : Array Value} {vl vu vs : Value} {hi : Option Int} {Q : Value → Shared → Prop} (h0 : hi = none ∨ hi = some 0) (ht : IsTup s.heap t items) (hs : s.heap.IsSliceOf sl vl vu vs) (pl : IsPart vl none) (pu : IsPart vu hi) (ps : IsPart vs (some (-1)))
    (h : Q (.ref s.heap.objs.size) { s with heap := s.heap.push { cls := .type "tuple", data := .seq ((items.toList.drop (dnC hi)).reverse).toArray } })
    (hsz : items.size ≤ sizeLine) : wpAny (model prog w) A (getItem (.ref t) (.ref sl)) Q E s := by
  have htake : sizeOk (.seq ((items.toList.drop (dnC hi)).reverse).toArray) := by
    show ((items.toList.drop (dnC hi)).reverse).toArray.size ≤ sizeLine
    rw [List.size_toArray, List.length_reverse, List.length_drop, Array.length_toList]
    omega
  obtain ⟨os, hos, hcs, hds⟩ := id hs
  have hTs : s.TypeIs (.ref sl) "slice" := ⟨os, hos, hcs⟩
  unfold getItem
  try with_reducible refine wpAny_holding ?_
  first | refine wpAny_bind (wpAny_pure ?_) | skip
  refine wpAny_bind (wpAny_sequenceKey ht.typeIs (by decide) ?_)
  refine wpAny_bind (wpAny_callSpecial?_slot (name := Str.ofString "__getitem__") ht.typeIs PyProof.Rows.slot_tuple_getitem
    (wpAny_call_entry PyProof.Rows.slot_tuple_getitem ht.typeIs entry_tuple_getitem ?_ (args_tuple_getitem _ _)))
  show wpAny _ _ (Builtin.Tuple.tupleItemsOf (.ref t) >>= _) _ _ s
  refine wpAny_bind (tupleItemsOf_ ht ?_)
  refine wpAny_bind (wpAny_typeOf hTs ?_)
  rw [if_pos (by decide)]
  refine wpAny_bind (sliceApplied_dn h0 hs pl pu ps ?_)
  have hno : ¬ ((((items.size : Int) - 1) == 0 && (-1 : Int) == 1 && (items.size - dnC hi) == items.size) = true) := by
    intro q
    rw [Bool.and_eq_true, Bool.and_eq_true] at q
    exact absurd q.1.2 (by decide)
  show wpAny _ _ (if (((items.size : Int) - 1) == 0 && (-1 : Int) == 1 && (items.size - dnC hi) == items.size) = true then _ else _) _ _ s
  rw [if_neg hno, pick_dn]
  first
    | exact wpAny_bind (m := Builtin.Tuple.tupleExact _) (wpAny_newObj_type (wpAny_pure ⟨_, rfl, wpAny_pure h⟩) htake)
    | exact wpAny_bind (m := Builtin.Tuple.tupleExact _) (wpAny_newObj_type (wpAny_bind (wpAny_pure (wpAny_pure ⟨_, rfl, wpAny_pure h⟩))) htake)
    | exact wpAny_bind (wpAny_bind (m := Builtin.Tuple.tupleExact _) (wpAny_newObj_type (wpAny_pure (wpAny_pure ⟨_, rfl, wpAny_pure h⟩)) htake))
    | exact wpAny_bind (wpAny_bind (m := Builtin.Tuple.tupleExact _) (wpAny_newObj_type (wpAny_pure ⟨_, rfl, wpAny_pure h⟩) htake))
end
end HT
section
variable {X : Cx}
/-- t[::-1], t[:0:-1] -/
def tDnT (K : PySem.W.Frag) (c : Nat) (te : TE) : TE := fun σ H Q => te σ H fun x H1 => ∃ a xs, x = .ref a ∧ SqT K H1 a xs ∧ ∀ p, H1 p = none → Q (.ref p) (upd H1 p (.tup (xs.drop c).reverse))
theorem dn_end {hi : Option Int} {pins : List (Addr × Obj)} {s2 : Shared} {σ : L2.St} {H1 : Hp} {Q : VK} {a : Addr} {xs : List V} {vl vu vs : Value} (h0 : hi = none ∨ hi = some 0) (pl : IsPart vl none) (pu : IsPart vu hi) (ps : IsPart vs (some (-1)))
    (hx : SqT X.K H1 a xs) (q : ∀ p, H1 p = none → Q (.ref p) (upd H1 p (.tup (xs.drop (HT.dnC hi)).reverse))) (I : Inv X pins σ H1 s2) :
    wpAny (model X.prog X.w) X.A (getItem (.ref a) (.ref s2.heap.objs.size)) (EP X pins σ Q) X.xe { s2 with heap := s2.heap.push { cls := .type "slice", data := .fields #[vl, vu, vs] } } := by
  have I5 : Inv X pins σ H1 { s2 with heap := s2.heap.push { cls := .type "slice", data := .fields #[vl, vu, vs] } } := I.kept (t' := s2.toks) fun b ob q => Heap.get?_push_of_some _ q
  obtain ⟨its, r, ht, hz⟩ := I5.tuple hx
  have hlen := r.length
  refine HT.getItem_tuple_dn h0 ht (Heap.IsSliceOf.new _ vl vu vs) pl pu ps ?_ (by rw [List.size_toArray]; omega)
  refine ⟨.ref _, _, I5.laid (t' := s2.toks) (o := .tup (xs.drop (HT.dnC hi)).reverse) (fun b ob q => Heap.get?_push_of_some _ q) (Nat.le_refl _) ?_, rfl, q _ (I5.hok.fresh (Nat.le_refl _))⟩
  refine ⟨?_, _, (r.drop (HT.dnC hi)).reverse, IsTup.new _ _⟩
  rw [List.length_reverse, List.length_drop]
  omega
theorem pe_dnT {e : Expr} {te : TE} {k : Nat} {p1 p2 p3 pos : Pos} (he : PE X e te) : PE X (.Subscript e (.Slice none none (some (.UnaryOp .USub (.Constant (.int 1) k p1) p2)) p3) pos) (tDnT X.K 0 te) := by
  refine ⟨fun pins s σ H Q I h => ?_⟩
  refine Subscript_ (thn (he.run pins s σ H _ I h) fun v s1 ⟨x, H1, I1, r1, q1⟩ => ?_)
  obtain ⟨a, xs, ex, hx, q⟩ := q1
  subst ex
  cases r1
  have hst : PO X (some (.UnaryOp .USub (.Constant (.int 1) k p1) p2)) (tPart (tUn (rU fun i => .int (-i)) (tC (.int 1)))) := po_some (pe_un un_neg pe_int)
  refine wpAny_Slice (thn (po_none.run pins s1 σ H1 (fun o H2 => o = none ∧ H2 = H1) I1 ⟨rfl, rfl⟩) fun vl s2 ⟨l, H2, I2, pl, el, e2⟩ => ?_)
  subst el e2
  refine thn (po_none.run pins s2 σ H2 (fun o H3 => o = none ∧ H3 = H2) I2 ⟨rfl, rfl⟩) fun vu s3 ⟨u, H3, I3, pu, eu, e3⟩ => ?_
  subst eu e3
  refine thn (hst.run pins s3 σ H3 (fun o H4 => o = some (-1) ∧ H4 = H3) I3 ⟨1, rfl, -1, rfl, rfl, rfl⟩) fun vs s4 ⟨o, H4, I4, ps, eo, e4⟩ => ?_
  subst eo e4
  have I5 : Inv X pins σ H4 { s4 with heap := s4.heap.push { cls := .type "slice", data := .fields #[vl, vu, vs] } } := I4.kept (t' := s4.toks) fun b ob q => Heap.get?_push_of_some _ q
  obtain ⟨its, r, ht, hz⟩ := I5.tuple hx
  show wpAny (model X.prog X.w) X.A (subscriptTail e (.Slice none none (some (.UnaryOp .USub (.Constant (.int 1) k p1) p2)) p3) (.ref a) (.ref s4.heap.objs.size)) (EP X pins σ Q) X.xe { s4 with heap := s4.heap.push { cls := .type "slice", data := .fields #[vl, vu, vs] } }
  exact tail_any (ops := [.ref a, .ref s4.heap.objs.size]) ht.typeIs PyProof.Rows.slot_tuple_getitem.lookup (dn_end (.inl rfl) pl pu ps hx q I4) (by with_unfolding_all rfl)
theorem pe_dnT1 {e : Expr} {te : TE} {k k0 : Nat} {p0 p1 p2 p3 pos : Pos} (he : PE X e te) : PE X (.Subscript e (.Slice none (some (.Constant (.int 0) k0 p0)) (some (.UnaryOp .USub (.Constant (.int 1) k p1) p2)) p3) pos) (tDnT X.K 1 te) := by
  refine ⟨fun pins s σ H Q I h => ?_⟩
  refine Subscript_ (thn (he.run pins s σ H _ I h) fun v s1 ⟨x, H1, I1, r1, q1⟩ => ?_)
  obtain ⟨a, xs, ex, hx, q⟩ := q1
  subst ex
  cases r1
  have hst : PO X (some (.UnaryOp .USub (.Constant (.int 1) k p1) p2)) (tPart (tUn (rU fun i => .int (-i)) (tC (.int 1)))) := po_some (pe_un un_neg pe_int)
  have h0 : PO X (some (.Constant (.int 0) k0 p0)) (tPart (tC (.int 0))) := po_some pe_int
  refine wpAny_Slice (thn (po_none.run pins s1 σ H1 (fun o H2 => o = none ∧ H2 = H1) I1 ⟨rfl, rfl⟩) fun vl s2 ⟨l, H2, I2, pl, el, e2⟩ => ?_)
  subst el e2
  refine thn (h0.run pins s2 σ H2 (fun o H3 => o = some 0 ∧ H3 = H2) I2 ⟨0, rfl, rfl, rfl⟩) fun vu s3 ⟨u, H3, I3, pu, eu, e3⟩ => ?_
  subst eu e3
  refine thn (hst.run pins s3 σ H3 (fun o H4 => o = some (-1) ∧ H4 = H3) I3 ⟨1, rfl, -1, rfl, rfl, rfl⟩) fun vs s4 ⟨o, H4, I4, ps, eo, e4⟩ => ?_
  subst eo e4
  have I5 : Inv X pins σ H4 { s4 with heap := s4.heap.push { cls := .type "slice", data := .fields #[vl, vu, vs] } } := I4.kept (t' := s4.toks) fun b ob q => Heap.get?_push_of_some _ q
  obtain ⟨its, r, ht, hz⟩ := I5.tuple hx
  show wpAny (model X.prog X.w) X.A (subscriptTail e (.Slice none (some (.Constant (.int 0) k0 p0)) (some (.UnaryOp .USub (.Constant (.int 1) k p1) p2)) p3) (.ref a) (.ref s4.heap.objs.size)) (EP X pins σ Q) X.xe { s4 with heap := s4.heap.push { cls := .type "slice", data := .fields #[vl, vu, vs] } }
  exact tail_any (ops := [.ref a, .ref s4.heap.objs.size]) ht.typeIs PyProof.Rows.slot_tuple_getitem.lookup (dn_end (.inr rfl) pl pu ps hx q I4) (by with_unfolding_all rfl)
theorem pe_dnTU (K : PySem.W.Frag) (hK : X.K = K) {e : Expr} {te : TE} {k : Nat} {p1 p2 p3 pos : Pos} (he : PE X e te) : PE X (.Subscript e (.Slice none none (some (.UnaryOp .USub (.Constant (.int 1) k p1) p2)) p3) pos) (tDnT K 0 te) := by
  subst hK
  exact pe_dnT he
theorem pe_dnT1U (K : PySem.W.Frag) (hK : X.K = K) {e : Expr} {te : TE} {k k0 : Nat} {p0 p1 p2 p3 pos : Pos} (he : PE X e te) : PE X (.Subscript e (.Slice none (some (.Constant (.int 0) k0 p0)) (some (.UnaryOp .USub (.Constant (.int 1) k p1) p2)) p3) pos) (tDnT K 1 te) := by
  subst hK
  exact pe_dnT1 he
end
section
variable {K : PySem.W.Frag} {σ : L2.St} {H : Hp} {Q : VK}
theorem rd_dnT {te : TE} {c : Nat} (q : te σ H fun x H1 => ∃ a xs, x = .ref a ∧ SqT K H1 a xs ∧ ∀ p, H1 p = none → Q (.ref p) (upd H1 p (.tup (xs.drop c).reverse))) : tDnT K c te σ H Q := q
end
/-! ### a drawn item has the form -/
theorem ids_okN {lo hi : Nat} {an : List Str} (h : ∃ ys, an = srtS ys ∧ ys.Nodup ∧ (∀ y ∈ ys, idB y = true) ∧ ys.length ≤ hi) (hlo : lo = 0) : idsD lo hi (.tuple (an.map .str)) = true := by
  obtain ⟨ys, rfl, hn, hi', h2⟩ := h
  have hl := (srtS_perm ys).length_eq
  unfold idsD
  rw [Bool.and_eq_true, Bool.and_eq_true]
  refine ⟨?_, ?_, asc_srtS hn⟩
  · show (decide ((lo : Int) ≤ (((srtS ys).map PyData.str).length : Int)) && decide ((((srtS ys).map PyData.str).length : Int) ≤ (hi : Int))) = true
    rw [Bool.and_eq_true, decide_eq_true_eq, decide_eq_true_eq, List.length_map]
    omega
  · show ((srtS ys).map PyData.str).all idD = true
    rw [List.all_map, List.all_eq_true]
    exact fun y hy => hi' y ((srtS_perm ys).mem_iff.mp hy)
theorem int_yes {lo hi i : Int} (h : lo ≤ i ∧ i ≤ hi) : intB lo hi (.int i) = true := by
  show (decide (lo ≤ i) && decide (i ≤ hi)) = true
  rw [decide_eq_true h.1, decide_eq_true h.2]
  rfl
theorem item_okD {s : Sl} {i : Itm} (h : ItmOk s i) {hb : Bool} (hh : hb = true → i.g = [] ∧ i.a = 0 ∧ i.b = 10000) : itemD hb (itD i) = true := by
  show (idsD 0 4 (.tuple (i.c.map .str)) && (intB 1 1000 (.int i.li) && (idsD 0 3 (.tuple (i.g.map .str)) && (intB 0 10000 (.int i.a) && (intB i.a 10000 (.int i.b) && (!hb || bareB (.tuple (i.g.map .str)) (.int i.a) (.int i.b))))))) = true
  have hc : idsD 0 4 (.tuple (i.c.map .str)) = true := ids_okN (lo := 0) (hi := 4) h.c rfl
  have hg : idsD 0 3 (.tuple (i.g.map .str)) = true := ids_okN (lo := 0) (hi := 3) h.g rfl
  have hab := h.ab
  rw [hc, hg, int_yes h.li, int_yes ⟨hab.1, by omega⟩, int_yes hab.2, Bool.true_and, Bool.true_and, Bool.true_and, Bool.true_and, Bool.true_and]
  cases hb with
  | false => rfl
  | true =>
    obtain ⟨e1, e2, e3⟩ := hh rfl
    rw [e1, e2, e3]
    rfl
theorem itm_sn {s : Sl} {i : Itm} (h : ItmOk s i) : SnK 1 (cI i) ∧ SnK 1 (gI i) := by
  obtain ⟨cs, e1, n1, i1, l1⟩ := h.c
  obtain ⟨gs, e2, n2, i2, l2⟩ := h.g
  refine ⟨sn_strs ?_ fun z hz => ?_, sn_strs ?_ fun z hz => ?_⟩
  · rw [e1, (srtS_perm cs).length_eq]; omega
  · rw [e1] at hz
    have := id_len (i1 z ((srtS_perm cs).mem_iff.mp hz))
    omega
  · rw [e2, (srtS_perm gs).length_eq]; omega
  · rw [e2] at hz
    have := id_len (i2 z ((srtS_perm gs).mem_iff.mp hz))
    omega
def topS (i : Nat) : Stmt := PySem.Challenge.pw_neverdark_k20_forms_of_realms.main.body.getD i (.Pass ⟨0, 0, 0, 0⟩)
abbrev s_is_integer_in : Stmt := topS 1
theorem sc_is_integer_in : FnScope ["value", "least", "most"] ["value", "least", "most"] (defScope s_is_integer_in) := ⟨rfl, rfl, rfl, by decide +kernel, rfl, by decide +kernel, by decide +kernel⟩
abbrev s_is_tuple_of : Stmt := topS 2
theorem sc_is_tuple_of : FnScope ["value", "least", "most"] ["value", "least", "most"] (defScope s_is_tuple_of) := ⟨rfl, rfl, rfl, by decide +kernel, rfl, by decide +kernel, by decide +kernel⟩
abbrev s_is_ascending : Stmt := topS 3
abbrev N_is_ascending : List Str := ["values", "low", "high"]
theorem sc_is_ascending : FnScope ["values", "low", "high"] ["values"] (defScope s_is_ascending) := ⟨rfl, rfl, rfl, by decide +kernel, rfl, by decide +kernel, by decide +kernel⟩
abbrev s_is_word : Stmt := topS 9
abbrev N_is_word : List Str := ["text", "letters", "most", "letter"]
theorem sc_is_word : FnScope ["text", "letters", "most", "letter"] ["text", "letters", "most"] (defScope s_is_word) := ⟨rfl, rfl, rfl, by decide +kernel, rfl, by decide +kernel, by decide +kernel⟩
abbrev s_is_id : Stmt := topS 10
theorem sc_is_id : FnScope ["text"] ["text"] (defScope s_is_id) := ⟨rfl, rfl, rfl, by decide +kernel, rfl, by decide +kernel, by decide +kernel⟩
abbrev s_is_label : Stmt := topS 11
theorem sc_is_label : FnScope ["text"] ["text"] (defScope s_is_label) := ⟨rfl, rfl, rfl, by decide +kernel, rfl, by decide +kernel, by decide +kernel⟩
abbrev s_is_name : Stmt := topS 12
abbrev N_is_name : List Str := ["text", "parts", "part"]
theorem sc_is_name : FnScope ["text", "parts", "part"] ["text"] (defScope s_is_name) := ⟨rfl, rfl, rfl, by decide +kernel, rfl, by decide +kernel, by decide +kernel⟩
abbrev s_labels : Stmt := topS 13
theorem sc_labels : FnScope ["name"] ["name"] (defScope s_labels) := ⟨rfl, rfl, rfl, by decide +kernel, rfl, by decide +kernel, by decide +kernel⟩
abbrev s_ends : Stmt := topS 14
theorem sc_ends : FnScope ["name", "other"] ["name", "other"] (defScope s_ends) := ⟨rfl, rfl, rfl, by decide +kernel, rfl, by decide +kernel, by decide +kernel⟩
abbrev s_chain : Stmt := topS 15
abbrev N_chain : List Str := ["zones", "name", "found", "zone"]
theorem sc_chain : FnScope ["zones", "name", "found", "zone"] ["zones", "name"] (defScope s_chain) := ⟨rfl, rfl, rfl, by decide +kernel, rfl, by decide +kernel, by decide +kernel⟩
abbrev s_zone_of : Stmt := topS 16
theorem sc_zone_of : FnScope ["zones", "name"] ["zones", "name"] (defScope s_zone_of) := ⟨rfl, rfl, rfl, by decide +kernel, rfl, by decide +kernel, by decide +kernel⟩
abbrev s_are_ids : Stmt := topS 27
abbrev N_are_ids : List Str := ["value", "least", "most", "part"]
theorem sc_are_ids : FnScope ["value", "least", "most", "part"] ["value", "least", "most"] (defScope s_are_ids) := ⟨rfl, rfl, rfl, by decide +kernel, rfl, by decide +kernel, by decide +kernel⟩
abbrev s_is_zone : Stmt := topS 28
theorem sc_is_zone : FnScope ["value"] ["value"] (defScope s_is_zone) := ⟨rfl, rfl, rfl, by decide +kernel, rfl, by decide +kernel, by decide +kernel⟩
abbrev s_are_zones : Stmt := topS 29
abbrev N_are_zones : List Str := ["value", "names", "zone", "_", "part"]
theorem sc_are_zones : FnScope ["value", "names", "zone", "_", "part"] ["value"] (defScope s_are_zones) := ⟨rfl, rfl, rfl, by decide +kernel, rfl, by decide +kernel, by decide +kernel⟩
abbrev s_is_set : Stmt := topS 30
theorem sc_is_set : FnScope ["value"] ["value"] (defScope s_is_set) := ⟨rfl, rfl, rfl, by decide +kernel, rfl, by decide +kernel, by decide +kernel⟩
abbrev s_are_sets : Stmt := topS 31
abbrev N_are_sets : List Str := ["value", "part"]
theorem sc_are_sets : FnScope ["value", "part"] ["value"] (defScope s_are_sets) := ⟨rfl, rfl, rfl, by decide +kernel, rfl, by decide +kernel, by decide +kernel⟩
abbrev s_is_used : Stmt := topS 32
abbrev N_is_used : List Str := ["zone", "sets", "name", "_"]
theorem sc_is_used : FnScope ["zone", "sets", "name", "_"] ["zone", "sets"] (defScope s_is_used) := ⟨rfl, rfl, rfl, by decide +kernel, rfl, by decide +kernel, by decide +kernel⟩
abbrev s_is_realm : Stmt := topS 33
abbrev N_is_realm : List Str := ["value", "zones", "anchors", "sets", "zone", "_"]
theorem sc_is_realm : FnScope ["value", "zones", "anchors", "sets", "zone", "_"] ["value"] (defScope s_is_realm) := ⟨rfl, rfl, rfl, by decide +kernel, rfl, by decide +kernel, by decide +kernel⟩
abbrev s_zone_names : Stmt := topS 34
abbrev N_zone_names : List Str := ["realm", "zone", "_"]
theorem sc_zone_names : FnScope ["realm", "zone", "_"] ["realm"] (defScope s_zone_names) := ⟨rfl, rfl, rfl, by decide +kernel, rfl, by decide +kernel, by decide +kernel⟩
abbrev s_slots : Stmt := topS 35
abbrev N_slots : List Str := ["realm", "found", "zone", "name", "kind"]
theorem sc_slots : FnScope ["realm", "found", "zone", "name", "kind"] ["realm"] (defScope s_slots) := ⟨rfl, rfl, rfl, by decide +kernel, rfl, by decide +kernel, by decide +kernel⟩
abbrev s_parent : Stmt := topS 36
theorem sc_parent : FnScope ["realm", "zone"] ["realm", "zone"] (defScope s_parent) := ⟨rfl, rfl, rfl, by decide +kernel, rfl, by decide +kernel, by decide +kernel⟩
abbrev s_home : Stmt := topS 37
theorem sc_home : FnScope ["realm", "slot"] ["realm", "slot"] (defScope s_home) := ⟨rfl, rfl, rfl, by decide +kernel, rfl, by decide +kernel, by decide +kernel⟩
abbrev s_lag_of : Stmt := topS 38
theorem sc_lag_of : FnScope ["realm", "slot"] ["realm", "slot"] (defScope s_lag_of) := ⟨rfl, rfl, rfl, by decide +kernel, rfl, by decide +kernel, by decide +kernel⟩
abbrev s_is_slot : Stmt := topS 39
theorem sc_is_slot : FnScope ["realm", "value"] ["realm", "value"] (defScope s_is_slot) := ⟨rfl, rfl, rfl, by decide +kernel, rfl, by decide +kernel, by decide +kernel⟩
abbrev s_is_item : Stmt := topS 40
theorem sc_is_item : FnScope ["slot", "value", "content", "life", "signers", "first", "last"] ["slot", "value"] (defScope s_is_item) := ⟨rfl, rfl, rfl, by decide +kernel, rfl, by decide +kernel, by decide +kernel⟩
abbrev s_law_mix : Stmt := topS 42
theorem sc_law_mix : FnScope ["number"] ["number"] (defScope s_law_mix) := ⟨rfl, rfl, rfl, by decide +kernel, rfl, by decide +kernel, by decide +kernel⟩
abbrev s_law_tape : Stmt := topS 43
theorem sc_law_tape : FnScope ["script", "budget"] ["script", "budget"] (defScope s_law_tape) := ⟨rfl, rfl, rfl, by decide +kernel, rfl, by decide +kernel, by decide +kernel⟩
abbrev s_law_take : Stmt := topS 44
theorem sc_law_take : FnScope ["tape", "many", "cell", "digit"] ["tape", "many"] (defScope s_law_take) := ⟨rfl, rfl, rfl, by decide +kernel, rfl, by decide +kernel, by decide +kernel⟩
abbrev s_law_id : Stmt := topS 45
theorem sc_law_id : FnScope ["tape", "signs", "word", "k"] ["tape"] (defScope s_law_id) := ⟨rfl, rfl, rfl, by decide +kernel, rfl, by decide +kernel, by decide +kernel⟩
abbrev s_law_ids : Stmt := topS 46
theorem sc_law_ids : FnScope ["tape", "many", "found", "turn", "word"] ["tape", "many"] (defScope s_law_ids) := ⟨rfl, rfl, rfl, by decide +kernel, rfl, by decide +kernel, by decide +kernel⟩
abbrev s_law_label : Stmt := topS 47
theorem sc_law_label : FnScope ["tape", "word"] ["tape"] (defScope s_law_label) := ⟨rfl, rfl, rfl, by decide +kernel, rfl, by decide +kernel, by decide +kernel⟩
abbrev s_law_labels : Stmt := topS 48
theorem sc_law_labels : FnScope ["tape", "found", "last", "word"] ["tape"] (defScope s_law_labels) := ⟨rfl, rfl, rfl, by decide +kernel, rfl, by decide +kernel, by decide +kernel⟩
abbrev s_law_lag : Stmt := topS 49
theorem sc_law_lag : FnScope ["tape"] ["tape"] (defScope s_law_lag) := ⟨rfl, rfl, rfl, by decide +kernel, rfl, by decide +kernel, by decide +kernel⟩
abbrev s_law_zones : Stmt := topS 50
abbrev N_law_zones : List Str := ["tape", "most", "one", "two", "three", "pool", "names", "k", "name"]
theorem sc_law_zones : FnScope ["tape", "most", "one", "two", "three", "pool", "names", "k", "name"] ["tape", "most"] (defScope s_law_zones) := ⟨rfl, rfl, rfl, by decide +kernel, rfl, by decide +kernel, by decide +kernel⟩
abbrev s_law_realm : Stmt := topS 51
theorem sc_law_realm : FnScope ["tape", "most", "zones", "sets", "zone", "lag", "name", "kept", "row", "anchors"] ["tape", "most"] (defScope s_law_realm) := ⟨rfl, rfl, rfl, by decide +kernel, rfl, by decide +kernel, by decide +kernel⟩
abbrev s_law_chain : Stmt := topS 52
abbrev N_law_chain : List Str := ["realm", "name", "found", "zone", "lag", "pair"]
theorem sc_law_chain : FnScope ["realm", "name", "found", "zone", "lag", "pair"] ["realm", "name"] (defScope s_law_chain) := ⟨rfl, rfl, rfl, by decide +kernel, rfl, by decide +kernel, by decide +kernel⟩
abbrev s_law_slots : Stmt := topS 53
abbrev N_law_slots : List Str := ["realm", "found", "zone", "lag", "name", "kind"]
theorem sc_law_slots : FnScope ["realm", "found", "zone", "lag", "name", "kind"] ["realm"] (defScope s_law_slots) := ⟨rfl, rfl, rfl, by decide +kernel, rfl, by decide +kernel, by decide +kernel⟩
abbrev s_law_home : Stmt := topS 54
theorem sc_law_home : FnScope ["realm", "slot", "chain_v"] ["realm", "slot"] (defScope s_law_home) := ⟨rfl, rfl, rfl, by decide +kernel, rfl, by decide +kernel, by decide +kernel⟩
abbrev s_law_lag_of : Stmt := topS 55
abbrev N_law_lag_of : List Str := ["realm", "slot", "zone", "name", "lag"]
theorem sc_law_lag_of : FnScope ["realm", "slot", "zone", "name", "lag"] ["realm", "slot"] (defScope s_law_lag_of) := ⟨rfl, rfl, rfl, by decide +kernel, rfl, by decide +kernel, by decide +kernel⟩
abbrev s_law_life : Stmt := topS 56
theorem sc_law_life : FnScope ["tape"] ["tape"] (defScope s_law_life) := ⟨rfl, rfl, rfl, by decide +kernel, rfl, by decide +kernel, by decide +kernel⟩
abbrev s_law_pools : Stmt := topS 57
abbrev N_law_pools : List Str := ["tape", "realm", "pools", "zone", "lag", "pool", "key"]
theorem sc_law_pools : FnScope ["tape", "realm", "pools", "zone", "lag", "pool", "key"] ["tape", "realm"] (defScope s_law_pools) := ⟨rfl, rfl, rfl, by decide +kernel, rfl, by decide +kernel, by decide +kernel⟩
abbrev s_law_pool : Stmt := topS 58
abbrev N_law_pool : List Str := ["pools", "zone", "name", "pool"]
theorem sc_law_pool : FnScope ["pools", "zone", "name", "pool"] ["pools", "zone"] (defScope s_law_pool) := ⟨rfl, rfl, rfl, by decide +kernel, rfl, by decide +kernel, by decide +kernel⟩
abbrev s_law_item : Stmt := topS 59
theorem sc_law_item : FnScope ["content", "life", "signers"] ["content", "life", "signers"] (defScope s_law_item) := ⟨rfl, rfl, rfl, by decide +kernel, rfl, by decide +kernel, by decide +kernel⟩
abbrev s_law_first_item : Stmt := topS 60
theorem sc_law_first_item : FnScope ["tape", "realm", "pools", "slot", "life", "own", "content"] ["tape", "realm", "pools", "slot"] (defScope s_law_first_item) := ⟨rfl, rfl, rfl, by decide +kernel, rfl, by decide +kernel, by decide +kernel⟩
abbrev s_law_fresh : Stmt := topS 73
abbrev N_law_fresh : List Str := ["realm", "used", "row", "word"]
theorem sc_law_fresh : FnScope ["realm", "used", "row", "word"] ["realm"] (defScope s_law_fresh) := ⟨rfl, rfl, rfl, by decide +kernel, rfl, by decide +kernel, by decide +kernel⟩
abbrev s_law_bad_realms : Stmt := topS 74
theorem sc_law_bad_realms : FnScope ["tape", "realm", "zones", "anchors", "sets", "n", "fresh", "extra"] ["tape", "realm"] (defScope s_law_bad_realms) := ⟨rfl, rfl, rfl, by decide +kernel, rfl, by decide +kernel, by decide +kernel⟩
abbrev s_law_bad_item : Stmt := topS 75
theorem sc_law_bad_item : FnScope ["tape", "item", "content", "life", "signers", "first", "last", "n"] ["tape", "item"] (defScope s_law_bad_item) := ⟨rfl, rfl, rfl, by decide +kernel, rfl, by decide +kernel, by decide +kernel⟩
abbrev s_law_limits : Stmt := topS 76
abbrev N_law_limits : List Str := ["tape", "realm", "labels_v", "rows", "zones", "told", "many", "word", "label"]
theorem sc_law_limits : FnScope ["tape", "realm", "labels_v", "rows", "zones", "told", "many", "word", "label"] ["tape", "realm"] (defScope s_law_limits) := ⟨rfl, rfl, rfl, by decide +kernel, rfl, by decide +kernel, by decide +kernel⟩
abbrev s_law : Stmt := topS 77
abbrev N_law : List Str := ["script", "tape", "realm", "zone", "lag", "pools", "slot", "item", "wrong"]
theorem sc_law : FnScope ["script", "tape", "realm", "zone", "lag", "pools", "slot", "item", "wrong"] ["script"] (defScope s_law) := ⟨rfl, rfl, rfl, by decide +kernel, rfl, by decide +kernel, by decide +kernel⟩
local macro_rules | `(tactic| walk_at "szl_2") => `(tactic| first
  | assumption
  | exact Nat.lt_of_le_of_lt (by assumption) (by decide)
  | (refine Nat.lt_of_le_of_lt ?_ (show (100000 : Nat) < sizeLine by decide); (try simp only [List.length_map, List.length_cons, List.length_nil, List.length_append]); omega))
local macro_rules | `(tactic| walk_at "sz_2") => `(tactic| first
  | assumption
  | exact Nat.le_trans (by assumption) (by decide)
  | (show _ ≤ sizeLine; decide)
  | (refine Nat.le_trans ?_ (show (100000 : Nat) ≤ sizeLine by decide); (try simp only [List.length_map, List.length_cons, List.length_nil, List.length_append]); omega))
local macro_rules | `(tactic| walk_at "hp_2") => `(tactic| first
  | assumption
  | exact upd_same
  | (refine (upd_ne ?hne).trans ?_; (case hne => first | assumption | exact Ne.symm (by assumption)); walk_at "hp_2"))
local macro_rules | `(tactic| walk_at "pl_2") => `(tactic| (refine Nat.le_trans (?plx : _ ≤ 1000) (by decide); (case plx => (try simp only [app_len, dot_len, dotS_len, w_len]); omega)))
local macro_rules | `(tactic| walk_at "rd1_2") => `(tactic| first
  | with_reducible refine rd_seq ?_
  | with_reducible refine rd_asg ?_
  | with_reducible refine rd_ret ?_
  | with_reducible refine rd_if ?_
  | with_reducible refine rd_drop ?_
  | with_reducible refine rd_next ?_
  | with_reducible refine rd_B ?_
  | with_reducible refine rd_ifE ?_
  | with_reducible refine rd_T ?_
  | with_reducible refine rd_tnot ?_
  | with_reducible refine rd_tand ?_
  | with_reducible refine rd_tor ?_
  | with_reducible refine rd_chain ?_
  | with_reducible refine rd_op ?_
  | with_reducible refine rd_un ?_
  | with_reducible refine rd_call ?_
  | with_reducible refine rd_cons ?_
  | with_reducible refine rd_nil ?_
  | with_reducible refine rd_cb ?_
  | with_reducible refine rd_c ?_
  | with_reducible refine rd_not ?_
  | with_reducible refine rd_and ?_
  | with_reducible refine rd_or ?_
  | with_reducible refine rd_sub ?_
  | with_reducible refine rd_lc ?_
  | with_reducible refine rd_iStr ?_
  | with_reducible refine rd_exStr ?_
  | with_reducible refine rd_iSeq ?_
  | with_reducible refine rd_rng ?_
  | with_reducible refine rd_exRef ?_
  | with_reducible refine rd_exInt ?_
  | with_reducible refine rd_exInts ?_
  | ((with_reducible refine' rd_seqL (xs := ?rxs) ?rxh ?_); (case rxh => exact SqL.of (by walk_at "hp_2")))
  | with_reducible refine rd_tyes ?_
  | with_reducible refine rd_eqStr ?_
  | with_reducible refine rd_neStr ?_
  | with_reducible refine rd_eqInt ?_
  | with_reducible refine rd_neInt ?_
  | with_reducible refine rd_eqBl ?_
  | with_reducible refine rd_rev ?_
  | with_reducible refine rd_exA ?_
  | with_reducible refine rd_fs ?_
  | with_reducible refine rd_jc ?_
  | with_reducible refine rd_jn ?_
  | with_reducible refine rd_fmt ?_
  | with_reducible refine rd_for ?_
  | with_reducible refine rd_bm ?_
  | ((with_reducible refine' rd_tyL (xs := ?rxs) ?rxh ?_); (case rxh => walk_at "hp_2"))
  | ((with_reducible refine' rd_app (xs := ?rxs) ?rxh ?rxc ?_); (case rxh => walk_at "hp_2"); (case rxc => walk_at "szl_2"))
  | ((with_reducible refine rd_fmtS ?rdc ?_); (case rdc => walk_at "sz_2"))
  | with_reducible refine rd_isBool ?_
  | with_reducible refine rd_sl ?_
  | with_reducible refine rd_noP ?_
  | with_reducible refine rd_part ?_
  | ((with_reducible refine rd_slS ?rdc ?_); (case rdc => walk_at "sz_2"))
  | with_reducible refine rd_sortLam ?_
  | with_reducible refine iteT ?_
  | with_reducible refine rd_ntt ?_
  | with_reducible refine rd_nff ?_
  | with_reducible refine iteF ?_
  | with_reducible refine rd_m1 ?_
  | (with_reducible refine ⟨⟨_, rfl⟩, ?_⟩)
  | ((with_reducible refine rd_len ?rdc ?_); (case rdc => walk_at "sz_2"))
  | with_reducible refine rd_gcons ?_
  | ((with_reducible refine rd_plusS ?rdc ?_); (case rdc => walk_at "pl_2"))
  | with_reducible refine rd_gnil ?_
  | ((with_reducible refine' rd_inWs (zs := ?rxs) ?rxh ?_); (case rxh => walk_at "hp_2"))
  | ((with_reducible refine' rd_ninWs (zs := ?rxs) ?rxh ?_); (case rxh => walk_at "hp_2"))
  | with_reducible refine rd_ends ?_
  | with_reducible refine rd_inS ?_
  | with_reducible refine rd_ninS ?_
  | with_reducible refine rd_isStr ?_
  | with_reducible refine rd_lst ?_
  | with_reducible refine rd_tup ?_
  | with_reducible refine rd_name ?_
  | with_reducible refine rd_bl ?_
  | with_reducible refine rd_i0 ?_
  | with_reducible refine rd_uI ?_
  | with_reducible refine rd_plusI ?_
  | with_reducible refine rd_int1 ?_
  | ((with_reducible refine rd_i ?rdc ?_); (case rdc => first | decide | (constructor <;> decide) | (left; constructor <;> decide) | (right; constructor <;> decide) | omega | (left; constructor <;> omega) | (right; constructor <;> omega) | (constructor <;> omega)))
  | ((with_reducible refine' rd_ixL (v := ?rxv) (xs := ?rxs) ?rxh ?rxa ?_); (case rxh => exact SqL.of (by walk_at "hp_2")); (case rxa => rfl))
  | ((with_reducible refine' rd_lenL (ys := ?rxs) ?rxh ?_); (case rxh => exact SqL.of (by walk_at "hp_2")))
  | ((with_reducible refine' rd_set (xs := ?rxs) (j := ?rxj) ?rxh ?rxa ?_); (case rxh => walk_at "hp_2"); (case rxa => rfl))
  | ((with_reducible refine' rd_var (v := ?rdw) ?rdv ?_); (case rdv => rfl)))
local macro_rules | `(tactic| walk_at "rdn1_2") => `(tactic| first
  | with_reducible refine rd_asg ?_
  | with_reducible refine rd_ret ?_
  | with_reducible refine rd_if ?_
  | with_reducible refine rd_drop ?_
  | with_reducible refine rd_next ?_
  | with_reducible refine rd_B ?_
  | with_reducible refine rd_ifE ?_
  | with_reducible refine rd_T ?_
  | with_reducible refine rd_tnot ?_
  | with_reducible refine rd_tand ?_
  | with_reducible refine rd_tor ?_
  | with_reducible refine rd_chain ?_
  | with_reducible refine rd_op ?_
  | with_reducible refine rd_un ?_
  | with_reducible refine rd_call ?_
  | with_reducible refine rd_cons ?_
  | with_reducible refine rd_nil ?_
  | with_reducible refine rd_cb ?_
  | with_reducible refine rd_c ?_
  | with_reducible refine rd_not ?_
  | with_reducible refine rd_and ?_
  | with_reducible refine rd_or ?_
  | with_reducible refine rd_sub ?_
  | with_reducible refine rd_lc ?_
  | with_reducible refine rd_iStr ?_
  | with_reducible refine rd_exStr ?_
  | with_reducible refine rd_iSeq ?_
  | with_reducible refine rd_rng ?_
  | with_reducible refine rd_exRef ?_
  | with_reducible refine rd_exInt ?_
  | with_reducible refine rd_exInts ?_
  | ((with_reducible refine' rd_seqL (xs := ?rxs) ?rxh ?_); (case rxh => exact SqL.of (by walk_at "hp_2")))
  | with_reducible refine rd_tyes ?_
  | with_reducible refine rd_eqStr ?_
  | with_reducible refine rd_neStr ?_
  | with_reducible refine rd_eqInt ?_
  | with_reducible refine rd_neInt ?_
  | with_reducible refine rd_eqBl ?_
  | with_reducible refine rd_rev ?_
  | with_reducible refine rd_exA ?_
  | with_reducible refine rd_fs ?_
  | with_reducible refine rd_jc ?_
  | with_reducible refine rd_jn ?_
  | with_reducible refine rd_fmt ?_
  | with_reducible refine rd_for ?_
  | with_reducible refine rd_bm ?_
  | ((with_reducible refine' rd_tyL (xs := ?rxs) ?rxh ?_); (case rxh => walk_at "hp_2"))
  | ((with_reducible refine' rd_app (xs := ?rxs) ?rxh ?rxc ?_); (case rxh => walk_at "hp_2"); (case rxc => walk_at "szl_2"))
  | ((with_reducible refine rd_fmtS ?rdc ?_); (case rdc => walk_at "sz_2"))
  | with_reducible refine rd_isBool ?_
  | with_reducible refine rd_sl ?_
  | with_reducible refine rd_noP ?_
  | with_reducible refine rd_part ?_
  | ((with_reducible refine rd_slS ?rdc ?_); (case rdc => walk_at "sz_2"))
  | with_reducible refine rd_sortLam ?_
  | with_reducible refine iteT ?_
  | with_reducible refine rd_ntt ?_
  | with_reducible refine rd_nff ?_
  | with_reducible refine iteF ?_
  | with_reducible refine rd_m1 ?_
  | (with_reducible refine ⟨⟨_, rfl⟩, ?_⟩)
  | ((with_reducible refine rd_len ?rdc ?_); (case rdc => walk_at "sz_2"))
  | with_reducible refine rd_gcons ?_
  | ((with_reducible refine rd_plusS ?rdc ?_); (case rdc => walk_at "pl_2"))
  | with_reducible refine rd_gnil ?_
  | ((with_reducible refine' rd_inWs (zs := ?rxs) ?rxh ?_); (case rxh => walk_at "hp_2"))
  | ((with_reducible refine' rd_ninWs (zs := ?rxs) ?rxh ?_); (case rxh => walk_at "hp_2"))
  | with_reducible refine rd_ends ?_
  | with_reducible refine rd_inS ?_
  | with_reducible refine rd_ninS ?_
  | with_reducible refine rd_isStr ?_
  | with_reducible refine rd_lst ?_
  | with_reducible refine rd_tup ?_
  | with_reducible refine rd_name ?_
  | with_reducible refine rd_bl ?_
  | with_reducible refine rd_i0 ?_
  | with_reducible refine rd_uI ?_
  | with_reducible refine rd_plusI ?_
  | with_reducible refine rd_int1 ?_
  | ((with_reducible refine rd_i ?rdc ?_); (case rdc => first | decide | (constructor <;> decide) | (left; constructor <;> decide) | (right; constructor <;> decide) | omega | (left; constructor <;> omega) | (right; constructor <;> omega) | (constructor <;> omega)))
  | ((with_reducible refine' rd_ixL (v := ?rxv) (xs := ?rxs) ?rxh ?rxa ?_); (case rxh => exact SqL.of (by walk_at "hp_2")); (case rxa => rfl))
  | ((with_reducible refine' rd_lenL (ys := ?rxs) ?rxh ?_); (case rxh => exact SqL.of (by walk_at "hp_2")))
  | ((with_reducible refine' rd_set (xs := ?rxs) (j := ?rxj) ?rxh ?rxa ?_); (case rxh => walk_at "hp_2"); (case rxa => rfl))
  | ((with_reducible refine' rd_var (v := ?rdw) ?rdv ?_); (case rdv => rfl)))
local macro_rules | `(tactic| walk_at "rd_2") => `(tactic| repeat walk_at "rd1_2")
local macro_rules | `(tactic| walk_at "ext_2") => `(tactic| first
  | exact Ext.refl
  | assumption
  | (refine Ext.trans ?_ (Ext.mut (by simp) (by walk_at "hp_2")); walk_at "ext_2")
  | (refine Ext.trans ?_ (Ext.new (by assumption)); walk_at "ext_2"))
local macro_rules | `(tactic| walk_at "rdn_2") => `(tactic| repeat walk_at "rdn1_2")
section
variable {T : List (Addr × Str)} {P : Program} {w : World} {K : PySem.W.Frag} {mg : Str → Option Value} {base : Heap}
def bltns : List Str := ["isinstance", "str", "len", "all", "sorted", "range", "list", "tuple", "int", "bool", "dict", "any", "min", "max", "enumerate", "zip", "set", "reversed"]
theorem ok_law_id (D : Def K mg "_law_id" s_law_id ["tape"]) (mb : ∀ x ∈ bltns, mg x = none) (G_law_take : Ok P w K mg base 2 "_law_take" ["tape", "many"] (spTake T)) : Ok P w K mg base 3 "_law_id" ["tape"] (spId T) := by
  refine D.ok sc_law_id (fun vs H Q E h => ?_) (fun cdv f A outer s H vs Q E hr h => ?_)
  · obtain ⟨l, t, rfl, _⟩ := h
    rfl
  · obtain ⟨l, t, rfl, hT, q⟩ := h
    refine ⟨_, (pss_cons (ps_set (i := 1) sc_law_id.nd rfl (.inl rfl) pe_str)
   (pss_cons (ps_set (i := 2) sc_law_id.nd rfl (.inl rfl) pe_str)
   (pss_cons (ps_for PassesOwn.never rfl (pi_range1 (by rfl) (mb _ (by decide)) (pa_cons (pe_op (op_plus K rfl) pe_int (pe_callO G_law_take (hr.mono (by decide)) (by rfl) (pa_cons (pv 0) (pa_cons pe_int pa_nil)))) pa_nil)) (pg_name (i := 3) sc_law_id.nd rfl (.inl rfl)) (pss_one (ps_set (i := 2) sc_law_id.nd rfl (.inl rfl) (pe_op (op_plus K rfl) (pv 2) (pe_ix (ix_U K rfl) (pv 1) (pe_callO G_law_take (hr.mono (by decide)) (by rfl) (pa_cons (pv 0) (pa_cons pe_int pa_nil))) (fun _ _ => rfl))))))
   (pss_one (ps_ret (pv 2)))))), ?_⟩
    walk_at "rd_2"
    refine ⟨l, t, 4, rfl, by decide, by decide, hT, fun d H1 hd0 hd1 e1 T1 => ?_⟩
    walk_at "rd_2"
    refine ⟨by omega, by omega, ?_⟩
    refine forg_range (fun i σ H' => Ext T [t] H H' ∧ Tape l H' t ∧ ∃ (z : Str) (k : Option V), σ = [some (.ref t), some (.str lettersS), some (.str z), k] ∧ z.length = i ∧ ∀ c ∈ sg z, c ∈ sg lettersS)
      ⟨e1, T1, _, none, rfl, by decide +kernel, by decide +kernel⟩ (fun i σ H' hi h => ?_) (fun σ H' h => ?_)
    · obtain ⟨e2, T2, z, k, rfl, hz, hc⟩ := h
      have hs36 : (sg lettersS).length = 36 := by decide +kernel
      walk_at "rd_2"
      refine ⟨l, t, 36, rfl, by decide, by decide, T2, fun d2 H2 h0 h1 e3 T3 => ?_⟩
      obtain ⟨c, hc1, _, hc2⟩ := at_in (l := sg lettersS) h0 (by omega)
      refine rd_ixS (by rw [← sg_len, hs36]; decide) hc1 ?_
      refine rd_plusS ?_ ⟨e2.trans e3, T3, _, _, rfl, ?_, ?_⟩
      · show z.length + 1 ≤ sizeLine
        exact Nat.le_trans (show _ ≤ 101 by omega) (by decide)
      · rw [app_len, hz]
        rfl
      · intro y hy
        rw [sg_app] at hy
        rcases List.mem_append.mp hy with h | h
        · exact hc y h
        · rw [List.mem_singleton.mp (show y ∈ [c] from h)]
          exact hc2
    · obtain ⟨e2, T2, z, k, rfl, hz, hc⟩ := h
      walk_at "rd_2"
      refine q z H' ?_ e2 T2
      unfold idB wordB
      rw [decide_eq_true (show (1 : Int) ≤ (z.length : Int) by omega), decide_eq_true (show (z.length : Int) ≤ 4 by omega)]
      rw [List.all_eq_true.mpr fun y hy => decide_eq_true (hc y hy)]
      rfl
theorem ok_law_ids (D : Def K mg "_law_ids" s_law_ids ["tape", "many"]) (mb : ∀ x ∈ bltns, mg x = none) (G_law_id : Ok P w K mg base 3 "_law_id" ["tape"] (spId T)) : Ok P w K mg base 4 "_law_ids" ["tape", "many"] (spIds T) := by
  refine D.ok sc_law_ids (fun vs H Q E h => ?_) (fun cdv f A outer s H vs Q E hr h => ?_)
  · obtain ⟨l, t, m, rfl, _⟩ := h
    rfl
  · obtain ⟨l, t, m, rfl, hm0, hm5, hT, q⟩ := h
    refine ⟨_, (pss_cons (ps_set (i := 2) sc_law_ids.nd rfl (.inl rfl) (pe_lst pa_nil))
   (pss_cons (ps_for PassesOwn.never rfl (pi_range1 (by rfl) (mb _ (by decide)) (pa_cons pe_int pa_nil)) (pg_name (i := 3) sc_law_ids.nd rfl (.inl rfl)) (pss_cons (ps_set (i := 4) sc_law_ids.nd rfl (.inl rfl) (pe_callO G_law_id (hr.mono (by decide)) (by rfl) (pa_cons (pv 0) pa_nil)))
   (pss_one (ps_if (PW.pt (pw_and (pt_cmpR op_lt (pe_callB (call_lenU K rfl) (by rfl) (mb _ (by decide)) (by decide +kernel) (pa_cons (pv 2) pa_nil)) (pv 1) (nomark _)) (pw_and1 (pt_cmpR (op_ninW K rfl (Room.units65 hr)) (pv 4) (pv 2) rfl)))) (pss_one (ps_expr (pe_bm PySem.F.plainAttrs_list PySem.F.slot_list_append PySem.F.type_list_append mt_append (pv 2) (pa_cons (pv 4) pa_nil)))) pss_nil))))
   (pss_cons (ps_for PassesOwn.never rfl (pi_seq K rfl (pe_lst (pa_cons pe_str (pa_cons pe_str (pa_cons pe_str (pa_cons pe_str (pa_cons pe_str pa_nil))))))) (pg_name (i := 4) sc_law_ids.nd rfl (.inl rfl)) (pss_one (ps_if (PW.pt (pw_and (pt_cmpR op_lt (pe_callB (call_lenU K rfl) (by rfl) (mb _ (by decide)) (by decide +kernel) (pa_cons (pv 2) pa_nil)) (pv 1) (nomark _)) (pw_and1 (pt_cmpR (op_ninW K rfl (Room.units65 hr)) (pv 4) (pv 2) rfl)))) (pss_one (ps_expr (pe_bm PySem.F.plainAttrs_list PySem.F.slot_list_append PySem.F.type_list_append mt_append (pv 2) (pa_cons (pv 4) pa_nil)))) pss_nil)))
   (pss_one (ps_ret (pv 2)))))), ?_⟩
    refine rd_seq ?_
    walk_at "rdn_2"
    refine ⟨by show 0 ≤ sizeLine; decide, fun p np => ?_⟩
    have hpn : Nw H p := .of np
    obtain ⟨hpt, hpl⟩ := hT.ne hpn
    have e0 : Ext T [t] H (upd H p (.lst [])) := .new np
    have T0 := hT.upd (o := .lst []) np
    have hp0 : (upd H p (.lst [])) p = some (.lst (([] : List Str).map V.str)) := upd_same
    generalize upd H p (.lst []) = H0 at e0 T0 hp0 ⊢
    walk_at "rdn_2"
    -- a word is put to the list
    have put : ∀ (N1 N2 : L2.St → Hp → Prop) (σ : L2.St) (H1 : Hp) (ys : List Str) (z : Str), Ext T [t] H H1 → Tape l H1 t → H1 p = some (.lst (ys.map V.str)) → ys.Nodup → (∀ y ∈ ys, idB y = true) → (ys.length : Int) ≤ m → idB z = true →
        (∀ (H2 : Hp) (ys' : List Str), Ext T [t] H H2 → Tape l H2 t → H2 p = some (.lst (ys'.map V.str)) → ys'.Nodup → (∀ y ∈ ys', idB y = true) → (ys'.length : Int) ≤ m → (∀ y ∈ ys, y ∈ ys') → ((ys'.length : Int) < m → z ∈ ys') → (∀ b xs, b ≠ p → H1 b = some (.lst xs) → H2 b = some (.lst xs)) → N1 σ H2) → σ[1]? = some (some (.int m)) → σ[2]? = some (some (.ref p)) → σ[4]? = some (some (.str z)) →
        (tIfS (tAnd (tTest (tOp (rI0 fun i j => V.bl (decide (i < j))) (tCB (rLenU K) (tCons (tVar 2) tNil)) (tVar 1))) (tTest (tOp (rNinW K) (tVar 4) (tVar 2)))) (tDrop (tBM K "list" rAppend (tVar 2) (tCons (tVar 4) tNil))) tNext) ⟨N1, Q, N2, N1⟩ σ H1 := by
      intro N1 N2 σ H1 ys z e1 T1 hp1 hnd hid hlen hz k s1 s2 s4
      walk_at "rd_2"
      refine rd_var s2 ?_
      walk_at "rd_2"
      refine rd_var s1 ?_
      walk_at "rd_2"
      refine rd_ite (fun hlt => ?_) (fun hlt => ?_)
      · walk_at "rd_2"
        refine rd_var s4 ?_
        refine rd_var s2 ?_
        walk_at "rd_2"
        refine rd_itn (fun hin => ?_) (fun hin => ?_)
        · walk_at "rd_2"
          exact k H1 ys e1 T1 hp1 hnd hid hlen (fun y hy => hy) (fun _ => hin) fun _ _ _ h => h
        · walk_at "rd_2"
          refine rd_var s2 ?_
          walk_at "rd_2"
          refine rd_var s4 ?_
          walk_at "rd_2"
          refine k _ (ys ++ [z]) (e1.own hpn hp1) (T1.own hpt hpl) ?_ (nodup_snoc hnd hin) (fun y hy => ?_) ?_ (fun y hy => List.mem_append_left _ hy) (fun _ => by simp) fun b xs hb h => (upd_ne hb).trans h
          · rw [List.map_append]
            exact upd_same
          · rcases List.mem_append.mp hy with h | h
            · exact hid y h
            · rw [List.mem_singleton.mp h]
              exact hz
          · rw [List.length_append]
            rw [List.length_map] at hlt
            show ((ys.length + 1 : Nat) : Int) ≤ m
            omega
      · walk_at "rd_2"
        rw [List.length_map] at hlt
        exact k H1 ys e1 T1 hp1 hnd hid hlen (fun y hy => hy) (fun h => absurd h hlt) fun _ _ _ h => h
    refine rd_cut (fun σ H1 => Ext T [t] H H1 ∧ Tape l H1 t ∧ ∃ (ys : List Str) (a b : Option V), σ = [some (.ref t), some (.int m), some (.ref p), a, b] ∧ H1 p = some (.lst (ys.map V.str)) ∧ ys.Nodup ∧ (∀ y ∈ ys, idB y = true) ∧ (ys.length : Int) ≤ m) (fun nx' hnx => ?_) (fun σ H1 h => ?_)
    · walk_at "rd_2"
      refine ⟨by decide, by decide, ?_⟩
      refine forg_range (fun i σ H1 => Ext T [t] H H1 ∧ Tape l H1 t ∧ ∃ (ys : List Str) (a b : Option V), σ = [some (.ref t), some (.int m), some (.ref p), a, b] ∧ H1 p = some (.lst (ys.map V.str)) ∧ ys.Nodup ∧ (∀ y ∈ ys, idB y = true) ∧ (ys.length : Int) ≤ m)
        ⟨e0, T0, [], none, none, rfl, hp0, by simp, by simp, hm0⟩ (fun i σ H1 hi h => ?_) (fun σ H1 h => hnx _ _ h)
      obtain ⟨e1, T1, ys, a, b, rfl, hp1, hnd, hid, hlen⟩ := h
      refine rd_name ?_
      refine rd_seq ?_
      walk_at "rdn_2"
      refine ⟨l, t, rfl, T1, fun z H2 hz e2 T2 => ?_⟩
      refine rd_name ?_
      refine put _ _ _ H2 ys z (e1.trans e2) T2 (e2.lst (by simpa using hpt) hp1) hnd hid hlen hz (fun H3 ys' e3 T3 h1 h2 h3 h4 _ _ _ => ?_) rfl rfl rfl
      exact ⟨e3, T3, ys', _, _, rfl, h1, h2, h3, h4⟩
    · obtain ⟨e1, T1, ys, a, b, rfl, hp1, hnd, hid, hlen⟩ := h
      clear e0 T0 hp0
      refine rd_seq ?_
      walk_at "rdn_2"
      refine ⟨by show 5 ≤ sizeLine; decide, fun qa nq => ?_⟩
      have hqp : p ≠ qa := (Nw.of nq).lst hp1
      obtain ⟨hqt, hql⟩ := T1.ne (.of nq)
      have e2 : Ext T [t] H (upd H1 qa (.lst (qsL.map V.str))) := e1.newR nq
      have T2 := T1.upd (o := .lst (qsL.map V.str)) nq
      have hp2 : (upd H1 qa (.lst (qsL.map V.str))) p = some (.lst (ys.map V.str)) := (upd_ne hqp).trans hp1
      have hq2 : (upd H1 qa (.lst (qsL.map V.str))) qa = some (.lst (qsL.map V.str)) := upd_same
      have hqn : ∀ {H' : Hp}, Ext T [t] H H' → True := fun _ => trivial
      refine ⟨qa, rfl, .inl ⟨⟨_, SqL.of hq2⟩, ?_⟩⟩
      show ForG _ _ _ _ _ (upd H1 qa (.lst (qsL.map V.str)))
      generalize upd H1 qa (.lst (qsL.map V.str)) = H2 at e2 T2 hp2 hq2 ⊢
      refine forg_list (xs := qsL.map V.str) (fun i σ H3 => Ext T [t] H H3 ∧ Tape l H3 t ∧ H3 qa = some (.lst (qsL.map V.str)) ∧ ∃ (ys : List Str) (a b : Option V), σ = [some (.ref t), some (.int m), some (.ref p), a, b] ∧ H3 p = some (.lst (ys.map V.str)) ∧ ys.Nodup ∧ (∀ y ∈ ys, idB y = true) ∧ (ys.length : Int) ≤ m ∧ ((ys.length : Int) < m → ∀ y ∈ qsL.take i, y ∈ ys))
        ⟨e2, T2, hq2, ys, a, b, rfl, hp2, hnd, hid, hlen, fun _ y hy => by simp at hy⟩ (fun i σ H3 _ h => SqL.of h.2.2.1) (fun i x σ H3 hx h => ?_) (fun σ H3 h => ?_)
      · obtain ⟨e3, T3, hq3, ys, a, b, rfl, hp3, hnd, hid, hlen, hall⟩ := h
        rw [List.getElem?_map] at hx
        obtain ⟨z, hz, rfl⟩ := Option.map_eq_some_iff.mp hx
        refine rd_name ?_
        refine put _ _ _ H3 ys z e3 T3 hp3 hnd hid hlen (qs_ok z (List.mem_of_getElem? hz)) (fun H4 ys' e4 T4 h1 h2 h3 h4 h5 h6 h7 => ?_) rfl rfl rfl
        have hq4 : H4 qa = some (.lst (qsL.map V.str)) := h7 qa _ hqp.symm hq3
        refine ⟨e4, T4, hq4, ys', _, _, rfl, h1, h2, h3, h4, fun hlt y hy => ?_⟩
        rw [List.take_add_one, hz] at hy
        rcases List.mem_append.mp hy with hy | hy
        · refine h5 y (hall ?_ y hy)
          have := nodup_len hnd h5
          omega
        · rw [List.mem_singleton.mp (show y ∈ [z] from hy)]
          exact h6 hlt
      · obtain ⟨e3, T3, hq3, ys, a, b, rfl, hp3, hnd, hid, hlen, hall⟩ := h
        walk_at "rd_2"
        have hle : (ys.length : Int) = m := by
          rcases Int.lt_or_le ys.length m with h | h
          · have h2 := nodup_len qs_nodup fun y hy => hall h y (by rw [List.length_map, List.take_length]; exact hy)
            have h3 : qsL.length = 5 := rfl
            omega
          · omega
        exact q p ys H3 hpn hle hnd hid hp3 e3 T3
end
section
variable {T : List (Addr × Str)} {P : Program} {w : World} {K : PySem.W.Frag} {mg : Str → Option Value} {base : Heap}
theorem ok_law_label (D : Def K mg "_law_label" s_law_label ["tape"]) (mb : ∀ x ∈ bltns, mg x = none) (G_law_take : Ok P w K mg base 2 "_law_take" ["tape", "many"] (spTake T)) (G_law_id : Ok P w K mg base 3 "_law_id" ["tape"] (spId T)) : Ok P w K mg base 4 "_law_label" ["tape"] (spLabel T) := by
  refine D.ok sc_law_label (fun vs H Q E h => ?_) (fun cdv f A outer s H vs Q E hr h => ?_)
  · obtain ⟨l, t, rfl, _⟩ := h
    rfl
  · obtain ⟨l, t, rfl, hT, q⟩ := h
    refine ⟨_, (pss_cons (ps_set (i := 1) sc_law_label.nd rfl (.inl rfl) (pe_callO G_law_id (hr.mono (by decide)) (by rfl) (pa_cons (pv 0) pa_nil)))
   (pss_cons (ps_if (pt_cmpR (op_eqU K rfl hr.units) (pe_callO G_law_take (hr.mono (by decide)) (by rfl) (pa_cons (pv 0) (pa_cons pe_int pa_nil))) pe_int (nomark _)) (pss_one (ps_set (i := 1) sc_law_label.nd rfl (.inl rfl) (pe_op (op_plus K rfl) (pv 1) (pe_callO G_law_id (hr.mono (by decide)) (by rfl) (pa_cons (pv 0) pa_nil))))) pss_nil)
   (pss_one (ps_ret (pv 1))))), ?_⟩
    walk_at "rd_2"
    refine ⟨l, t, rfl, hT, fun z H1 hz e1 T1 => ?_⟩
    walk_at "rd_2"
    refine ⟨l, t, 4, rfl, by decide, by decide, T1, fun d H2 h0 h1 e2 T2 => ?_⟩
    walk_at "rd_2"
    refine rd_ite (fun h => ?_) (fun h => ?_)
    · walk_at "rd_2"
      refine ⟨l, t, rfl, T2, fun z2 H3 hz2 e3 T3 => ?_⟩
      have hl1 := id_len hz
      have hl2 := id_len hz2
      refine rd_plusS (Nat.le_trans (show z.length + z2.length ≤ 100 by omega) (by decide)) ?_
      walk_at "rd_2"
      exact q _ H3 (word_app hz hz2 (by decide)) ((e1.trans e2).trans e3) T3
    · walk_at "rd_2"
      exact q z H2 (word_mono hz (by decide)) (e1.trans e2) T2
theorem ok_law_labels (D : Def K mg "_law_labels" s_law_labels ["tape"]) (mb : ∀ x ∈ bltns, mg x = none) (G_law_label : Ok P w K mg base 4 "_law_label" ["tape"] (spLabel T)) : Ok P w K mg base 5 "_law_labels" ["tape"] (spLabels T) := by
  refine D.ok sc_law_labels (fun vs H Q E h => ?_) (fun cdv f A outer s H vs Q E hr h => ?_)
  · obtain ⟨l, t, rfl, _⟩ := h
    rfl
  · obtain ⟨l, t, rfl, hT, q⟩ := h
    refine ⟨_, (pss_cons (ps_set (i := 1) sc_law_labels.nd rfl (.inl rfl) (pe_lst pa_nil))
   (pss_cons (ps_for PassesOwn.never rfl (pi_seq K rfl (pe_lst (pa_cons pe_str (pa_cons pe_str (pa_cons pe_str (pa_cons pe_str pa_nil)))))) (pg_name (i := 2) sc_law_labels.nd rfl (.inl rfl)) (pss_cons (ps_set (i := 3) sc_law_labels.nd rfl (.inl rfl) (pe_callO G_law_label (hr.mono (by decide)) (by rfl) (pa_cons (pv 0) pa_nil)))
   (pss_cons (ps_if (pt_cmpR (op_inW K rfl (Room.units65 hr)) (pv 3) (pv 1) rfl) (pss_one (ps_set (i := 3) sc_law_labels.nd rfl (.inl rfl) (pe_slice (sl_U K rfl) (pe_op (op_plus K rfl) (pe_op (op_plus K rfl) (pv 3) (pv 2)) pe_str) (po_some (pe_un un_neg pe_int)) po_none))) pss_nil)
   (pss_one (ps_if (pt_cmpR (op_ninW K rfl (Room.units65 hr)) (pv 3) (pv 1) rfl) (pss_one (ps_expr (pe_bm PySem.F.plainAttrs_list PySem.F.slot_list_append PySem.F.type_list_append mt_append (pv 1) (pa_cons (pv 3) pa_nil)))) pss_nil)))))
   (pss_one (ps_ret (pe_op (op_plus K rfl) (pv 1) (pe_lst (pa_cons pe_str (pa_cons pe_str (pa_cons pe_str (pa_cons pe_str pa_nil)))))))))), ?_⟩
    refine rd_seq ?_
    walk_at "rdn_2"
    refine ⟨by show 0 ≤ sizeLine; decide, fun p np => ?_⟩
    have hpn : Nw H p := .of np
    obtain ⟨hpt, hpl⟩ := hT.ne hpn
    have e0 : Ext T [t] H (upd H p (.lst [])) := .new np
    have T0 := hT.upd (o := .lst []) np
    have hp0 : (upd H p (.lst [])) p = some (.lst (([] : List Str).map V.str)) := upd_same
    generalize upd H p (.lst []) = H0 at e0 T0 hp0 ⊢
    walk_at "rdn_2"
    refine rd_seq ?_
    walk_at "rdn_2"
    refine ⟨by show 4 ≤ sizeLine; decide, fun qa nq => ?_⟩
    have hqp : p ≠ qa := (Nw.of nq).lst hp0
    obtain ⟨hqt, hql⟩ := T0.ne (.of nq)
    have e2 : Ext T [t] H (upd H0 qa (.lst (xyzL.map V.str))) := e0.newR nq
    have T2 := T0.upd (o := .lst (xyzL.map V.str)) nq
    have hp2 : (upd H0 qa (.lst (xyzL.map V.str))) p = some (.lst (([] : List Str).map V.str)) := (upd_ne hqp).trans hp0
    have hq2 : (upd H0 qa (.lst (xyzL.map V.str))) qa = some (.lst (xyzL.map V.str)) := upd_same
    refine ⟨qa, rfl, .inl ⟨⟨_, SqL.of hq2⟩, ?_⟩⟩
    show ForG _ _ _ _ _ (upd H0 qa (.lst (xyzL.map V.str)))
    generalize upd H0 qa (.lst (xyzL.map V.str)) = H2 at e2 T2 hp2 hq2 ⊢
    refine forg_list (xs := xyzL.map V.str) (fun i σ H3 => Ext T [t] H H3 ∧ Tape l H3 t ∧ H3 qa = some (.lst (xyzL.map V.str)) ∧ ∃ (F fs : List Str) (a b : Option V), σ = [some (.ref t), some (.ref p), a, b] ∧ H3 p = some (.lst (F.map V.str)) ∧ F.Nodup ∧ (∀ y ∈ F, labelB y = true) ∧ F.length + fs.length = i ∧ fs.Nodup ∧ ∀ y ∈ fs, y ∈ F ∧ ∃ j c, j < i ∧ (xyzC)[j]? = some c ∧ EndW c y)
      ⟨e2, T2, hq2, [], [], none, none, rfl, hp2, by simp, by simp, rfl, by simp, by simp⟩ (fun i σ H3 _ h => SqL.of h.2.2.1) (fun i x σ H3 hx h => ?_) (fun σ H3 h => ?_)
    · obtain ⟨e3, T3, hq3, F, fs, a, b, rfl, hp3, hnd, hlb, hlen, hfs, hfe⟩ := h
      rw [List.getElem?_map] at hx
      obtain ⟨la, hla, rfl⟩ := Option.map_eq_some_iff.mp hx
      have hi4 : i < 4 := by
        have := (List.getElem?_eq_some_iff.mp hla).1
        exact this
      have mono : ∀ {y : Str} {F' : List Str}, (∀ z ∈ F, z ∈ F') → (∃ c, y ∈ F ∧ ∃ j, j < i ∧ xyzC[j]? = some c ∧ EndW c y) → True := fun _ _ => trivial
      refine rd_name ?_
      refine rd_seq ?_
      walk_at "rdn_2"
      refine ⟨l, t, rfl, T3, fun z H4 hz e4 T4 => ?_⟩
      have hp4 := e4.lst (by simpa using hpt) hp3
      have hq4 := e4.lst (by simpa using hqt) hq3
      refine rd_name ?_
      refine rd_cut (fun σ H5 => H5 = H4 ∧ ∃ z' : Str, σ = [some (.ref t), some (.ref p), some (.str la), some (.str z')] ∧ labelB z' = true ∧ (z' ∈ F → ∃ c, xyzC[i]? = some c ∧ EndW c z')) (fun nx' hnx => ?_) (fun σ H5 h => ?_)
      · walk_at "rd_2"
        refine rd_ite (fun hin => ?_) (fun hin => ?_)
        · have hz8 := label_len hz
          have hla1 : la.length ≤ 1 := xyz_len la (List.mem_of_getElem? hla)
          walk_at "rd_2"
          refine rd_slS ?_ ?_
          · rw [app_len, app_len, w_len]
            exact Nat.le_trans (show _ ≤ 100 by omega) (by decide)
          have h8 := cut8 (z ++ la ++ Str.ofString "w") (by rw [app_len, w_len]; omega) (fun c hc => by
            rw [sg_app, sg_app] at hc
            rcases List.mem_append.mp hc with hc | hc
            · rcases List.mem_append.mp hc with hc | hc
              · exact label_mem hz hc
              · exact xyz_let la (List.mem_of_getElem? hla) c hc
            · exact w_let c hc)
          walk_at "rd_2"
          refine hnx _ _ ⟨rfl, _, rfl, h8.1, fun hF => ?_⟩
          have hi0 : i ≠ 0 := fun e => by
            subst e
            rw [show F = [] from List.eq_nil_of_length_eq_zero (by omega)] at hin
            cases hin
          obtain ⟨c, hc, hc2⟩ := xyz_end hi0 hla
          exact ⟨c, hc, h8.2 c ⟨sg z, by rw [sg_app, sg_app, hc2, w_sg, List.append_assoc]; rfl⟩⟩
        · walk_at "rd_2"
          exact hnx _ _ ⟨rfl, z, rfl, hz, fun h => absurd h hin⟩
      · obtain ⟨rfl, z', rfl, hz', hend⟩ := h
        walk_at "rd_2"
        refine rd_itn (fun hin => ?_) (fun hin => ?_)
        · walk_at "rd_2"
          obtain ⟨c, hc, hc2⟩ := hend hin
          refine ⟨e3.trans e4, T4, hq4, F, fs ++ [z'], _, _, rfl, hp4, hnd, hlb, ?_, nodup_snoc hfs fun hz => ?_, fun y hy => ?_⟩
          · rw [List.length_append]
            show F.length + (fs.length + 1) = i + 1
            omega
          · obtain ⟨_, j, c', hj, hc', hc2'⟩ := hfe z' hz
            have := endW_inj hc2 hc2'
            exact xyz_ne hj hc' hc this.symm
          · rcases List.mem_append.mp hy with hy | hy
            · obtain ⟨h1, j, c', hj, h2⟩ := hfe y hy
              exact ⟨h1, j, c', by omega, h2⟩
            · rw [List.mem_singleton.mp hy]
              exact ⟨hin, i, c, by omega, hc, hc2⟩
        · walk_at "rd_2"
          refine ⟨(e3.trans e4).own hpn hp4, T4.own hpt hpl, (upd_ne hqp.symm).trans hq4, F ++ [z'], fs, _, _, rfl, ?_, nodup_snoc hnd hin, fun y hy => ?_, ?_, hfs, fun y hy => ?_⟩
          · rw [List.map_append]
            exact upd_same
          · rcases List.mem_append.mp hy with h | h
            · exact hlb y h
            · rw [List.mem_singleton.mp h]
              exact hz'
          · rw [List.length_append]
            show F.length + 1 + fs.length = i + 1
            omega
          · obtain ⟨h1, j, c', hj, h2⟩ := hfe y hy
            exact ⟨List.mem_append_left _ h1, j, c', by omega, h2⟩
    · obtain ⟨e3, T3, hq3, F, fs, a, b, rfl, hp3, hnd, hlb, hlen, hfs, hfe⟩ := h
      obtain ⟨x, y, z, r, hF, h1, h2, h3, h4, h5⟩ := labels_shape hnd hlb hlen hfs fun y hy => by
        obtain ⟨h1, j, c, _, _, h2⟩ := hfe y hy
        exact ⟨h1, c, h2⟩
      walk_at "rd_2"
      refine ⟨by show 4 ≤ sizeLine; decide, fun ka nk => ?_⟩
      have hkp : p ≠ ka := (Nw.of nk).lst hp3
      have e4 := e3.newR (o := .lst (ksL.map V.str)) nk
      have T4 := T3.upd (o := .lst (ksL.map V.str)) nk
      walk_at "rd_2"
      refine rd_cat (xs := F.map V.str) (ys := ksL.map V.str) ((upd_ne hkp).trans hp3) upd_same ?_ fun pa npa => ?_
      · rw [List.length_map, List.length_map]
        refine Nat.le_trans (show _ ≤ 100 by show F.length + 4 ≤ 100; have : F.length + fs.length = 4 := hlen; omega) (by decide)
      · refine q pa r x y z _ ((e3.trans (.new nk)).back ?_ (.of npa)) h1 h2 h3 h4 h5 ?_ (e4.newR npa) (T4.upd npa)
        · have := (T4.ne (.of npa)).1
          simpa using this
        · rw [← hF, List.map_append]
          exact upd_same
end
section
variable {T : List (Addr × Str)} {P : Program} {w : World} {K : PySem.W.Frag} {mg : Str → Option Value} {base : Heap}
theorem ok_law_lag (D : Def K mg "_law_lag" s_law_lag ["tape"]) (G_law_take : Ok P w K mg base 2 "_law_take" ["tape", "many"] (spTake T)) : Ok P w K mg base 3 "_law_lag" ["tape"] (spInt T 0 100) := by
  refine D.ok sc_law_lag (fun vs H Q E h => ?_) (fun cdv f A outer s H vs Q E hr h => ?_)
  · obtain ⟨l, t, rfl, _⟩ := h
    rfl
  · obtain ⟨l, t, rfl, hT, q⟩ := h
    refine ⟨_, (pss_one (ps_ret (pe_ix (ix_U K rfl) (pe_lst (pa_cons pe_int (pa_cons pe_int (pa_cons pe_int (pa_cons pe_int (pa_cons pe_int (pa_cons pe_int (pa_cons pe_int (pa_cons (pe_callO G_law_take (hr.mono (by decide)) (by rfl) (pa_cons (pv 0) (pa_cons pe_int pa_nil))) pa_nil))))))))) (pe_callO G_law_take (hr.mono (by decide)) (by rfl) (pa_cons (pv 0) (pa_cons pe_int pa_nil))) (fun _ _ => rfl)))), ?_⟩
    walk_at "rd_2"
    refine ⟨l, t, 101, rfl, by decide, by decide, hT, fun d H1 hd0 hd1 e1 T1 => ?_⟩
    walk_at "rd_2"
    refine ⟨by show 8 ≤ sizeLine; decide, fun p np => ?_⟩
    have hpt := T1.ne (.of np)
    walk_at "rd_2"
    refine ⟨l, t, 8, rfl, by decide, by decide, T1.upd np, fun i H2 h0 h1 e2 T2 => ?_⟩
    have hp := e2.lst (p := p) (by simpa using hpt.1) upd_same
    obtain ⟨c, hc1, hc2⟩ := at_inV (xs := [V.int 0, .int 1, .int 2, .int 3, .int 5, .int 9, .int 100, .int d]) h0 (by show i < 8; omega)
    have hm := List.mem_of_getElem? hc2
    have e3 := (e1.trans (.new np)).trans e2
    have fin : ∀ n : Int, c = .int n → 0 ≤ n → n ≤ 100 → rIx K (.ref p) (.int i) H2 Q := fun n e a b => by
      subst e
      exact rd_ixL (SqL.of hp) hc1 (q n H2 a b e3 T2)
    simp only [List.mem_cons, List.not_mem_nil, or_false] at hm
    rcases hm with h | h | h | h | h | h | h | h
    · exact fin _ h (by decide) (by decide)
    · exact fin _ h (by decide) (by decide)
    · exact fin _ h (by decide) (by decide)
    · exact fin _ h (by decide) (by decide)
    · exact fin _ h (by decide) (by decide)
    · exact fin _ h (by decide) (by decide)
    · exact fin _ h (by decide) (by decide)
    · exact fin _ h (by omega) (by omega)
theorem ok_law_life (D : Def K mg "_law_life" s_law_life ["tape"]) (G_law_take : Ok P w K mg base 2 "_law_take" ["tape", "many"] (spTake T)) : Ok P w K mg base 3 "_law_life" ["tape"] (spInt T 1 1000) := by
  refine D.ok sc_law_life (fun vs H Q E h => ?_) (fun cdv f A outer s H vs Q E hr h => ?_)
  · obtain ⟨l, t, rfl, _⟩ := h
    rfl
  · obtain ⟨l, t, rfl, hT, q⟩ := h
    refine ⟨_, (pss_one (ps_ret (pe_ix (ix_U K rfl) (pe_lst (pa_cons pe_int (pa_cons pe_int (pa_cons pe_int (pa_cons pe_int (pa_cons pe_int (pa_cons pe_int (pa_cons pe_int (pa_cons (pe_op (op_plus K rfl) pe_int (pe_callO G_law_take (hr.mono (by decide)) (by rfl) (pa_cons (pv 0) (pa_cons pe_int pa_nil)))) pa_nil))))))))) (pe_callO G_law_take (hr.mono (by decide)) (by rfl) (pa_cons (pv 0) (pa_cons pe_int pa_nil))) (fun _ _ => rfl)))), ?_⟩
    walk_at "rd_2"
    refine ⟨l, t, 1000, rfl, by decide, by decide, hT, fun d H1 hd0 hd1 e1 T1 => ?_⟩
    walk_at "rd_2"
    refine ⟨by show 8 ≤ sizeLine; decide, fun p np => ?_⟩
    have hpt := T1.ne (.of np)
    walk_at "rd_2"
    refine ⟨l, t, 8, rfl, by decide, by decide, T1.upd np, fun i H2 h0 h1 e2 T2 => ?_⟩
    have hp := e2.lst (p := p) (by simpa using hpt.1) upd_same
    obtain ⟨c, hc1, hc2⟩ := at_inV (xs := [V.int 1, .int 2, .int 3, .int 5, .int 8, .int 20, .int 1000, .int (1 + d)]) h0 (by show i < 8; omega)
    have hm := List.mem_of_getElem? hc2
    have e3 := (e1.trans (.new np)).trans e2
    have fin : ∀ n : Int, c = .int n → 1 ≤ n → n ≤ 1000 → rIx K (.ref p) (.int i) H2 Q := fun n e a b => by
      subst e
      exact rd_ixL (SqL.of hp) hc1 (q n H2 a b e3 T2)
    simp only [List.mem_cons, List.not_mem_nil, or_false] at hm
    rcases hm with h | h | h | h | h | h | h | h
    · exact fin _ h (by decide) (by decide)
    · exact fin _ h (by decide) (by decide)
    · exact fin _ h (by decide) (by decide)
    · exact fin _ h (by decide) (by decide)
    · exact fin _ h (by decide) (by decide)
    · exact fin _ h (by decide) (by decide)
    · exact fin _ h (by decide) (by decide)
    · exact fin _ h (by omega) (by omega)
theorem ok_law_zones (D : Def K mg "_law_zones" s_law_zones ["tape", "most"]) (mb : ∀ x ∈ bltns, mg x = none) (G_law_take : Ok P w K mg base 2 "_law_take" ["tape", "many"] (spTake T)) (G_law_labels : Ok P w K mg base 5 "_law_labels" ["tape"] (spLabels T)) (G_law_lag : Ok P w K mg base 3 "_law_lag" ["tape"] (spInt T 0 100)) : Ok P w K mg base 6 "_law_zones" ["tape", "most"] (spZones T) := by
  refine D.ok sc_law_zones (fun vs H Q E h => ?_) (fun cdv f A outer s H vs Q E hr h => ?_)
  · obtain ⟨l, t, m, rfl, _⟩ := h
    rfl
  · obtain ⟨l, t, m, rfl, hm0, hm5, hT, q⟩ := h
    refine ⟨_, (pss_cons (ps_asg (pe_slice (sl_U K rfl) (pe_callO G_law_labels (hr.mono (by decide)) (by rfl) (pa_cons (pv 0) pa_nil)) po_none (po_some pe_int)) (pg_tupU (n := 3) K rfl rfl (pgs_cons (pg_name (i := 2) sc_law_zones.nd rfl (.inl rfl)) (pgs_cons (pg_name (i := 3) sc_law_zones.nd rfl (.inl rfl)) (pgs_cons (pg_name (i := 4) sc_law_zones.nd rfl (.inl rfl)) pgs_nil)))))
   (pss_cons (ps_set (i := 5) sc_law_zones.nd rfl (.inl rfl) (pe_lst (pa_cons (pv 2) (pa_cons (pe_op (op_plus K rfl) (pe_op (op_plus K rfl) (pv 3) pe_str) (pv 2)) (pa_cons (pe_op (op_plus K rfl) (pe_op (op_plus K rfl) (pe_op (op_plus K rfl) (pe_op (op_plus K rfl) (pv 4) pe_str) (pv 3)) pe_str) (pv 2)) (pa_cons (pv 3) (pa_cons (pv 4) (pa_cons (pe_op (op_plus K rfl) (pe_op (op_plus K rfl) (pv 4) pe_str) (pv 2)) pa_nil))))))))
   (pss_cons (ps_set (i := 6) sc_law_zones.nd rfl (.inl rfl) (pe_lst pa_nil))
   (pss_cons (ps_for PassesOwn.never rfl (pi_range1 (by rfl) (mb _ (by decide)) (pa_cons pe_int pa_nil)) (pg_name (i := 7) sc_law_zones.nd rfl (.inl rfl)) (pss_one (ps_if (PW.pt (pw_and (pt_cmpR op_lt (pe_callB (call_lenU K rfl) (by rfl) (mb _ (by decide)) (by decide +kernel) (pa_cons (pv 6) pa_nil)) (pv 1) (nomark _)) (pw_and1 (pt_cmpR (op_eqU K rfl hr.units) (pe_callO G_law_take (hr.mono (by decide)) (by rfl) (pa_cons (pv 0) (pa_cons pe_int pa_nil))) pe_int (nomark _))))) (pss_one (ps_expr (pe_bm PySem.F.plainAttrs_list PySem.F.slot_list_append PySem.F.type_list_append mt_append (pv 6) (pa_cons (pe_ix (ix_U K rfl) (pv 5) (pv 7) (fun _ _ => rfl)) pa_nil)))) pss_nil)))
   (pss_one (ps_ret (pe_op (op_plus K rfl) (pe_lst (pa_cons (pe_tup (pa_cons pe_str (pa_cons (pe_callO G_law_lag (hr.mono (by decide)) (by rfl) (pa_cons (pv 0) pa_nil)) pa_nil))) pa_nil)) (pe_lc (own := [("name", 8)]) (g := gName 8) (tt := tYes) rfl sc_law_zones.nd (pi_seq K rfl (pe_callB (call_sortedU K rfl hr.units) (by rfl) (mb _ (by decide)) (by decide +kernel) (pa_cons (pv 6) pa_nil))) (blkOk_by (N := N_law_zones) (sc := defScope s_law_zones) (by decide +kernel)) (fun _ _ _ _ _ => (pg_name (i := 8) sc_law_zones.nd rfl (Or.inl rfl))) (fun _ _ _ _ _ => pts_nil) (fun _ _ _ _ _ => (pe_tup (pa_cons (pv 8) (pa_cons (pe_callO G_law_lag (hr.mono (by decide)) (by rfl) (pa_cons (pv 0) pa_nil)) pa_nil)))))))))))), ?_⟩
    refine rd_seq ?_
    walk_at "rdn_2"
    refine ⟨l, t, rfl, hT, fun lp r a b c H1 nlp h1 h2 h3 hlb hrl hlp e1 T1 => ?_⟩
    walk_at "rdn_2"
    refine rd_slL (SqL.of hlp) fun sp nsp => ?_
    have hcut : cutV ((a :: b :: c :: r).map V.str) none (some 3) = [V.str a, .str b, .str c] := by
      unfold cutV
      rw [show HT.sIx ((a :: b :: c :: r).map V.str).length 0 none = 0 from rfl]
      have e : HT.sIx ((a :: b :: c :: r).map V.str).length ((a :: b :: c :: r).map V.str).length (some 3) = 3 := by
        unfold HT.sIx
        simp only [List.length_map, List.length_cons]
        split <;> omega
      rw [e]
      rfl
    rw [hcut]
    have e2 := e1.newR (o := .lst [V.str a, .str b, .str c]) nsp
    have T2 := T1.upd (o := .lst [V.str a, .str b, .str c]) nsp
    have hsp : (upd H1 sp (.lst [V.str a, .str b, .str c])) sp = some (.lst [V.str a, .str b, .str c]) := upd_same
    show gTupU _ _ _ _ _ (upd H1 sp (.lst [V.str a, .str b, .str c])) _
    generalize upd H1 sp (.lst [V.str a, .str b, .str c]) = H2 at e2 T2 hsp ⊢
    refine rd_glst (SqL.of hsp) rfl ?_
    walk_at "rdn_2"
    have hl3 : ∀ y ∈ [a, b, c], labelB y = true := fun y hy => hlb y (by
      simp only [List.mem_cons, List.not_mem_nil, or_false] at hy ⊢
      rcases hy with h | h | h
      · exact .inl h
      · exact .inr (.inl h)
      · exact .inr (.inr (.inl h)))
    have la := label_len (hl3 a (by simp))
    have lb := label_len (hl3 b (by simp))
    have lc := label_len (hl3 c (by simp))
    have hpz := pool_zone hl3
    have hpn := pool_nodup hl3 h1 h2 h3
    refine rd_seq ?_
    walk_at "rdn_2"
    refine ⟨by show 6 ≤ sizeLine; decide, fun pp npp => ?_⟩
    show gName 5 (.ref pp) _ (upd H2 pp (.lst ((poolL a b c).map V.str))) _
    have e3 := e2.newR (o := .lst ((poolL a b c).map V.str)) npp
    have T3 := T2.upd (o := .lst ((poolL a b c).map V.str)) npp
    obtain ⟨hpt, hpl⟩ := T2.ne (.of npp)
    have hpp : (upd H2 pp (.lst ((poolL a b c).map V.str))) pp = some (.lst ((poolL a b c).map V.str)) := upd_same
    generalize upd H2 pp (.lst ((poolL a b c).map V.str)) = H3 at e3 T3 hpp ⊢
    walk_at "rdn_2"
    refine rd_seq ?_
    walk_at "rdn_2"
    refine ⟨by show 0 ≤ sizeLine; decide, fun np nnp => ?_⟩
    obtain ⟨hnt, hnl⟩ := T3.ne (.of nnp)
    have hnpp : pp ≠ np := (Nw.of nnp).lst hpp
    have e4 := e3.newR (o := .lst []) nnp
    have hnw : Nw H np := e3.back (by simpa using hnt) (.of nnp)
    have T4 := T3.upd (o := .lst []) nnp
    have hpp4 := (upd_ne (o := .lst []) hnpp).trans hpp
    have hn4 : (upd H3 np (.lst [])) np = some (.lst (([] : List Str).map V.str)) := upd_same
    generalize upd H3 np (.lst []) = H4 at e4 T4 hpp4 hn4 ⊢
    walk_at "rdn_2"
    refine rd_cut (fun σ H5 => Ext T [t] H H5 ∧ Tape l H5 t ∧ ∃ (ns : List Str) (y : Option V), σ = [some (.ref t), some (.int m), some (.str a), some (.str b), some (.str c), some (.ref pp), some (.ref np), y, none] ∧ H5 np = some (.lst (ns.map V.str)) ∧ (ns.length : Int) ≤ m ∧ ns.Sublist (poolL a b c)) (fun nx' hnx => ?_) (fun σ H5 h => ?_)
    · walk_at "rd_2"
      refine ⟨by decide, by decide, ?_⟩
      refine forg_range (fun i σ H5 => Ext T [t] H H5 ∧ Tape l H5 t ∧ H5 pp = some (.lst ((poolL a b c).map V.str)) ∧ ∃ (ns : List Str) (y : Option V), σ = [some (.ref t), some (.int m), some (.str a), some (.str b), some (.str c), some (.ref pp), some (.ref np), y, none] ∧ H5 np = some (.lst (ns.map V.str)) ∧ (ns.length : Int) ≤ m ∧ ns.Sublist ((poolL a b c).take i))
        ⟨e4, T4, hpp4, [], none, rfl, hn4, hm0, by simp⟩ (fun i σ H5 hi h => ?_) (fun σ H5 h => ?_)
      · obtain ⟨e5, T5, hpp5, ns, y, rfl, hn5, hml, hsub⟩ := h
        have hi6 : i < 6 := hi
        obtain ⟨z, hz⟩ : ∃ z, (poolL a b c)[i]? = some z := ⟨_, List.getElem?_eq_getElem (show i < 6 from hi6)⟩
        have htk : (poolL a b c).take (i + 1) = (poolL a b c).take i ++ [z] := by rw [List.take_add_one, hz]; rfl
        have hns6 : ns.length ≤ 6 := Nat.le_trans hsub.length_le (by rw [List.length_take]; exact Nat.min_le_right _ _)
        walk_at "rd_2"
        refine rd_ite (fun hlt => ?_) (fun hlt => ?_)
        · walk_at "rd_2"
          refine ⟨l, t, 2, rfl, by decide, by decide, T5, fun d H6 h0 h1' e6 T6 => ?_⟩
          have hpp6 := e6.lst (by simpa using hpt) hpp5
          have hn6 := e6.lst (by simpa using hnt) hn5
          walk_at "rd_2"
          refine rd_ite (fun hd => ?_) (fun hd => ?_)
          · walk_at "rd_2"
            refine rd_ixL (v := .str z) (SqL.of hpp6) (by
              rw [Int.zero_add]
              exact atI_nat (by rw [List.getElem?_map, hz]; rfl)) ?_
            walk_at "rd_2"
            refine ⟨(e5.trans e6).own hnw hn6, T6.own hnt hnl, (upd_ne hnpp).trans hpp6, ns ++ [z], _, rfl, ?_, ?_, ?_⟩
            · rw [List.map_append]
              exact upd_same
            · rw [List.length_append]
              rw [List.length_map] at hlt
              show ((ns.length + 1 : Nat) : Int) ≤ m
              omega
            · rw [htk]
              exact hsub.append (List.Sublist.refl _)
          · walk_at "rd_2"
            exact ⟨e5.trans e6, T6, hpp6, ns, _, rfl, hn6, hml, by rw [htk]; exact hsub.trans (List.sublist_append_left _ _)⟩
        · walk_at "rd_2"
          exact ⟨e5, T5, hpp5, ns, _, rfl, hn5, hml, by rw [htk]; exact hsub.trans (List.sublist_append_left _ _)⟩
      · obtain ⟨e5, T5, hpp5, ns, y, rfl, hn5, hml, hsub⟩ := h
        exact hnx _ _ ⟨e5, T5, ns, y, rfl, hn5, hml, hsub.trans (List.take_sublist _ _)⟩
    · obtain ⟨e5, T5, ns, y, rfl, hn5, hml, hsub⟩ := h
      clear hT e1 T1 e2 T2 e3 T3 e4 T4 hpp4 hn4 hpp hsp hlp
      have hnz : ∀ z ∈ ns, zoneB z := fun z hz => hpz z (hsub.subset hz)
      have hnn : ns.Nodup := hpn.sublist hsub
      walk_at "rd_2"
      refine ⟨l, t, rfl, T5, fun lag H6 hl0 hl1 e6 T6 => ?_⟩
      walk_at "rd_2"
      refine ⟨by show 2 ≤ sizeLine; decide, fun ta nta => ?_⟩
      walk_at "rd_2"
      refine ⟨by show 1 ≤ sizeLine; decide, fun la nla => ?_⟩
      have e7 : Ext T [t] H (upd (upd H6 ta (.tup [V.str (Str.ofString "."), .int lag])) la (.lst [.ref ta])) := ((e5.trans e6).newR nta).newR nla
      have T7 : Tape l (upd (upd H6 ta (.tup [V.str (Str.ofString "."), .int lag])) la (.lst [.ref ta])) t := (T6.upd nta).upd nla
      have hta : ta ≠ la := fun e => by
        rw [← e, upd_same] at nla
        cases nla
      have hla7 : Ls (upd (upd H6 ta (.tup [V.str (Str.ofString "."), .int lag])) la (.lst [.ref ta])) la [siD (dotS, lag)] :=
        ⟨_, upd_same, .cons (.new2 (.str _ (name_ok dot_name)) (.int _) ((upd_ne hta).trans upd_same)) .nil⟩
      have hn7 : (upd (upd H6 ta (.tup [V.str (Str.ofString "."), .int lag])) la (.lst [.ref ta])) np = some (.lst (ns.map V.str)) := by
        have hn6 := e6.lst (by simpa using hnt) hn5
        have a1 : np ≠ ta := (Nw.of nta).lst hn6
        have a2 := (upd_ne (o := .tup [V.str (Str.ofString "."), .int lag]) a1).trans hn6
        exact (upd_ne ((Nw.of nla).lst a2)).trans a2
      have hlt7 : la ≠ t ∧ la ≠ l := (T6.upd nta).ne (.of nla)
      generalize upd (upd H6 ta (.tup [V.str (Str.ofString "."), .int lag])) la (.lst [.ref ta]) = H7 at e7 T7 hla7 hn7 ⊢
      clear nla nta
      walk_at "rd_2"
      refine rd_sortI (ds := ns.map .str) ⟨_, hn7, ImAll.strs fun z hz => name_ok (zone_name (hnz z hz))⟩ (alike_s ns) (sortable_s ns) (depth_s ns) fun sa ys nsa hys => ?_
      rw [srtS_eq] at hys
      have hys := hys.strs'
      subst hys
      obtain ⟨hst, hsl⟩ := T7.ne (.of nsa)
      have hsla : la ≠ sa := by
        obtain ⟨_, h, _⟩ := hla7
        exact (Nw.of nsa).lst h
      have e8 := e7.newR (o := .lst ((srtS ns).map V.str)) nsa
      have T8 := T7.upd (o := .lst ((srtS ns).map V.str)) nsa
      have hla8 := hla7.ext (T := T) (ms := []) (Ext.new (o := .lst ((srtS ns).map V.str)) nsa) (by simp) Lsts.nil
      have hs8 : (upd H7 sa (.lst ((srtS ns).map V.str))) sa = some (.lst ((srtS ns).map V.str)) := upd_same
      refine ⟨sa, rfl, .inl ⟨⟨_, SqL.of hs8⟩, ?_⟩⟩
      show LcG _ _ _ _ _ _ (upd H7 sa (.lst ((srtS ns).map V.str))) _
      generalize upd H7 sa (.lst ((srtS ns).map V.str)) = H8 at e8 T8 hla8 hs8 ⊢
      clear e7 T7 hla7 hn7 nsa
      have hsz : ((srtS ns).map V.str).length < sizeLine := by
        rw [List.length_map, (srtS_perm ns).length_eq]
        exact Nat.lt_of_le_of_lt (show _ ≤ 5 by omega) (by decide)
      refine lcg_im T [t] walk_list ((srtS ns).map V.str) rfl (fun i H x H' y => y) (fun H' => Tape l H' t) T8 (fun D o h => T8.upd h) (fun D H' nD T' ys u h => T'.own (T8.ne nD).1 (T8.ne nD).2) (fun H' T' => T'.lsts) (fun H' e _ => e.seqL (by simpa using hst) (SqL.of hs8)) hsz (fun _ => true) ZRel (fun i x hx H' e' T' R S h1 h2 => ?_) (fun D H9 ds nD e9 T9 hD hds => ?_)
      · rw [List.getElem?_map] at hx
        obtain ⟨z, hz, rfl⟩ := Option.map_eq_some_iff.mp hx
        refine rd_name ⟨wipe1, ?_⟩
        walk_at "rd_2"
        refine ⟨l, t, rfl, T', fun n H9 hn0 hn1 e9 T9 => ?_⟩
        walk_at "rd_2"
        refine ⟨by show 2 ≤ sizeLine; decide, fun tz ntz => ?_⟩
        have hzo := name_ok (zone_name (hnz z ((srtS_perm ns).mem_iff.mp (List.mem_of_getElem? hz))))
        exact h1 rfl _ (siD (z, n)) _ (e9.newR ntz) (T9.upd ntz) (.new2 (.str _ hzo) (.int _) upd_same) ⟨z, n, rfl, rfl, hn0, hn1⟩
      · rw [filtT] at hds
        obtain ⟨rest, rfl, hr1, hr2⟩ := zrel_all hds
        have hla9 := hla8.ext e9 (by simpa using hlt7.1) T8.lsts
        obtain ⟨x1, a1, a2⟩ := hla9
        obtain ⟨x2, b1, b2⟩ := hD
        have hx1 : x1.length = 1 := a2.len
        have hx2 : x2.length ≤ 5 := by
          rw [b2.len, List.length_map]
          have := congrArg List.length hr1
          rw [List.length_map, (srtS_perm ns).length_eq] at this
          omega
        refine rd_cat a1 b1 (Nat.le_trans (show _ ≤ 100 by omega) (by decide)) fun pa npa => ?_
        have e10 := e8.trans e9
        refine q pa lag rest ns _ (e10.back (by simpa using (T9.ne (.of npa)).1) (.of npa)) hr1 hnn hml hnz (fun r hr => ?_) ⟨x1 ++ x2, upd_same, ?_⟩ (e10.newR npa) (T9.upd npa)
        · rcases List.mem_cons.mp hr with e | hr
          · rw [e]
            exact ⟨hl0, hl1⟩
          · exact hr2 r hr
        · exact ImAll.ext (T := T) (ms := []) (.new npa) Lsts.nil _ _ (a2.app b2)
end
section
variable {T : List (Addr × Str)} {P : Program} {w : World} {K : PySem.W.Frag} {mg : Str → Option Value} {base : Heap}
theorem ok_law_realm (D : Def K mg "_law_realm" s_law_realm ["tape", "most"]) (mb : ∀ x ∈ bltns, mg x = none) (G_law_take : Ok P w K mg base 2 "_law_take" ["tape", "many"] (spTake T)) (G_law_zones : Ok P w K mg base 6 "_law_zones" ["tape", "most"] (spZones T))
    (G_law_label : Ok P w K mg base 4 "_law_label" ["tape"] (spLabel T)) (G_law_id : Ok P w K mg base 3 "_law_id" ["tape"] (spId T)) (G_law_ids : Ok P w K mg base 4 "_law_ids" ["tape", "many"] (spIds T)) : Ok P w K mg base 7 "_law_realm" ["tape", "most"] (spRealm T) := by
  refine D.ok sc_law_realm (fun vs H Q E h => ?_) (fun cdv f A outer s H vs Q E hr h => ?_)
  · obtain ⟨l, t, m, rfl, _⟩ := h
    rfl
  · obtain ⟨l, t, m, rfl, hm0, hm5, hT, q⟩ := h
    refine ⟨_, (pss_cons (ps_set (i := 2) sc_law_realm.nd rfl (.inl rfl) (pe_callO G_law_zones (hr.mono (by decide)) (by rfl) (pa_cons (pv 0) (pa_cons (pv 1) pa_nil))))
   (pss_cons (ps_set (i := 3) sc_law_realm.nd rfl (.inl rfl) (pe_lst pa_nil))
   (pss_cons (ps_for PassesOwn.never rfl (pi_seq K rfl (pv 2)) (pg_tupU (n := 2) K rfl rfl (pgs_cons (pg_name (i := 4) sc_law_realm.nd rfl (.inl rfl)) (pgs_cons (pg_name (i := 5) sc_law_realm.nd rfl (.inl rfl)) pgs_nil))) (pss_cons (ps_set (i := 6) sc_law_realm.nd rfl (.inl rfl) (pv 4))
   (pss_cons (ps_if (pt_cmpR (op_eqU K rfl hr.units) (pe_callO G_law_take (hr.mono (by decide)) (by rfl) (pa_cons (pv 0) (pa_cons pe_int pa_nil))) pe_int (nomark _)) (pss_one (ps_set (i := 6) sc_law_realm.nd rfl (.inl rfl) (pe_op (op_plus K rfl) (pe_callO G_law_label (hr.mono (by decide)) (by rfl) (pa_cons (pv 0) pa_nil)) (pe_ifExp (pt_cmpR (op_eqU K rfl hr.units) (pv 4) pe_str (nomark _)) pe_str (pe_op (op_plus K rfl) pe_str (pv 4)))))) pss_nil)
   (pss_one (ps_expr (pe_bm PySem.F.plainAttrs_list PySem.F.slot_list_append PySem.F.type_list_append mt_append (pv 3) (pa_cons (pe_tup (pa_cons (pv 6) (pa_cons (pe_callO G_law_id (hr.mono (by decide)) (by rfl) (pa_cons (pv 0) pa_nil)) pa_nil))) pa_nil)))))))
   (pss_cons (ps_if (pt_cmpR (op_eqU K rfl hr.units) (pe_callO G_law_take (hr.mono (by decide)) (by rfl) (pa_cons (pv 0) (pa_cons pe_int pa_nil))) pe_int (nomark _)) (pss_one (ps_expr (pe_bm PySem.F.plainAttrs_list PySem.F.slot_list_append PySem.F.type_list_append mt_append (pv 3) (pa_cons (pe_tup (pa_cons (pe_ix (ix_U K rfl) (pe_ix (ix_U K rfl) (pv 2) (pe_un un_neg pe_int) (fun _ _ => rfl)) pe_int (fun _ _ => rfl)) (pa_cons (pe_callO G_law_id (hr.mono (by decide)) (by rfl) (pa_cons (pv 0) pa_nil)) pa_nil))) pa_nil)))) pss_nil)
   (pss_cons (ps_set (i := 7) sc_law_realm.nd rfl (.inl rfl) (pe_lst pa_nil))
   (pss_cons (ps_for PassesOwn.never rfl (pi_seq K rfl (pe_callB (call_sortedU K rfl hr.units) (by rfl) (mb _ (by decide)) (by decide +kernel) (pa_cons (pv 3) pa_nil))) (pg_name (i := 8) sc_law_realm.nd rfl (.inl rfl)) (pss_one (ps_if (pt_cmpR (op_ninW K rfl (Room.units65 hr)) (pv 8) (pv 7) rfl) (pss_one (ps_expr (pe_bm PySem.F.plainAttrs_list PySem.F.slot_list_append PySem.F.type_list_append mt_append (pv 7) (pa_cons (pv 8) pa_nil)))) pss_nil)))
   (pss_cons (ps_set (i := 9) sc_law_realm.nd rfl (.inl rfl) (pe_callTy (call_tupU K rfl) (by rfl) (mb _ (by decide)) (by decide +kernel) (pa_cons (pe_callB (call_sortedU K rfl hr.units) (by rfl) (mb _ (by decide)) (by decide +kernel) (pa_cons (pe_callO G_law_ids (hr.mono (by decide)) (by rfl) (pa_cons (pv 0) (pa_cons (pe_op (op_plus K rfl) pe_int (pe_callO G_law_take (hr.mono (by decide)) (by rfl) (pa_cons (pv 0) (pa_cons pe_int pa_nil)))) pa_nil))) pa_nil)) pa_nil)))
   (pss_one (ps_ret (pe_tup (pa_cons (pe_callTy (call_tupF K rfl) (by rfl) (mb _ (by decide)) (by decide +kernel) (pa_cons (pv 2) pa_nil)) (pa_cons (pv 9) (pa_cons (pe_callTy (call_tupU K rfl) (by rfl) (mb _ (by decide)) (by decide +kernel) (pa_cons (pv 7) pa_nil)) pa_nil))))))))))))), ?_⟩
    refine rd_seq ?_
    walk_at "rdn_2"
    refine ⟨l, t, m, rfl, hm0, hm5, hT, fun zp lag rest ns H1 nzp hr1 hnn hnm hnz hlag hzp e1 T1 => ?_⟩
    obtain ⟨zs, hzs⟩ : ∃ zs, zs = (dotS, lag) :: rest := ⟨_, rfl⟩
    rw [← hzs] at hzp hlag
    have hzpt : zp ≠ t := (hT.ne nzp).1
    have hzlen : zs.length ≤ 6 := by
      have := congrArg List.length hr1
      rw [List.length_map, (srtS_perm ns).length_eq] at this
      rw [hzs, List.length_cons]
      omega
    have hzn : ∀ r ∈ zs, r.1 = dotS ∨ zoneB r.1 := fun r hr => by
      rw [hzs] at hr
      rcases List.mem_cons.mp hr with e | hr
      · exact .inl (by rw [e])
      · exact .inr (hnz _ ((srtS_perm ns).mem_iff.mp (by rw [← hr1]; exact List.mem_map_of_mem hr)))
    walk_at "rdn_2"
    refine rd_seq ?_
    walk_at "rdn_2"
    refine ⟨by show 0 ≤ sizeLine; decide, fun sp nsp => ?_⟩
    have hspn : Nw H sp := e1.back (by simpa using (T1.ne (.of nsp)).1) (.of nsp)
    obtain ⟨hspt, hspl⟩ := T1.ne (.of nsp)
    have hzsp := hzp.ne nsp
    have e2 := e1.newR (o := .lst []) nsp
    have T2 := T1.upd (o := .lst []) nsp
    have hz2 := hzp.new (o := .lst []) nsp
    have hs2 : Ls (upd H1 sp (.lst [])) sp (([] : List (Str × Str)).map ssD) := ⟨[], upd_same, .nil⟩
    generalize upd H1 sp (.lst []) = H2 at e2 T2 hz2 hs2 ⊢
    clear nsp hzp
    walk_at "rdn_2"
    -- the sets, zone by zone
    refine rd_cut (fun σ H3 => Ext T [t] H H3 ∧ Tape l H3 t ∧ Ls H3 zp (zs.map siD) ∧ ∃ (ss : List (Str × Str)) (a b c : Option V), σ = [some (.ref t), some (.int m), some (.ref zp), some (.ref sp), a, b, c, none, none, none] ∧ Ls H3 sp (ss.map ssD) ∧ ss.length = zs.length ∧ (∀ p ∈ ss, nameB p.1 = true ∧ idB p.2 = true) ∧ ∀ z ∈ zs, ∃ p ∈ ss, endsB p.1 z.1 = true) (fun nx' hnx => ?_) (fun σ H3 h => ?_)
    · walk_at "rd_2"
      obtain ⟨xs, hx1, hx2⟩ := hz2.list
      refine .inl ⟨⟨_, SqL.of hx1⟩, ?_⟩
      refine forg_list (xs := xs) (fun i σ H3 => Ext T [t] H H3 ∧ Tape l H3 t ∧ H3 zp = some (.lst xs) ∧ ImAll H3 xs (zs.map siD) ∧ ∃ (ss : List (Str × Str)) (a b c : Option V), σ = [some (.ref t), some (.int m), some (.ref zp), some (.ref sp), a, b, c, none, none, none] ∧ Ls H3 sp (ss.map ssD) ∧ ss.length = i ∧ (∀ p ∈ ss, nameB p.1 = true ∧ idB p.2 = true) ∧ ∀ z ∈ zs.take i, ∃ p ∈ ss, endsB p.1 z.1 = true)
        ⟨e2, T2, hx1, hx2, [], none, none, none, rfl, hs2, rfl, by simp, by simp⟩ (fun i σ H3 _ h => SqL.of h.2.2.1) (fun i x σ H3 hx h => ?_) (fun σ H3 h => ?_)
      · obtain ⟨e3, T3, hz3, hi3, ss, a, b, c, rfl, hs3, hsl, hso, hsu⟩ := h
        obtain ⟨dz, hdz, hxz⟩ := hi3.get' hx
        rw [List.getElem?_map] at hdz
        obtain ⟨z, hz, rfl⟩ := Option.map_eq_some_iff.mp hdz
        have hzm := List.mem_of_getElem? hz
        have hzz := hzn z hzm
        have hznm : nameB z.1 = true := hzz.elim (fun e => by rw [e]; exact dot_name) zone_name
        refine rd_gpair (d1 := .str z.1) (d2 := .int z.2) hxz fun v1 v2 h1 h2 => ?_
        rw [h1.str', h2.int']
        refine rd_seq ?_
        walk_at "rdn_2"
        -- the name
        refine rd_cut (fun σ H4 => Ext T [t] H3 H4 ∧ Tape l H4 t ∧ ∃ n : Str, σ = [some (.ref t), some (.int m), some (.ref zp), some (.ref sp), some (.str z.1), some (.int z.2), some (.str n), none, none, none] ∧ nameB n = true ∧ endsB n z.1 = true) (fun nx2 hnx2 => ?_) (fun σ H4 h => ?_)
        · walk_at "rd_2"
          refine ⟨l, t, 2, rfl, by decide, by decide, T3, fun d H4 h0 h1 e4 T4 => ?_⟩
          walk_at "rd_2"
          refine rd_ite (fun hd => ?_) (fun hd => ?_)
          · walk_at "rd_2"
            refine ⟨l, t, rfl, T4, fun la H5 hla e5 T5 => ?_⟩
            have hla8 := label_len hla
            have hzl := name_len hznm
            walk_at "rd_2"
            refine rd_ite (fun hdot => ?_) (fun hdot => ?_)
            · walk_at "rd_2"
              refine rd_plusS ?_ ?_
              · rw [show (Str.ofString "").length = 0 by decide +kernel]
                exact Nat.le_trans (show _ ≤ 100 by omega) (by decide)
              walk_at "rd_2"
              have e0 : la ++ Str.ofString "" = la := sg_inj (by rw [sg_app, show sg (Str.ofString "") = [] by decide +kernel, List.append_nil])
              rw [e0]
              exact hnx2 _ _ ⟨e4.trans e5, T5, la, rfl, label_name hla, by rw [show z.1 = dotS from hdot]; exact ends_dot la⟩
            · walk_at "rd_2"
              exact hnx2 _ _ ⟨e4.trans e5, T5, la ++ (dotS ++ z.1), rfl, name_cons hla (hzz.resolve_left hdot), ends_app la z.1⟩
          · walk_at "rd_2"
            exact hnx2 _ _ ⟨e4, T4, z.1, rfl, hznm, ends_self z.1⟩
        · obtain ⟨e4, T4, n, rfl, hn, hne⟩ := h
          have hs4 := hs3.ext e4 (by simpa using hspt) T3.lsts
          have hz4 := e4.lst (by simpa using hzpt) hz3
          have hi4 := ImAll.ext e4 T3.lsts _ _ hi3
          have e34 := e3.trans e4
          clear e3 T3 hs3 hz3 hi3 hxz e4
          obtain ⟨sx, hsx, _⟩ := hs4.list
          walk_at "rd_2"
          refine ⟨l, t, rfl, T4, fun k H5 hk e5 T5 => ?_⟩
          have hs5 := hs4.ext e5 (by simpa using hspt) T4.lsts
          have hz5 := e5.lst (by simpa using hzpt) hz4
          have hi5 := ImAll.ext e5 T4.lsts _ _ hi4
          walk_at "rd_2"
          refine ⟨by show 2 ≤ sizeLine; decide, fun ta nta => ?_⟩
          refine rd_nil ?_
          have e6 := (e34.trans e5).newR (o := .tup [V.str n, .str k]) nta
          have T6 := T5.upd (o := .tup [V.str n, .str k]) nta
          have hs6 := hs5.new (o := .tup [V.str n, .str k]) nta
          have hz6 := (upd_ne (o := .tup [V.str n, .str k]) ((Nw.of nta).lst hz5)).trans hz5
          have hi6 := hi5.new (o := .tup [V.str n, .str k]) nta
          have ht6 : Im (upd H5 ta (.tup [V.str n, .str k])) (.ref ta) (ssD (n, k)) := .new2 (.str _ (name_ok hn)) (.str _ (id_ok hk)) upd_same
          generalize upd H5 ta (.tup [V.str n, .str k]) = H6 at e6 T6 hs6 hz6 hi6 ht6 ⊢
          refine rd_appLs hs6 ht6 ?_ fun ys hy hs7 => ?_
          · rw [List.length_map, hsl]
            refine Nat.lt_of_le_of_lt (show i ≤ 100 from ?_) (by decide)
            have := (List.getElem?_eq_some_iff.mp hx).1
            have := hi6.len
            rw [List.length_map] at this
            omega
          · have e7 : Ext T [sp] H6 (upd H6 sp (.lst (ys ++ [.ref ta]))) := Ext.mut (by simp) hy
            refine ⟨e6.own hspn hy, T6.own hspt hspl, (upd_ne hzsp).trans hz6, ImAll.ext e7 (lsts_one hy) _ _ hi6, ss ++ [(n, k)], _, _, _, rfl, ?_, ?_, fun p hp => ?_, fun z' hz' => ?_⟩
            · rw [List.map_append]
              exact hs7
            · rw [List.length_append, hsl]
              rfl
            · rcases List.mem_append.mp hp with h | h
              · exact hso p h
              · rw [List.mem_singleton.mp h]
                exact ⟨hn, hk⟩
            · rw [List.take_add_one, hz] at hz'
              rcases List.mem_append.mp hz' with h | h
              · obtain ⟨p, hp, h2⟩ := hsu z' h
                exact ⟨p, List.mem_append_left _ hp, h2⟩
              · rw [List.mem_singleton.mp (show z' ∈ [z] from h)]
                exact ⟨(n, k), by simp, hne⟩
      · obtain ⟨e3, T3, hz3, hi3, ss, a, b, c, rfl, hs3, hsl, hso, hsu⟩ := h
        have hlx : xs.length = zs.length := by rw [hx2.len, List.length_map]
        rw [hlx] at hsl hsu
        rw [List.take_length] at hsu
        exact hnx _ _ ⟨e3, T3, ⟨xs, hz3, hi3⟩, ss, a, b, c, rfl, hs3, hsl, hso, hsu⟩
    · obtain ⟨e3, T3, hz3, ss, a, b, c, rfl, hs3, hsl, hso, hsu⟩ := h
      clear e1 T1 e2 T2 hz2 hs2
      -- one set more
      refine rd_cut (fun σ H4 => Ext T [t] H H4 ∧ Tape l H4 t ∧ Ls H4 zp (zs.map siD) ∧ ∃ (ss : List (Str × Str)), σ = [some (.ref t), some (.int m), some (.ref zp), some (.ref sp), a, b, c, none, none, none] ∧ Ls H4 sp (ss.map ssD) ∧ ss.length ≤ zs.length + 1 ∧ (∀ p ∈ ss, nameB p.1 = true ∧ idB p.2 = true) ∧ ∀ z ∈ zs, ∃ p ∈ ss, endsB p.1 z.1 = true) (fun nx' hnx => ?_) (fun σ H4 h => ?_)
      · walk_at "rd_2"
        refine ⟨l, t, 3, rfl, by decide, by decide, T3, fun d H4 h0 h1 e4 T4 => ?_⟩
        have hs4 := hs3.ext e4 (by simpa using hspt) T3.lsts
        have hz4 := hz3.ext e4 (by simpa using hzpt) T3.lsts
        walk_at "rd_2"
        refine rd_ite (fun hd => ?_) (fun hd => ?_)
        · obtain ⟨sx, hsx, _⟩ := hs4.list
          obtain ⟨zx, hzx, hzi⟩ := hz4.list
          walk_at "rd_2"
          obtain ⟨z, hz1, hz2⟩ := last_some (l := zs) (by rw [hzs]; simp)
          have hznm : nameB z.1 = true := (hzn z hz2).elim (fun e => by rw [e]; exact dot_name) zone_name
          refine rd_ixLs hz4 (last_map hz1) fun u hu => ?_
          walk_at "rd_2"
          refine rd_ixSs (z := z.1) hu rfl ?_
          walk_at "rd_2"
          refine ⟨l, t, rfl, T4, fun k H5 hk e5 T5 => ?_⟩
          have hs5 := hs4.ext e5 (by simpa using hspt) T4.lsts
          have hz5 := hz4.ext e5 (by simpa using hzpt) T4.lsts
          walk_at "rd_2"
          refine ⟨by show 2 ≤ sizeLine; decide, fun ta nta => ?_⟩
          refine rd_nil ?_
          have e6 := ((e3.trans e4).trans e5).newR (o := .tup [V.str z.1, .str k]) nta
          have T6 := T5.upd (o := .tup [V.str z.1, .str k]) nta
          have hs6 := hs5.new (o := .tup [V.str z.1, .str k]) nta
          have hz6 := hz5.new (o := .tup [V.str z.1, .str k]) nta
          have ht6 : Im (upd H5 ta (.tup [V.str z.1, .str k])) (.ref ta) (ssD (z.1, k)) := .new2 (.str _ (name_ok hznm)) (.str _ (id_ok hk)) upd_same
          generalize upd H5 ta (.tup [V.str z.1, .str k]) = H6 at e6 T6 hs6 hz6 ht6 ⊢
          refine rd_appLs hs6 ht6 ?_ fun ys hy hs7 => ?_
          · rw [List.length_map, hsl]
            exact Nat.lt_of_le_of_lt (show zs.length ≤ 100 by omega) (by decide)
          · have e7 : Ext T [sp] H6 (upd H6 sp (.lst (ys ++ [.ref ta]))) := Ext.mut (by simp) hy
            refine hnx _ _ ⟨e6.own hspn hy, T6.own hspt hspl, hz6.ext e7 (by simpa using hzsp) (lsts_one hy), ss ++ [(z.1, k)], rfl, ?_, ?_, fun p hp => ?_, fun z' hz' => ?_⟩
            · rw [List.map_append]
              exact hs7
            · rw [List.length_append, hsl]
              exact Nat.le_refl _
            · rcases List.mem_append.mp hp with h | h
              · exact hso p h
              · rw [List.mem_singleton.mp h]
                exact ⟨hznm, hk⟩
            · obtain ⟨p, hp, h2⟩ := hsu z' hz'
              exact ⟨p, List.mem_append_left _ hp, h2⟩
        · walk_at "rd_2"
          exact hnx _ _ ⟨e3.trans e4, T4, hz4, ss, rfl, hs4, by omega, hso, hsu⟩
      · obtain ⟨e4, T4, hz4, ss, rfl, hs4, hsl, hso, hsu⟩ := h
        clear e3 T3 hz3 hs3
        refine rd_seq ?_
        walk_at "rdn_2"
        refine ⟨by show 0 ≤ sizeLine; decide, fun kp nkp => ?_⟩
        obtain ⟨hkt, hkl'⟩ := T4.ne (.of nkp)
        have hkn : Nw H kp := e4.back (by simpa using hkt) (.of nkp)
        have hzk := hz4.ne nkp
        have e5 := e4.newR (o := .lst []) nkp
        have T5 := T4.upd (o := .lst []) nkp
        have hz5 := hz4.new (o := .lst []) nkp
        have hs5 := hs4.new (o := .lst []) nkp
        have hk5 : Ls (upd H4 kp (.lst [])) kp (([] : List (Str × Str)).map ssD) := ⟨[], upd_same, .nil⟩
        generalize upd H4 kp (.lst []) = H5 at e5 T5 hz5 hs5 hk5 ⊢
        walk_at "rdn_2"
        refine rd_cut (fun σ H6 => Ext T [t] H H6 ∧ Tape l H6 t ∧ Ls H6 zp (zs.map siD) ∧ ∃ (ks : List (Str × Str)) (d : Option V), σ = [some (.ref t), some (.int m), some (.ref zp), some (.ref sp), a, b, c, some (.ref kp), d, none] ∧ Ls H6 kp (ks.map ssD) ∧ ks.Nodup ∧ ks.Sublist (srtSS ss) ∧ ∀ r ∈ srtSS ss, r ∈ ks) (fun nx' hnx => ?_) (fun σ H6 h => ?_)
        · walk_at "rd_2"
          refine rd_sortI hs5 (alike_ss ss) (sortable_ss ss) (depth_ss ss) fun sa ys nsa hys => ?_
          rw [srtSS_eq] at hys
          have hsak := hk5.ne nsa
          have hst := (T5.ne (.of nsa)).1
          have e6 := e5.newR (o := .lst ys) nsa
          have T6 := T5.upd (o := .lst ys) nsa
          have hz6 := hz5.new (o := .lst ys) nsa
          have hk6 := hk5.new (o := .lst ys) nsa
          have hy6 := hys.new (o := .lst ys) nsa
          have hsa6 : (upd H5 sa (.lst ys)) sa = some (.lst ys) := upd_same
          refine ⟨sa, rfl, .inl ⟨⟨_, SqL.of hsa6⟩, ?_⟩⟩
          show ForG _ _ _ _ _ (upd H5 sa (.lst ys))
          generalize upd H5 sa (.lst ys) = H6 at e6 T6 hz6 hk6 hy6 hsa6 ⊢
          refine forg_list (xs := ys) (fun i σ H7 => Ext T [t] H H7 ∧ Tape l H7 t ∧ Ls H7 zp (zs.map siD) ∧ H7 sa = some (.lst ys) ∧ ImAll H7 ys ((srtSS ss).map ssD) ∧ ∃ (ks : List (Str × Str)) (d : Option V), σ = [some (.ref t), some (.int m), some (.ref zp), some (.ref sp), a, b, c, some (.ref kp), d, none] ∧ Ls H7 kp (ks.map ssD) ∧ ks.Nodup ∧ ks.Sublist ((srtSS ss).take i) ∧ ∀ r ∈ (srtSS ss).take i, r ∈ ks)
            ⟨e6, T6, hz6, hsa6, hy6, [], none, rfl, hk6, by simp, by simp, by simp⟩ (fun i σ H7 _ h => SqL.of h.2.2.2.1) (fun i x σ H7 hx h => ?_) (fun σ H7 h => ?_)
          · obtain ⟨e7, T7, hz7, hsa7, hy7, ks, d, rfl, hk7, hkn7, hks, hkm⟩ := h
            obtain ⟨dr, hdr, hxr⟩ := hy7.get' hx
            rw [List.getElem?_map] at hdr
            obtain ⟨r, hr, rfl⟩ := Option.map_eq_some_iff.mp hdr
            have htk : (srtSS ss).take (i + 1) = (srtSS ss).take i ++ [r] := by rw [List.take_add_one, hr]; rfl
            have hkl : ks.length ≤ 7 := by
              have h1 := hks.length_le
              rw [List.length_take, (srtSS_perm ss).length_eq] at h1
              have := Nat.min_le_right i ss.length
              omega
            have hdk : PyData.depth (.list (ks.map ssD)) ≤ 64 := by
              show PyData.depthAll (ks.map ssD) + 1 ≤ 64
              have := dep_map dep_ss ks
              omega
            refine rd_name ?_
            refine rd_if ?_
            refine rd_T ?_
            refine rd_op ?_
            refine rd_var rfl ?_
            refine rd_var rfl ?_
            refine rd_ninWL (b := decide (r ∈ ks)) hxr hk7 (Nat.le_trans (dep_ss r) (by decide)) hdk (mem_ssD.trans decide_eq_true_iff.symm) ?_
            refine ⟨_, rfl, ?_⟩
            refine rd_itn (fun hin => ?_) (fun hin => ?_)
            · walk_at "rd_2"
              refine ⟨e7, T7, hz7, hsa7, hy7, ks, _, rfl, hk7, hkn7, by rw [htk]; exact hks.trans (List.sublist_append_left _ _), fun r' hr' => ?_⟩
              rw [htk] at hr'
              rcases List.mem_append.mp hr' with h | h
              · exact hkm r' h
              · rw [List.mem_singleton.mp h]
                exact hin
            · obtain ⟨kx, hkx, _⟩ := hk7.list
              refine rd_drop ?_
              refine rd_bm ?_
              refine rd_var rfl ?_
              refine rd_tyL hkx ?_
              refine rd_cons ?_
              refine rd_var rfl ?_
              refine rd_nil ?_
              refine rd_appLs hk7 hxr ?_ fun ys2 hy2 hk8 => ?_
              · rw [List.length_map]
                exact Nat.lt_of_le_of_lt hkl (by decide)
              · have e8 : Ext T [kp] H7 (upd H7 kp (.lst (ys2 ++ [x]))) := Ext.mut (by simp) hy2
                refine ⟨e7.own hkn hy2, T7.own hkt hkl', hz7.ext e8 (by simpa using hzk) (lsts_one hy2), (upd_ne hsak.symm).trans hsa7, ImAll.ext e8 (lsts_one hy2) _ _ hy7, ks ++ [r], _, rfl, ?_, nodup_snoc hkn7 hin, ?_, fun r' hr' => ?_⟩
                · rw [List.map_append]
                  exact hk8
                · rw [htk]
                  exact hks.append (List.Sublist.refl _)
                · rw [htk] at hr'
                  rcases List.mem_append.mp hr' with h | h
                  · exact List.mem_append_left _ (hkm r' h)
                  · exact List.mem_append_right _ h
          · obtain ⟨e7, T7, hz7, hsa7, hy7, ks, d, rfl, hk7, hkn7, hks, hkm⟩ := h
            have hly : ys.length = (srtSS ss).length := by rw [hy7.len, List.length_map]
            rw [hly, List.take_length] at hks hkm
            exact hnx _ _ ⟨e7, T7, hz7, ks, d, rfl, hk7, hkn7, hks, hkm⟩
        · obtain ⟨e6, T6, hz6, ks, d, rfl, hk6, hkn6, hks, hkm⟩ := h
          clear e4 T4 hz4 hs4 e5 T5 hz5 hs5 hk5
          walk_at "rd_2"
          refine ⟨l, t, 3, rfl, by decide, by decide, T6, fun d2 H7 h0 h1 e7 T7 => ?_⟩
          have hz7 := hz6.ext e7 (by simpa using hzpt) T6.lsts
          have hk7 := hk6.ext e7 (by simpa using hkt) T6.lsts
          walk_at "rd_2"
          refine ⟨l, t, 1 + d2, rfl, by omega, by omega, T7, fun ip ids H8 nip hil hin hid hip e8 T8 => ?_⟩
          have hz8 := hz7.ext e8 (by simpa using hzpt) T7.lsts
          have hk8 := hk7.ext e8 (by simpa using hkt) T7.lsts
          walk_at "rd_2"
          refine rd_sortI (ds := ids.map .str) ⟨_, hip, ImAll.strs fun z hz => id_ok (hid z hz)⟩ (alike_s ids) (sortable_s ids) (depth_s ids) fun sa ys nsa hys => ?_
          rw [srtS_eq] at hys
          have e9 := ((e6.trans e7).trans e8).newR (o := .lst ys) nsa
          have T9 := T8.upd (o := .lst ys) nsa
          have hz9 := hz8.new (o := .lst ys) nsa
          have hk9 := hk8.new (o := .lst ys) nsa
          have hy9 := hys.new (o := .lst ys) nsa
          have hs9 : (upd H8 sa (.lst ys)) sa = some (.lst ys) := upd_same
          show tNil _ (upd H8 sa (.lst ys)) _
          generalize upd H8 sa (.lst ys) = H9 at e9 T9 hz9 hk9 hy9 hs9 ⊢
          walk_at "rd_2"
          refine rd_tupL (SqL.of hs9) fun ta nta => ?_
          have e10 := e9.newR (o := .tup ys) nta
          have T10 := T9.upd (o := .tup ys) nta
          have hz10 := hz9.new (o := .tup ys) nta
          have hk10 := hk9.new (o := .tup ys) nta
          have ha10 : Im (upd H9 ta (.tup ys)) (.ref ta) (.tuple ((srtS ids).map .str)) := .tup upd_same (hy9.new nta)
          show gName 9 _ _ (upd H9 ta (.tup ys)) _
          generalize upd H9 ta (.tup ys) = H10 at e10 T10 hz10 hk10 ha10 ⊢
          obtain ⟨zx, hzx, hzi⟩ := hz10.list
          walk_at "rd_2"
          refine rd_tupF (SqL.of hzx) fun tz oz ntz hod => ?_
          have e11 := e10.newR (o := .frz oz (.tup zx)) ntz
          have T11 := T10.upd (o := .frz oz (.tup zx)) ntz
          have hk11 := hk10.new (o := .frz oz (.tup zx)) ntz
          have ha11 := ha10.new (o := .frz oz (.tup zx)) ntz
          have hf11 : (upd H10 tz (.frz oz (.tup zx))) tz = some (.frz oz (.tup zx)) := upd_same
          have hi11 : ImAll (upd H10 tz (.frz oz (.tup zx))) zx (zs.map siD) := hzi.new ntz
          have hz11 : Im (upd H10 tz (.frz oz (.tup zx))) (.ref tz) (.tuple (zs.map siD)) := .tupF hf11 (siD_tups zs) hi11
          show tCons _ _ _ (upd H10 tz (.frz oz (.tup zx))) _
          generalize upd H10 tz (.frz oz (.tup zx)) = H11 at e11 T11 hk11 ha11 hz11 hf11 hi11 ⊢
          obtain ⟨kx, hkx, hki⟩ := hk11.list
          walk_at "rd_2"
          refine rd_tupL (SqL.of hkx) fun tk ntk => ?_
          have e12 := e11.newR (o := .tup kx) ntk
          have T12 := T11.upd (o := .tup kx) ntk
          have ha12 := ha11.new (o := .tup kx) ntk
          have hz12 := hz11.new (o := .tup kx) ntk
          have hf12 := frz.ext (T := T) hf11 (.new (o := .tup kx) ntk) Lsts.nil
          have hi12 := hi11.new (o := .tup kx) ntk
          have hk12 : Im (upd H11 tk (.tup kx)) (.ref tk) (.tuple (ks.map ssD)) := .tup upd_same (hki.new ntk)
          show tNil _ (upd H11 tk (.tup kx)) _
          generalize upd H11 tk (.tup kx) = H12 at e12 T12 ha12 hz12 hk12 hf12 hi12 ⊢
          walk_at "rd_2"
          refine ⟨by show 3 ≤ sizeLine; decide, fun r nr => ?_⟩
          have hmem : ∀ r, r ∈ ks → r ∈ ss := fun r hr => (srtSS_perm ss).mem_iff.mp (hks.subset hr)
          refine q (.ref r) ⟨zs, srtS ids, ks⟩ _ ⟨⟨lag, rest, ns, hzs, hr1, hnn, hnm, hnz⟩, hlag, ⟨ss, hks⟩, hkn6, fun p hp => hso p (hmem p hp), fun z hz => ?_, ?_, ⟨ids, rfl, hin, hid, by omega, by omega⟩⟩ ⟨r, tz, _, _, zx, oz, rfl, upd_same, frz.ext (T := T) hf12 (.new nr) Lsts.nil, hod, hi12.new nr⟩ (.new3 (hz12.new nr) (ha12.new nr) (hk12.new nr) upd_same) (e12.newR nr) (T12.upd nr)
          · obtain ⟨p, hp, h⟩ := hsu z hz
            exact ⟨p, hkm p ((srtSS_perm ss).mem_iff.mpr hp), h⟩
          · have h1 := hks.length_le
            rw [(srtSS_perm ss).length_eq] at h1
            have h2 : (zs.length : Int) ≤ m + 1 := by
              have := congrArg List.length hr1
              rw [List.length_map, (srtS_perm ns).length_eq] at this
              rw [hzs, List.length_cons]
              omega
            show (ks.length : Int) ≤ m + 2
            omega
end
section
variable {T : List (Addr × Str)} {P : Program} {w : World} {K : PySem.W.Frag} {mg : Str → Option Value} {base : Heap}
theorem ok_law_chain (D : Def K mg "_law_chain" s_law_chain ["realm", "name"]) (mb : ∀ x ∈ bltns, mg x = none) : Ok P w K mg base 1 "_law_chain" ["realm", "name"] (spChainL T) := by
  refine D.ok sc_law_chain (fun vs H Q E h => ?_) (fun cdv f A outer s H vs Q E hr h => ?_)
  · obtain ⟨v, R, n, rfl, _⟩ := h
    rfl
  · obtain ⟨v, R, n, rfl, hv, hR, hn, q⟩ := h
    refine ⟨_, (pss_cons (ps_set (i := 2) sc_law_chain.nd rfl (.inl rfl) (pe_lst (pa_cons (pe_tup (pa_cons pe_int (pa_cons pe_str pa_nil))) pa_nil)))
   (pss_cons (ps_for PassesOwn.never rfl (pi_seq K rfl (pe_ix (ix_U K rfl) (pv 0) pe_int (fun _ _ => rfl))) (pg_tupU (n := 2) K rfl rfl (pgs_cons (pg_name (i := 3) sc_law_chain.nd rfl (.inl rfl)) (pgs_cons (pg_name (i := 4) sc_law_chain.nd rfl (.inl rfl)) pgs_nil))) (pss_one (ps_if (PW.pt (pw_and (pt_cmpR (op_neU K rfl hr.units) (pv 3) pe_str (nomark _)) (pw_and1 (PW.pt (pw_or (pt_cmpR (op_eqU K rfl hr.units) (pv 1) (pv 3) (nomark _)) (pw_or1 (pt_E (pe_m1 PySem.F.slot_str_endswith PySem.F.type_str_endswith mt_endsU (pv 1) (pe_op (op_plus K rfl) pe_str (pv 3)))))))))) (pss_one (ps_expr (pe_bm PySem.F.plainAttrs_list PySem.F.slot_list_append PySem.F.type_list_append mt_append (pv 2) (pa_cons (pe_tup (pa_cons (pe_callB (call_lenU K rfl) (by rfl) (mb _ (by decide)) (by decide +kernel) (pa_cons (pv 3) pa_nil)) (pa_cons (pv 3) pa_nil))) pa_nil)))) pss_nil)))
   (pss_one (ps_ret (pe_lc (own := [("pair", 5)]) (g := gName 5) (tt := tYes) rfl sc_law_chain.nd (pi_seq K rfl (pe_callB (call_sortedU K rfl hr.units) (by rfl) (mb _ (by decide)) (by decide +kernel) (pa_cons (pv 2) pa_nil))) (blkOk_by (N := N_law_chain) (sc := defScope s_law_chain) (by decide +kernel)) (fun _ _ _ _ _ => (pg_name (i := 5) sc_law_chain.nd rfl (Or.inl rfl))) (fun _ _ _ _ _ => pts_nil) (fun _ _ _ _ _ => (pe_ix (ix_U K rfl) (pv 5) pe_int (fun _ _ => rfl)))))))), ?_⟩
    refine rd_seq ?_
    walk_at "rdn_2"
    refine ⟨by show 2 ≤ sizeLine; decide, fun ta nta => ?_⟩
    walk_at "rdn_2"
    refine ⟨by show 1 ≤ sizeLine; decide, fun fp nfp => ?_⟩
    have hta : ta ≠ fp := fun e => by
      rw [← e, upd_same] at nfp
      cases nfp
    have e1 : Ext T [] H (upd (upd H ta (.tup [V.int 0, .str (Str.ofString ".")])) fp (.lst [.ref ta])) := (Ext.new nta).newR nfp
    have hfn : Nw H fp := (Ext.new (T := T) (ms := []) nta).back (by simp) (.of nfp)
    have hv1 := (hv.new (o := .tup [V.int 0, .str (Str.ofString ".")]) nta).new (o := .lst [.ref ta]) nfp
    have hf1 : Ls (upd (upd H ta (.tup [V.int 0, .str (Str.ofString ".")])) fp (.lst [.ref ta])) fp ([((0 : Int), dotS)].map isD) :=
      ⟨_, upd_same, .cons (.new2 (.int _) (.str _ (name_ok dot_name)) ((upd_ne hta).trans upd_same)) .nil⟩
    show gName 2 _ _ (upd (upd H ta (.tup [V.int 0, .str (Str.ofString ".")])) fp (.lst [.ref ta])) _
    generalize upd (upd H ta (.tup [V.int 0, .str (Str.ofString ".")])) fp (.lst [.ref ta]) = H1 at e1 hv1 hf1 ⊢
    walk_at "rdn_2"
    refine rd_cut (fun σ H2 => Ext T [] H H2 ∧ ∃ (a b : Option V), σ = [some v, some (.str n), some (.ref fp), a, b, none] ∧ Ls H2 fp ((chF R n).map isD)) (fun nx' hnx => ?_) (fun σ H2 h => ?_)
    · walk_at "rd_2"
      refine rd_ixI (d := .tuple (R.zs.map siD)) hv1 rfl fun u hu => ?_
      obtain ⟨zp, xs, rfl, hzp, hzi⟩ := hu.tup'
      refine ⟨zp, rfl, .inr ⟨⟨_, SqP.sq hzp⟩, ?_⟩⟩
      refine forg_tup (xs := xs) (fun i σ H2 => Ext T [] H H2 ∧ SqP H2 zp xs ∧ ImAll H2 xs (R.zs.map siD) ∧ ∃ (a b : Option V), σ = [some v, some (.str n), some (.ref fp), a, b, none] ∧ Ls H2 fp (((0, dotS) :: (((R.zs.take i).filter (onZ n)).map fun z => ((z.1.length : Int), z.1))).map isD))
        ⟨e1, hzp, hzi, none, none, rfl, hf1⟩ (fun i σ H2 _ h => SqP.sq h.2.1) (fun i x σ H2 hx h => ?_) (fun σ H2 h => ?_)
      · obtain ⟨e2, hzp2, hzi2, a, b, rfl, hf2⟩ := h
        obtain ⟨dz, hdz, hxz⟩ := hzi2.get' hx
        rw [List.getElem?_map] at hdz
        obtain ⟨z, hz, rfl⟩ := Option.map_eq_some_iff.mp hdz
        have hznm := hR.nm z (List.mem_of_getElem? hz)
        have hzl := name_len hznm
        have htk : (R.zs.take (i + 1)).filter (onZ n) = (R.zs.take i).filter (onZ n) ++ [z].filter (onZ n) := by
          rw [List.take_add_one, hz, List.filter_append]
          rfl
        have hcnt : ((R.zs.take i).filter (onZ n)).length ≤ 6 := Nat.le_trans (List.length_filter_le _ _) (Nat.le_trans (by rw [List.length_take]; exact Nat.min_le_right _ _) hR.len)
        rw [htk]
        refine rd_gpair (d1 := .str z.1) (d2 := .int z.2) hxz fun v1 v2 h1 h2 => ?_
        rw [h1.str', h2.int']
        have no : onZ n z = false → Ls H2 fp (((0, dotS) :: ((((R.zs.take i).filter (onZ n) ++ [z].filter (onZ n))).map fun z => ((z.1.length : Int), z.1))).map isD) := fun h => by
          rw [show [z].filter (onZ n) = [] by rw [List.filter_cons, h]; rfl, List.append_nil]
          exact hf2
        have yes : onZ n z = true → (tDrop (tBM K "list" rAppend (tVar 2) (tCons (tTup (tCons (tCB (rLenU K) (tCons (tVar 3) tNil)) (tCons (tVar 3) tNil))) tNil))) ⟨fun σ H2 => Ext T [] H H2 ∧ SqP H2 zp xs ∧ ImAll H2 xs (R.zs.map siD) ∧ ∃ (a b : Option V), σ = [some v, some (.str n), some (.ref fp), a, b, none] ∧ Ls H2 fp (((0, dotS) :: ((((R.zs.take i).filter (onZ n) ++ [z].filter (onZ n))).map fun z => ((z.1.length : Int), z.1))).map isD), Q, nx', fun σ H2 => Ext T [] H H2 ∧ SqP H2 zp xs ∧ ImAll H2 xs (R.zs.map siD) ∧ ∃ (a b : Option V), σ = [some v, some (.str n), some (.ref fp), a, b, none] ∧ Ls H2 fp (((0, dotS) :: ((((R.zs.take i).filter (onZ n) ++ [z].filter (onZ n))).map fun z => ((z.1.length : Int), z.1))).map isD)⟩ [some v, some (.str n), some (.ref fp), some (.str z.1), some (.int z.2), none] H2 := fun h => by
          obtain ⟨fx, hfx, _⟩ := hf2.list
          walk_at "rd_2"
          refine ⟨by show 2 ≤ sizeLine; decide, fun tb ntb => ?_⟩
          refine rd_nil ?_
          have e3 := e2.newR (o := .tup [V.int z.1.length, .str z.1]) ntb
          have hf3 := hf2.new (o := .tup [V.int z.1.length, .str z.1]) ntb
          have hzi3 := hzi2.new (o := .tup [V.int z.1.length, .str z.1]) ntb
          have hzp3 := SqP.new (o := .tup [V.int z.1.length, .str z.1]) hzp2 ntb
          have ht3 : Im (upd H2 tb (.tup [V.int z.1.length, .str z.1])) (.ref tb) (isD (z.1.length, z.1)) := .new2 (.int _) (.str _ (name_ok hznm)) upd_same
          generalize upd H2 tb (.tup [V.int z.1.length, .str z.1]) = H3 at e3 hf3 hzi3 hzp3 ht3 ⊢
          refine rd_appLs hf3 ht3 ?_ fun ys hy hf4 => ?_
          · rw [List.length_map, List.length_cons, List.length_map]
            exact Nat.lt_of_le_of_lt (show _ ≤ 100 by omega) (by decide)
          · have e4 : Ext T [fp] H3 (upd H3 fp (.lst (ys ++ [.ref tb]))) := Ext.mut (by simp) hy
            refine ⟨e3.own hfn hy, ?_, ImAll.ext e4 (lsts_one hy) _ _ hzi3, _, _, rfl, ?_⟩
            · exact SqP.ext hzp3 e4 (lsts_one hy)
            · rw [show [z].filter (onZ n) = [z] by rw [List.filter_cons, h]; rfl, List.map_append]
              rw [← List.cons_append, List.map_append]
              exact hf4
        walk_at "rd_2"
        refine rd_itn (fun hdot => ?_) (fun hdot => ?_)
        · walk_at "rd_2"
          exact ⟨e2, hzp2, hzi2, _, _, rfl, no (by unfold onZ; rw [decide_eq_true (show z.1 = dotS from hdot)]; rfl)⟩
        · walk_at "rd_2"
          have hd0 : decide (z.1 = dotS) = false := decide_eq_false hdot
          refine rd_ite (fun heq => ?_) (fun heq => ?_)
          · refine iteT ?_
            exact yes (by unfold onZ; rw [hd0, show n = z.1 from heq, ends_self]; rfl)
          · walk_at "rd_2"
            cases hw : Txt.endswith n (Str.ofString "." ++ z.1) with
            | true =>
              refine iteT ?_
              refine yes ?_
              unfold onZ endsB
              rw [hd0, show Txt.endswith n (dotS ++ z.1) = true from hw]
              simp
            | false =>
              refine iteF ?_
              walk_at "rd_2"
              refine ⟨e2, hzp2, hzi2, _, _, rfl, no ?_⟩
              unfold onZ endsB
              rw [hd0, show Txt.endswith n (dotS ++ z.1) = false from hw, decide_eq_false heq]
              rfl
      · obtain ⟨e2, _, hzi2, a, b, rfl, hf2⟩ := h
        rw [show xs.length = R.zs.length by rw [hzi2.len, List.length_map], List.take_length] at hf2
        exact hnx _ _ ⟨e2, a, b, rfl, hf2⟩
    · obtain ⟨e2, a, b, rfl, hf2⟩ := h
      walk_at "rd_2"
      refine rd_sortI hf2 (alike_is _) (sortable_is _) (depth_is _) fun sa ys nsa hys => ?_
      rw [srtIS_eq] at hys
      have e3 := e2.newR (o := .lst ys) nsa
      have hy3 := hys.new (o := .lst ys) nsa
      have hs3 : (upd H2 sa (.lst ys)) sa = some (.lst ys) := upd_same
      refine ⟨sa, rfl, .inl ⟨⟨_, SqL.of hs3⟩, ?_⟩⟩
      show LcG _ _ _ _ _ _ (upd H2 sa (.lst ys)) _
      generalize upd H2 sa (.lst ys) = H3 at e3 hy3 hs3 ⊢
      have hyl : ys.length ≤ 7 := by
        rw [hy3.len, List.length_map, (srtIS_perm _).length_eq]
        unfold chF
        rw [List.length_cons, List.length_map]
        have := List.length_filter_le (onZ n) R.zs
        have := hR.len
        omega
      refine lcg_rel T [] walk_list ys rfl (fun i H x H' y => y) (by simp) (fun H' e => e.seqL (by simp) (SqL.of hs3)) (Nat.lt_of_le_of_lt hyl (by decide)) (fun _ => true) (fun v x => ∃ r : Int × Str, Im H3 x (isD r) ∧ v = .str r.2) (fun i x hx H' e' R S h1 h2 => ?_) (fun D H4 us nD e4 hD hus => ?_)
      · obtain ⟨dr, hdr, hxr⟩ := hy3.get' hx
        rw [List.getElem?_map] at hdr
        obtain ⟨r, hr, rfl⟩ := Option.map_eq_some_iff.mp hdr
        refine rd_name ⟨wipe1, ?_⟩
        walk_at "rd_2"
        refine rd_ixSs (z := r.2) (Im.ext e' Lsts.nil _ _ hxr) rfl ?_
        exact h1 rfl _ _ .refl ⟨r, hxr, rfl⟩
      · rw [filtT] at hus
        have hu : us = (chL R n).map V.str := by
          unfold chL
          have key : ∀ {us ys : List V} {rs : List (Int × Str)}, ImAll H3 ys (rs.map isD) → PySem.W.EachIs (fun v x => ∃ r : Int × Str, Im H3 x (isD r) ∧ v = .str r.2) us ys → us = (rs.map (·.2)).map V.str := by
            intro us ys rs
            induction rs generalizing us ys with
            | nil =>
              intro h1 h2
              cases h1
              cases h2
              rfl
            | cons r rs ih =>
              intro h1 h2
              cases h1 with
              | cons a b =>
                cases h2 with
                | cons c d =>
                  obtain ⟨r', c1, c2⟩ := c
                  have e := Im.inj _ _ _ a c1
                  injection e with e
                  injection e with _ e
                  injection e with e _
                  injection e with e
                  rw [ih b d, c2, List.map_cons, List.map_cons, e]
          exact key hy3 hus
        rw [hu] at hD
        exact q D H4 (e3.back (by simp) nD) (e3.trans e4) hD
end
section
variable {T : List (Addr × Str)} {P : Program} {w : World} {K : PySem.W.Frag} {mg : Str → Option Value} {base : Heap}
theorem kw_ok : PyData.strOk "keys" = true ∧ PyData.strOk "link" = true ∧ PyData.strOk "hosts" = true ∧ PyData.strOk "set" = true := by decide +kernel
theorem ok_law_slots (D : Def K mg "_law_slots" s_law_slots ["realm"]) (mb : ∀ x ∈ bltns, mg x = none) : Ok P w K mg base 1 "_law_slots" ["realm"] (spSlots T) := by
  refine D.ok sc_law_slots (fun vs H Q E h => ?_) (fun cdv f A outer s H vs Q E hr h => ?_)
  · obtain ⟨v, R, rfl, _⟩ := h
    rfl
  · obtain ⟨v, R, rfl, hv, hR, q⟩ := h
    refine ⟨_, (pss_cons (ps_set (i := 1) sc_law_slots.nd rfl (.inl rfl) (pe_lst (pa_cons (pe_tup (pa_cons pe_str (pa_cons pe_str pa_nil))) pa_nil)))
   (pss_cons (ps_for PassesOwn.never rfl (pi_seq K rfl (pe_slice (sl_U K rfl) (pe_ix (ix_U K rfl) (pv 0) pe_int (fun _ _ => rfl)) (po_some pe_int) po_none)) (pg_tupU (n := 2) K rfl rfl (pgs_cons (pg_name (i := 2) sc_law_slots.nd rfl (.inl rfl)) (pgs_cons (pg_name (i := 3) sc_law_slots.nd rfl (.inl rfl)) pgs_nil))) (pss_one (ps_set (i := 1) sc_law_slots.nd rfl (.inl rfl) (pe_op (op_plus K rfl) (pv 1) (pe_lst (pa_cons (pe_tup (pa_cons pe_str (pa_cons (pv 2) pa_nil))) (pa_cons (pe_tup (pa_cons pe_str (pa_cons (pv 2) pa_nil))) (pa_cons (pe_tup (pa_cons pe_str (pa_cons (pv 2) pa_nil))) pa_nil))))))))
   (pss_one (ps_ret (pe_op (op_plus K rfl) (pv 1) (pe_lc (own := [("name", 4), ("kind", 5)]) (tt := tYes) rfl sc_law_slots.nd (pi_seq K rfl (pe_ix (ix_U K rfl) (pv 0) pe_int (fun _ _ => rfl))) (blkOk_by (N := N_law_slots) (sc := defScope s_law_slots) (by decide +kernel)) (fun _ _ _ _ _ => (pg_tupU (n := 2) K rfl rfl (pgs_cons (pg_name (i := 4) sc_law_slots.nd rfl (Or.inl rfl)) (pgs_cons (pg_name (i := 5) sc_law_slots.nd rfl (Or.inl rfl)) pgs_nil)))) (fun _ _ _ _ _ => pts_nil) (fun _ _ _ _ _ => (pe_tup (pa_cons pe_str (pa_cons (pv 4) (pa_cons (pv 5) pa_nil))))))))))), ?_⟩
    refine rd_seq ?_
    walk_at "rdn_2"
    refine ⟨by show 2 ≤ sizeLine; decide, fun ta nta => ?_⟩
    walk_at "rdn_2"
    refine ⟨by show 1 ≤ sizeLine; decide, fun fp nfp => ?_⟩
    have hta : ta ≠ fp := fun e => by
      rw [← e, upd_same] at nfp
      cases nfp
    have e1 : Ext T [] H (upd (upd H ta (.tup [V.str (Str.ofString "keys"), .str (Str.ofString ".")])) fp (.lst [.ref ta])) := (Ext.new nta).newR nfp
    have hv1 := (hv.new (o := .tup [V.str (Str.ofString "keys"), .str (Str.ofString ".")]) nta).new (o := .lst [.ref ta]) nfp
    have hf1 : Ls (upd (upd H ta (.tup [V.str (Str.ofString "keys"), .str (Str.ofString ".")])) fp (.lst [.ref ta])) fp ([Sl.k dotS].map slD) :=
      ⟨_, upd_same, .cons (.new2 (.str _ kw_ok.1) (.str _ (name_ok dot_name)) ((upd_ne hta).trans upd_same)) .nil⟩
    show gName 1 _ _ (upd (upd H ta (.tup [V.str (Str.ofString "keys"), .str (Str.ofString ".")])) fp (.lst [.ref ta])) _
    generalize upd (upd H ta (.tup [V.str (Str.ofString "keys"), .str (Str.ofString ".")])) fp (.lst [.ref ta]) = H1 at e1 hv1 hf1 ⊢
    walk_at "rdn_2"
    obtain ⟨lag, rest, hz, _⟩ := hR.ne
    have hrl : rest.length ≤ 5 := by
      have := hR.len
      rw [hz, List.length_cons] at this
      omega
    refine rd_cut (fun σ H2 => Ext T [] H H2 ∧ Im H2 v (rmD R) ∧ ∃ (p : Addr) (a b : Option V), σ = [some v, some (.ref p), a, b, none, none] ∧ Ls H2 p ((Sl.k dotS :: R.zs.tail.flatMap fun z => [.k z.1, .l z.1, .h z.1]).map slD)) (fun nx' hnx => ?_) (fun σ H2 h => ?_)
    · walk_at "rd_2"
      refine rd_ixI (d := .tuple (R.zs.map siD)) hv1 rfl fun u hu => ?_
      obtain ⟨zp, xs, rfl, hzp, hzi⟩ := hu.tup'
      have hxl : xs.length = 1 + rest.length := by
        rw [hzi.len, List.length_map, hz, List.length_cons]
        omega
      walk_at "rd_2"
      refine rd_slT (SqP.sq hzp) (fun h => ?_) fun sp nsp => ?_
      · have h0 := h.1
        rw [show HT.sIx xs.length 0 (some 1) = min 1 xs.length from HT.sIx_nat xs.length 0 1] at h0
        omega
      rw [cutV_from (α := V) xs (by decide), show Int.toNat 1 = 1 from rfl]
      have e2 := e1.newR (o := .tup (xs.drop 1)) nsp
      have hv2 := hv1.new (o := .tup (xs.drop 1)) nsp
      have hf2 := hf1.new (o := .tup (xs.drop 1)) nsp
      have hi2 := (hzi.drop 1).new (o := .tup (xs.drop 1)) nsp
      have hs2 : SqP (upd H1 sp (.tup (xs.drop 1))) sp (xs.drop 1) := .inl upd_same
      have ed : R.zs.drop 1 = R.zs.tail := List.drop_one
      rw [← List.map_drop, ed] at hi2
      show ∃ a, _ ∧ ((_ ∧ ForG _ _ _ _ _ (upd H1 sp (.tup (xs.drop 1)))) ∨ (_ ∧ ForG _ _ _ _ _ (upd H1 sp (.tup (xs.drop 1)))))
      generalize upd H1 sp (.tup (xs.drop 1)) = H2 at e2 hv2 hf2 hi2 hs2 ⊢
      generalize xs.drop 1 = ys at hi2 hs2
      refine ⟨sp, rfl, .inr ⟨⟨_, SqP.sq hs2⟩, ?_⟩⟩
      refine forg_tup (xs := ys) (fun i σ H3 => Ext T [] H H3 ∧ Im H3 v (rmD R) ∧ SqP H3 sp ys ∧ ImAll H3 ys (R.zs.tail.map siD) ∧ ∃ (p : Addr) (a b : Option V), σ = [some v, some (.ref p), a, b, none, none] ∧ Ls H3 p ((Sl.k dotS :: (R.zs.tail.take i).flatMap fun z => [.k z.1, .l z.1, .h z.1]).map slD))
        ⟨e2, hv2, hs2, hi2, fp, none, none, rfl, hf2⟩ (fun i σ H3 _ h => SqP.sq h.2.2.1) (fun i x σ H3 hx h => ?_) (fun σ H3 h => ?_)
      · obtain ⟨e3, hv3, hs3, hi3, p, a, b, rfl, hp3⟩ := h
        obtain ⟨dz, hdz, hxz⟩ := hi3.get' hx
        rw [List.getElem?_map] at hdz
        obtain ⟨z, hzz, rfl⟩ := Option.map_eq_some_iff.mp hdz
        have hznm := hR.nm z (List.mem_of_mem_tail (List.mem_of_getElem? hzz))
        have hcl : ((Sl.k dotS :: (R.zs.tail.take i).flatMap fun z => [Sl.k z.1, .l z.1, .h z.1]).map slD).length ≤ 100 := by
          rw [List.length_map, List.length_cons, List.length_flatMap]
          have : ((R.zs.tail.take i).map fun z => ([Sl.k z.1, .l z.1, .h z.1] : List Sl).length).sum ≤ (R.zs.tail.take i).length * 3 := by
            have h := sum_le (B := 3) (l := (R.zs.tail.take i).map fun z => ([Sl.k z.1, .l z.1, .h z.1] : List Sl).length) fun x hx => by
              obtain ⟨y, _, rfl⟩ := List.mem_map.mp hx
              exact Nat.le_refl 3
            rw [List.length_map] at h
            exact h
          have h2 : (R.zs.tail.take i).length ≤ 6 := by
            rw [List.length_take, List.length_tail]
            have := hR.len
            omega
          omega
        refine rd_gpair (d1 := .str z.1) (d2 := .int z.2) hxz fun v1 v2 h1 h2 => ?_
        rw [h1.str', h2.int']
        walk_at "rd_2"
        refine ⟨by show 2 ≤ sizeLine; decide, fun t1 n1 => ?_⟩
        walk_at "rd_2"
        refine ⟨by show 2 ≤ sizeLine; decide, fun t2 n2 => ?_⟩
        walk_at "rd_2"
        refine ⟨by show 2 ≤ sizeLine; decide, fun t3 n3 => ?_⟩
        walk_at "rd_2"
        refine ⟨by show 3 ≤ sizeLine; decide, fun la nla => ?_⟩
        have i1 : Im (upd H3 t1 (.tup [V.str (Str.ofString "keys"), .str z.1])) (.ref t1) (slD (.k z.1)) := .new2 (.str _ kw_ok.1) (.str _ (name_ok hznm)) upd_same
        have x1 := e3.newR (o := .tup [V.str (Str.ofString "keys"), .str z.1]) n1
        have v1 := hv3.new (o := .tup [V.str (Str.ofString "keys"), .str z.1]) n1
        have p1 := hp3.new (o := .tup [V.str (Str.ofString "keys"), .str z.1]) n1
        have s1 := SqP.new (o := .tup [V.str (Str.ofString "keys"), .str z.1]) hs3 n1
        have a1 := hi3.new (o := .tup [V.str (Str.ofString "keys"), .str z.1]) n1
        generalize upd H3 t1 (.tup [V.str (Str.ofString "keys"), .str z.1]) = H4 at n2 n3 nla i1 x1 v1 p1 s1 a1 ⊢
        have i2 : Im (upd H4 t2 (.tup [V.str (Str.ofString "link"), .str z.1])) (.ref t2) (slD (.l z.1)) := .new2 (.str _ kw_ok.2.1) (.str _ (name_ok hznm)) upd_same
        have i1 := i1.new (o := .tup [V.str (Str.ofString "link"), .str z.1]) n2
        have x2 := x1.newR (o := .tup [V.str (Str.ofString "link"), .str z.1]) n2
        have v2 := v1.new (o := .tup [V.str (Str.ofString "link"), .str z.1]) n2
        have p2 := p1.new (o := .tup [V.str (Str.ofString "link"), .str z.1]) n2
        have s2 := SqP.new (o := .tup [V.str (Str.ofString "link"), .str z.1]) s1 n2
        have a2 := a1.new (o := .tup [V.str (Str.ofString "link"), .str z.1]) n2
        generalize upd H4 t2 (.tup [V.str (Str.ofString "link"), .str z.1]) = H5 at n3 nla i1 i2 x2 v2 p2 s2 a2 ⊢
        have i3 : Im (upd H5 t3 (.tup [V.str (Str.ofString "hosts"), .str z.1])) (.ref t3) (slD (.h z.1)) := .new2 (.str _ kw_ok.2.2.1) (.str _ (name_ok hznm)) upd_same
        have i1 := i1.new (o := .tup [V.str (Str.ofString "hosts"), .str z.1]) n3
        have i2 := i2.new (o := .tup [V.str (Str.ofString "hosts"), .str z.1]) n3
        have x3 := x2.newR (o := .tup [V.str (Str.ofString "hosts"), .str z.1]) n3
        have v3 := v2.new (o := .tup [V.str (Str.ofString "hosts"), .str z.1]) n3
        have p3 := p2.new (o := .tup [V.str (Str.ofString "hosts"), .str z.1]) n3
        have s3 := SqP.new (o := .tup [V.str (Str.ofString "hosts"), .str z.1]) s2 n3
        have a3 := a2.new (o := .tup [V.str (Str.ofString "hosts"), .str z.1]) n3
        generalize upd H5 t3 (.tup [V.str (Str.ofString "hosts"), .str z.1]) = H6 at nla i1 i2 i3 x3 v3 p3 s3 a3 ⊢
        have l4 : Ls (upd H6 la (.lst [.ref t1, .ref t2, .ref t3])) la ([Sl.k z.1, .l z.1, .h z.1].map slD) := ⟨_, upd_same, .cons (i1.new nla) (.cons (i2.new nla) (.cons (i3.new nla) .nil))⟩
        have x4 := x3.newR (o := .lst [V.ref t1, .ref t2, .ref t3]) nla
        have v4 := v3.new (o := .lst [V.ref t1, .ref t2, .ref t3]) nla
        have p4 := p3.new (o := .lst [V.ref t1, .ref t2, .ref t3]) nla
        have s4 := SqP.new (o := .lst [V.ref t1, .ref t2, .ref t3]) s3 nla
        have a4 := a3.new (o := .lst [V.ref t1, .ref t2, .ref t3]) nla
        show rPlus _ _ _ (upd H6 la (.lst [.ref t1, .ref t2, .ref t3])) _
        generalize upd H6 la (.lst [.ref t1, .ref t2, .ref t3]) = H7 at l4 x4 v4 p4 s4 a4 ⊢
        obtain ⟨px, hpx, hpi⟩ := p4.list
        obtain ⟨lx, hlx, hli⟩ := l4.list
        have hl3 : lx.length = 3 := hli.len
        refine rd_cat hpx hlx (Nat.le_trans (show _ ≤ 200 by rw [hpi.len]; omega) (by decide)) fun p' np' => ?_
        refine rd_name ⟨x4.newR np', v4.new np', SqP.new s4 np', a4.new np', p', _, _, rfl, px ++ lx, upd_same, ?_⟩
        rw [List.take_add_one, hzz, List.flatMap_append, ← List.cons_append, List.map_append]
        exact (hpi.new np').app (hli.new np')
      · obtain ⟨e3, hv3, hs3, hi3, p, a, b, rfl, hp3⟩ := h
        rw [show ys.length = R.zs.tail.length by rw [hi3.len, List.length_map], List.take_length] at hp3
        exact hnx _ _ ⟨e3, hv3, p, a, b, rfl, hp3⟩
    · obtain ⟨e2, hv2, p, a, b, rfl, hp2⟩ := h
      walk_at "rd_2"
      refine rd_ixI (d := .tuple (R.ss.map ssD)) hv2 rfl fun u hu => ?_
      obtain ⟨sp, xs, rfl, hsp, hsi⟩ := hu.tup'
      refine ⟨sp, rfl, .inr ⟨⟨_, SqP.sq hsp⟩, ?_⟩⟩
      have hxl : xs.length ≤ 7 := by
        rw [hsi.len, List.length_map]
        exact hR.slen
      refine lcg_im T [] walk_tup xs rfl (fun i H x H' y => y) (fun _ => True) trivial (fun _ _ _ => trivial) (fun _ _ _ _ _ _ _ => trivial) (fun _ _ => Lsts.nil) (fun H' e _ => e.seqT (by simp) (SqP.sq hsp)) (Nat.lt_of_le_of_lt hxl (by decide)) (fun _ => true) (fun d x => ∃ r : Str × Str, Im H2 x (ssD r) ∧ d = slD (.s r.1 r.2)) (fun i x hx H' e' _ R' S h1 h2 => ?_) (fun D H3 ds nD e3 _ hD hds => ?_)
      · obtain ⟨dr, hdr, hxr⟩ := hsi.get' hx
        rw [List.getElem?_map] at hdr
        obtain ⟨r, hr, rfl⟩ := Option.map_eq_some_iff.mp hdr
        have hro := hR.sok r (List.mem_of_getElem? hr)
        refine rd_gpair (d1 := .str r.1) (d2 := .str r.2) (Im.ext e' Lsts.nil _ _ hxr) fun v1 v2 g1 g2 => ?_
        rw [g1.str', g2.str']
        refine ⟨rfl, ?_⟩
        walk_at "rd_2"
        refine ⟨by show 3 ≤ sizeLine; decide, fun tt nt => ?_⟩
        exact h1 rfl _ _ _ (.new nt) trivial (.new3 (.str _ kw_ok.2.2.2) (.str _ (name_ok hro.1)) (.str _ (id_ok hro.2)) upd_same) ⟨r, hxr, rfl⟩
      · rw [filtT] at hds
        have hd : ds = (R.ss.map fun p => Sl.s p.1 p.2).map slD := by
          have key : ∀ {ds : List PyData} {xs : List V} {rs : List (Str × Str)}, ImAll H2 xs (rs.map ssD) → PySem.W.EachIs (fun d x => ∃ r : Str × Str, Im H2 x (ssD r) ∧ d = slD (.s r.1 r.2)) ds xs → ds = (rs.map fun p => Sl.s p.1 p.2).map slD := by
            intro ds xs rs
            induction rs generalizing ds xs with
            | nil =>
              intro h1 h2
              cases h1
              cases h2
              rfl
            | cons r rs ih =>
              intro h1 h2
              cases h1 with
              | cons a b =>
                cases h2 with
                | cons c d =>
                  obtain ⟨r', c1, c2⟩ := c
                  have e := ssD_inj (Im.inj _ _ _ a c1)
                  rw [ih b d, c2, ← e]
                  rfl
          exact key hsi hds
        rw [hd] at hD
        have hp3 := hp2.ext e3 (by simp) Lsts.nil
        obtain ⟨px, hpx, hpi⟩ := hp3.list
        obtain ⟨dx, hdx, hdi⟩ := hD.list
        refine rd_cat hpx hdx ?_ fun p' np' => ?_
        · rw [hpi.len, hdi.len, List.length_map, List.length_map, List.length_map, List.length_cons, List.length_flatMap]
          have : ((R.zs.tail).map fun z => ([Sl.k z.1, .l z.1, .h z.1] : List Sl).length).sum ≤ (R.zs.tail).length * 3 := by
            have h := sum_le (B := 3) (l := (R.zs.tail).map fun z => ([Sl.k z.1, .l z.1, .h z.1] : List Sl).length) fun x hx => by
              obtain ⟨y, _, rfl⟩ := List.mem_map.mp hx
              exact Nat.le_refl 3
            rw [List.length_map] at h
            exact h
          have h2 : (R.zs.tail).length ≤ 6 := by
            rw [List.length_tail]
            have := hR.len
            omega
          have := hR.slen
          exact Nat.le_trans (show _ ≤ 200 by omega) (by decide)
        · refine q p' _ ((e2.trans e3).back (by simp) (.of np')) ((e2.trans e3).newR np') ⟨px ++ dx, upd_same, ?_⟩
          unfold slotsR
          rw [List.map_append]
          exact (hpi.new np').app (hdi.new np')
theorem ok_law_home (D : Def K mg "_law_home" s_law_home ["realm", "slot"]) (G_law_chain : Ok P w K mg base 1 "_law_chain" ["realm", "name"] (spChainL T)) : Ok P w K mg base 2 "_law_home" ["realm", "slot"] (spHome T) := by
  refine D.ok sc_law_home (fun vs H Q E h => ?_) (fun cdv f A outer s H vs Q E hr h => ?_)
  · obtain ⟨v, u, R, s, rfl, _⟩ := h
    rfl
  · obtain ⟨v, u, R, sl, rfl, hv, hu, hR, hs, q⟩ := h
    refine ⟨_, (pss_cons (ps_if (pt_cmpR (op_eqU K rfl hr.units) (pe_ix (ix_U K rfl) (pv 1) pe_int (fun _ _ => rfl)) pe_str (nomark _)) (pss_one (ps_ret (pe_ix (ix_U K rfl) (pv 1) pe_int (fun _ _ => rfl)))) pss_nil)
   (pss_cons (ps_set (i := 2) sc_law_home.nd rfl (.inl rfl) (pe_callO G_law_chain (hr.mono (by decide)) (by rfl) (pa_cons (pv 0) (pa_cons (pe_ix (ix_U K rfl) (pv 1) pe_int (fun _ _ => rfl)) pa_nil))))
   (pss_one (ps_ret (pe_ifExp (pt_cmpR (op_eqU K rfl hr.units) (pe_ix (ix_U K rfl) (pv 1) pe_int (fun _ _ => rfl)) pe_str (nomark _)) (pe_ix (ix_U K rfl) (pv 2) (pe_un un_neg pe_int) (fun _ _ => rfl)) (pe_ix (ix_U K rfl) (pv 2) (pe_un un_neg pe_int) (fun _ _ => rfl))))))), ?_⟩
    refine rd_seq ?_
    have hz0 : ∀ z ∈ R.zs.map (·.1), nameB z = true := fun z hz => by
      obtain ⟨y, hy, rfl⟩ := List.mem_map.mp hz
      exact hR.nm y hy
    have hdotm : dotS ∈ R.zs.map (·.1) := by
      obtain ⟨lag, rest, e, _⟩ := hR.ne
      rw [e]
      simp
    have hchm : ∀ n z, z ∈ chL R n → z ∈ R.zs.map (·.1) := fun n z h => by
      rcases chL_mem.mp h with h | ⟨y, hy, _, h⟩
      · rw [h]
        exact hdotm
      · rw [← h]
        exact List.mem_map_of_mem hy
    have hlast : ∀ n, ∃ z, (chL R n).getLast? = some z ∧ z ∈ chL R n := fun n => last_some fun e => by
      have := chL_len R n
      rw [e] at this
      simp only [List.length_nil] at this
      omega
    have hlast2 : ∀ y ∈ R.zs.tail, ∃ z, (chL R y.1).dropLast.getLast? = some z ∧ z ∈ chL R y.1 := fun y hy => by
      have hy2 : y ∈ R.zs.filter (onZ y.1) := List.mem_filter.mpr ⟨List.mem_of_mem_tail hy, by
        obtain ⟨lag, rest, e, h⟩ := hR.ne
        rw [e] at hy
        unfold onZ
        rw [decide_eq_false (h y hy), ends_self]
        rfl⟩
      have := List.length_pos_of_mem hy2
      have h2 := chL_len R y.1
      obtain ⟨z, h3, h4⟩ := last_some (l := (chL R y.1).dropLast) fun e => by
        have h5 := congrArg List.length e
        rw [List.length_dropLast] at h5
        simp only [List.length_nil] at h5
        omega
      exact ⟨z, h3, List.dropLast_subset _ h4⟩
    have hnk : ∀ x ∈ R.zs.tail, nameB x.1 = true := fun x hx => hR.nm x (List.mem_of_mem_tail hx)
    have hcase : (∃ z ∈ R.zs.map (·.1), sl = .k z) ∨ (∃ y ∈ R.zs.tail, sl = .l y.1 ∨ sl = .h y.1) ∨ ∃ p ∈ R.ss, sl = .s p.1 p.2 := by
      unfold slotsR at hs
      rcases List.mem_append.mp hs with hs | hs
      · rcases List.mem_cons.mp hs with hs | hs
        · exact .inl ⟨dotS, hdotm, hs⟩
        · obtain ⟨y, hy, h⟩ := List.mem_flatMap.mp hs
          simp only [List.mem_cons, List.not_mem_nil, or_false] at h
          rcases h with h | h | h
          · exact .inl ⟨y.1, List.mem_map_of_mem (List.mem_of_mem_tail hy), h⟩
          · exact .inr (.inl ⟨y, hy, .inl h⟩)
          · exact .inr (.inl ⟨y, hy, .inr h⟩)
      · obtain ⟨p, hp, h⟩ := List.mem_map.mp hs
        exact .inr (.inr ⟨p, hp, h.symm⟩)
    rcases hcase with ⟨z, hz, rfl⟩ | ⟨y, hy, hsl⟩ | ⟨p, hp, rfl⟩
    · have hu : Im H u (.tuple [.str (Str.ofString "keys"), .str z]) := hu
      walk_at "rdn_2"
      refine rd_ixSs hu rfl ?_
      walk_at "rdn_2"
      refine rd_ite (fun _ => ?_) (fun h => absurd rfl h)
      walk_at "rdn_2"
      refine rd_ixSs hu rfl ?_
      exact q H .refl hz
    · obtain ⟨kw, hk1, hk2, hu, hq⟩ : ∃ kw : Str, ¬ kw = Str.ofString "keys" ∧ ¬ kw = Str.ofString "set" ∧ Im H u (.tuple [.str kw, .str y.1]) ∧ homeR R sl = (chL R y.1).dropLast.getLast?.getD dotS := by
        rcases hsl with rfl | rfl
        · exact ⟨"link", by decide +kernel, by decide +kernel, hu, rfl⟩
        · exact ⟨"hosts", by decide +kernel, by decide +kernel, hu, rfl⟩
      rw [hq] at q
      obtain ⟨z, hz1, hz2⟩ := hlast2 y hy
      rw [hz1] at q
      walk_at "rdn_2"
      refine rd_ixSs hu rfl ?_
      walk_at "rdn_2"
      refine rd_ite (fun h => absurd h hk1) (fun _ => ?_)
      walk_at "rd_2"
      refine rd_ixSs hu rfl ?_
      walk_at "rd_2"
      refine ⟨v, R, y.1, rfl, hv, hR, hnk y hy, fun cp H1 np e1 hcp => ?_⟩
      walk_at "rd_2"
      refine rd_ixSs (Im.ext e1 Lsts.nil _ _ hu) rfl ?_
      walk_at "rd_2"
      refine rd_ite (fun h => absurd h hk2) (fun _ => ?_)
      walk_at "rd_2"
      refine rd_ixL (v := .str z) (SqL.of hcp) (at_last2 (by rw [← List.map_dropLast, List.getLast?_map, hz1]; rfl)) ?_
      exact q H1 e1 (hchm _ _ hz2)
    · have hu : Im H u (.tuple [.str (Str.ofString "set"), .str p.1, .str p.2]) := hu
      obtain ⟨z, hz1, hz2⟩ := hlast p.1
      have hq : homeR R (.s p.1 p.2) = (chL R p.1).getLast?.getD dotS := rfl
      rw [hq, hz1] at q
      walk_at "rdn_2"
      refine rd_ixSs hu rfl ?_
      walk_at "rdn_2"
      refine rd_ite (fun h => absurd h (by decide +kernel)) (fun _ => ?_)
      walk_at "rd_2"
      refine rd_ixSs hu rfl ?_
      walk_at "rd_2"
      refine ⟨v, R, p.1, rfl, hv, hR, (hR.sok p hp).1, fun cp H1 np e1 hcp => ?_⟩
      walk_at "rd_2"
      refine rd_ixSs (Im.ext e1 Lsts.nil _ _ hu) rfl ?_
      walk_at "rd_2"
      refine rd_ite (fun _ => ?_) (fun h => absurd rfl h)
      walk_at "rd_2"
      refine rd_ixL (v := .str z) (SqL.of hcp) (at_last (by rw [List.getLast?_map, hz1]; rfl)) ?_
      exact q H1 e1 (hchm _ _ hz2)
end
section
variable {T : List (Addr × Str)} {P : Program} {w : World} {K : PySem.W.Frag} {mg : Str → Option Value} {base : Heap}
theorem ok_law_item (D : Def K mg "_law_item" s_law_item ["content", "life", "signers"]) (mb : ∀ x ∈ bltns, mg x = none) : Ok P w K mg base 1 "_law_item" ["content", "life", "signers"] (spItem T) := by
  refine D.ok sc_law_item (fun vs H Q E h => ?_) (fun cdv f A outer s H vs Q E hr h => ?_)
  · obtain ⟨ca, sa, cs, gs, li, rfl, _⟩ := h
    rfl
  · obtain ⟨ca, sa, cs, gs, li, rfl, hc, hg, hco, hgo, q⟩ := h
    refine ⟨_, (pss_one (ps_ret (pe_tup (pa_cons (pe_callTy (call_tupU K rfl) (by rfl) (mb _ (by decide)) (by decide +kernel) (pa_cons (pe_callB (call_sortedU K rfl hr.units) (by rfl) (mb _ (by decide)) (by decide +kernel) (pa_cons (pv 0) pa_nil)) pa_nil)) (pa_cons (pv 1) (pa_cons (pe_callTy (call_tupU K rfl) (by rfl) (mb _ (by decide)) (by decide +kernel) (pa_cons (pe_callB (call_sortedU K rfl hr.units) (by rfl) (mb _ (by decide)) (by decide +kernel) (pa_cons (pv 2) pa_nil)) pa_nil)) (pa_cons pe_int (pa_cons pe_int pa_nil)))))))), ?_⟩
    walk_at "rd_2"
    refine rd_sortI (ds := cs.map .str) ⟨_, hc, ImAll.strs fun z hz => id_ok (hco z hz)⟩ (alike_s cs) (sortable_s cs) (depth_s cs) fun s1 ys n1 hys => ?_
    rw [srtS_eq] at hys
    have e1 : Ext T [] H (upd H s1 (.lst ys)) := .new n1
    have hg1 := (upd_ne (o := .lst ys) ((Nw.of n1).lst hg)).trans hg
    have hy1 := hys.new (o := .lst ys) n1
    have hs1 : (upd H s1 (.lst ys)) s1 = some (.lst ys) := upd_same
    show tNil _ (upd H s1 (.lst ys)) _
    generalize upd H s1 (.lst ys) = H1 at e1 hg1 hy1 hs1 ⊢
    walk_at "rd_2"
    refine rd_tupL (SqL.of hs1) fun t1 nt1 => ?_
    have e2 := e1.newR (o := .tup ys) nt1
    have hg2 := (upd_ne (o := .tup ys) ((Nw.of nt1).lst hg1)).trans hg1
    have hc2 : Im (upd H1 t1 (.tup ys)) (.ref t1) (.tuple ((srtS cs).map .str)) := .tup upd_same (hy1.new nt1)
    show tCons _ _ _ (upd H1 t1 (.tup ys)) _
    generalize upd H1 t1 (.tup ys) = H2 at e2 hg2 hc2 ⊢
    walk_at "rd_2"
    refine rd_sortI (ds := gs.map .str) ⟨_, hg2, ImAll.strs fun z hz => id_ok (hgo z hz)⟩ (alike_s gs) (sortable_s gs) (depth_s gs) fun s3 zs n3 hzs => ?_
    rw [srtS_eq] at hzs
    have e3 := e2.newR (o := .lst zs) n3
    have hc3 := hc2.new (o := .lst zs) n3
    have hz3 := hzs.new (o := .lst zs) n3
    have hs3 : (upd H2 s3 (.lst zs)) s3 = some (.lst zs) := upd_same
    show tNil _ (upd H2 s3 (.lst zs)) _
    generalize upd H2 s3 (.lst zs) = H3 at e3 hc3 hz3 hs3 ⊢
    walk_at "rd_2"
    refine rd_tupL (SqL.of hs3) fun t4 nt4 => ?_
    have e4 := e3.newR (o := .tup zs) nt4
    have hc4 := hc3.new (o := .tup zs) nt4
    have hg4 : Im (upd H3 t4 (.tup zs)) (.ref t4) (.tuple ((srtS gs).map .str)) := .tup upd_same (hz3.new nt4)
    show tCons _ _ _ (upd H3 t4 (.tup zs)) _
    generalize upd H3 t4 (.tup zs) = H4 at e4 hc4 hg4 ⊢
    walk_at "rd_2"
    refine ⟨by show 5 ≤ sizeLine; decide, fun r nr => ?_⟩
    exact q _ _ (e4.newR nr) (.tup upd_same (.cons (hc4.new nr) (.cons (.int _) (.cons (hg4.new nr) (.cons (.int _) (.cons (.int _) .nil))))))
theorem ok_law_pool (D : Def K mg "_law_pool" s_law_pool ["pools", "zone"]) (mb : ∀ x ∈ bltns, mg x = none) : Ok P w K mg base 1 "_law_pool" ["pools", "zone"] (spPool T) := by
  refine D.ok sc_law_pool (fun vs H Q E h => ?_) (fun cdv f A outer s H vs Q E hr h => ?_)
  · obtain ⟨t, a, ps, z, ks, rfl, _⟩ := h
    rfl
  · obtain ⟨t, a, ps, z, ks, rfl, hP, hpl, hnd, hm, q⟩ := h
    obtain ⟨xs, ha, hat, hrows⟩ := hP
    refine ⟨_, (pss_one (ps_ret (pe_ix (ix_U K rfl) (pe_lc (own := [("name", 2), ("pool", 3)]) rfl sc_law_pool.nd (pi_seq K rfl (pv 0)) (blkOk_by (N := N_law_pool) (sc := defScope s_law_pool) (by decide +kernel)) (fun _ _ _ _ _ => (pg_tupU (n := 2) K rfl rfl (pgs_cons (pg_name (i := 2) sc_law_pool.nd rfl (Or.inl rfl)) (pgs_cons (pg_name (i := 3) sc_law_pool.nd rfl (Or.inl rfl)) pgs_nil)))) (fun _ _ _ _ _ => (pts_one (pt_cmpR (op_eqU K rfl hr.units) (pv 2) (pv 1) (nomark _)))) (fun _ _ _ _ _ => (pv 3))) pe_int (fun _ _ => rfl)))), ?_⟩
    walk_at "rd_2"
    have hxl : xs.length ≤ 6 := by
      rw [hrows.length]
      exact hpl
    refine lcg_rel T [] walk_list xs rfl (fun i H x H' y => y) (by simp) (fun H' e => e.seqL (by simp) (SqL.of ha)) (Nat.lt_of_le_of_lt hxl (by decide)) (fun x => match x with | .ref b => (match H b with | some (.tup [.str u, _]) => decide (u = z) | _ => false) | _ => false) (fun v x => ∃ r ta pa, x = .ref ta ∧ v = .ref pa ∧ H ta = some (.tup [.str r, .ref pa]) ∧ pa ≠ t) (fun i x hx H' e' R S h1 h2 => ?_) (fun D H1 us nD e1 hD hus => ?_)
    · obtain ⟨r, _, ta, pa, rfl, hta, hpa, hpt⟩ : ∃ r ∈ ps, PoolRow H [t] x r := hrows.left x (List.mem_of_getElem? hx)
      have hta' := e'.tup (by simp) hta
      refine rd_gtup (SqT.of hta') rfl ?_
      walk_at "rd_2"
      refine ⟨rfl, ?_⟩
      walk_at "rd_2"
      refine rd_ite (fun hz => ?_) (fun hz => ?_)
      · walk_at "rd_2"
        exact h1 (by simp only [hta]; exact decide_eq_true hz) _ _ .refl ⟨r.1, ta, pa, rfl, rfl, hta, by simpa using hpt⟩
      · exact h2 (by simp only [hta]; exact decide_eq_false hz) _ .refl
    · have key : ∀ {xs : List V} {ps : List (Str × List Str)}, PySem.W.EachIs (PoolRow H [t]) xs ps → PySem.W.EachIs (PoolRow H [t]) (xs.filter fun x => match x with | .ref b => (match H b with | some (.tup [.str u, _]) => decide (u = z) | _ => false) | _ => false) (ps.filter fun p => decide (p.1 = z)) := by
        intro xs ps h
        induction h with
        | nil => exact .nil
        | cons a b ih =>
          obtain ⟨ta, pa, rfl, hta, hpa, hpt⟩ := a
          rename_i r _ _
          by_cases hz : r.1 = z
          · rw [List.filter_cons_of_pos (by simp only [hta]; exact decide_eq_true hz), List.filter_cons_of_pos (by exact decide_eq_true hz)]
            exact .cons ⟨ta, pa, rfl, hta, hpa, hpt⟩ ih
          · rw [List.filter_cons_of_neg (by simp only [hta]; simp [hz]), List.filter_cons_of_neg (by simp [hz])]
            exact ih
      have h3 := key hrows
      rw [filter_key hnd hm] at h3
      generalize xs.filter _ = fx at h3 hus
      cases h3 with
      | cons a b =>
        cases b
        cases hus with
        | cons c d =>
          cases d
          obtain ⟨ta, pa, e1', hta, hpa, hpt⟩ := a
          obtain ⟨r, ta', pa', e2', rfl, hta2, hpt2⟩ := c
          rw [e1'] at e2'
          injection e2' with e2'
          subst e2'
          rw [hta] at hta2
          injection hta2 with hta2
          injection hta2 with hta2
          injection hta2 with _ hta2
          injection hta2 with hta2 _
          injection hta2 with hta2
          subst hta2
          walk_at "rd_2"
          exact q pa H1 hpt2 hpa e1
end
section
variable {T : List (Addr × Str)} {P : Program} {w : World} {K : PySem.W.Frag} {mg : Str → Option Value} {base : Heap}
theorem at_zero {α : Type} (x : α) (l : List α) : atI (x :: l) 0 = some x := atI_nat (j := 0) rfl
theorem ok_law_pools (D : Def K mg "_law_pools" s_law_pools ["tape", "realm"]) (mb : ∀ x ∈ bltns, mg x = none) (G_law_ids : Ok P w K mg base 4 "_law_ids" ["tape", "many"] (spIds T)) : Ok P w K mg base 5 "_law_pools" ["tape", "realm"] (spPools T) := by
  refine D.ok sc_law_pools (fun vs H Q E h => ?_) (fun cdv f A outer s H vs Q E hr h => ?_)
  · obtain ⟨l, t, v, R, rfl, _⟩ := h
    rfl
  · obtain ⟨l, t, v, R, rfl, hT, hv, hR, q⟩ := h
    refine ⟨_, (pss_cons (ps_set (i := 2) sc_law_pools.nd rfl (.inl rfl) (pe_lst pa_nil))
   (pss_cons (ps_for PassesOwn.never rfl (pi_seq K rfl (pe_ix (ix_U K rfl) (pv 1) pe_int (fun _ _ => rfl))) (pg_tupU (n := 2) K rfl rfl (pgs_cons (pg_name (i := 3) sc_law_pools.nd rfl (.inl rfl)) (pgs_cons (pg_name (i := 4) sc_law_pools.nd rfl (.inl rfl)) pgs_nil))) (pss_cons (ps_set (i := 5) sc_law_pools.nd rfl (.inl rfl) (pe_callO G_law_ids (hr.mono (by decide)) (by rfl) (pa_cons (pv 0) (pa_cons pe_int pa_nil))))
   (pss_cons (ps_if (pt_cmpR (op_eqU K rfl hr.units) (pv 3) pe_str (nomark _)) (pss_one (ps_set (i := 5) sc_law_pools.nd rfl (.inl rfl) (pe_op (op_plus K rfl) (pe_lst (pa_cons (pe_ix (ix_U K rfl) (pe_ix (ix_U K rfl) (pv 1) pe_int (fun _ _ => rfl)) pe_int (fun _ _ => rfl)) pa_nil)) (pe_slice (sl_U K rfl) (pe_lc (own := [("key", 6)]) (g := gName 6) rfl sc_law_pools.nd (pi_seq K rfl (pv 5)) (blkOk_by (N := N_law_pools) (sc := defScope s_law_pools) (by decide +kernel)) (fun _ _ _ _ _ => (pg_name (i := 6) sc_law_pools.nd rfl (Or.inl rfl))) (fun _ _ _ _ _ => (pts_one (pt_cmpR (op_neU K rfl hr.units) (pv 6) (pe_ix (ix_U K rfl) (pe_ix (ix_U K rfl) (pv 1) pe_int (fun _ _ => rfl)) pe_int (fun _ _ => rfl)) (nomark _)))) (fun _ _ _ _ _ => (pv 6))) po_none (po_some pe_int))))) pss_nil)
   (pss_one (ps_expr (pe_bm PySem.F.plainAttrs_list PySem.F.slot_list_append PySem.F.type_list_append mt_append (pv 2) (pa_cons (pe_tup (pa_cons (pv 3) (pa_cons (pv 5) pa_nil))) pa_nil)))))))
   (pss_one (ps_ret (pv 2))))), ?_⟩
    refine rd_seq ?_
    walk_at "rdn_2"
    refine ⟨by show 0 ≤ sizeLine; decide, fun pp npp => ?_⟩
    have hpn : Nw H pp := .of npp
    obtain ⟨hpt, hpl⟩ := hT.ne hpn
    have e1 : Ext T [t] H (upd H pp (.lst [])) := .new npp
    have T1 := hT.upd (o := .lst []) npp
    have hv1 := hv.new (o := .lst []) npp
    have hp1 : (upd H pp (.lst [])) pp = some (.lst []) := upd_same
    generalize upd H pp (.lst []) = H1 at e1 T1 hv1 hp1 ⊢
    walk_at "rdn_2"
    obtain ⟨anc, anr, han, haid⟩ := hR.an
    refine rd_cut (fun σ H2 => Ext T [t] H H2 ∧ Tape l H2 t ∧ ∃ (xs : List V) (ps : List (Str × List Str)) (a b c d : Option V), σ = [some (.ref t), some v, some (.ref pp), a, b, c, d] ∧ H2 pp = some (.lst xs) ∧ PySem.W.EachIs (PoolRow H2 [t, pp]) xs ps ∧ PsOk R ps) (fun nx' hnx => ?_) (fun σ H2 h => ?_)
    · walk_at "rd_2"
      refine rd_ixI (d := .tuple (R.zs.map siD)) hv1 rfl fun u hu => ?_
      obtain ⟨zp, zx, rfl, hzp, hzi⟩ := hu.tup'
      refine ⟨zp, rfl, .inr ⟨⟨_, SqP.sq hzp⟩, ?_⟩⟩
      refine forg_tup (xs := zx) (fun i σ H2 => Ext T [t] H H2 ∧ Tape l H2 t ∧ Im H2 v (rmD R) ∧ SqP H2 zp zx ∧ ImAll H2 zx (R.zs.map siD) ∧ ∃ (xs : List V) (ps : List (Str × List Str)) (a b c d : Option V), σ = [some (.ref t), some v, some (.ref pp), a, b, c, d] ∧ H2 pp = some (.lst xs) ∧ PySem.W.EachIs (PoolRow H2 [t, pp]) xs ps ∧ ps.map (·.1) = (R.zs.take i).map (·.1) ∧ (∀ p ∈ ps, p.2.Nodup) ∧ (∀ p ∈ ps, ∀ y ∈ p.2, idB y = true) ∧ ∀ p ∈ ps, p.2.length = 3)
        ⟨e1, T1, hv1, hzp, hzi, [], [], none, none, none, none, rfl, hp1, .nil, rfl, by simp, by simp, by simp⟩ (fun i σ H2 _ h => SqP.sq h.2.2.2.1) (fun i x σ H2 hx h => ?_) (fun σ H2 h => ?_)
      · obtain ⟨e2, T2, hv2, hzp2, hzi2, xs, ps, a, b, c, d, rfl, hp2, hrows, hnm, hnd, hok, hl3⟩ := h
        obtain ⟨dz, hdz, hxz⟩ := hzi2.get' hx
        rw [List.getElem?_map] at hdz
        obtain ⟨z, hz, rfl⟩ := Option.map_eq_some_iff.mp hdz
        have hznm := hR.nm z (List.mem_of_getElem? hz)
        have hpsl : ps.length ≤ 6 := by
          have := congrArg List.length hnm
          rw [List.length_map, List.length_map, List.length_take] at this
          have := hR.len
          omega
        refine rd_gpair (d1 := .str z.1) (d2 := .int z.2) hxz fun v1 v2 h1 h2 => ?_
        rw [h1.str', h2.int']
        refine rd_seq ?_
        walk_at "rdn_2"
        refine ⟨l, t, 3, rfl, by decide, by decide, T2, fun ip ids H3 nip hil hin hid hip e3 T3 => ?_⟩
        have hipt : ip ≠ t := (T2.ne nip).1
        have hipp : ip ≠ pp := fun e => nip.lst (e ▸ hp2) rfl
        have hv3 := Im.ext e3 T2.lsts _ _ hv2
        have hzp3 := hzp2.ext e3 T2.lsts
        have hzi3 := ImAll.ext e3 T2.lsts _ _ hzi2
        have hp3 := e3.lst (by simpa using hpt) hp2
        have hrows3 := rows_ext hrows e3 (by simp) T2.lsts
        have e03 := e2.trans e3
        clear e2 T2 hv2 hzp2 hzi2 hp2 hrows hxz h1 h2
        walk_at "rdn_2"
        refine rd_cut (fun σ H4 => Ext T [t] H H4 ∧ Tape l H4 t ∧ Im H4 v (rmD R) ∧ SqP H4 zp zx ∧ ImAll H4 zx (R.zs.map siD) ∧ H4 pp = some (.lst xs) ∧ PySem.W.EachIs (PoolRow H4 [t, pp]) xs ps ∧ ∃ (ka : Addr) (ks : List Str) (d : Option V), σ = [some (.ref t), some v, some (.ref pp), some (.str z.1), some (.int z.2), some (.ref ka), d] ∧ H4 ka = some (.lst (ks.map V.str)) ∧ ka ≠ t ∧ ka ≠ pp ∧ ks.Nodup ∧ (∀ y ∈ ks, idB y = true) ∧ ks.length = 3) (fun nx2 hnx2 => ?_) (fun σ H4 h => ?_)
        · walk_at "rd_2"
          refine rd_ite (fun hdot => ?_) (fun hdot => ?_)
          · walk_at "rd_2"
            refine rd_ixI (d := .tuple (R.an.map .str)) hv3 rfl fun u1 hu1 => ?_
            walk_at "rd_2"
            refine rd_ixSs (z := anc) hu1 (by rw [han]; exact at_zero _ _) ?_
            walk_at "rd_2"
            refine ⟨by show 1 ≤ sizeLine; decide, fun la nla => ?_⟩
            have hlp : pp ≠ la := (Nw.of nla).lst hp3
            have hli : ip ≠ la := (Nw.of nla).lst hip
            have hlt := (T3.ne (.of nla)).1
            have e4 := e03.newR (o := .lst [V.str anc]) nla
            have T4 := T3.upd (o := .lst [V.str anc]) nla
            have hv4 := hv3.new (o := .lst [V.str anc]) nla
            have hzp4 := SqP.new (o := .lst [V.str anc]) hzp3 nla
            have hzi4 := hzi3.new (o := .lst [V.str anc]) nla
            have hp4 := (upd_ne (o := .lst [V.str anc]) hlp).trans hp3
            have hip4 := (upd_ne (o := .lst [V.str anc]) hli).trans hip
            have hrows4 := rows_ext hrows3 (Ext.new (T := T) (ms := []) (o := .lst [V.str anc]) nla) (by simp) Lsts.nil
            have hla4 : (upd H3 la (.lst [V.str anc])) la = some (.lst [V.str anc]) := upd_same
            show tSl _ _ _ _ _ (upd H3 la (.lst [V.str anc])) _
            generalize upd H3 la (.lst [V.str anc]) = H4 at e4 T4 hv4 hzp4 hzi4 hp4 hip4 hrows4 hla4 ⊢
            walk_at "rd_2"
            have hids3 : ids.length = 3 := by omega
            refine lcg_list T [] (SqL.of hip4) (fun v => match v with | .str k => !decide (k = anc) | _ => false) id (by rw [List.length_map, hids3]; decide) (by simp) (by simp) (fun x hx H5 e5 R' S h1 h2 => ?_) (fun D H5 nD e5 hD => ?_)
            · obtain ⟨k, hk, rfl⟩ := List.mem_map.mp hx
              walk_at "rd_2"
              refine rd_ixI (d := .tuple (R.an.map .str)) (Im.ext e5 Lsts.nil _ _ hv4) rfl fun u1 hu1 => ?_
              walk_at "rd_2"
              refine rd_ixSs (z := anc) hu1 (by rw [han]; exact at_zero _ _) ?_
              walk_at "rd_2"
              refine rd_itn (fun hk => ?_) (fun hk => ?_)
              · exact h2 (by show (!decide (k = anc)) = false; rw [decide_eq_true hk]; rfl) _ .refl
              · walk_at "rd_2"
                exact h1 (by show (!decide (k = anc)) = true; rw [decide_eq_false hk]; rfl) _ .refl
            · have hfm : ((ids.map V.str).filter fun v => match v with | .str k => !decide (k = anc) | _ => false).map id = (ids.filter fun k => !decide (k = anc)).map V.str := by
                rw [List.map_id, List.filter_map]
                rfl
              rw [hfm] at hD
              have hDl : (ids.filter fun k => !decide (k = anc)).length ≤ 3 := by
                have := List.length_filter_le (fun k => !decide (k = anc)) ids
                omega
              have e05 := e4.trans e5.any
              have T5 := T4.ext e5
              have hv5 := Im.ext e5 Lsts.nil _ _ hv4
              have hzp5 : SqP H5 zp zx := SqP.ext hzp4 e5 Lsts.nil
              have hzi5 := ImAll.ext e5 Lsts.nil _ _ hzi4
              have hp5 := e5.lst (by simp) hp4
              have hla5 := e5.lst (by simp) hla4
              have hrows5 := rows_ext hrows4 e5 (by simp) Lsts.nil
              walk_at "rd_2"
              refine rd_slL (SqL.of hD) fun s6 ns6 => ?_
              rw [cutV_to _ (by decide), show Int.toNat 2 = 2 from rfl, ← List.map_take]
              have hlp6 : pp ≠ s6 := (Nw.of ns6).lst hp5
              have hla6' : la ≠ s6 := (Nw.of ns6).lst hla5
              have e6 := e05.newR (o := .lst (((ids.filter fun k => !decide (k = anc)).take 2).map V.str)) ns6
              have T6 := T5.upd (o := .lst (((ids.filter fun k => !decide (k = anc)).take 2).map V.str)) ns6
              have hv6 := hv5.new (o := .lst (((ids.filter fun k => !decide (k = anc)).take 2).map V.str)) ns6
              have hzp6 := SqP.new (o := .lst (((ids.filter fun k => !decide (k = anc)).take 2).map V.str)) hzp5 ns6
              have hzi6 := hzi5.new (o := .lst (((ids.filter fun k => !decide (k = anc)).take 2).map V.str)) ns6
              have hp6 := (upd_ne (o := .lst (((ids.filter fun k => !decide (k = anc)).take 2).map V.str)) hlp6).trans hp5
              have hla6 := (upd_ne (o := .lst (((ids.filter fun k => !decide (k = anc)).take 2).map V.str)) hla6').trans hla5
              have hrows6 := rows_ext hrows5 (Ext.new (T := T) (ms := []) (o := .lst (((ids.filter fun k => !decide (k = anc)).take 2).map V.str)) ns6) (by simp) Lsts.nil
              have hs6 : (upd H5 s6 (.lst (((ids.filter fun k => !decide (k = anc)).take 2).map V.str))) s6 = some (.lst (((ids.filter fun k => !decide (k = anc)).take 2).map V.str)) := upd_same
              show rPlus _ _ _ (upd H5 s6 (.lst (((ids.filter fun k => !decide (k = anc)).take 2).map V.str))) _
              generalize upd H5 s6 (.lst (((ids.filter fun k => !decide (k = anc)).take 2).map V.str)) = H6 at e6 T6 hv6 hzp6 hzi6 hp6 hla6 hrows6 hs6 ⊢
              refine rd_cat hla6 hs6 ?_ fun ka nka => ?_
              · rw [List.length_map, List.length_take]
                exact Nat.le_trans (show _ ≤ 100 by simp only [List.length_cons, List.length_nil]; omega) (by decide)
              refine rd_name ?_
              have hkt := (T6.ne (.of nka)).1
              refine hnx2 _ _ ⟨e6.newR nka, T6.upd nka, hv6.new nka, SqP.new hzp6 nka, hzi6.new nka, (upd_ne ((Nw.of nka).lst hp6)).trans hp6, rows_ext hrows6 (Ext.new (T := T) (ms := []) nka) (by simp) Lsts.nil, ka, anc :: (ids.filter fun k => !decide (k = anc)).take 2, _, rfl, upd_same, hkt, ((Nw.of nka).lst hp6).symm, ?_, fun y hy => ?_, ?_⟩
              · rw [List.nodup_cons]
                refine ⟨fun hm => ?_, (hin.sublist List.filter_sublist).sublist (List.take_sublist _ _)⟩
                have := (List.mem_filter.mp (List.mem_of_mem_take hm)).2
                simp at this
              · rcases List.mem_cons.mp hy with e | hy
                · rw [e]
                  exact haid
                · exact hid y (List.mem_filter.mp (List.mem_of_mem_take hy)).1
              · have := filter_others (a := anc) hin
                rw [List.length_cons, List.length_take]
                omega
          · walk_at "rd_2"
            exact hnx2 _ _ ⟨e03, T3, hv3, hzp3, hzi3, hp3, hrows3, ip, ids, _, rfl, hip, hipt, hipp, hin, hid, by omega⟩
        · obtain ⟨e4, T4, hv4, hzp4, hzi4, hp4, hrows4, ka, ks, d, rfl, hka, hkt, hkp, hkn, hki, hk3⟩ := h
          walk_at "rd_2"
          refine ⟨by show 2 ≤ sizeLine; decide, fun ta nta => ?_⟩
          have e5 := e4.newR (o := .tup [V.str z.1, .ref ka]) nta
          have T5 := T4.upd (o := .tup [V.str z.1, .ref ka]) nta
          have hv5 := hv4.new (o := .tup [V.str z.1, .ref ka]) nta
          have hzp5 := SqP.new (o := .tup [V.str z.1, .ref ka]) hzp4 nta
          have hzi5 := hzi4.new (o := .tup [V.str z.1, .ref ka]) nta
          have hp5 := (upd_ne (o := .tup [V.str z.1, .ref ka]) ((Nw.of nta).lst hp4)).trans hp4
          have hka5 := (upd_ne (o := .tup [V.str z.1, .ref ka]) ((Nw.of nta).lst hka)).trans hka
          have hrows5 := rows_ext hrows4 (Ext.new (T := T) (ms := []) (o := .tup [V.str z.1, .ref ka]) nta) (by simp) Lsts.nil
          have hta5 : (upd H4 ta (.tup [V.str z.1, .ref ka])) ta = some (.tup [V.str z.1, .ref ka]) := upd_same
          refine rd_nil ?_
          generalize upd H4 ta (.tup [V.str z.1, .ref ka]) = H5 at e5 T5 hv5 hzp5 hzi5 hp5 hka5 hrows5 hta5 ⊢
          refine rd_app hp5 ?_ ?_
          · rw [hrows5.length]
            exact Nat.lt_of_le_of_lt (show ps.length ≤ 100 by omega) (by decide)
          · have e6 : Ext T [pp] H5 (upd H5 pp (.lst (xs ++ [.ref ta]))) := Ext.mut (by simp) hp5
            have hrow : PoolRow H5 [t, pp] (.ref ta) (z.1, ks) := ⟨ta, ka, rfl, hta5, hka5, by simp [hkt, hkp]⟩
            refine ⟨e5.own hpn hp5, T5.own hpt hpl, Im.ext e6 (lsts_one hp5) _ _ hv5, SqP.ext hzp5 e6 (lsts_one hp5), ImAll.ext e6 (lsts_one hp5) _ _ hzi5, xs ++ [.ref ta], ps ++ [(z.1, ks)], _, _, _, _, rfl, upd_same, rows_ext (PySem.W.each_snoc hrow hrows5) e6 (by simp) (lsts_one hp5), ?_, fun p hp => ?_, fun p hp => ?_, fun p hp => ?_⟩
            · rw [List.map_append, hnm, List.take_add_one, hz, List.map_append]
              rfl
            · rcases List.mem_append.mp hp with h | h
              · exact hnd p h
              · rw [List.mem_singleton.mp h]
                exact hkn
            · rcases List.mem_append.mp hp with h | h
              · exact hok p h
              · rw [List.mem_singleton.mp h]
                exact hki
            · rcases List.mem_append.mp hp with h | h
              · exact hl3 p h
              · rw [List.mem_singleton.mp h]
                exact hk3
      · obtain ⟨e2, T2, hv2, hzp2, hzi2, xs, ps, a, b, c, d, rfl, hp2, hrows, hnm, hnd, hok, hl3⟩ := h
        rw [show zx.length = R.zs.length by rw [hzi2.len, List.length_map], List.take_length] at hnm
        exact hnx _ _ ⟨e2, T2, xs, ps, a, b, c, d, rfl, hp2, hrows, hnm, hnd, hok, hl3⟩
    · obtain ⟨e2, T2, xs, ps, a, b, c, d, rfl, hp2, hrows, hps⟩ := h
      walk_at "rd_2"
      exact q pp ps H2 hpn ⟨xs, hp2, hpt, rows_weak hrows (by simp)⟩ hps e2 T2
end
section
variable {T : List (Addr × Str)} {P : Program} {w : World} {K : PySem.W.Frag} {mg : Str → Option Value} {base : Heap}
def sL : List Str := ["s1", "s2"]
theorem sL_ok : sL.Nodup ∧ ∀ y ∈ sL, idB y = true := by decide +kernel
theorem srtS_nil : srtS [] = [] := List.mergeSort_nil
theorem head_in {ks : List Str} {k : Nat} (h : ks.length = 3) (hk : 1 ≤ k) : ks.take k ≠ [] ∧ ∃ x, ks.take 1 = [x] ∧ x ∈ ks.take k := by
  match ks, h with
  | a :: r, _ =>
    obtain ⟨k, rfl⟩ : ∃ j, k = j + 1 := ⟨k - 1, by omega⟩
    exact ⟨by simp, a, by simp, by simp⟩
theorem hd_take {d : Int} (h0 : 0 ≤ d) (h1 : d < 2) : (srtS (sL.take (1 + d).toNat)).headD "s1" = "s1" := by
  have h : d = 0 ∨ d = 1 := by omega
  rcases h with rfl | rfl
  · rw [show sL.take (1 + (0 : Int)).toNat = (["s1"] : List Str) from rfl, srtS_oneL]
    rfl
  · rw [show sL.take (1 + (1 : Int)).toNat = (["s1", "s2"] : List Str) from rfl, srt_two]
    rfl
theorem ok_law_first_item (D : Def K mg "_law_first_item" s_law_first_item ["tape", "realm", "pools", "slot"]) (mb : ∀ x ∈ bltns, mg x = none) (G_law_take : Ok P w K mg base 2 "_law_take" ["tape", "many"] (spTake T)) (G_law_life : Ok P w K mg base 3 "_law_life" ["tape"] (spInt T 1 1000))
    (G_law_home : Ok P w K mg base 2 "_law_home" ["realm", "slot"] (spHome T)) (G_law_pool : Ok P w K mg base 1 "_law_pool" ["pools", "zone"] (spPool T)) (G_law_item : Ok P w K mg base 1 "_law_item" ["content", "life", "signers"] (spItem T)) (G_law_ids : Ok P w K mg base 4 "_law_ids" ["tape", "many"] (spIds T)) :
    Ok P w K mg base 5 "_law_first_item" ["tape", "realm", "pools", "slot"] (spFirst T) := by
  refine D.ok sc_law_first_item (fun vs H Q E h => ?_) (fun cdv f A outer s H vs Q E hr h => ?_)
  · obtain ⟨l, t, pa, v, u, R, ps, sl, rfl, _⟩ := h
    rfl
  · obtain ⟨l, t, pa, v, u, R, ps, sl, rfl, hT, hv, hR, hP, hps, hu, hs, q⟩ := h
    refine ⟨_, (pss_cons (ps_set (i := 4) sc_law_first_item.nd rfl (.inl rfl) (pe_callO G_law_life (hr.mono (by decide)) (by rfl) (pa_cons (pv 0) pa_nil)))
   (pss_cons (ps_set (i := 5) sc_law_first_item.nd rfl (.inl rfl) (pe_callO G_law_pool (hr.mono (by decide)) (by rfl) (pa_cons (pv 2) (pa_cons (pe_callO G_law_home (hr.mono (by decide)) (by rfl) (pa_cons (pv 1) (pa_cons (pv 3) pa_nil))) pa_nil))))
   (pss_cons (ps_if (pt_cmpR (op_eqU K rfl hr.units) (pe_ix (ix_U K rfl) (pv 3) pe_int (fun _ _ => rfl)) pe_str (nomark _)) (pss_cons (ps_set (i := 6) sc_law_first_item.nd rfl (.inl rfl) (pe_slice (sl_U K rfl) (pv 5) po_none (po_some (pe_op (op_plus K rfl) pe_int (pe_callO G_law_take (hr.mono (by decide)) (by rfl) (pa_cons (pv 0) (pa_cons pe_int pa_nil)))))))
   (pss_one (ps_ret (pe_callO G_law_item (hr.mono (by decide)) (by rfl) (pa_cons (pv 6) (pa_cons (pv 4) (pa_cons (pe_slice (sl_U K rfl) (pv 5) po_none (po_some pe_int)) pa_nil))))))) pss_nil)
   (pss_cons (ps_if (pt_cmpR (op_eqU K rfl hr.units) (pe_ix (ix_U K rfl) (pv 3) pe_int (fun _ _ => rfl)) pe_str (nomark _)) (pss_one (ps_ret (pe_callO G_law_item (hr.mono (by decide)) (by rfl) (pa_cons (pe_slice (sl_U K rfl) (pe_callO G_law_pool (hr.mono (by decide)) (by rfl) (pa_cons (pv 2) (pa_cons (pe_ix (ix_U K rfl) (pv 3) pe_int (fun _ _ => rfl)) pa_nil))) po_none (po_some pe_int)) (pa_cons (pv 4) (pa_cons (pe_slice (sl_U K rfl) (pv 5) po_none (po_some pe_int)) pa_nil)))))) pss_nil)
   (pss_cons (ps_if (pt_cmpR (op_eqU K rfl hr.units) (pe_ix (ix_U K rfl) (pv 3) pe_int (fun _ _ => rfl)) pe_str (nomark _)) (pss_one (ps_ret (pe_callO G_law_item (hr.mono (by decide)) (by rfl) (pa_cons (pe_slice (sl_U K rfl) (pe_lst (pa_cons pe_str (pa_cons pe_str pa_nil))) po_none (po_some (pe_op (op_plus K rfl) pe_int (pe_callO G_law_take (hr.mono (by decide)) (by rfl) (pa_cons (pv 0) (pa_cons pe_int pa_nil)))))) (pa_cons (pv 4) (pa_cons (pe_lst pa_nil) pa_nil)))))) pss_nil)
   (pss_one (ps_ret (pe_callO G_law_item (hr.mono (by decide)) (by rfl) (pa_cons (pe_callO G_law_ids (hr.mono (by decide)) (by rfl) (pa_cons (pv 0) (pa_cons (pe_callO G_law_take (hr.mono (by decide)) (by rfl) (pa_cons (pv 0) (pa_cons pe_int pa_nil))) pa_nil))) (pa_cons (pv 4) (pa_cons (pe_slice (sl_U K rfl) (pv 5) po_none (po_some pe_int)) pa_nil))))))))))), ?_⟩
    refine rd_seq ?_
    walk_at "rdn_2"
    refine ⟨l, t, rfl, hT, fun li H1 hl0 hl1 e1 T1 => ?_⟩
    have hv1 := hv.y e1 hT
    have hu1 := hu.y e1 hT
    have hP1 := hP.ext e1 hT
    walk_at "rdn_2"
    refine rd_seq ?_
    walk_at "rdn_2"
    refine ⟨v, u, R, sl, rfl, hv1, hu1, hR, hs, fun H2 e2 hh => ?_⟩
    have hv2 := hv1.x e2
    have hu2 := hu1.x e2
    have hP2 := hP1.ext0 e2
    have T2 := T1.ext e2
    have e02 := e1.trans e2.any
    walk_at "rdn_2"
    have hpn : (ps.map (·.1)).Nodup := by rw [hps.nm]; exact hR.nd
    have hpl : ps.length ≤ 6 := by
      have := congrArg List.length hps.nm
      rw [List.length_map, List.length_map] at this
      have := hR.len
      omega
    have pick : ∀ z ∈ R.zs.map (·.1), ∃ ks, (z, ks) ∈ ps := fun z hz => by
      rw [← hps.nm] at hz
      obtain ⟨p, hp, e⟩ := List.mem_map.mp hz
      exact ⟨p.2, by rw [← e]; exact hp⟩
    obtain ⟨ks, hks⟩ := pick _ hh
    refine ⟨t, pa, ps, _, ks, rfl, hP2, hpl, hpn, hks, fun oa H3 hot hoa e3 => ?_⟩
    have hv3 := hv2.x e3
    have hu3 := hu2.x e3
    have hP3 := hP2.ext0 e3
    have T3 := T2.ext e3
    have e03 := e02.trans e3.any
    have ho3 := lst.x hoa e3
    have hk3 : ks.length = 3 := hps.len _ hks
    have hkn : ks.Nodup := hps.nd _ hks
    have hki : ∀ y ∈ ks, idB y = true := hps.ok _ hks
    clear hT hv hP hu e1 T1 hv1 hu1 hP1 e2 hv2 hu2 hP2 T2 e02 e3
    walk_at "rdn_2"
    -- the last step of each way
    have fin : ∀ (ca sa : Addr) (cs gs : List Str) (H4 : Hp), Ext T [t] H H4 → Tape l H4 t → H4 ca = some (.lst (cs.map V.str)) → H4 sa = some (.lst (gs.map V.str)) → cs.Nodup → gs.Nodup → (∀ y ∈ cs, idB y = true) → (∀ y ∈ gs, idB y = true) → cs.length ≤ 4 → gs.length ≤ 3 → (∀ z, sl = .h z → gs = []) → (∀ z, sl = .k z → cs ≠ [] ∧ ∃ x, gs = [x] ∧ x ∈ cs) → (∀ z, sl = .h z → (srtS cs).headD "s1" = "s1") →
        spItem T [.ref ca, .int li, .ref sa] H4 Q E0 := fun ca sa cs gs H4 e4 T4 hc hg n1 n2 o1 o2 l1 l2 hh hkk h1s => by
      refine ⟨ca, sa, cs, gs, li, rfl, hc, hg, o1, o2, fun x H5 e5 hx => ?_⟩
      refine q x _ H5 ⟨⟨cs, rfl, n1, o1, l1⟩, ⟨gs, rfl, n2, o2, l2⟩, ⟨hl0, hl1⟩, ⟨show (0 : Int) ≤ 0 by decide, show (0 : Int) ≤ 10000 by decide, show (10000 : Int) ≤ 10000 by decide⟩, fun z e => ⟨?_, rfl, rfl⟩, fun z e => srtS_ne (hkk z e).1⟩ (fun z e => seal_srt (hkk z e).2) h1s hx (e4.trans e5.any) (T4.ext e5)
      rw [hh z e]
      exact srtS_nil
    have k1n : (ks.take 1).Nodup := hkn.sublist (List.take_sublist _ _)
    have k1i : ∀ y ∈ ks.take 1, idB y = true := fun y hy => hki y (List.mem_of_mem_take hy)
    have k1l : (ks.take 1).length ≤ 3 := by rw [List.length_take]; omega
    cases sl with
    | k z =>
      have hu3 : Im H3 u (.tuple [.str (Str.ofString "keys"), .str z]) := hu3
      walk_at "rd_2"
      refine rd_ixSs hu3 rfl ?_
      walk_at "rd_2"
      refine rd_ite (fun _ => ?_) (fun h => absurd rfl h)
      walk_at "rd_2"
      refine ⟨l, t, 2, rfl, by decide, by decide, T3, fun d H4 h0 h1 e4 T4 => ?_⟩
      have ho4 := lst.y ho3 e4 hot
      walk_at "rd_2"
      refine rd_takeS T ho4 (by omega) fun ca H5 nca e5 hca => ?_
      have ho5 := lst.x ho4 e5
      walk_at "rd_2"
      refine rd_takeS T ho5 (by decide) fun sa H6 _ e6 hsa => ?_
      walk_at "rd_2"
      exact fin ca sa _ _ H6 (((e03.trans e4).trans e5.any).trans e6.any) ((T4.ext e5).ext e6) (lst.x hca e6) hsa (hkn.sublist (List.take_sublist _ _)) k1n (fun y hy => hki y (List.mem_of_mem_take hy)) k1i (by rw [List.length_take]; omega) k1l (fun z h => by cases h) (fun _ _ => head_in hk3 (by omega)) (fun z h => by cases h)
    | l z =>
      have hu3 : Im H3 u (.tuple [.str (Str.ofString "link"), .str z]) := hu3
      walk_at "rd_2"
      refine rd_ixSs hu3 rfl ?_
      walk_at "rd_2"
      refine rd_ite (fun h => absurd h (by decide +kernel)) (fun _ => ?_)
      walk_at "rd_2"
      refine rd_ixSs hu3 rfl ?_
      walk_at "rd_2"
      refine rd_ite (fun _ => ?_) (fun h => absurd rfl h)
      walk_at "rd_2"
      refine rd_ixSs hu3 rfl ?_
      walk_at "rd_2"
      have hzm : z ∈ R.zs.map (·.1) := by
        unfold slotsR at hs
        rcases List.mem_append.mp hs with hs | hs
        · rcases List.mem_cons.mp hs with hs | hs
          · cases hs
          · obtain ⟨y, hy, h⟩ := List.mem_flatMap.mp hs
            simp at h
            rw [h]
            exact List.mem_map_of_mem (List.mem_of_mem_tail hy)
        · obtain ⟨p, _, h⟩ := List.mem_map.mp hs
          cases h
      obtain ⟨k2, hk2⟩ := pick _ hzm
      refine ⟨t, pa, ps, z, k2, rfl, hP3, hpl, hpn, hk2, fun pa2 H4 _ hpa2 e4 => ?_⟩
      have ho4 := lst.x ho3 e4
      walk_at "rd_2"
      refine rd_takeS T (lst.x hpa2 e4) (by decide) fun ca H5 nca e5 hca => ?_
      have ho5 := lst.x ho4 e5
      walk_at "rd_2"
      refine rd_takeS T ho5 (by decide) fun sa H6 _ e6 hsa => ?_
      walk_at "rd_2"
      exact fin ca sa _ _ H6 (((e03.trans e4.any).trans e5.any).trans e6.any) (((T3.ext e4).ext e5).ext e6) (lst.x hca e6) hsa ((hps.nd _ hk2).sublist (List.take_sublist _ _)) k1n (fun y hy => hps.ok _ hk2 y (List.mem_of_mem_take hy)) k1i (by rw [List.length_take]; have := hps.len _ hk2; omega) k1l (fun z h => by cases h) (fun z h => by cases h) (fun z h => by cases h)
    | h z =>
      have hu3 : Im H3 u (.tuple [.str (Str.ofString "hosts"), .str z]) := hu3
      walk_at "rd_2"
      refine rd_ixSs hu3 rfl ?_
      walk_at "rd_2"
      refine rd_ite (fun h => absurd h (by decide +kernel)) (fun _ => ?_)
      walk_at "rd_2"
      refine rd_ixSs hu3 rfl ?_
      walk_at "rd_2"
      refine rd_ite (fun h => absurd h (by decide +kernel)) (fun _ => ?_)
      walk_at "rd_2"
      refine rd_ixSs hu3 rfl ?_
      walk_at "rd_2"
      refine rd_ite (fun _ => ?_) (fun h => absurd rfl h)
      walk_at "rd_2"
      refine ⟨by show 2 ≤ sizeLine; decide, fun la nla => ?_⟩
      obtain ⟨nla, e4, hla⟩ := alL (T := T) nla (sL.map V.str)
      show tNoPart _ (upd H3 la (.lst (sL.map V.str))) _
      generalize upd H3 la _ = H4 at e4 hla ⊢
      have T4 := T3.ext e4
      have hlt := (T3.ne nla).1
      walk_at "rd_2"
      refine ⟨l, t, 2, rfl, by decide, by decide, T4, fun d H5 h0 h1 e5 T5 => ?_⟩
      walk_at "rd_2"
      refine rd_takeS T (lst.y hla e5 hlt) (by omega) fun ca H6 nca e6 hca => ?_
      walk_at "rd_2"
      refine ⟨by show 0 ≤ sizeLine; decide, fun sa nsa => ?_⟩
      obtain ⟨_, e7, hsa⟩ := alL (T := T) nsa []
      generalize upd H6 sa _ = H7 at e7 hsa ⊢
      walk_at "rd_2"
      exact fin ca sa _ [] H7 ((((e03.trans e4.any).trans e5).trans e6.any).trans e7.any) ((T5.ext e6).ext e7) (lst.x hca e7) hsa (sL_ok.1.sublist (List.take_sublist _ _)) (by simp) (fun y hy => sL_ok.2 y (List.mem_of_mem_take hy)) (by simp) (by rw [List.length_take]; exact Nat.le_trans (Nat.min_le_right _ _) (by decide)) (by simp) (fun _ _ => rfl) (fun z h => by cases h) (fun _ _ => hd_take h0 h1)
    | s n k =>
      have hu3 : Im H3 u (.tuple [.str (Str.ofString "set"), .str n, .str k]) := hu3
      walk_at "rd_2"
      refine rd_ixSs hu3 rfl ?_
      walk_at "rd_2"
      refine rd_ite (fun h => absurd h (by decide +kernel)) (fun _ => ?_)
      walk_at "rd_2"
      refine rd_ixSs hu3 rfl ?_
      walk_at "rd_2"
      refine rd_ite (fun h => absurd h (by decide +kernel)) (fun _ => ?_)
      walk_at "rd_2"
      refine rd_ixSs hu3 rfl ?_
      walk_at "rd_2"
      refine rd_ite (fun h => absurd h (by decide +kernel)) (fun _ => ?_)
      walk_at "rd_2"
      refine ⟨l, t, 4, rfl, by decide, by decide, T3, fun d H4 h0 h1 e4 T4 => ?_⟩
      have ho4 := lst.y ho3 e4 hot
      walk_at "rd_2"
      refine ⟨l, t, d, rfl, h0, by omega, T4, fun ca ids H5 nca hil hin hid hca e5 T5 => ?_⟩
      have ho5 := lst.y ho4 e5 hot
      walk_at "rd_2"
      refine rd_takeS T ho5 (by decide) fun sa H6 _ e6 hsa => ?_
      walk_at "rd_2"
      exact fin ca sa _ _ H6 (((e03.trans e4).trans e5).trans e6.any) (T5.ext e6) (lst.x hca e6) hsa hin k1n hid k1i (by omega) k1l (fun z h => by cases h) (fun z h => by cases h) (fun z h => by cases h)
end
section
variable {T : List (Addr × Str)} {P : Program} {w : World} {K : PySem.W.Frag} {mg : Str → Option Value} {base : Heap}
theorem slots_len {R : Rm} (h : RmIn R) : (slotsR R).length ≤ 30 := by
  unfold slotsR
  rw [List.length_append, List.length_cons, List.length_map, List.length_flatMap]
  have h1 : ((R.zs.tail).map fun z => ([Sl.k z.1, .l z.1, .h z.1] : List Sl).length).sum ≤ (R.zs.tail).length * 3 := by
    have h := sum_le (B := 3) (l := (R.zs.tail).map fun z => ([Sl.k z.1, .l z.1, .h z.1] : List Sl).length) fun x hx => by
      obtain ⟨y, _, rfl⟩ := List.mem_map.mp hx
      exact Nat.le_refl 3
    rw [List.length_map] at h
    exact h
  have h2 : (R.zs.tail).length ≤ 5 := by
    rw [List.length_tail]
    have := h.len
    omega
  have := h.slen
  omega
end
section
variable {T : List (Addr × Str)} {P : Program} {w : World} {K : PySem.W.Frag} {mg : Str → Option Value} {base : Heap}
local macro_rules | `(tactic| walk_at "tr_2") => `(tactic| first
  | assumption
  | exact Ext.refl
  | ((with_reducible refine' Im.x (T := T) (H := ?trH) ?tra ?tre); (case tre => assumption); (case tra => walk_at "tr_2"))
  | ((with_reducible refine' Im.y (T := T) (H := ?trH) ?tra ?tre ?trt); (case tre => assumption); (case trt => walk_at "tr_2"); (case tra => walk_at "tr_2"))
  | ((with_reducible refine' ImAll.x (T := T) (H := ?trH) ?tra ?tre); (case tre => assumption); (case tra => walk_at "tr_2"))
  | ((with_reducible refine' ImAll.y (T := T) (H := ?trH) ?tra ?tre ?trt); (case tre => assumption); (case trt => walk_at "tr_2"); (case tra => walk_at "tr_2"))
  | ((with_reducible refine' Ls.x (T := T) (H := ?trH) ?tra ?tre); (case tre => assumption); (case tra => walk_at "tr_2"))
  | ((with_reducible refine' Ls.y (T := T) (H := ?trH) ?tra ?tre ?trn ?trt); (case tre => assumption); (case trt => walk_at "tr_2"); (case trn => walk_at "tr_2"); (case tra => walk_at "tr_2"))
  | ((with_reducible refine' SqP.x (T := T) (H := ?trH) ?tra ?tre); (case tre => assumption); (case tra => walk_at "tr_2"))
  | ((with_reducible refine' SqP.y (T := T) (H := ?trH) ?tra ?tre ?trt); (case tre => assumption); (case trt => walk_at "tr_2"); (case tra => walk_at "tr_2"))
  | ((with_reducible refine' StAt.x (T := T) (H := ?trH) ?tra ?tre); (case tre => assumption); (case tra => walk_at "tr_2"))
  | ((with_reducible refine' StAt.y (T := T) (H := ?trH) ?tra ?tre ?trt); (case tre => assumption); (case trt => walk_at "tr_2"); (case tra => walk_at "tr_2"))
  | ((with_reducible refine' Pools.ext0 (T := T) (H := ?trH) ?tra ?tre); (case tre => assumption); (case tra => walk_at "tr_2"))
  | ((with_reducible refine' Pools.ext (T := T) (H := ?trH) ?tra ?tre ?trt); (case tre => assumption); (case trt => walk_at "tr_2"); (case tra => walk_at "tr_2"))
  | ((with_reducible refine' CL.x (T := T) (H := ?trH) ?tra ?tre); (case tre => assumption); (case tra => walk_at "tr_2"))
  | ((with_reducible refine' CL.y (T := T) (H := ?trH) ?tra ?tre); (case tre => assumption); (case tra => walk_at "tr_2"))
  | ((with_reducible refine' Tape.ext (T := T) (H := ?trH) ?tra ?tre); (case tre => assumption); (case tra => walk_at "tr_2"))
  | ((with_reducible refine' lst.x (T := T) (H := ?trH) ?tra ?tre); (case tre => assumption); (case tra => walk_at "tr_2"))
  | ((with_reducible refine' lst.y (T := T) (H := ?trH) ?tra ?tre ?trn); (case tre => assumption); (case trn => walk_at "tr_2"); (case tra => walk_at "tr_2"))
  | ((with_reducible refine' tup.x (T := T) (H := ?trH) ?tra ?tre); (case tre => assumption); (case tra => walk_at "tr_2"))
  | ((with_reducible refine' tup.y (T := T) (H := ?trH) ?tra ?tre ?trt); (case tre => assumption); (case trt => walk_at "tr_2"); (case tra => walk_at "tr_2"))
  | ((with_reducible refine' frz.x (T := T) (H := ?trH) ?tra ?tre); (case tre => assumption); (case tra => walk_at "tr_2"))
  | ((with_reducible refine' frz.y (T := T) (H := ?trH) ?tra ?tre ?trt); (case tre => assumption); (case trt => walk_at "tr_2"); (case tra => walk_at "tr_2"))
  | ((with_reducible refine' Tape.ne1 (H := ?trH) ?trt ?trn); (case trn => assumption); (case trt => walk_at "tr_2"))
  | ((with_reducible refine' Ext.trans (H1 := ?trH) ?tra (Ext.any ?tre)); (case tre => assumption); (case tra => walk_at "tr_2"))
  | ((with_reducible refine' Ext.trans (H1 := ?trH) ?tra ?tre); (case tre => assumption); (case tra => walk_at "tr_2"))
  | ((with_reducible refine' Ext.back1 (T := T) (H1 := ?trH) ?tre ?trn ?tra); (case tra => assumption); (case trn => walk_at "tr_2"); (case tre => walk_at "tr_2"))
  | ((with_reducible refine' Ext.back0 (T := T) (H1 := ?trH) ?tre ?tra); (case tra => assumption); (case tre => walk_at "tr_2"))
  | ((with_reducible refine' SqT.of ?tra); (case tra => walk_at "tr_2"))
  | ((with_reducible refine' SqL.of ?tra); (case tra => walk_at "tr_2")))
local macro_rules | `(tactic| walk_at "al_2") => `(tactic| (refine ⟨by first | (show _ ≤ sizeLine; decide) | walk_at "sz_2", ?_⟩; intro alp aln; generalize alG : upd _ alp _ = alH; obtain ⟨aln2, alx, alh⟩ := al_of (T := T) aln alG; clear alG aln))
local macro_rules | `(tactic| walk_at "al0_2") => `(tactic| (intro alp aln; generalize alG : upd _ alp _ = alH; obtain ⟨aln2, alx, alh⟩ := al_of (T := T) aln alG; clear alG aln))
end
section
variable {T : List (Addr × Str)} {P : Program} {w : World} {K : PySem.W.Frag} {mg : Str → Option Value} {base : Heap}
local macro_rules | `(tactic| walk_at "tr_2") => `(tactic| first
  | assumption
  | exact Ext.refl
  | ((with_reducible refine' Im.x (T := T) (H := ?trH) ?tra ?tre); (case tre => assumption); (case tra => walk_at "tr_2"))
  | ((with_reducible refine' Im.y (T := T) (H := ?trH) ?tra ?tre ?trt); (case tre => assumption); (case trt => walk_at "tr_2"); (case tra => walk_at "tr_2"))
  | ((with_reducible refine' ImAll.x (T := T) (H := ?trH) ?tra ?tre); (case tre => assumption); (case tra => walk_at "tr_2"))
  | ((with_reducible refine' ImAll.y (T := T) (H := ?trH) ?tra ?tre ?trt); (case tre => assumption); (case trt => walk_at "tr_2"); (case tra => walk_at "tr_2"))
  | ((with_reducible refine' Ls.x (T := T) (H := ?trH) ?tra ?tre); (case tre => assumption); (case tra => walk_at "tr_2"))
  | ((with_reducible refine' Ls.y (T := T) (H := ?trH) ?tra ?tre ?trn ?trt); (case tre => assumption); (case trt => walk_at "tr_2"); (case trn => walk_at "tr_2"); (case tra => walk_at "tr_2"))
  | ((with_reducible refine' SqP.x (T := T) (H := ?trH) ?tra ?tre); (case tre => assumption); (case tra => walk_at "tr_2"))
  | ((with_reducible refine' SqP.y (T := T) (H := ?trH) ?tra ?tre ?trt); (case tre => assumption); (case trt => walk_at "tr_2"); (case tra => walk_at "tr_2"))
  | ((with_reducible refine' StAt.x (T := T) (H := ?trH) ?tra ?tre); (case tre => assumption); (case tra => walk_at "tr_2"))
  | ((with_reducible refine' StAt.y (T := T) (H := ?trH) ?tra ?tre ?trt); (case tre => assumption); (case trt => walk_at "tr_2"); (case tra => walk_at "tr_2"))
  | ((with_reducible refine' Pools.ext0 (T := T) (H := ?trH) ?tra ?tre); (case tre => assumption); (case tra => walk_at "tr_2"))
  | ((with_reducible refine' Pools.ext (T := T) (H := ?trH) ?tra ?tre ?trt); (case tre => assumption); (case trt => walk_at "tr_2"); (case tra => walk_at "tr_2"))
  | ((with_reducible refine' CL.x (T := T) (H := ?trH) ?tra ?tre); (case tre => assumption); (case tra => walk_at "tr_2"))
  | ((with_reducible refine' CL.y (T := T) (H := ?trH) ?tra ?tre); (case tre => assumption); (case tra => walk_at "tr_2"))
  | ((with_reducible refine' Tape.ext (T := T) (H := ?trH) ?tra ?tre); (case tre => assumption); (case tra => walk_at "tr_2"))
  | ((with_reducible refine' lst.x (T := T) (H := ?trH) ?tra ?tre); (case tre => assumption); (case tra => walk_at "tr_2"))
  | ((with_reducible refine' lst.y (T := T) (H := ?trH) ?tra ?tre ?trn); (case tre => assumption); (case trn => walk_at "tr_2"); (case tra => walk_at "tr_2"))
  | ((with_reducible refine' tup.x (T := T) (H := ?trH) ?tra ?tre); (case tre => assumption); (case tra => walk_at "tr_2"))
  | ((with_reducible refine' tup.y (T := T) (H := ?trH) ?tra ?tre ?trt); (case tre => assumption); (case trt => walk_at "tr_2"); (case tra => walk_at "tr_2"))
  | ((with_reducible refine' frz.x (T := T) (H := ?trH) ?tra ?tre); (case tre => assumption); (case tra => walk_at "tr_2"))
  | ((with_reducible refine' frz.y (T := T) (H := ?trH) ?tra ?tre ?trt); (case tre => assumption); (case trt => walk_at "tr_2"); (case tra => walk_at "tr_2"))
  | ((with_reducible refine' Tape.ne1 (H := ?trH) ?trt ?trn); (case trn => assumption); (case trt => walk_at "tr_2"))
  | ((with_reducible refine' Ext.trans (H1 := ?trH) ?tra (Ext.any ?tre)); (case tre => assumption); (case tra => walk_at "tr_2"))
  | ((with_reducible refine' Ext.trans (H1 := ?trH) ?tra ?tre); (case tre => assumption); (case tra => walk_at "tr_2"))
  | ((with_reducible refine' Ext.back1 (T := T) (H1 := ?trH) ?tre ?trn ?tra); (case tra => assumption); (case trn => walk_at "tr_2"); (case tre => walk_at "tr_2"))
  | ((with_reducible refine' Ext.back0 (T := T) (H1 := ?trH) ?tre ?tra); (case tra => assumption); (case tre => walk_at "tr_2"))
  | ((with_reducible refine' SqT.of ?tra); (case tra => walk_at "tr_2"))
  | ((with_reducible refine' SqL.of ?tra); (case tra => walk_at "tr_2")))
local macro_rules | `(tactic| walk_at "al_2") => `(tactic| (refine ⟨by first | (show _ ≤ sizeLine; decide) | walk_at "sz_2", ?_⟩; intro alp aln; generalize alG : upd _ alp _ = alH; obtain ⟨aln2, alx, alh⟩ := al_of (T := T) aln alG; clear alG aln))
local macro_rules | `(tactic| walk_at "al0_2") => `(tactic| (intro alp aln; generalize alG : upd _ alp _ = alH; obtain ⟨aln2, alx, alh⟩ := al_of (T := T) aln alG; clear alG aln))
end
section
variable {T : List (Addr × Str)} {P : Program} {w : World} {K : PySem.W.Frag} {mg : Str → Option Value} {base : Heap}
local macro_rules | `(tactic| walk_at "tr_2") => `(tactic| first
  | assumption
  | exact Ext.refl
  | ((with_reducible refine' Im.x (T := T) (H := ?trH) ?tra ?tre); (case tre => assumption); (case tra => walk_at "tr_2"))
  | ((with_reducible refine' Im.y (T := T) (H := ?trH) ?tra ?tre ?trt); (case tre => assumption); (case trt => walk_at "tr_2"); (case tra => walk_at "tr_2"))
  | ((with_reducible refine' ImAll.x (T := T) (H := ?trH) ?tra ?tre); (case tre => assumption); (case tra => walk_at "tr_2"))
  | ((with_reducible refine' ImAll.y (T := T) (H := ?trH) ?tra ?tre ?trt); (case tre => assumption); (case trt => walk_at "tr_2"); (case tra => walk_at "tr_2"))
  | ((with_reducible refine' Ls.x (T := T) (H := ?trH) ?tra ?tre); (case tre => assumption); (case tra => walk_at "tr_2"))
  | ((with_reducible refine' Ls.y (T := T) (H := ?trH) ?tra ?tre ?trn ?trt); (case tre => assumption); (case trt => walk_at "tr_2"); (case trn => walk_at "tr_2"); (case tra => walk_at "tr_2"))
  | ((with_reducible refine' SqP.x (T := T) (H := ?trH) ?tra ?tre); (case tre => assumption); (case tra => walk_at "tr_2"))
  | ((with_reducible refine' SqP.y (T := T) (H := ?trH) ?tra ?tre ?trt); (case tre => assumption); (case trt => walk_at "tr_2"); (case tra => walk_at "tr_2"))
  | ((with_reducible refine' StAt.x (T := T) (H := ?trH) ?tra ?tre); (case tre => assumption); (case tra => walk_at "tr_2"))
  | ((with_reducible refine' StAt.y (T := T) (H := ?trH) ?tra ?tre ?trt); (case tre => assumption); (case trt => walk_at "tr_2"); (case tra => walk_at "tr_2"))
  | ((with_reducible refine' Pools.ext0 (T := T) (H := ?trH) ?tra ?tre); (case tre => assumption); (case tra => walk_at "tr_2"))
  | ((with_reducible refine' Pools.ext (T := T) (H := ?trH) ?tra ?tre ?trt); (case tre => assumption); (case trt => walk_at "tr_2"); (case tra => walk_at "tr_2"))
  | ((with_reducible refine' CL.x (T := T) (H := ?trH) ?tra ?tre); (case tre => assumption); (case tra => walk_at "tr_2"))
  | ((with_reducible refine' CL.y (T := T) (H := ?trH) ?tra ?tre); (case tre => assumption); (case tra => walk_at "tr_2"))
  | ((with_reducible refine' Tape.ext (T := T) (H := ?trH) ?tra ?tre); (case tre => assumption); (case tra => walk_at "tr_2"))
  | ((with_reducible refine' lst.x (T := T) (H := ?trH) ?tra ?tre); (case tre => assumption); (case tra => walk_at "tr_2"))
  | ((with_reducible refine' lst.y (T := T) (H := ?trH) ?tra ?tre ?trn); (case tre => assumption); (case trn => walk_at "tr_2"); (case tra => walk_at "tr_2"))
  | ((with_reducible refine' tup.x (T := T) (H := ?trH) ?tra ?tre); (case tre => assumption); (case tra => walk_at "tr_2"))
  | ((with_reducible refine' tup.y (T := T) (H := ?trH) ?tra ?tre ?trt); (case tre => assumption); (case trt => walk_at "tr_2"); (case tra => walk_at "tr_2"))
  | ((with_reducible refine' frz.x (T := T) (H := ?trH) ?tra ?tre); (case tre => assumption); (case tra => walk_at "tr_2"))
  | ((with_reducible refine' frz.y (T := T) (H := ?trH) ?tra ?tre ?trt); (case tre => assumption); (case trt => walk_at "tr_2"); (case tra => walk_at "tr_2"))
  | ((with_reducible refine' Im.z (T := T) (H := ?trH) ?tra ?tre ?trt); (case tre => assumption); (case trt => assumption); (case tra => walk_at "tr_2"))
  | ((with_reducible refine' ImAll.z (T := T) (H := ?trH) ?tra ?tre ?trt); (case tre => assumption); (case trt => assumption); (case tra => walk_at "tr_2"))
  | ((with_reducible refine' StAt.z (T := T) (H := ?trH) ?tra ?tre ?trt); (case tre => assumption); (case trt => assumption); (case tra => walk_at "tr_2"))
  | ((with_reducible refine' SqP.z (T := T) (H := ?trH) ?tra ?tre ?trt); (case tre => assumption); (case trt => assumption); (case tra => walk_at "tr_2"))
  | ((with_reducible refine' tup.z (T := T) (H := ?trH) ?tra ?tre ?trt); (case tre => assumption); (case trt => assumption); (case tra => walk_at "tr_2"))
  | ((with_reducible refine' Ls.z (T := T) (H := ?trH) ?tra ?tre ?trt ?trn); (case tre => assumption); (case trt => assumption); (case trn => assumption); (case tra => walk_at "tr_2"))
  | ((with_reducible refine' lst.z (T := T) (H := ?trH) ?tra ?tre ?trn); (case tre => assumption); (case trn => assumption); (case tra => walk_at "tr_2"))
  | ((with_reducible refine' CL.z (T := T) (H := ?trH) ?tra ?tre ?trn); (case tre => assumption); (case trn => assumption); (case tra => walk_at "tr_2"))
  | ((with_reducible refine' Tape.ne1 (H := ?trH) ?trt ?trn); (case trn => assumption); (case trt => walk_at "tr_2"))
  | ((with_reducible refine' Ext.trans (H1 := ?trH) ?tra (Ext.any ?tre)); (case tre => assumption); (case tra => walk_at "tr_2"))
  | ((with_reducible refine' Ext.trans (H1 := ?trH) ?tra ?tre); (case tre => assumption); (case tra => walk_at "tr_2"))
  | ((with_reducible refine' Ext.back1 (T := T) (H1 := ?trH) ?tre ?trn ?tra); (case tra => assumption); (case trn => walk_at "tr_2"); (case tre => walk_at "tr_2"))
  | ((with_reducible refine' Ext.back0 (T := T) (H1 := ?trH) ?tre ?tra); (case tra => assumption); (case tre => walk_at "tr_2"))
  | ((with_reducible refine' SqT.of ?tra); (case tra => walk_at "tr_2"))
  | ((with_reducible refine' SqL.of ?tra); (case tra => walk_at "tr_2")))
local macro_rules | `(tactic| walk_at "al_2") => `(tactic| (refine ⟨by first | (show _ ≤ sizeLine; decide) | walk_at "sz_2", ?_⟩; intro alp aln; generalize alG : upd _ alp _ = alH; obtain ⟨aln2, alx, alh⟩ := al_of (T := T) aln alG; clear alG aln))
local macro_rules | `(tactic| walk_at "al0_2") => `(tactic| (intro alp aln; generalize alG : upd _ alp _ = alH; obtain ⟨aln2, alx, alh⟩ := al_of (T := T) aln alG; clear alG aln))
end
section
variable {T : List (Addr × Str)} {P : Program} {w : World} {K : PySem.W.Frag} {mg : Str → Option Value} {base : Heap}
local macro_rules | `(tactic| walk_at "tr_2") => `(tactic| first
  | assumption
  | exact Ext.refl
  | ((with_reducible refine' Im.x (T := T) (H := ?trH) ?tra ?tre); (case tre => assumption); (case tra => walk_at "tr_2"))
  | ((with_reducible refine' Im.y (T := T) (H := ?trH) ?tra ?tre ?trt); (case tre => assumption); (case trt => walk_at "tr_2"); (case tra => walk_at "tr_2"))
  | ((with_reducible refine' ImAll.x (T := T) (H := ?trH) ?tra ?tre); (case tre => assumption); (case tra => walk_at "tr_2"))
  | ((with_reducible refine' ImAll.y (T := T) (H := ?trH) ?tra ?tre ?trt); (case tre => assumption); (case trt => walk_at "tr_2"); (case tra => walk_at "tr_2"))
  | ((with_reducible refine' Ls.x (T := T) (H := ?trH) ?tra ?tre); (case tre => assumption); (case tra => walk_at "tr_2"))
  | ((with_reducible refine' Ls.y (T := T) (H := ?trH) ?tra ?tre ?trn ?trt); (case tre => assumption); (case trt => walk_at "tr_2"); (case trn => walk_at "tr_2"); (case tra => walk_at "tr_2"))
  | ((with_reducible refine' SqP.x (T := T) (H := ?trH) ?tra ?tre); (case tre => assumption); (case tra => walk_at "tr_2"))
  | ((with_reducible refine' SqP.y (T := T) (H := ?trH) ?tra ?tre ?trt); (case tre => assumption); (case trt => walk_at "tr_2"); (case tra => walk_at "tr_2"))
  | ((with_reducible refine' StAt.x (T := T) (H := ?trH) ?tra ?tre); (case tre => assumption); (case tra => walk_at "tr_2"))
  | ((with_reducible refine' StAt.y (T := T) (H := ?trH) ?tra ?tre ?trt); (case tre => assumption); (case trt => walk_at "tr_2"); (case tra => walk_at "tr_2"))
  | ((with_reducible refine' Pools.ext0 (T := T) (H := ?trH) ?tra ?tre); (case tre => assumption); (case tra => walk_at "tr_2"))
  | ((with_reducible refine' Pools.ext (T := T) (H := ?trH) ?tra ?tre ?trt); (case tre => assumption); (case trt => walk_at "tr_2"); (case tra => walk_at "tr_2"))
  | ((with_reducible refine' CL.x (T := T) (H := ?trH) ?tra ?tre); (case tre => assumption); (case tra => walk_at "tr_2"))
  | ((with_reducible refine' CL.y (T := T) (H := ?trH) ?tra ?tre); (case tre => assumption); (case tra => walk_at "tr_2"))
  | ((with_reducible refine' Tape.ext (T := T) (H := ?trH) ?tra ?tre); (case tre => assumption); (case tra => walk_at "tr_2"))
  | ((with_reducible refine' lst.x (T := T) (H := ?trH) ?tra ?tre); (case tre => assumption); (case tra => walk_at "tr_2"))
  | ((with_reducible refine' lst.y (T := T) (H := ?trH) ?tra ?tre ?trn); (case tre => assumption); (case trn => walk_at "tr_2"); (case tra => walk_at "tr_2"))
  | ((with_reducible refine' tup.x (T := T) (H := ?trH) ?tra ?tre); (case tre => assumption); (case tra => walk_at "tr_2"))
  | ((with_reducible refine' tup.y (T := T) (H := ?trH) ?tra ?tre ?trt); (case tre => assumption); (case trt => walk_at "tr_2"); (case tra => walk_at "tr_2"))
  | ((with_reducible refine' frz.x (T := T) (H := ?trH) ?tra ?tre); (case tre => assumption); (case tra => walk_at "tr_2"))
  | ((with_reducible refine' frz.y (T := T) (H := ?trH) ?tra ?tre ?trt); (case tre => assumption); (case trt => walk_at "tr_2"); (case tra => walk_at "tr_2"))
  | ((with_reducible refine' Im.z (T := T) (H := ?trH) ?tra ?tre ?trt); (case tre => assumption); (case trt => assumption); (case tra => walk_at "tr_2"))
  | ((with_reducible refine' ImAll.z (T := T) (H := ?trH) ?tra ?tre ?trt); (case tre => assumption); (case trt => assumption); (case tra => walk_at "tr_2"))
  | ((with_reducible refine' StAt.z (T := T) (H := ?trH) ?tra ?tre ?trt); (case tre => assumption); (case trt => assumption); (case tra => walk_at "tr_2"))
  | ((with_reducible refine' SqP.z (T := T) (H := ?trH) ?tra ?tre ?trt); (case tre => assumption); (case trt => assumption); (case tra => walk_at "tr_2"))
  | ((with_reducible refine' tup.z (T := T) (H := ?trH) ?tra ?tre ?trt); (case tre => assumption); (case trt => assumption); (case tra => walk_at "tr_2"))
  | ((with_reducible refine' Ls.z (T := T) (H := ?trH) ?tra ?tre ?trt ?trn); (case tre => assumption); (case trt => assumption); (case trn => assumption); (case tra => walk_at "tr_2"))
  | ((with_reducible refine' lst.z (T := T) (H := ?trH) ?tra ?tre ?trn); (case tre => assumption); (case trn => assumption); (case tra => walk_at "tr_2"))
  | ((with_reducible refine' CL.z (T := T) (H := ?trH) ?tra ?tre ?trn); (case tre => assumption); (case trn => assumption); (case tra => walk_at "tr_2"))
  | ((with_reducible refine' Tape.ne1 (H := ?trH) ?trt ?trn); (case trn => assumption); (case trt => walk_at "tr_2"))
  | ((with_reducible refine' Ext.trans (H1 := ?trH) ?tra (Ext.any ?tre)); (case tre => assumption); (case tra => walk_at "tr_2"))
  | ((with_reducible refine' Ext.trans (H1 := ?trH) ?tra ?tre); (case tre => assumption); (case tra => walk_at "tr_2"))
  | ((with_reducible refine' Ext.back1 (T := T) (H1 := ?trH) ?tre ?trn ?tra); (case tra => assumption); (case trn => walk_at "tr_2"); (case tre => walk_at "tr_2"))
  | ((with_reducible refine' Ext.back0 (T := T) (H1 := ?trH) ?tre ?tra); (case tra => assumption); (case tre => walk_at "tr_2"))
  | ((with_reducible refine' SqT.of ?tra); (case tra => walk_at "tr_2"))
  | ((with_reducible refine' SqL.of ?tra); (case tra => walk_at "tr_2")))
local macro_rules | `(tactic| walk_at "al_2") => `(tactic| (refine ⟨by first | (show _ ≤ sizeLine; decide) | walk_at "sz_2", ?_⟩; intro alp aln; generalize alG : upd _ alp _ = alH; obtain ⟨aln2, alx, alh⟩ := al_of (T := T) aln alG; clear alG aln))
local macro_rules | `(tactic| walk_at "al0_2") => `(tactic| (intro alp aln; generalize alG : upd _ alp _ = alH; obtain ⟨aln2, alx, alh⟩ := al_of (T := T) aln alG; clear alG aln))
end
section
variable {T : List (Addr × Str)} {P : Program} {w : World} {K : PySem.W.Frag} {mg : Str → Option Value} {base : Heap}
local macro_rules | `(tactic| walk_at "tr_2") => `(tactic| first
  | assumption
  | exact Ext.refl
  | ((with_reducible refine' Im.x (T := T) (H := ?trH) ?tra ?tre); (case tre => assumption); (case tra => walk_at "tr_2"))
  | ((with_reducible refine' Im.y (T := T) (H := ?trH) ?tra ?tre ?trt); (case tre => assumption); (case trt => walk_at "tr_2"); (case tra => walk_at "tr_2"))
  | ((with_reducible refine' ImAll.x (T := T) (H := ?trH) ?tra ?tre); (case tre => assumption); (case tra => walk_at "tr_2"))
  | ((with_reducible refine' ImAll.y (T := T) (H := ?trH) ?tra ?tre ?trt); (case tre => assumption); (case trt => walk_at "tr_2"); (case tra => walk_at "tr_2"))
  | ((with_reducible refine' Ls.x (T := T) (H := ?trH) ?tra ?tre); (case tre => assumption); (case tra => walk_at "tr_2"))
  | ((with_reducible refine' Ls.y (T := T) (H := ?trH) ?tra ?tre ?trn ?trt); (case tre => assumption); (case trt => walk_at "tr_2"); (case trn => walk_at "tr_2"); (case tra => walk_at "tr_2"))
  | ((with_reducible refine' SqP.x (T := T) (H := ?trH) ?tra ?tre); (case tre => assumption); (case tra => walk_at "tr_2"))
  | ((with_reducible refine' SqP.y (T := T) (H := ?trH) ?tra ?tre ?trt); (case tre => assumption); (case trt => walk_at "tr_2"); (case tra => walk_at "tr_2"))
  | ((with_reducible refine' StAt.x (T := T) (H := ?trH) ?tra ?tre); (case tre => assumption); (case tra => walk_at "tr_2"))
  | ((with_reducible refine' StAt.y (T := T) (H := ?trH) ?tra ?tre ?trt); (case tre => assumption); (case trt => walk_at "tr_2"); (case tra => walk_at "tr_2"))
  | ((with_reducible refine' Pools.ext0 (T := T) (H := ?trH) ?tra ?tre); (case tre => assumption); (case tra => walk_at "tr_2"))
  | ((with_reducible refine' Pools.ext (T := T) (H := ?trH) ?tra ?tre ?trt); (case tre => assumption); (case trt => walk_at "tr_2"); (case tra => walk_at "tr_2"))
  | ((with_reducible refine' CL.x (T := T) (H := ?trH) ?tra ?tre); (case tre => assumption); (case tra => walk_at "tr_2"))
  | ((with_reducible refine' CL.y (T := T) (H := ?trH) ?tra ?tre); (case tre => assumption); (case tra => walk_at "tr_2"))
  | ((with_reducible refine' Tape.ext (T := T) (H := ?trH) ?tra ?tre); (case tre => assumption); (case tra => walk_at "tr_2"))
  | ((with_reducible refine' lst.x (T := T) (H := ?trH) ?tra ?tre); (case tre => assumption); (case tra => walk_at "tr_2"))
  | ((with_reducible refine' lst.y (T := T) (H := ?trH) ?tra ?tre ?trn); (case tre => assumption); (case trn => walk_at "tr_2"); (case tra => walk_at "tr_2"))
  | ((with_reducible refine' tup.x (T := T) (H := ?trH) ?tra ?tre); (case tre => assumption); (case tra => walk_at "tr_2"))
  | ((with_reducible refine' tup.y (T := T) (H := ?trH) ?tra ?tre ?trt); (case tre => assumption); (case trt => walk_at "tr_2"); (case tra => walk_at "tr_2"))
  | ((with_reducible refine' frz.x (T := T) (H := ?trH) ?tra ?tre); (case tre => assumption); (case tra => walk_at "tr_2"))
  | ((with_reducible refine' frz.y (T := T) (H := ?trH) ?tra ?tre ?trt); (case tre => assumption); (case trt => walk_at "tr_2"); (case tra => walk_at "tr_2"))
  | ((with_reducible refine' Im.z (T := T) (H := ?trH) ?tra ?tre ?trt); (case tre => assumption); (case trt => assumption); (case tra => walk_at "tr_2"))
  | ((with_reducible refine' ImAll.z (T := T) (H := ?trH) ?tra ?tre ?trt); (case tre => assumption); (case trt => assumption); (case tra => walk_at "tr_2"))
  | ((with_reducible refine' StAt.z (T := T) (H := ?trH) ?tra ?tre ?trt); (case tre => assumption); (case trt => assumption); (case tra => walk_at "tr_2"))
  | ((with_reducible refine' SqP.z (T := T) (H := ?trH) ?tra ?tre ?trt); (case tre => assumption); (case trt => assumption); (case tra => walk_at "tr_2"))
  | ((with_reducible refine' tup.z (T := T) (H := ?trH) ?tra ?tre ?trt); (case tre => assumption); (case trt => assumption); (case tra => walk_at "tr_2"))
  | ((with_reducible refine' Ls.z (T := T) (H := ?trH) ?tra ?tre ?trt ?trn); (case tre => assumption); (case trt => assumption); (case trn => assumption); (case tra => walk_at "tr_2"))
  | ((with_reducible refine' lst.z (T := T) (H := ?trH) ?tra ?tre ?trn); (case tre => assumption); (case trn => assumption); (case tra => walk_at "tr_2"))
  | ((with_reducible refine' CL.z (T := T) (H := ?trH) ?tra ?tre ?trn); (case tre => assumption); (case trn => assumption); (case tra => walk_at "tr_2"))
  | ((with_reducible refine' Tape.ne1 (H := ?trH) ?trt ?trn); (case trn => assumption); (case trt => walk_at "tr_2"))
  | ((with_reducible refine' Ext.trans (H1 := ?trH) ?tra (Ext.any ?tre)); (case tre => assumption); (case tra => walk_at "tr_2"))
  | ((with_reducible refine' Ext.trans (H1 := ?trH) ?tra ?tre); (case tre => assumption); (case tra => walk_at "tr_2"))
  | ((with_reducible refine' Ext.back1 (T := T) (H1 := ?trH) ?tre ?trn ?tra); (case tra => assumption); (case trn => walk_at "tr_2"); (case tre => walk_at "tr_2"))
  | ((with_reducible refine' Ext.back0 (T := T) (H1 := ?trH) ?tre ?tra); (case tra => assumption); (case tre => walk_at "tr_2"))
  | ((with_reducible refine' SqT.of ?tra); (case tra => walk_at "tr_2"))
  | ((with_reducible refine' SqL.of ?tra); (case tra => walk_at "tr_2")))
local macro_rules | `(tactic| walk_at "al_2") => `(tactic| (refine ⟨by first | (show _ ≤ sizeLine; decide) | walk_at "sz_2", ?_⟩; intro alp aln; generalize alG : upd _ alp _ = alH; obtain ⟨aln2, alx, alh⟩ := al_of (T := T) aln alG; clear alG aln))
local macro_rules | `(tactic| walk_at "al0_2") => `(tactic| (intro alp aln; generalize alG : upd _ alp _ = alH; obtain ⟨aln2, alx, alh⟩ := al_of (T := T) aln alG; clear alG aln))
end
local macro_rules | `(tactic| walk_at "szl") => `(tactic| first
  | assumption
  | exact Nat.lt_of_le_of_lt (by assumption) (by decide)
  | (refine Nat.lt_of_le_of_lt ?_ (show (100000 : Nat) < sizeLine by decide); (try simp only [List.length_map, List.length_cons, List.length_nil, List.length_append]); omega))
local macro_rules | `(tactic| walk_at "sz") => `(tactic| first
  | assumption
  | exact Nat.le_trans (by assumption) (by decide)
  | (show _ ≤ sizeLine; decide)
  | (refine Nat.le_trans ?_ (show (100000 : Nat) ≤ sizeLine by decide); (try simp only [List.length_map, List.length_cons, List.length_nil, List.length_append]); omega))
local macro_rules | `(tactic| walk_at "hp") => `(tactic| first
  | assumption
  | exact upd_same
  | (refine (upd_ne ?hne).trans ?_; (case hne => first | assumption | exact Ne.symm (by assumption)); walk_at "hp"))
local macro_rules | `(tactic| walk_at "pl") => `(tactic| (refine Nat.le_trans (?plx : _ ≤ 1000) (by decide); (case plx => (try simp only [app_len, dot_len, dotS_len, w_len]); omega)))
local macro_rules | `(tactic| walk_at "rd1") => `(tactic| first
  | with_reducible refine rd_seq ?_
  | with_reducible refine rd_asg ?_
  | with_reducible refine rd_ret ?_
  | with_reducible refine rd_if ?_
  | with_reducible refine rd_drop ?_
  | with_reducible refine rd_next ?_
  | with_reducible refine rd_B ?_
  | with_reducible refine rd_ifE ?_
  | with_reducible refine rd_T ?_
  | with_reducible refine rd_tnot ?_
  | with_reducible refine rd_tand ?_
  | with_reducible refine rd_tor ?_
  | with_reducible refine rd_chain ?_
  | with_reducible refine rd_rng2 ?_
  | with_reducible refine rd_zipA ?_
  | with_reducible refine rd_star ?_
  | with_reducible refine rd_op ?_
  | with_reducible refine rd_un ?_
  | with_reducible refine rd_call ?_
  | with_reducible refine rd_cons ?_
  | with_reducible refine rd_nil ?_
  | with_reducible refine rd_cb ?_
  | with_reducible refine rd_c ?_
  | with_reducible refine rd_not ?_
  | with_reducible refine rd_and ?_
  | with_reducible refine rd_or ?_
  | with_reducible refine rd_sub ?_
  | with_reducible refine rd_lc ?_
  | with_reducible refine rd_iStr ?_
  | with_reducible refine rd_exStr ?_
  | with_reducible refine rd_iSeq ?_
  | with_reducible refine rd_rng ?_
  | with_reducible refine rd_exRef ?_
  | with_reducible refine rd_exInt ?_
  | with_reducible refine rd_exInts ?_
  | ((with_reducible refine' rd_seqL (xs := ?rxs) ?rxh ?_); (case rxh => exact SqL.of (by walk_at "hp")))
  | with_reducible refine rd_tyes ?_
  | with_reducible refine rd_eqStr ?_
  | with_reducible refine rd_neStr ?_
  | with_reducible refine rd_eqInt ?_
  | with_reducible refine rd_neInt ?_
  | with_reducible refine rd_eqBl ?_
  | with_reducible refine rd_rev ?_
  | with_reducible refine rd_exA ?_
  | with_reducible refine rd_fs ?_
  | with_reducible refine rd_jc ?_
  | with_reducible refine rd_jn ?_
  | with_reducible refine rd_fmt ?_
  | with_reducible refine rd_for ?_
  | with_reducible refine rd_bm ?_
  | ((with_reducible refine' rd_tyL (xs := ?rxs) ?rxh ?_); (case rxh => walk_at "hp"))
  | ((with_reducible refine' rd_app (xs := ?rxs) ?rxh ?rxc ?_); (case rxh => walk_at "hp"); (case rxc => walk_at "szl"))
  | ((with_reducible refine rd_fmtS ?rdc ?_); (case rdc => walk_at "sz"))
  | with_reducible refine rd_isBool ?_
  | with_reducible refine rd_sl ?_
  | with_reducible refine rd_noP ?_
  | with_reducible refine rd_part ?_
  | ((with_reducible refine rd_slS ?rdc ?_); (case rdc => walk_at "sz"))
  | with_reducible refine rd_sortLam ?_
  | with_reducible refine iteT ?_
  | with_reducible refine rd_ntt ?_
  | with_reducible refine rd_nff ?_
  | with_reducible refine iteF ?_
  | with_reducible refine rd_m1 ?_
  | (with_reducible refine ⟨⟨_, rfl⟩, ?_⟩)
  | ((with_reducible refine rd_len ?rdc ?_); (case rdc => walk_at "sz"))
  | with_reducible refine rd_gcons ?_
  | ((with_reducible refine rd_plusS ?rdc ?_); (case rdc => walk_at "pl"))
  | with_reducible refine rd_gnil ?_
  | ((with_reducible refine' rd_inWs (zs := ?rxs) ?rxh ?_); (case rxh => walk_at "hp"))
  | ((with_reducible refine' rd_ninWs (zs := ?rxs) ?rxh ?_); (case rxh => walk_at "hp"))
  | with_reducible refine rd_ends ?_
  | with_reducible refine rd_inS ?_
  | with_reducible refine rd_ninS ?_
  | with_reducible refine rd_isStr ?_
  | with_reducible refine rd_lst ?_
  | with_reducible refine rd_tup ?_
  | with_reducible refine rd_name ?_
  | with_reducible refine rd_bl ?_
  | with_reducible refine rd_i0 ?_
  | with_reducible refine rd_uI ?_
  | with_reducible refine rd_plusI ?_
  | with_reducible refine rd_int1 ?_
  | ((with_reducible refine rd_i ?rdc ?_); (case rdc => first | decide | (constructor <;> decide) | (left; constructor <;> decide) | (right; constructor <;> decide) | omega | (left; constructor <;> omega) | (right; constructor <;> omega) | (constructor <;> omega)))
  | ((with_reducible refine' rd_ixL (v := ?rxv) (xs := ?rxs) ?rxh ?rxa ?_); (case rxh => exact SqL.of (by walk_at "hp")); (case rxa => rfl))
  | ((with_reducible refine' rd_lenL (ys := ?rxs) ?rxh ?_); (case rxh => exact SqL.of (by walk_at "hp")))
  | ((with_reducible refine' rd_set (xs := ?rxs) (j := ?rxj) ?rxh ?rxa ?_); (case rxh => walk_at "hp"); (case rxa => rfl))
  | ((with_reducible refine' rd_var (v := ?rdw) ?rdv ?_); (case rdv => rfl)))
local macro_rules | `(tactic| walk_at "rdn1") => `(tactic| first
  | with_reducible refine rd_asg ?_
  | with_reducible refine rd_ret ?_
  | with_reducible refine rd_if ?_
  | with_reducible refine rd_drop ?_
  | with_reducible refine rd_next ?_
  | with_reducible refine rd_B ?_
  | with_reducible refine rd_ifE ?_
  | with_reducible refine rd_T ?_
  | with_reducible refine rd_tnot ?_
  | with_reducible refine rd_tand ?_
  | with_reducible refine rd_tor ?_
  | with_reducible refine rd_chain ?_
  | with_reducible refine rd_rng2 ?_
  | with_reducible refine rd_zipA ?_
  | with_reducible refine rd_star ?_
  | with_reducible refine rd_op ?_
  | with_reducible refine rd_un ?_
  | with_reducible refine rd_call ?_
  | with_reducible refine rd_cons ?_
  | with_reducible refine rd_nil ?_
  | with_reducible refine rd_cb ?_
  | with_reducible refine rd_c ?_
  | with_reducible refine rd_not ?_
  | with_reducible refine rd_and ?_
  | with_reducible refine rd_or ?_
  | with_reducible refine rd_sub ?_
  | with_reducible refine rd_lc ?_
  | with_reducible refine rd_iStr ?_
  | with_reducible refine rd_exStr ?_
  | with_reducible refine rd_iSeq ?_
  | with_reducible refine rd_rng ?_
  | with_reducible refine rd_exRef ?_
  | with_reducible refine rd_exInt ?_
  | with_reducible refine rd_exInts ?_
  | ((with_reducible refine' rd_seqL (xs := ?rxs) ?rxh ?_); (case rxh => exact SqL.of (by walk_at "hp")))
  | with_reducible refine rd_tyes ?_
  | with_reducible refine rd_eqStr ?_
  | with_reducible refine rd_neStr ?_
  | with_reducible refine rd_eqInt ?_
  | with_reducible refine rd_neInt ?_
  | with_reducible refine rd_eqBl ?_
  | with_reducible refine rd_rev ?_
  | with_reducible refine rd_exA ?_
  | with_reducible refine rd_fs ?_
  | with_reducible refine rd_jc ?_
  | with_reducible refine rd_jn ?_
  | with_reducible refine rd_fmt ?_
  | with_reducible refine rd_for ?_
  | with_reducible refine rd_bm ?_
  | ((with_reducible refine' rd_tyL (xs := ?rxs) ?rxh ?_); (case rxh => walk_at "hp"))
  | ((with_reducible refine' rd_app (xs := ?rxs) ?rxh ?rxc ?_); (case rxh => walk_at "hp"); (case rxc => walk_at "szl"))
  | ((with_reducible refine rd_fmtS ?rdc ?_); (case rdc => walk_at "sz"))
  | with_reducible refine rd_isBool ?_
  | with_reducible refine rd_sl ?_
  | with_reducible refine rd_noP ?_
  | with_reducible refine rd_part ?_
  | ((with_reducible refine rd_slS ?rdc ?_); (case rdc => walk_at "sz"))
  | with_reducible refine rd_sortLam ?_
  | with_reducible refine iteT ?_
  | with_reducible refine rd_ntt ?_
  | with_reducible refine rd_nff ?_
  | with_reducible refine iteF ?_
  | with_reducible refine rd_m1 ?_
  | (with_reducible refine ⟨⟨_, rfl⟩, ?_⟩)
  | ((with_reducible refine rd_len ?rdc ?_); (case rdc => walk_at "sz"))
  | with_reducible refine rd_gcons ?_
  | ((with_reducible refine rd_plusS ?rdc ?_); (case rdc => walk_at "pl"))
  | with_reducible refine rd_gnil ?_
  | ((with_reducible refine' rd_inWs (zs := ?rxs) ?rxh ?_); (case rxh => walk_at "hp"))
  | ((with_reducible refine' rd_ninWs (zs := ?rxs) ?rxh ?_); (case rxh => walk_at "hp"))
  | with_reducible refine rd_ends ?_
  | with_reducible refine rd_inS ?_
  | with_reducible refine rd_ninS ?_
  | with_reducible refine rd_isStr ?_
  | with_reducible refine rd_lst ?_
  | with_reducible refine rd_tup ?_
  | with_reducible refine rd_name ?_
  | with_reducible refine rd_bl ?_
  | with_reducible refine rd_i0 ?_
  | with_reducible refine rd_uI ?_
  | with_reducible refine rd_plusI ?_
  | with_reducible refine rd_int1 ?_
  | ((with_reducible refine rd_i ?rdc ?_); (case rdc => first | decide | (constructor <;> decide) | (left; constructor <;> decide) | (right; constructor <;> decide) | omega | (left; constructor <;> omega) | (right; constructor <;> omega) | (constructor <;> omega)))
  | ((with_reducible refine' rd_ixL (v := ?rxv) (xs := ?rxs) ?rxh ?rxa ?_); (case rxh => exact SqL.of (by walk_at "hp")); (case rxa => rfl))
  | ((with_reducible refine' rd_lenL (ys := ?rxs) ?rxh ?_); (case rxh => exact SqL.of (by walk_at "hp")))
  | ((with_reducible refine' rd_set (xs := ?rxs) (j := ?rxj) ?rxh ?rxa ?_); (case rxh => walk_at "hp"); (case rxa => rfl))
  | ((with_reducible refine' rd_var (v := ?rdw) ?rdv ?_); (case rdv => rfl)))
local macro_rules | `(tactic| walk_at "rd") => `(tactic| repeat walk_at "rd1")
local macro_rules | `(tactic| walk_at "ext") => `(tactic| first
  | exact Ext.refl
  | assumption
  | (refine Ext.trans ?_ (Ext.mut (by simp) (by walk_at "hp")); walk_at "ext")
  | (refine Ext.trans ?_ (Ext.new (by assumption)); walk_at "ext"))
local macro_rules | `(tactic| walk_at "rdn") => `(tactic| repeat walk_at "rdn1")
section
variable {T : List (Addr × Str)} {P : Program} {w : World} {K : PySem.W.Frag} {mg : Str → Option Value} {base : Heap}
local macro_rules | `(tactic| walk_at "tr") => `(tactic| first
  | assumption
  | exact Ext.refl
  | ((with_reducible refine' Im.x (T := T) (H := ?trH) ?tra ?tre); (case tre => assumption); (case tra => walk_at "tr"))
  | ((with_reducible refine' Im.y (T := T) (H := ?trH) ?tra ?tre ?trt); (case tre => assumption); (case trt => walk_at "tr"); (case tra => walk_at "tr"))
  | ((with_reducible refine' ImAll.x (T := T) (H := ?trH) ?tra ?tre); (case tre => assumption); (case tra => walk_at "tr"))
  | ((with_reducible refine' ImAll.y (T := T) (H := ?trH) ?tra ?tre ?trt); (case tre => assumption); (case trt => walk_at "tr"); (case tra => walk_at "tr"))
  | ((with_reducible refine' Ls.x (T := T) (H := ?trH) ?tra ?tre); (case tre => assumption); (case tra => walk_at "tr"))
  | ((with_reducible refine' Ls.y (T := T) (H := ?trH) ?tra ?tre ?trn ?trt); (case tre => assumption); (case trt => walk_at "tr"); (case trn => walk_at "tr"); (case tra => walk_at "tr"))
  | ((with_reducible refine' SqP.x (T := T) (H := ?trH) ?tra ?tre); (case tre => assumption); (case tra => walk_at "tr"))
  | ((with_reducible refine' SqP.y (T := T) (H := ?trH) ?tra ?tre ?trt); (case tre => assumption); (case trt => walk_at "tr"); (case tra => walk_at "tr"))
  | ((with_reducible refine' StAt.x (T := T) (H := ?trH) ?tra ?tre); (case tre => assumption); (case tra => walk_at "tr"))
  | ((with_reducible refine' StAt.y (T := T) (H := ?trH) ?tra ?tre ?trt); (case tre => assumption); (case trt => walk_at "tr"); (case tra => walk_at "tr"))
  | ((with_reducible refine' Pools.ext0 (T := T) (H := ?trH) ?tra ?tre); (case tre => assumption); (case tra => walk_at "tr"))
  | ((with_reducible refine' Pools.ext (T := T) (H := ?trH) ?tra ?tre ?trt); (case tre => assumption); (case trt => walk_at "tr"); (case tra => walk_at "tr"))
  | ((with_reducible refine' CL.x (T := T) (H := ?trH) ?tra ?tre); (case tre => assumption); (case tra => walk_at "tr"))
  | ((with_reducible refine' CL.y (T := T) (H := ?trH) ?tra ?tre); (case tre => assumption); (case tra => walk_at "tr"))
  | ((with_reducible refine' Tape.ext (T := T) (H := ?trH) ?tra ?tre); (case tre => assumption); (case tra => walk_at "tr"))
  | ((with_reducible refine' lst.x (T := T) (H := ?trH) ?tra ?tre); (case tre => assumption); (case tra => walk_at "tr"))
  | ((with_reducible refine' lst.y (T := T) (H := ?trH) ?tra ?tre ?trn); (case tre => assumption); (case trn => walk_at "tr"); (case tra => walk_at "tr"))
  | ((with_reducible refine' tup.x (T := T) (H := ?trH) ?tra ?tre); (case tre => assumption); (case tra => walk_at "tr"))
  | ((with_reducible refine' tup.y (T := T) (H := ?trH) ?tra ?tre ?trt); (case tre => assumption); (case trt => walk_at "tr"); (case tra => walk_at "tr"))
  | ((with_reducible refine' frz.x (T := T) (H := ?trH) ?tra ?tre); (case tre => assumption); (case tra => walk_at "tr"))
  | ((with_reducible refine' frz.y (T := T) (H := ?trH) ?tra ?tre ?trt); (case tre => assumption); (case trt => walk_at "tr"); (case tra => walk_at "tr"))
  | ((with_reducible refine' Im.z (T := T) (H := ?trH) ?tra ?tre ?trt); (case tre => assumption); (case trt => assumption); (case tra => walk_at "tr"))
  | ((with_reducible refine' ImAll.z (T := T) (H := ?trH) ?tra ?tre ?trt); (case tre => assumption); (case trt => assumption); (case tra => walk_at "tr"))
  | ((with_reducible refine' StAt.z (T := T) (H := ?trH) ?tra ?tre ?trt); (case tre => assumption); (case trt => assumption); (case tra => walk_at "tr"))
  | ((with_reducible refine' SqP.z (T := T) (H := ?trH) ?tra ?tre ?trt); (case tre => assumption); (case trt => assumption); (case tra => walk_at "tr"))
  | ((with_reducible refine' tup.z (T := T) (H := ?trH) ?tra ?tre ?trt); (case tre => assumption); (case trt => assumption); (case tra => walk_at "tr"))
  | ((with_reducible refine' Ls.z (T := T) (H := ?trH) ?tra ?tre ?trt ?trn); (case tre => assumption); (case trt => assumption); (case trn => assumption); (case tra => walk_at "tr"))
  | ((with_reducible refine' lst.z (T := T) (H := ?trH) ?tra ?tre ?trn); (case tre => assumption); (case trn => assumption); (case tra => walk_at "tr"))
  | ((with_reducible refine' CL.z (T := T) (H := ?trH) ?tra ?tre ?trn); (case tre => assumption); (case trn => assumption); (case tra => walk_at "tr"))
  | ((with_reducible refine' Tape.ne1 (H := ?trH) ?trt ?trn); (case trn => assumption); (case trt => walk_at "tr"))
  | ((with_reducible refine' Ext.trans (H1 := ?trH) ?tra (Ext.any ?tre)); (case tre => assumption); (case tra => walk_at "tr"))
  | ((with_reducible refine' Ext.trans (H1 := ?trH) ?tra ?tre); (case tre => assumption); (case tra => walk_at "tr"))
  | ((with_reducible refine' Ext.back1 (T := T) (H1 := ?trH) ?tre ?trn ?tra); (case tra => assumption); (case trn => walk_at "tr"); (case tre => walk_at "tr"))
  | ((with_reducible refine' Ext.back0 (T := T) (H1 := ?trH) ?tre ?tra); (case tra => assumption); (case tre => walk_at "tr"))
  | ((with_reducible refine' SqT.of ?tra); (case tra => walk_at "tr"))
  | ((with_reducible refine' SqL.of ?tra); (case tra => walk_at "tr")))
local macro_rules | `(tactic| walk_at "al") => `(tactic| (refine ⟨by first | (show _ ≤ sizeLine; decide) | walk_at "sz", ?_⟩; intro alp aln; generalize alG : upd _ alp _ = alH; obtain ⟨aln2, alx, alh⟩ := al_of (T := T) aln alG; clear alG aln))
local macro_rules | `(tactic| walk_at "al0") => `(tactic| (intro alp aln; generalize alG : upd _ alp _ = alH; obtain ⟨aln2, alx, alh⟩ := al_of (T := T) aln alG; clear alG aln))
theorem ok_labels (D : Def K mg "labels" s_labels ["name"]) (mb : ∀ x ∈ bltns, mg x = none) : Ok P w K mg base 1 "labels" ["name"] (spTL T labelsL) := by
  refine D.ok sc_labels (fun vs H Q E h => ?_) (fun cdv f A outer s H vs Q E hr h => ?_)
  · obtain ⟨z, rfl, _⟩ := h
    rfl
  · obtain ⟨z, rfl, hz, q⟩ := h
    refine ⟨_, (pss_cons (ps_if (pt_cmpR (op_eqU K rfl hr.units) (pv 0) pe_str (nomark _)) (pss_one (ps_ret (pe_lst pa_nil))) pss_nil)
   (pss_one (ps_ret (pe_rev K rfl (pe_m1 PySem.F.slot_str_split PySem.F.type_str_split mt_splitU (pv 0) pe_str))))), ?_⟩
    unfold labelsL at q
    walk_at "rd"
    refine rd_ite (fun h1 => ?_) (fun h1 => ?_)
    · walk_at "rd"
      refine ⟨by show 0 ≤ sizeLine; decide, fun p np => q p _ (.of np) (.new np) ?_⟩
      rw [if_pos (show z = dotS from h1)]
      exact upd_same
    · walk_at "rd"
      refine rd_split (by decide +kernel) (by walk_at "sz") fun p np => ?_
      refine rd_revL (SqL.of upd_same) fun r nr => q r _ (Ext.back (T := T) (ms := []) (.new np) (by simp) (.of nr)) ((Ext.new np).newR nr) ?_
      rw [if_neg (show ¬ z = dotS from h1), upd_same, List.map_reverse]
      rfl
theorem ok_ends (D : Def K mg "ends" s_ends ["name", "other"]) (mb : ∀ x ∈ bltns, mg x = none) : Ok P w K mg base 1 "ends" ["name", "other"] (spTTB T endsB) := by
  refine D.ok sc_ends (fun vs H Q E h => ?_) (fun cdv f A outer s H vs Q E hr h => ?_)
  · obtain ⟨z, u, rfl, _⟩ := h
    rfl
  · obtain ⟨z, u, rfl, hz, hu, q⟩ := h
    refine ⟨_, (pss_one (ps_ret (pe_or (pe_cmpR (op_eqU K rfl hr.units) (pv 1) pe_str (nomark _)) (pe_or (pe_cmpR (op_eqU K rfl hr.units) (pv 0) (pv 1) (nomark _)) (pe_one (pe_m1 PySem.F.slot_str_endswith PySem.F.type_str_endswith mt_endsU (pv 0) (pe_fstr (.cons pe_str (.cons (pe_fmt (pv 1)) PJ.nil))))))))), ?_⟩
    have q' : ∀ (H' : Hp) {b : Bool}, Ext T [] H H' → endsB z u = b → Q (.bl b) H' := fun H' b e h => by
      rw [← h]
      exact q H' e
    unfold endsB at q'
    walk_at "rd"
    refine rd_ite (fun h1 => ?_) (fun h1 => ?_)
    · walk_at "rd"
      exact q' H .refl (by rw [decide_eq_true (show u = dotS from h1)]; rfl)
    · have h1' : decide (u = dotS) = false := decide_eq_false h1
      walk_at "rd"
      refine rd_ite (fun h2 => ?_) (fun h2 => ?_)
      · walk_at "rd"
        exact q' H .refl (by rw [h1', decide_eq_true h2]; rfl)
      · walk_at "rd"
        refine ⟨by walk_at "sz", ?_⟩
        walk_at "rd"
        refine .inl ⟨_, rfl, by walk_at "sz", _, rfl, fs_len u hu, ?_⟩
        walk_at "rd"
        exact q' H .refl (by rw [h1', decide_eq_false h2, ← fs_dot]; rfl)
def spChain (T : List (Addr × Str)) (K : PySem.W.Frag) : Sp := fun vs H Q _ => ∃ (a : Addr) (zs : List Str) (n : Str), vs = [.ref a, .str n] ∧ (SqL K H a (zs.map V.str) ∨ SqT K H a (zs.map V.str)) ∧ zs.length ≤ 100 ∧ (∀ z ∈ zs, z.length ≤ 1000) ∧ n.length ≤ 1000 ∧ LamX.Tabs T H ∧
  ∀ p H', Nw H p → Ext T [] H H' → H' p = some (.lst (chainL zs n)) → Q (.ref p) H'
theorem ok_chain {c Pt : Addr} (D : DefC K mg "chain" s_chain ["zones", "name"] c) (mb : ∀ x ∈ bltns, mg x = none) (TB : LamX.TabB base mg c Pt) (hmT : (Pt, ("chain.<locals>.<lambda>" : Str)) ∈ T) (huT : ∀ z ∈ T, z.1 = Pt → z.2 = ("chain.<locals>.<lambda>" : Str))
    (G_labels : Ok P w K mg base 1 "labels" ["name"] (spTL T labelsL)) (G_ends : Ok P w K mg base 1 "ends" ["name", "other"] (spTTB T endsB)) : Ok P w K mg base 4 "chain" ["zones", "name"] (spChain T K) := by
  refine D.ok sc_chain (fun vs H Q E h => ?_) (fun f A outer s H vs Q E hr h => ?_)
  · obtain ⟨a, zs, n, rfl, _⟩ := h
    rfl
  · obtain ⟨a, zs, n, rfl, hz, hl, hzl, hn, hT, q⟩ := h
    refine ⟨_, (pss_cons (ps_setLc (i := 2) (own := [("zone", 3)]) (g := gName 3) rfl sc_chain.nd rfl rfl (sw_true rfl rfl rfl (by decide +kernel)) (pi_seq K rfl (pv 0)) (blkOk_by (N := N_chain) (sc := defScope s_chain) (by decide +kernel)) (fun _ _ _ _ _ => (pg_name (i := 3) sc_chain.nd rfl (Or.inl rfl))) (fun _ _ _ _ _ => (pts_one (pt_E (pe_callO G_ends (hr.mono (by decide)) (by rfl) (pa_cons (pv 1) (pa_cons (pv 3) pa_nil)))))) (fun _ _ _ _ _ => (pv 3)))
   (pss_one (ps_ret (pe_sortedLam (T := T) (N := ["zone"]) (x := "zone") (k := 1) K rfl TB rfl hmT huT (hr.mono (by decide)) (by exact ⟨rfl, rfl, rfl, by decide +kernel, rfl, by decide +kernel, by decide +kernel⟩) (fun A s H f c' hr => (pe_callB (call_lenU K rfl) (by rfl) (mb _ (by decide)) (by decide +kernel) (pa_cons (pe_callO G_labels (hr.mono (by decide)) (by rfl) (pa_cons (pv 0) pa_nil)) pa_nil))) (by rfl) (mb _ (by decide)) (pa_cons (pv 2) pa_nil))))), ?_⟩
    refine rd_seq ?_
    walk_at "rdn"
    have hm : ∀ _ : Nat, (zs.map V.str).filter (fun v => match v with | .str z => endsB n z | _ => false) = (zs.filter fun z => endsB n z).map V.str := fun _ => by
      rw [List.filter_map]
      rfl
    have step : ∀ (xs : List V), (∀ x ∈ xs, ∃ z : Str, z.length ≤ 1000 ∧ x = .str z) → ∀ x ∈ xs, ∀ H', Ext T [] H H' → ∀ (R : V → Hp → Prop) (S : Hp → Prop), ((match x with | .str z => endsB n z | _ => false) = true → ∀ H2, Ext T [] H' H2 → R x H2) → ((match x with | .str z => endsB n z | _ => false) = false → ∀ H2, Ext T [] H' H2 → S H2) →
        tB (tCall (spTTB T endsB) [] E0 (tCons (tVar 1) (tCons (tVar 3) tNil))) ((wipe (start N_chain [.ref a, .str n]) [3]).set 3 (some x)) H' fun b H2 => if b = true then tVar 3 ((wipe (start N_chain [.ref a, .str n]) [3]).set 3 (some x)) H2 R else S H2 := fun xs hxs x hx H' e R S h1 h2 => by
      obtain ⟨z, hzz, rfl⟩ := hxs x hx
      walk_at "rd"
      refine ⟨n, z, rfl, hn, hzz, fun H2 e2 => ?_⟩
      walk_at "rd"
      cases hb : endsB n z with
      | true =>
        walk_at "rd"
        exact h1 hb H2 e2
      | false =>
        walk_at "rd"
        exact h2 hb H2 e2
    have hxs : ∀ x ∈ zs.map V.str, ∃ z : Str, z.length ≤ 1000 ∧ x = .str z := fun x hx => by
      obtain ⟨z, hz, rfl⟩ := List.mem_map.mp hx
      exact ⟨z, hzl z hz, rfl⟩
    have hzs : (zs.map V.str).length < sizeLine := by
      rw [List.length_map]
      exact Nat.lt_of_le_of_lt hl (by decide)
    have rest : ∀ D H2, Nw H D → Ext T [] H H2 → H2 D = some (.lst (((zs.map V.str).filter (fun v => match v with | .str z => endsB n z | _ => false)).map id)) →
        tSortLam T K [Str.ofString "zone"] (tCons (tVar 2) tNil) (tCB (rLenU K) (tCons (tCall (spTL T labelsL) [] E0 (tCons (tVar 0) tNil)) tNil)) ((start N_chain [.ref a, .str n]).set 2 (some (.ref D))) H2 Q := fun D H2 nw e hD => by
      rw [List.map_id, hm 0] at hD
      walk_at "rd"
      refine ⟨D, _, keyOf, rfl, SqL.of hD, e.tabs hT, fun x hx H3 e3 Q' hQ => ?_, fun p H3 np e3 hp => q p H3 (e.back (by simp) np) (e.trans e3) hp⟩
      obtain ⟨z, hz, rfl⟩ := List.mem_map.mp hx
      walk_at "rd"
      refine ⟨z, rfl, hzl z (List.mem_filter.mp hz).1, fun p H4 np e4 hp => ?_⟩
      walk_at "rd"
      rw [List.length_map]
      exact hQ H4 e4
    rcases hz with hz | hz
    · refine .inl ⟨⟨_, hz⟩, ?_⟩
      refine lcg_list T [] hz (fun v => match v with | .str z => endsB n z | _ => false) id hzs (by simp) (by simp) (step _ hxs) (fun D H2 nw e hD => ?_)
      refine rd_name ?_
      refine rd_ret ?_
      exact rest D H2 nw e hD
    · refine .inr ⟨⟨_, hz⟩, ?_⟩
      refine lcg_tup T [] hz (fun v => match v with | .str z => endsB n z | _ => false) id hzs (by simp) (by simp) (step _ hxs) (fun D H2 nw e hD => ?_)
      refine rd_name ?_
      refine rd_ret ?_
      exact rest D H2 nw e hD
def spZn (T : List (Addr × Str)) : Sp := fun vs H Q _ => ∃ (v : V) (R : Rm), vs = [v] ∧ Im H v (rmD R) ∧ RmIn R ∧ ∀ p H', Nw H p → Ext T [] H H' → H' p = some (.tup ((R.zs.map (·.1)).map V.str)) → Q (.ref p) H'
theorem ok_zone_names (D : Def K mg "zone_names" s_zone_names ["realm"]) (mb : ∀ x ∈ bltns, mg x = none) : Ok P w K mg base 1 "zone_names" ["realm"] (spZn T) := by
  refine D.ok sc_zone_names (fun vs H Q E h => ?_) (fun cdv f A outer s H vs Q E hr h => ?_)
  · obtain ⟨v, R, rfl, _⟩ := h
    rfl
  · obtain ⟨v, R, rfl, hv, hR, q⟩ := h
    refine ⟨_, (pss_one (ps_ret (pe_callTy (call_tupU K rfl) (by rfl) (mb _ (by decide)) (by decide +kernel) (pa_cons (pe_lc (own := [("zone", 1), ("_", 2)]) (tt := tYes) rfl sc_zone_names.nd (pi_seq K rfl (pe_ix (ix_U K rfl) (pv 0) pe_int (fun _ _ => rfl))) (blkOk_by (N := N_zone_names) (sc := defScope s_zone_names) (by decide +kernel)) (fun _ _ _ _ _ => (pg_tupU (n := 2) K rfl rfl (pgs_cons (pg_name (i := 1) sc_zone_names.nd rfl (Or.inl rfl)) (pgs_cons (pg_name (i := 2) sc_zone_names.nd rfl (Or.inl rfl)) pgs_nil)))) (fun _ _ _ _ _ => pts_nil) (fun _ _ _ _ _ => (pv 1))) pa_nil)))), ?_⟩
    walk_at "rd"
    refine rd_ixI (d := .tuple (R.zs.map siD)) hv rfl fun u1 hu1 => ?_
    obtain ⟨zp, zx, rfl, hzp, hzi⟩ := hu1.tup'
    have hzl : zx.length = R.zs.length := by rw [hzi.len, List.length_map]
    have hzl6 := hR.len
    refine ⟨zp, rfl, .inr ⟨⟨_, SqP.sq hzp⟩, ?_⟩⟩
    refine lcg_rel T [] walk_tup zx rfl (fun i H x H' y => y) (by simp) (fun H' e => SqP.sq (SqP.x hzp e)) (Nat.lt_of_le_of_lt (show zx.length ≤ 100 by omega) (by decide)) (fun _ => true) (fun v x => ∃ r, Im H x (siD r) ∧ v = .str r.1) (fun i x hx H' e' R' S h1 h2 => ?_) (fun D H2 us nD e2 hD hus => ?_)
    · obtain ⟨dr, hdr, hxr⟩ := hzi.get' hx
      rw [List.getElem?_map] at hdr
      obtain ⟨r, hr, rfl⟩ := Option.map_eq_some_iff.mp hdr
      refine rd_gpair (d1 := .str r.1) (d2 := .int r.2) (hxr.x e') fun v1 v2 g1 g2 => ?_
      rw [g1.str', g2.int']
      refine ⟨rfl, ?_⟩
      walk_at "rd"
      exact h1 rfl _ _ .refl ⟨r, hxr, rfl⟩
    · rw [filtT] at hus
      have hu2 := zn_key hzi hus
      subst hu2
      walk_at "rd"
      refine rd_tupA T hD fun p H3 np x3 hp => ?_
      exact q p H3 (e2.back (by simp) np) (e2.trans x3) hp
theorem chL_in {R : Rm} (hR : RmIn R) {n z : Str} (h : z ∈ chL R n) : z ∈ R.zs.map (·.1) := by
  rcases chL_mem.mp h with h | ⟨y, hy, _, h⟩
  · obtain ⟨lag, rest, e, _⟩ := hR.ne
    rw [h, e]
    simp
  · rw [← h]
    exact List.mem_map_of_mem hy
theorem chL_last (R : Rm) (n : Str) : ∃ z, (chL R n).getLast? = some z ∧ z ∈ chL R n := last_some fun e => by
  have := chL_len R n
  rw [e] at this
  simp only [List.length_nil] at this
  omega
theorem chL_last2 {R : Rm} (hR : RmIn R) {y : Str} (hy : y ∈ R.zs.tail.map (·.1)) : ∃ z, (chL R y).dropLast.getLast? = some z ∧ z ∈ chL R y := by
  obtain ⟨y, hyt, rfl⟩ := List.mem_map.mp hy
  have hy2 : y ∈ R.zs.filter (onZ y.1) := List.mem_filter.mpr ⟨List.mem_of_mem_tail hyt, by
    obtain ⟨lag, rest, e, h⟩ := hR.ne
    rw [e] at hyt
    unfold onZ
    rw [decide_eq_false (h y hyt), ends_self]
    rfl⟩
  have := List.length_pos_of_mem hy2
  have h2 := chL_len R y.1
  obtain ⟨z, h3, h4⟩ := last_some (l := (chL R y.1).dropLast) fun e => by
    have h5 := congrArg List.length e
    rw [List.length_dropLast] at h5
    simp only [List.length_nil] at h5
    omega
  exact ⟨z, h3, List.dropLast_subset _ h4⟩
theorem slots_cases {R : Rm} (hR : RmIn R) {sl : Sl} (hs : sl ∈ slotsR R) : (∃ z ∈ R.zs.map (·.1), sl = .k z) ∨ (∃ y ∈ R.zs.tail.map (·.1), sl = .l y ∨ sl = .h y) ∨ ∃ p ∈ R.ss, sl = .s p.1 p.2 := by
  unfold slotsR at hs
  rcases List.mem_append.mp hs with hs | hs
  · rcases List.mem_cons.mp hs with hs | hs
    · obtain ⟨lag, rest, e, _⟩ := hR.ne
      exact .inl ⟨dotS, by rw [e]; simp, hs⟩
    · obtain ⟨y, hy, h⟩ := List.mem_flatMap.mp hs
      simp only [List.mem_cons, List.not_mem_nil, or_false] at h
      rcases h with h | h | h
      · exact .inl ⟨y.1, List.mem_map_of_mem (List.mem_of_mem_tail hy), h⟩
      · exact .inr (.inl ⟨y.1, List.mem_map_of_mem hy, .inl h⟩)
      · exact .inr (.inl ⟨y.1, List.mem_map_of_mem hy, .inr h⟩)
  · obtain ⟨p, hp, h⟩ := List.mem_map.mp hs
    exact .inr (.inr ⟨p, hp, h.symm⟩)
theorem home_in {R : Rm} (hR : RmIn R) {sl : Sl} (hs : sl ∈ slotsR R) : homeR R sl ∈ R.zs.map (·.1) := by
  rcases slots_cases hR hs with ⟨z, hz, rfl⟩ | ⟨y, hy, h⟩ | ⟨p, hp, rfl⟩
  · exact hz
  · obtain ⟨z, h1, h2⟩ := chL_last2 hR hy
    rcases h with rfl | rfl
    · show (chL R y).dropLast.getLast?.getD dotS ∈ _
      rw [h1]
      exact chL_in hR h2
    · show (chL R y).dropLast.getLast?.getD dotS ∈ _
      rw [h1]
      exact chL_in hR h2
  · obtain ⟨z, h1, h2⟩ := chL_last R p.1
    show (chL R p.1).getLast?.getD dotS ∈ _
    rw [h1]
    exact chL_in hR h2
theorem home_lag {R : Rm} (hR : RmIn R) {sl : Sl} (hs : sl ∈ slotsR R) : ∃ lag, (homeR R sl, lag) ∈ R.zs := by
  obtain ⟨z, hz, e⟩ := List.mem_map.mp (home_in hR hs)
  exact ⟨z.2, by rw [← e]; exact hz⟩
def spZoneOf (T : List (Addr × Str)) (K : PySem.W.Frag) : Sp := fun vs H Q _ => ∃ (a : Addr) (R : Rm) (n : Str), vs = [.ref a, .str n] ∧ SqT K H a ((R.zs.map (·.1)).map V.str) ∧ RmIn R ∧ nameB n = true ∧ LamX.Tabs T H ∧ ∀ H', Ext T [] H H' → Q (.str ((chL R n).getLast?.getD dotS)) H'
def spParent (T : List (Addr × Str)) : Sp := fun vs H Q _ => ∃ (v : V) (R : Rm) (z : Str), vs = [v, .str z] ∧ Im H v (rmD R) ∧ RmIn R ∧ z ∈ R.zs.tail.map (·.1) ∧ LamX.Tabs T H ∧ ∀ H', Ext T [] H H' → Q (.str ((chL R z).dropLast.getLast?.getD dotS)) H'
def spHomeP (T : List (Addr × Str)) : Sp := fun vs H Q _ => ∃ (v u : V) (R : Rm) (s : Sl), vs = [v, u] ∧ Im H v (rmD R) ∧ Im H u (slD s) ∧ RmIn R ∧ s ∈ slotsR R ∧ LamX.Tabs T H ∧ ∀ (H' : Hp), Ext T [] H H' → Q (.str (homeR R s)) H'
def spLagP (T : List (Addr × Str)) : Sp := fun vs H Q _ => ∃ (v u : V) (R : Rm) (s : Sl) (lag : Int), vs = [v, u] ∧ Im H v (rmD R) ∧ RmF H v R ∧ Im H u (slD s) ∧ RmIn R ∧ s ∈ slotsR R ∧ (homeR R s, lag) ∈ R.zs ∧ LamX.Tabs T H ∧ ∀ (H' : Hp), Ext T [] H H' → Q (.int lag) H'
theorem zs_len {R : Rm} (hR : RmIn R) : (R.zs.map (·.1)).length ≤ 100 ∧ ∀ z ∈ R.zs.map (·.1), z.length ≤ 1000 := by
  refine ⟨by rw [List.length_map]; have := hR.len; omega, fun z hz => ?_⟩
  obtain ⟨y, hy, rfl⟩ := List.mem_map.mp hz
  exact Nat.le_trans (name_len (hR.nm y hy)) (by decide)
theorem ok_zone_of (D : Def K mg "zone_of" s_zone_of ["zones", "name"]) (G_chain : Ok P w K mg base 4 "chain" ["zones", "name"] (spChain T K)) : Ok P w K mg base 5 "zone_of" ["zones", "name"] (spZoneOf T K) := by
  refine D.ok sc_zone_of (fun vs H Q E h => ?_) (fun cdv f A outer s H vs Q E hr h => ?_)
  · obtain ⟨a, R, n, rfl, _⟩ := h
    rfl
  · obtain ⟨a, R, n, rfl, ha, hR, hn, hT, q⟩ := h
    refine ⟨_, (pss_one (ps_ret (pe_ix (ix_U K rfl) (pe_callO G_chain (hr.mono (by decide)) (by rfl) (pa_cons (pv 0) (pa_cons (pv 1) pa_nil))) (pe_un un_neg pe_int) (fun _ _ => rfl)))), ?_⟩
    walk_at "rd"
    refine ⟨a, R.zs.map (·.1), n, rfl, .inr ha, (zs_len hR).1, (zs_len hR).2, Nat.le_trans (name_len hn) (by decide), hT, fun p H1 np e1 hp => ?_⟩
    rw [chainL_eq, chain_chL hR] at hp
    obtain ⟨z, h1, h2⟩ := chL_last R n
    walk_at "rd"
    refine rd_ixL (v := .str z) (SqL.of hp) (at_last (by rw [List.getLast?_map, h1]; rfl)) ?_
    have := q H1 e1
    rw [h1] at this
    exact this
theorem ok_parent (D : Def K mg "parent" s_parent ["realm", "zone"]) (G_zone_names : Ok P w K mg base 1 "zone_names" ["realm"] (spZn T)) (G_chain : Ok P w K mg base 4 "chain" ["zones", "name"] (spChain T K)) : Ok P w K mg base 5 "parent" ["realm", "zone"] (spParent T) := by
  refine D.ok sc_parent (fun vs H Q E h => ?_) (fun cdv f A outer s H vs Q E hr h => ?_)
  · obtain ⟨v, R, z, rfl, _⟩ := h
    rfl
  · obtain ⟨v, R, z, rfl, hv, hR, hz, hT, q⟩ := h
    refine ⟨_, (pss_one (ps_ret (pe_ix (ix_U K rfl) (pe_callO G_chain (hr.mono (by decide)) (by rfl) (pa_cons (pe_callO G_zone_names (hr.mono (by decide)) (by rfl) (pa_cons (pv 0) pa_nil)) (pa_cons (pv 1) pa_nil))) (pe_un un_neg pe_int) (fun _ _ => rfl)))), ?_⟩
    have hzn := (zin hR hz).1
    walk_at "rd"
    refine ⟨v, R, rfl, hv, hR, fun zp H1 nz e1 hz1 => ?_⟩
    walk_at "rd"
    refine ⟨zp, R.zs.map (·.1), z, rfl, .inr (SqT.of hz1), (zs_len hR).1, (zs_len hR).2, Nat.le_trans (name_len hzn) (by decide), e1.tabs hT, fun p H2 np e2 hp => ?_⟩
    rw [chainL_eq, chain_chL hR] at hp
    obtain ⟨y, h1, h2⟩ := chL_last2 hR hz
    walk_at "rd"
    refine rd_ixL (v := .str y) (SqL.of hp) (at_last2 (by rw [← List.map_dropLast, List.getLast?_map, h1]; rfl)) ?_
    have := q H2 (e1.trans e2)
    rw [h1] at this
    exact this
theorem ok_home (D : Def K mg "home" s_home ["realm", "slot"]) (G_zone_of : Ok P w K mg base 5 "zone_of" ["zones", "name"] (spZoneOf T K)) (G_zone_names : Ok P w K mg base 1 "zone_names" ["realm"] (spZn T)) (G_parent : Ok P w K mg base 5 "parent" ["realm", "zone"] (spParent T)) : Ok P w K mg base 6 "home" ["realm", "slot"] (spHomeP T) := by
  refine D.ok sc_home (fun vs H Q E h => ?_) (fun cdv f A outer s H vs Q E hr h => ?_)
  · obtain ⟨v, u, R, s, rfl, _⟩ := h
    rfl
  · obtain ⟨v, u, R, sl, rfl, hv, hu, hR, hs, hT, q⟩ := h
    refine ⟨_, (pss_cons (ps_if (pt_cmpR (op_eqU K rfl hr.units) (pe_ix (ix_U K rfl) (pv 1) pe_int (fun _ _ => rfl)) pe_str (nomark _)) (pss_one (ps_ret (pe_ix (ix_U K rfl) (pv 1) pe_int (fun _ _ => rfl)))) pss_nil)
   (pss_cons (ps_if (pt_cmpR (op_eqU K rfl hr.units) (pe_ix (ix_U K rfl) (pv 1) pe_int (fun _ _ => rfl)) pe_str (nomark _)) (pss_one (ps_ret (pe_callO G_zone_of (hr.mono (by decide)) (by rfl) (pa_cons (pe_callO G_zone_names (hr.mono (by decide)) (by rfl) (pa_cons (pv 0) pa_nil)) (pa_cons (pe_ix (ix_U K rfl) (pv 1) pe_int (fun _ _ => rfl)) pa_nil))))) pss_nil)
   (pss_one (ps_ret (pe_callO G_parent (hr.mono (by decide)) (by rfl) (pa_cons (pv 0) (pa_cons (pe_ix (ix_U K rfl) (pv 1) pe_int (fun _ _ => rfl)) pa_nil))))))), ?_⟩
    rcases slots_cases hR hs with ⟨z, hz, rfl⟩ | ⟨y, hy, hsl⟩ | ⟨p, hp, rfl⟩
    · have hu : Im H u (.tuple [.str (Str.ofString "keys"), .str z]) := hu
      walk_at "rd"
      refine rd_ixSs hu rfl ?_
      walk_at "rd"
      refine rd_ite (fun _ => ?_) (fun h => absurd rfl h)
      walk_at "rd"
      exact rd_ixSs hu rfl (q H .refl)
    · obtain ⟨kw, hk1, hk2, hu, hq⟩ : ∃ kw : Str, ¬ kw = Str.ofString "keys" ∧ ¬ kw = Str.ofString "set" ∧ Im H u (.tuple [.str kw, .str y]) ∧ homeR R sl = (chL R y).dropLast.getLast?.getD dotS := by
        rcases hsl with rfl | rfl
        · exact ⟨"link", by decide +kernel, by decide +kernel, hu, rfl⟩
        · exact ⟨"hosts", by decide +kernel, by decide +kernel, hu, rfl⟩
      rw [hq] at q
      walk_at "rd"
      refine rd_ixSs hu rfl ?_
      walk_at "rd"
      refine rd_ite (fun h => absurd h hk1) (fun _ => ?_)
      walk_at "rd"
      refine rd_ixSs hu rfl ?_
      walk_at "rd"
      refine rd_ite (fun h => absurd h hk2) (fun _ => ?_)
      walk_at "rd"
      refine rd_ixSs hu rfl ?_
      walk_at "rd"
      exact ⟨v, R, y, rfl, hv, hR, hy, hT, q⟩
    · have hu : Im H u (.tuple [.str (Str.ofString "set"), .str p.1, .str p.2]) := hu
      have hq : homeR R (.s p.1 p.2) = (chL R p.1).getLast?.getD dotS := rfl
      rw [hq] at q
      walk_at "rd"
      refine rd_ixSs hu rfl ?_
      walk_at "rd"
      refine rd_ite (fun h => absurd h (by decide +kernel)) (fun _ => ?_)
      walk_at "rd"
      refine rd_ixSs hu rfl ?_
      walk_at "rd"
      refine rd_ite (fun _ => ?_) (fun h => absurd rfl h)
      walk_at "rd"
      refine ⟨v, R, rfl, hv, hR, fun zp H1 nz e1 hz1 => ?_⟩
      walk_at "rd"
      refine rd_ixSs (hu.x e1) rfl ?_
      walk_at "rd"
      exact ⟨zp, R, p.1, rfl, SqT.of hz1, hR, (hR.sok p hp).1, e1.tabs hT, fun H2 e2 => q H2 (e1.trans e2)⟩
theorem rd_dget {td ty : TE} {σ : L2.St} {H : Hp} {Q : VK} (q : td σ H fun x H1 => ty σ H1 fun y H2 => ∃ a v, x = V.ref a ∧ DGet H2 a y (some v) ∧ Q v H2) : tDGet td ty σ H Q := q
theorem valV_mergeK_no {k : L2.Key} : ∀ (more acc : List (L2.Key × V)), (∀ p ∈ more, p.1 ≠ k) → valV (mergeK acc more) k = valV acc k
  | [], acc, _ => rfl
  | p :: more, acc, h => by
    show valV (mergeK (putK acc p.1 p.2) more) k = _
    rw [valV_mergeK_no more _ fun q hq => h q (List.mem_cons_of_mem _ hq), valV_put, if_neg fun e => h p List.mem_cons_self e.symm]
theorem valV_mergeK_in {k : L2.Key} {v : V} : ∀ (more acc : List (L2.Key × V)), (more.map (·.1)).Nodup → (k, v) ∈ more → valV (mergeK acc more) k = some v
  | [], _, _, h => by cases h
  | p :: more, acc, hn, h => by
    rw [List.map_cons, List.nodup_cons] at hn
    show valV (mergeK (putK acc p.1 p.2) more) k = _
    rcases List.mem_cons.mp h with e | h
    · rw [← e, valV_mergeK_no more _ fun q hq e2 => hn.1 (by rw [← e]; exact List.mem_map.mpr ⟨q, hq, e2⟩), valV_put, if_pos rfl]
    · exact valV_mergeK_in more _ hn.2 h
theorem zones_pairs {H : Hp} : ∀ {xs : List V} {zs : List (Str × Int)}, ImAll H xs (zs.map siD) → ∃ ps : List Addr, xs = ps.map V.ref ∧ Paired (fun p (kv : L2.Key × V) => SqT K H p [kV kv.1, kv.2]) ps (zs.map fun z => ((.inr z.1 : L2.Key), V.int z.2))
  | _, [], h => by
    cases h
    exact ⟨[], rfl, .nil⟩
  | _, z :: zs, h => by
    cases h with
    | cons a b =>
      obtain ⟨ps, e1, e2⟩ := zones_pairs b
      obtain ⟨ta, y1, y2, rfl, hta, g1, g2⟩ := a.pair'
      rw [g1.str', g2.int'] at hta
      exact ⟨ta :: ps, by rw [e1]; rfl, .cons hta.sq e2⟩
theorem ok_lag_of (D : Def K mg "lag_of" s_lag_of ["realm", "slot"]) (mb : ∀ x ∈ bltns, mg x = none) (G_home : Ok P w K mg base 6 "home" ["realm", "slot"] (spHomeP T)) : Ok P w K mg base 7 "lag_of" ["realm", "slot"] (spLagP T) := by
  refine D.ok sc_lag_of (fun vs H Q E h => ?_) (fun cdv f A outer s H vs Q E hr h => ?_)
  · obtain ⟨v, u, R, s, lag, rfl, _⟩ := h
    rfl
  · obtain ⟨v, u, R, sl, lag, rfl, hi, hv, hu, hR, hs, hz, hT, q⟩ := h
    refine ⟨_, (pss_one (ps_ret (pe_dget (hu_of hr) (pe_callTy (call_dictK K rfl rfl hr.units) (by rfl) (mb _ (by decide)) (by decide +kernel) (pa_cons (pe_ix (ix_U K rfl) (pv 0) pe_int (fun _ _ => rfl)) pa_nil)) (pe_callO G_home (hr.mono (by decide)) (by rfl) (pa_cons (pv 0) (pa_cons (pv 1) pa_nil))) (fun _ _ => rfl)))), ?_⟩
    obtain ⟨a, za, x, y, xs, o, rfl, ha, hza, hod, hxi⟩ := hv
    obtain ⟨ps, rfl, hp⟩ := zones_pairs (K := K) hxi
    walk_at "rd"
    refine rd_dget ?_
    walk_at "rd"
    refine rd_ixT (v := .ref za) (SqT.of ha) rfl ?_
    walk_at "rd"
    refine ⟨za, ps, _, rfl, ⟨o, hod, hza⟩, hp, fun d hd => ?_⟩
    obtain ⟨nd, e1, hd1⟩ := al_of (T := T) hd (rfl : upd H d (.dK (mergeK [] (R.zs.map fun z => ((.inr z.1 : L2.Key), V.int z.2)))) = _)
    generalize upd H d _ = H1 at e1 hd1 ⊢
    walk_at "rd"
    refine ⟨.ref a, u, R, sl, rfl, hi.x e1, hu.x e1, hR, hs, e1.tabs hT, fun H2 e2 => ?_⟩
    refine ⟨d, .int lag, rfl, .inl ⟨_, .inr (homeR R sl), .inl (e2.keep d _ (by simp) (fun _ z => by cases z) hd1), rfl, ?_⟩, q H2 (e1.trans e2)⟩
    refine (valV_mergeK_in _ _ ?_ (List.mem_map.mpr ⟨_, hz, rfl⟩)).symm
    rw [List.map_map, show ((fun p : L2.Key × V => p.1) ∘ fun z : Str × Int => ((.inr z.1 : L2.Key), V.int z.2)) = (fun z : Str => (.inr z : L2.Key)) ∘ (fun z : Str × Int => z.1) from rfl, ← List.map_map]
    exact nodup_mapI (fun a b h => Sum.inr.inj h) hR.nd
end
section
variable {T : List (Addr × Str)} {P : Program} {w : World} {K : PySem.W.Frag} {mg : Str → Option Value} {base : Heap}
local macro_rules | `(tactic| walk_at "tr") => `(tactic| first
  | assumption
  | exact Ext.refl
  | ((with_reducible refine' Im.x (T := T) (H := ?trH) ?tra ?tre); (case tre => assumption); (case tra => walk_at "tr"))
  | ((with_reducible refine' Im.y (T := T) (H := ?trH) ?tra ?tre ?trt); (case tre => assumption); (case trt => walk_at "tr"); (case tra => walk_at "tr"))
  | ((with_reducible refine' ImAll.x (T := T) (H := ?trH) ?tra ?tre); (case tre => assumption); (case tra => walk_at "tr"))
  | ((with_reducible refine' ImAll.y (T := T) (H := ?trH) ?tra ?tre ?trt); (case tre => assumption); (case trt => walk_at "tr"); (case tra => walk_at "tr"))
  | ((with_reducible refine' Ls.x (T := T) (H := ?trH) ?tra ?tre); (case tre => assumption); (case tra => walk_at "tr"))
  | ((with_reducible refine' Ls.y (T := T) (H := ?trH) ?tra ?tre ?trn ?trt); (case tre => assumption); (case trt => walk_at "tr"); (case trn => walk_at "tr"); (case tra => walk_at "tr"))
  | ((with_reducible refine' SqP.x (T := T) (H := ?trH) ?tra ?tre); (case tre => assumption); (case tra => walk_at "tr"))
  | ((with_reducible refine' SqP.y (T := T) (H := ?trH) ?tra ?tre ?trt); (case tre => assumption); (case trt => walk_at "tr"); (case tra => walk_at "tr"))
  | ((with_reducible refine' StAt.x (T := T) (H := ?trH) ?tra ?tre); (case tre => assumption); (case tra => walk_at "tr"))
  | ((with_reducible refine' StAt.y (T := T) (H := ?trH) ?tra ?tre ?trt); (case tre => assumption); (case trt => walk_at "tr"); (case tra => walk_at "tr"))
  | ((with_reducible refine' Pools.ext0 (T := T) (H := ?trH) ?tra ?tre); (case tre => assumption); (case tra => walk_at "tr"))
  | ((with_reducible refine' Pools.ext (T := T) (H := ?trH) ?tra ?tre ?trt); (case tre => assumption); (case trt => walk_at "tr"); (case tra => walk_at "tr"))
  | ((with_reducible refine' CL.x (T := T) (H := ?trH) ?tra ?tre); (case tre => assumption); (case tra => walk_at "tr"))
  | ((with_reducible refine' CL.y (T := T) (H := ?trH) ?tra ?tre); (case tre => assumption); (case tra => walk_at "tr"))
  | ((with_reducible refine' Tape.ext (T := T) (H := ?trH) ?tra ?tre); (case tre => assumption); (case tra => walk_at "tr"))
  | ((with_reducible refine' lst.x (T := T) (H := ?trH) ?tra ?tre); (case tre => assumption); (case tra => walk_at "tr"))
  | ((with_reducible refine' lst.y (T := T) (H := ?trH) ?tra ?tre ?trn); (case tre => assumption); (case trn => walk_at "tr"); (case tra => walk_at "tr"))
  | ((with_reducible refine' tup.x (T := T) (H := ?trH) ?tra ?tre); (case tre => assumption); (case tra => walk_at "tr"))
  | ((with_reducible refine' tup.y (T := T) (H := ?trH) ?tra ?tre ?trt); (case tre => assumption); (case trt => walk_at "tr"); (case tra => walk_at "tr"))
  | ((with_reducible refine' frz.x (T := T) (H := ?trH) ?tra ?tre); (case tre => assumption); (case tra => walk_at "tr"))
  | ((with_reducible refine' frz.y (T := T) (H := ?trH) ?tra ?tre ?trt); (case tre => assumption); (case trt => walk_at "tr"); (case tra => walk_at "tr"))
  | ((with_reducible refine' Im.z (T := T) (H := ?trH) ?tra ?tre ?trt); (case tre => assumption); (case trt => assumption); (case tra => walk_at "tr"))
  | ((with_reducible refine' ImAll.z (T := T) (H := ?trH) ?tra ?tre ?trt); (case tre => assumption); (case trt => assumption); (case tra => walk_at "tr"))
  | ((with_reducible refine' StAt.z (T := T) (H := ?trH) ?tra ?tre ?trt); (case tre => assumption); (case trt => assumption); (case tra => walk_at "tr"))
  | ((with_reducible refine' SqP.z (T := T) (H := ?trH) ?tra ?tre ?trt); (case tre => assumption); (case trt => assumption); (case tra => walk_at "tr"))
  | ((with_reducible refine' tup.z (T := T) (H := ?trH) ?tra ?tre ?trt); (case tre => assumption); (case trt => assumption); (case tra => walk_at "tr"))
  | ((with_reducible refine' Ls.z (T := T) (H := ?trH) ?tra ?tre ?trt ?trn); (case tre => assumption); (case trt => assumption); (case trn => assumption); (case tra => walk_at "tr"))
  | ((with_reducible refine' lst.z (T := T) (H := ?trH) ?tra ?tre ?trn); (case tre => assumption); (case trn => assumption); (case tra => walk_at "tr"))
  | ((with_reducible refine' CL.z (T := T) (H := ?trH) ?tra ?tre ?trn); (case tre => assumption); (case trn => assumption); (case tra => walk_at "tr"))
  | ((with_reducible refine' Tape.ne1 (H := ?trH) ?trt ?trn); (case trn => assumption); (case trt => walk_at "tr"))
  | ((with_reducible refine' Ext.trans (H1 := ?trH) ?tra (Ext.any ?tre)); (case tre => assumption); (case tra => walk_at "tr"))
  | ((with_reducible refine' Ext.trans (H1 := ?trH) ?tra ?tre); (case tre => assumption); (case tra => walk_at "tr"))
  | ((with_reducible refine' Ext.back1 (T := T) (H1 := ?trH) ?tre ?trn ?tra); (case tra => assumption); (case trn => walk_at "tr"); (case tre => walk_at "tr"))
  | ((with_reducible refine' Ext.back0 (T := T) (H1 := ?trH) ?tre ?tra); (case tra => assumption); (case tre => walk_at "tr"))
  | ((with_reducible refine' SqT.of ?tra); (case tra => walk_at "tr"))
  | ((with_reducible refine' SqL.of ?tra); (case tra => walk_at "tr")))
local macro_rules | `(tactic| walk_at "al") => `(tactic| (refine ⟨by first | (show _ ≤ sizeLine; decide) | walk_at "sz", ?_⟩; intro alp aln; generalize alG : upd _ alp _ = alH; obtain ⟨aln2, alx, alh⟩ := al_of (T := T) aln alG; clear alG aln))
local macro_rules | `(tactic| walk_at "al0") => `(tactic| (intro alp aln; generalize alG : upd _ alp _ = alH; obtain ⟨aln2, alx, alh⟩ := al_of (T := T) aln alG; clear alG aln))
/-! ### the item of a slot -/
def slK : Sl → List L2.Key
  | .k z => [.inr "keys", .inr z]
  | .l z => [.inr "link", .inr z]
  | .h z => [.inr "hosts", .inr z]
  | .s n k => [.inr "set", .inr n, .inr k]
theorem slD_K (s : Sl) : ∃ (x : Str) (l : List Str), slD s = .tuple ((x :: l).map .str) ∧ slK s = (x :: l).map .inr := by
  cases s with
  | k z => exact ⟨"keys", [z], rfl, rfl⟩
  | l z => exact ⟨"link", [z], rfl, rfl⟩
  | h z => exact ⟨"hosts", [z], rfl, rfl⟩
  | s n k => exact ⟨"set", [n, k], rfl, rfl⟩
theorem Im.slot {H : Hp} {v : V} {s : Sl} (h : Im H v (slD s)) : ∃ b, v = .ref b ∧ H b = some (.tup ((slK s).map kV)) := by
  obtain ⟨x, l, h1, h2⟩ := slD_K s
  rw [h1] at h
  obtain ⟨a, xs, rfl, h3, h4⟩ := Im.tupS (d := .str x) (ds := l.map .str) h (fun _ e => by cases e)
  have h5 := ImAll.strs' (zs := x :: l) h4
  subst h5
  refine ⟨a, rfl, ?_⟩
  rw [h2, List.map_map]
  exact h3
end
structure Cst (mg : Str → Option Value) : Prop where
  c_LETTERS : ∃ t, mg "LETTERS" = some (.str lettersS t)
  c_MAX_ID : ∃ t, mg "MAX_ID" = some (.int 4 t)
  c_MAX_LABEL : ∃ t, mg "MAX_LABEL" = some (.int 8 t)
  c_MAX_LABELS : ∃ t, mg "MAX_LABELS" = some (.int 4 t)
  c_MAX_TIME : ∃ t, mg "MAX_TIME" = some (.int 10000 t)
  c_MAX_LIFE : ∃ t, mg "MAX_LIFE" = some (.int 1000 t)
  c_MAX_LAG : ∃ t, mg "MAX_LAG" = some (.int 100 t)
  c_MAX_ZONES : ∃ t, mg "MAX_ZONES" = some (.int 6 t)
  c_MAX_ANCHORS : ∃ t, mg "MAX_ANCHORS" = some (.int 3 t)
  c_MAX_SETS : ∃ t, mg "MAX_SETS" = some (.int 8 t)
  c_MAX_IDS : ∃ t, mg "MAX_IDS" = some (.int 4 t)
  c_MAX_SIGNERS : ∃ t, mg "MAX_SIGNERS" = some (.int 3 t)
  c_MAX_PLAN : ∃ t, mg "MAX_PLAN" = some (.int 12 t)
section
variable {T : List (Addr × Str)} {P : Program} {w : World} {K : PySem.W.Frag} {mg : Str → Option Value} {base : Heap}
local macro_rules | `(tactic| walk_at "tr") => `(tactic| first
  | assumption
  | exact Ext.refl
  | ((with_reducible refine' Im.x (T := T) (H := ?trH) ?tra ?tre); (case tre => assumption); (case tra => walk_at "tr"))
  | ((with_reducible refine' Im.y (T := T) (H := ?trH) ?tra ?tre ?trt); (case tre => assumption); (case trt => walk_at "tr"); (case tra => walk_at "tr"))
  | ((with_reducible refine' ImAll.x (T := T) (H := ?trH) ?tra ?tre); (case tre => assumption); (case tra => walk_at "tr"))
  | ((with_reducible refine' ImAll.y (T := T) (H := ?trH) ?tra ?tre ?trt); (case tre => assumption); (case trt => walk_at "tr"); (case tra => walk_at "tr"))
  | ((with_reducible refine' Ls.x (T := T) (H := ?trH) ?tra ?tre); (case tre => assumption); (case tra => walk_at "tr"))
  | ((with_reducible refine' Ls.y (T := T) (H := ?trH) ?tra ?tre ?trn ?trt); (case tre => assumption); (case trt => walk_at "tr"); (case trn => walk_at "tr"); (case tra => walk_at "tr"))
  | ((with_reducible refine' SqP.x (T := T) (H := ?trH) ?tra ?tre); (case tre => assumption); (case tra => walk_at "tr"))
  | ((with_reducible refine' SqP.y (T := T) (H := ?trH) ?tra ?tre ?trt); (case tre => assumption); (case trt => walk_at "tr"); (case tra => walk_at "tr"))
  | ((with_reducible refine' StAt.x (T := T) (H := ?trH) ?tra ?tre); (case tre => assumption); (case tra => walk_at "tr"))
  | ((with_reducible refine' StAt.y (T := T) (H := ?trH) ?tra ?tre ?trt); (case tre => assumption); (case trt => walk_at "tr"); (case tra => walk_at "tr"))
  | ((with_reducible refine' Pools.ext0 (T := T) (H := ?trH) ?tra ?tre); (case tre => assumption); (case tra => walk_at "tr"))
  | ((with_reducible refine' Pools.ext (T := T) (H := ?trH) ?tra ?tre ?trt); (case tre => assumption); (case trt => walk_at "tr"); (case tra => walk_at "tr"))
  | ((with_reducible refine' CL.x (T := T) (H := ?trH) ?tra ?tre); (case tre => assumption); (case tra => walk_at "tr"))
  | ((with_reducible refine' CL.y (T := T) (H := ?trH) ?tra ?tre); (case tre => assumption); (case tra => walk_at "tr"))
  | ((with_reducible refine' Tape.ext (T := T) (H := ?trH) ?tra ?tre); (case tre => assumption); (case tra => walk_at "tr"))
  | ((with_reducible refine' lst.x (T := T) (H := ?trH) ?tra ?tre); (case tre => assumption); (case tra => walk_at "tr"))
  | ((with_reducible refine' lst.y (T := T) (H := ?trH) ?tra ?tre ?trn); (case tre => assumption); (case trn => walk_at "tr"); (case tra => walk_at "tr"))
  | ((with_reducible refine' tup.x (T := T) (H := ?trH) ?tra ?tre); (case tre => assumption); (case tra => walk_at "tr"))
  | ((with_reducible refine' tup.y (T := T) (H := ?trH) ?tra ?tre ?trt); (case tre => assumption); (case trt => walk_at "tr"); (case tra => walk_at "tr"))
  | ((with_reducible refine' frz.x (T := T) (H := ?trH) ?tra ?tre); (case tre => assumption); (case tra => walk_at "tr"))
  | ((with_reducible refine' frz.y (T := T) (H := ?trH) ?tra ?tre ?trt); (case tre => assumption); (case trt => walk_at "tr"); (case tra => walk_at "tr"))
  | ((with_reducible refine' Im.z (T := T) (H := ?trH) ?tra ?tre ?trt); (case tre => assumption); (case trt => assumption); (case tra => walk_at "tr"))
  | ((with_reducible refine' ImAll.z (T := T) (H := ?trH) ?tra ?tre ?trt); (case tre => assumption); (case trt => assumption); (case tra => walk_at "tr"))
  | ((with_reducible refine' StAt.z (T := T) (H := ?trH) ?tra ?tre ?trt); (case tre => assumption); (case trt => assumption); (case tra => walk_at "tr"))
  | ((with_reducible refine' SqP.z (T := T) (H := ?trH) ?tra ?tre ?trt); (case tre => assumption); (case trt => assumption); (case tra => walk_at "tr"))
  | ((with_reducible refine' tup.z (T := T) (H := ?trH) ?tra ?tre ?trt); (case tre => assumption); (case trt => assumption); (case tra => walk_at "tr"))
  | ((with_reducible refine' Ls.z (T := T) (H := ?trH) ?tra ?tre ?trt ?trn); (case tre => assumption); (case trt => assumption); (case trn => assumption); (case tra => walk_at "tr"))
  | ((with_reducible refine' lst.z (T := T) (H := ?trH) ?tra ?tre ?trn); (case tre => assumption); (case trn => assumption); (case tra => walk_at "tr"))
  | ((with_reducible refine' CL.z (T := T) (H := ?trH) ?tra ?tre ?trn); (case tre => assumption); (case trn => assumption); (case tra => walk_at "tr"))
  | ((with_reducible refine' Tape.ne1 (H := ?trH) ?trt ?trn); (case trn => assumption); (case trt => walk_at "tr"))
  | ((with_reducible refine' Ext.trans (H1 := ?trH) ?tra (Ext.any ?tre)); (case tre => assumption); (case tra => walk_at "tr"))
  | ((with_reducible refine' Ext.trans (H1 := ?trH) ?tra ?tre); (case tre => assumption); (case tra => walk_at "tr"))
  | ((with_reducible refine' Ext.back1 (T := T) (H1 := ?trH) ?tre ?trn ?tra); (case tra => assumption); (case trn => walk_at "tr"); (case tre => walk_at "tr"))
  | ((with_reducible refine' Ext.back0 (T := T) (H1 := ?trH) ?tre ?tra); (case tra => assumption); (case tre => walk_at "tr"))
  | ((with_reducible refine' SqT.of ?tra); (case tra => walk_at "tr"))
  | ((with_reducible refine' SqL.of ?tra); (case tra => walk_at "tr")))
local macro_rules | `(tactic| walk_at "al") => `(tactic| (refine ⟨by first | (show _ ≤ sizeLine; decide) | walk_at "sz", ?_⟩; intro alp aln; generalize alG : upd _ alp _ = alH; obtain ⟨aln2, alx, alh⟩ := al_of (T := T) aln alG; clear alG aln))
local macro_rules | `(tactic| walk_at "al0") => `(tactic| (intro alp aln; generalize alG : upd _ alp _ = alH; obtain ⟨aln2, alx, alh⟩ := al_of (T := T) aln alG; clear alG aln))
/-- data in, a truth value out -/
def spDB (T : List (Addr × Str)) (f : PyData → Bool) : Sp := fun vs H Q _ => ∃ (v : V) (d : PyData), vs = [v] ∧ Im H v d ∧ Sm d ∧ ∀ H', Ext T [] H H' → Q (.bl (f d)) H'
def spWordD (T : List (Addr × Str)) : Sp := fun vs H Q _ => ∃ (v : V) (d : PyData) (ls : Str) (m : Int), vs = [v, .str ls, .int m] ∧ Im H v d ∧ Sm d ∧ ∀ H', Ext T [] H H' → Q (.bl (wordD ls m d)) H'
def spIntD : Sp := fun vs H Q _ => ∃ (v : V) (d : PyData) (lo hi : Int), vs = [v, .int lo, .int hi] ∧ Im H v d ∧ Q (.bl (intB lo hi d)) H
def spTupD : Sp := fun vs H Q _ => ∃ (v : V) (d : PyData) (lo hi : Int), vs = [v, .int lo, .int hi] ∧ Im H v d ∧ Q (.bl (tupB lo hi d)) H
theorem ok_is_integer_in (D : Def K mg "is_integer_in" s_is_integer_in ["value", "least", "most"]) (mb : ∀ x ∈ bltns, mg x = none) : Ok P w K mg base 1 "is_integer_in" ["value", "least", "most"] spIntD := by
  refine D.ok sc_is_integer_in (fun vs H Q E h => ?_) (fun cdv f A outer s H vs Q E hr h => ?_)
  · obtain ⟨v, d, lo, hi, rfl, _⟩ := h
    rfl
  · obtain ⟨v, d, lo, hi, rfl, hv, q⟩ := h
    refine ⟨_, (pss_one (ps_ret (pe_and (pe_callB (call_isiU K rfl) (by rfl) (mb _ (by decide)) (by decide +kernel) (pa_cons (pv 0) (pa_cons (pe_bltn (v := .ty "int") (u := .type "int") (by rfl) (mb _ (by decide)) (by decide +kernel) rfl) pa_nil))) (pe_and (pe_not (pe_callB (call_isiU K rfl) (by rfl) (mb _ (by decide)) (by decide +kernel) (pa_cons (pv 0) (pa_cons (pe_bltn (v := .ty "bool") (u := .type "bool") (by rfl) (mb _ (by decide)) (by decide +kernel) rfl) pa_nil)))) (pe_one (pe_chain op_le op_le (pv 1) (pv 0) (pv 2))))))), ?_⟩
    walk_at "rd"
    refine rd_isIntD hv ?_
    rcases hv.cases4 with rfl | ⟨i, rfl⟩ | ⟨z, rfl⟩ | ⟨ds, rfl⟩
    · walk_at "rd"
      exact q
    · obtain rfl := hv.int'
      rw [show isInt (PyData.int i) = true from rfl]
      walk_at "rd"
      refine rd_isBlI ?_
      walk_at "rd"
      refine rd_ite (fun c => ?_) (fun c => ?_)
      · walk_at "rd"
        have q : Q (.bl (decide (lo ≤ i) && decide (i ≤ hi))) H := q
        rw [decide_eq_true c, Bool.true_and] at q
        exact q
      · have q : Q (.bl (decide (lo ≤ i) && decide (i ≤ hi))) H := q
        rw [decide_eq_false c, Bool.false_and] at q
        exact q
    · walk_at "rd"
      exact q
    · walk_at "rd"
      exact q
theorem ok_is_tuple_of (D : Def K mg "is_tuple_of" s_is_tuple_of ["value", "least", "most"]) (mb : ∀ x ∈ bltns, mg x = none) : Ok P w K mg base 1 "is_tuple_of" ["value", "least", "most"] spTupD := by
  refine D.ok sc_is_tuple_of (fun vs H Q E h => ?_) (fun cdv f A outer s H vs Q E hr h => ?_)
  · obtain ⟨v, d, lo, hi, rfl, _⟩ := h
    rfl
  · obtain ⟨v, d, lo, hi, rfl, hv, q⟩ := h
    refine ⟨_, (pss_one (ps_ret (pe_and (pe_callB (call_isiU K rfl) (by rfl) (mb _ (by decide)) (by decide +kernel) (pa_cons (pv 0) (pa_cons (pe_bltn (v := .ty "tuple") (u := .type "tuple") (by rfl) (mb _ (by decide)) (by decide +kernel) rfl) pa_nil))) (pe_one (pe_chain op_le op_le (pv 1) (pe_callB (call_lenU K rfl) (by rfl) (mb _ (by decide)) (by decide +kernel) (pa_cons (pv 0) pa_nil)) (pv 2)))))), ?_⟩
    walk_at "rd"
    refine rd_isTupD hv ?_
    rcases hv.cases4 with rfl | ⟨i, rfl⟩ | ⟨z, rfl⟩ | ⟨ds, rfl⟩
    · walk_at "rd"
      exact q
    · walk_at "rd"
      exact q
    · walk_at "rd"
      exact q
    · obtain ⟨a, xs, rfl, ha, hi'⟩ := hv.tup'
      rw [show isTup (PyData.tuple ds) = true from rfl]
      walk_at "rd"
      refine rd_lenT (SqP.sq ha) ?_
      walk_at "rd"
      have q : Q (.bl (decide (lo ≤ (ds.length : Int)) && decide ((ds.length : Int) ≤ hi))) H := q
      rw [← hi'.len] at q
      refine rd_ite (fun c => ?_) (fun c => ?_)
      · walk_at "rd"
        rw [decide_eq_true c, Bool.true_and] at q
        exact q
      · rw [decide_eq_false c, Bool.false_and] at q
        exact q
theorem ok_is_word (D : Def K mg "is_word" s_is_word ["text", "letters", "most"]) (mb : ∀ x ∈ bltns, mg x = none) : Ok P w K mg base 1 "is_word" ["text", "letters", "most"] (spWordD T) := by
  refine D.ok sc_is_word (fun vs H Q E h => ?_) (fun cdv f A outer s H vs Q E hr h => ?_)
  · obtain ⟨v, d, ls, m, rfl, _⟩ := h
    rfl
  · obtain ⟨v, d, ls, m, rfl, hv, hz, q⟩ := h
    refine ⟨_, (pss_one (ps_ret (pe_and (pe_callB (call_isiU K rfl) (by rfl) (mb _ (by decide)) (by decide +kernel) (pa_cons (pv 0) (pa_cons (pe_bltn (v := .ty "str") (u := .type "str") (by rfl) (mb _ (by decide)) (by decide +kernel) rfl) pa_nil))) (pe_and (pe_chain op_le op_le pe_int (pe_callB (call_lenU K rfl) (by rfl) (mb _ (by decide)) (by decide +kernel) (pa_cons (pv 0) pa_nil)) (pv 2)) (pe_one (pe_callB (call_allU K rfl rfl) (by rfl) (mb _ (by decide)) (by decide +kernel) (pa_cons (pe_lc (own := [("letter", 3)]) (g := gName 3) (tt := tYes) rfl sc_is_word.nd (pi_str (pv 0)) (blkOk_by (N := N_is_word) (sc := defScope s_is_word) (by decide +kernel)) (fun _ _ _ _ _ => (pg_name (i := 3) sc_is_word.nd rfl (Or.inl rfl))) (fun _ _ _ _ _ => pts_nil) (fun _ _ _ _ _ => (pe_cmpR (op_inW K rfl (Room.units65 hr)) (pv 3) (pv 1) rfl))) pa_nil))))))), ?_⟩
    walk_at "rd"
    refine rd_isStrD hv ?_
    rcases hv.cases4 with rfl | ⟨i, rfl⟩ | ⟨z, rfl⟩ | ⟨ds, rfl⟩
    · walk_at "rd"
      exact q H .refl
    · walk_at "rd"
      exact q H .refl
    · obtain rfl := hv.str'
      have hz : z.length ≤ 1000 := hz
      have hz2 : z.length ≤ sizeLine := Nat.le_trans hz (by decide)
      have q' : ∀ (H' : Hp) {b : Bool}, Ext T [] H H' → wordB z ls m = b → Q (.bl b) H' := fun H' b e h => by
        rw [← h]
        exact q H' e
      unfold wordB at q'
      rw [show isStr (PyData.str z) = true from rfl]
      walk_at "rd"
      refine rd_ite (fun h1 => ?_) (fun h1 => ?_)
      · walk_at "rd"
        refine rd_ite (fun h2 => ?_) (fun h2 => ?_)
        · walk_at "rd"
          refine lcg_str T [] (fun _ => true) (fun v => .bl (match v with | .str x => decide ((sg x).headD 0 ∈ sg ls) | _ => false)) (Nat.lt_of_le_of_lt hz (by decide)) (by simp) (fun x hx H' e R S h1 h2 => ?_) (fun D H2 nw e hD => ?_)
          · obtain ⟨c, hc, rfl⟩ := List.mem_map.mp hx
            walk_at "rd"
            exact .inl (rd_inS (h1 rfl H' .refl))
          · walk_at "rd"
            refine rd_all (bs := (sg z).map fun c => decide (c ∈ sg ls)) (SqL.of (by rw [hD, filtT, chrs, List.map_map, List.map_map]; rfl)) (q' _ e ?_)
            rw [decide_eq_true h1, decide_eq_true h2, List.all_map]
            rfl
        · exact q' H .refl (by rw [decide_eq_false h2, Bool.false_and, Bool.and_false])
      · walk_at "rd"
        exact q' H .refl (by rw [decide_eq_false h1, Bool.false_and])
    · walk_at "rd"
      exact q H .refl
theorem ok_is_id (D : Def K mg "is_id" s_is_id ["text"]) (M : Cst mg) (G_is_word : Ok P w K mg base 1 "is_word" ["text", "letters", "most"] (spWordD T)) : Ok P w K mg base 2 "is_id" ["text"] (spDB T idD) := by
  refine D.ok sc_is_id (fun vs H Q E h => ?_) (fun cdv f A outer s H vs Q E hr h => ?_)
  · obtain ⟨v, d, rfl, _⟩ := h
    rfl
  · obtain ⟨v, d, rfl, hv, hz, q⟩ := h
    refine ⟨_, (pss_one (ps_ret (pe_callO G_is_word (hr.mono (by decide)) (by rfl) (pa_cons (pv 0) (pa_cons (pe_glS (by rfl) M.c_LETTERS) (pa_cons (pe_glI (by rfl) M.c_MAX_ID) pa_nil)))))), ?_⟩
    walk_at "rd"
    refine ⟨v, d, lettersS, 4, rfl, hv, hz, fun H1 e1 => ?_⟩
    have := q H1 e1
    cases d <;> exact this
/-- a tuple or a list of data of one kind -/
def spAsc (T : List (Addr × Str)) (K : PySem.W.Frag) : Sp := fun vs H Q _ => ∃ (a : Addr) (xs : List V) (ds : List PyData), vs = [.ref a] ∧ (SqP H a xs ∨ H a = some (.lst xs)) ∧ ImAll H xs ds ∧ Alike1 ds ∧ ds.length ≤ 1000 ∧ ∀ H', Ext T [] H H' → Q (.bl (ascD ds)) H'
theorem ok_is_ascending (D : Def K mg "is_ascending" s_is_ascending ["values"]) (mb : ∀ x ∈ bltns, mg x = none) : Ok P w K mg base 1 "is_ascending" ["values"] (spAsc T K) := by
  refine D.ok sc_is_ascending (fun vs H Q E h => ?_) (fun cdv f A outer s H vs Q E hr h => ?_)
  · obtain ⟨a, xs, ds, rfl, _⟩ := h
    rfl
  · obtain ⟨a, xs, ds, rfl, ha, hi, hal, hl, q⟩ := h
    refine ⟨_, (pss_one (ps_ret (pe_callB (call_allU K rfl rfl) (by rfl) (mb _ (by decide)) (by decide +kernel) (pa_cons (pe_lc (own := [("low", 1), ("high", 2)]) (tt := tYes) rfl sc_is_ascending.nd (pi_zipAU K rfl (by rfl) (mb _ (by decide)) (pa_cons (pv 0) (pa_cons (pe_slice (sl_U2 K rfl) (pv 0) (po_some pe_int) po_none) pa_nil))) (blkOk_by (N := N_is_ascending) (sc := defScope s_is_ascending) (by decide +kernel)) (fun _ _ _ _ _ => (pg_tupU (n := 2) K rfl rfl (pgs_cons (pg_name (i := 1) sc_is_ascending.nd rfl (Or.inl rfl)) (pgs_cons (pg_name (i := 2) sc_is_ascending.nd rfl (Or.inl rfl)) pgs_nil)))) (fun _ _ _ _ _ => pts_nil) (fun _ _ _ _ _ => (pe_cmpR (op_ltD K rfl (Room.units65 hr)) (pv 1) (pv 2) (nomark _)))) pa_nil)))), ?_⟩
    have hxl : xs.length = ds.length := hi.len
    have hlt : ∀ (n : Nat) (i : Nat) (x y : V) (H' : Hp), xs[i]? = some x → (xs.drop 1)[i]? = some y → ImAll H' xs ds → ∀ Q' : VK, Q' (.bl (ltAt ds i)) H' → rLtD K x y H' Q' := fun n i x y H' hx hy hi' Q' hq => by
      obtain ⟨d, hd, hxd⟩ := hi'.get' hx
      rw [List.getElem?_drop] at hy
      obtain ⟨e, he, hye⟩ := hi'.get' hy
      rw [Nat.add_comm] at he
      have h1 := hal d (List.mem_of_getElem? hd) e (List.mem_of_getElem? he)
      refine rd_ltD hxd hye h1.1 h1.2.1 (Nat.le_trans h1.2.2 (by decide)) ?_
      unfold ltAt at hq
      rw [hd, he] at hq
      exact hq
    have fin : ∀ (H' : Hp) (D : Addr), Ext T [] H H' → H' D = some (.lst ((List.range (ds.length - 1)).map fun i => V.bl (ltAt ds i))) → tCB (rAll K) (tCons (tC (.ref D)) tNil) [] H' Q := fun H' D e hD => by
      walk_at "rd"
      refine rd_all (bs := (List.range (ds.length - 1)).map (ltAt ds)) (SqL.of (by rw [hD, List.map_map]; rfl)) ?_
      rw [List.all_map, show (id ∘ ltAt ds) = ltAt ds from rfl, ← ascD_at]
      exact q H' e
    have go : ∀ (J : It) (G : Hp → Prop) (n : Nat) (H1 : Hp), n = ds.length - 1 → Ext T [] H H1 → Walk J n G (YPair (fun i => xs[i]?) (fun i => (xs.drop 1)[i]?)) → (∀ H', Ext T [] H1 H' → G H') → LcG J (gTupU K 2 (gCons (gName 1) (gCons (gName 2) gNil))) tYes (tOp (rLtD K) (tVar 1) (tVar 2)) [1, 2] (start ["values", "low", "high"] [.ref a]) H1 fun x H2 => tCB (rAll K) (tCons (tC x) tNil) [] H2 Q := fun J G n H1 hn e1 w hG => by
      subst hn
      refine lcg_zipG T w hG (Nat.lt_of_le_of_lt (show ds.length - 1 ≤ 1000 by omega) (by decide)) (fun i => .bl (ltAt ds i)) (fun i x y t hx hy H' e' ht R hR => ?_) (fun D H2 nD e2 hD => fin H2 D (e1.trans e2) hD)
      refine rd_gtup (SqT.of ht) rfl ?_
      walk_at "rd"
      refine ⟨by rw [wipe_set (by decide), wipe_set (by decide), wipe_wipe], ?_⟩
      walk_at "rd"
      exact hlt 0 i x y H' hx hy ((hi.x e1).x e') _ (hR H' .refl)
    walk_at "rd"
    rcases ha with ha | ha
    · by_cases h0 : xs.length = 0
      · have hx0 : xs = [] := List.eq_nil_of_length_eq_zero h0
        have hd0 : ds = [] := List.eq_nil_of_length_eq_zero (by omega)
        subst hx0
        refine .inr ⟨a, [], rfl, SqP.sq ha, rfl, rfl, ?_⟩
        walk_at "rd"
        refine ⟨a, a, [], [], rfl, .inr ⟨SqP.sq ha, SqP.sq ha, ?_⟩⟩
        exact go _ _ 0 H (by rw [hd0]; rfl) .refl (walk_zipT (xs := []) (ys := []) rfl) (fun H' e => ⟨SqP.sq (SqP.x ha e), SqP.sq (SqP.x ha e)⟩)
      · refine .inl (rd_slT (SqP.sq ha) (fun h => ?_) fun sp nsp => ?_)
        · have h1 := h.1
          rw [show HT.sIx xs.length 0 (some 1) = min 1 xs.length from HT.sIx_nat xs.length 0 1] at h1
          omega
        rw [cutV_from (α := V) xs (by decide), show Int.toNat 1 = 1 from rfl]
        obtain ⟨_, e1, hs1⟩ := alT (T := T) nsp (xs.drop 1)
        generalize upd H sp _ = H1 at e1 hs1 ⊢
        walk_at "rd"
        refine ⟨a, sp, xs, xs.drop 1, rfl, .inr ⟨SqP.sq (SqP.x ha e1), SqT.of hs1, ?_⟩⟩
        exact go _ _ (ds.length - 1) H1 rfl e1 (walk_zipT (xs := xs) (ys := xs.drop 1) (by rw [List.length_drop]; omega)) (fun H' e => ⟨SqP.sq (SqP.x (SqP.x ha e1) e), SqT.of (tup.x hs1 e)⟩)
    · refine .inl (rd_slL (SqL.of ha) fun sp nsp => ?_)
      rw [cutV_from (α := V) xs (by decide), show Int.toNat 1 = 1 from rfl]
      obtain ⟨_, e1, hs1⟩ := alL (T := T) nsp (xs.drop 1)
      generalize upd H sp _ = H1 at e1 hs1 ⊢
      walk_at "rd"
      refine ⟨a, sp, xs, xs.drop 1, rfl, .inl ⟨SqL.of (lst.x ha e1), SqL.of hs1, ?_⟩⟩
      exact go _ _ (ds.length - 1) H1 rfl e1 (walk_zip (xs := xs) (ys := xs.drop 1) (by rw [List.length_drop]; omega)) (fun H' e => ⟨SqL.of (lst.x (lst.x ha e1) e), SqL.of (lst.x hs1 e)⟩)
end
section
variable {T : List (Addr × Str)} {P : Program} {w : World} {K : PySem.W.Frag} {mg : Str → Option Value} {base : Heap}
local macro_rules | `(tactic| walk_at "tr") => `(tactic| first
  | assumption
  | exact Ext.refl
  | ((with_reducible refine' Im.x (T := T) (H := ?trH) ?tra ?tre); (case tre => assumption); (case tra => walk_at "tr"))
  | ((with_reducible refine' Im.y (T := T) (H := ?trH) ?tra ?tre ?trt); (case tre => assumption); (case trt => walk_at "tr"); (case tra => walk_at "tr"))
  | ((with_reducible refine' ImAll.x (T := T) (H := ?trH) ?tra ?tre); (case tre => assumption); (case tra => walk_at "tr"))
  | ((with_reducible refine' ImAll.y (T := T) (H := ?trH) ?tra ?tre ?trt); (case tre => assumption); (case trt => walk_at "tr"); (case tra => walk_at "tr"))
  | ((with_reducible refine' Ls.x (T := T) (H := ?trH) ?tra ?tre); (case tre => assumption); (case tra => walk_at "tr"))
  | ((with_reducible refine' Ls.y (T := T) (H := ?trH) ?tra ?tre ?trn ?trt); (case tre => assumption); (case trt => walk_at "tr"); (case trn => walk_at "tr"); (case tra => walk_at "tr"))
  | ((with_reducible refine' SqP.x (T := T) (H := ?trH) ?tra ?tre); (case tre => assumption); (case tra => walk_at "tr"))
  | ((with_reducible refine' SqP.y (T := T) (H := ?trH) ?tra ?tre ?trt); (case tre => assumption); (case trt => walk_at "tr"); (case tra => walk_at "tr"))
  | ((with_reducible refine' StAt.x (T := T) (H := ?trH) ?tra ?tre); (case tre => assumption); (case tra => walk_at "tr"))
  | ((with_reducible refine' StAt.y (T := T) (H := ?trH) ?tra ?tre ?trt); (case tre => assumption); (case trt => walk_at "tr"); (case tra => walk_at "tr"))
  | ((with_reducible refine' Pools.ext0 (T := T) (H := ?trH) ?tra ?tre); (case tre => assumption); (case tra => walk_at "tr"))
  | ((with_reducible refine' Pools.ext (T := T) (H := ?trH) ?tra ?tre ?trt); (case tre => assumption); (case trt => walk_at "tr"); (case tra => walk_at "tr"))
  | ((with_reducible refine' CL.x (T := T) (H := ?trH) ?tra ?tre); (case tre => assumption); (case tra => walk_at "tr"))
  | ((with_reducible refine' CL.y (T := T) (H := ?trH) ?tra ?tre); (case tre => assumption); (case tra => walk_at "tr"))
  | ((with_reducible refine' Tape.ext (T := T) (H := ?trH) ?tra ?tre); (case tre => assumption); (case tra => walk_at "tr"))
  | ((with_reducible refine' lst.x (T := T) (H := ?trH) ?tra ?tre); (case tre => assumption); (case tra => walk_at "tr"))
  | ((with_reducible refine' lst.y (T := T) (H := ?trH) ?tra ?tre ?trn); (case tre => assumption); (case trn => walk_at "tr"); (case tra => walk_at "tr"))
  | ((with_reducible refine' tup.x (T := T) (H := ?trH) ?tra ?tre); (case tre => assumption); (case tra => walk_at "tr"))
  | ((with_reducible refine' tup.y (T := T) (H := ?trH) ?tra ?tre ?trt); (case tre => assumption); (case trt => walk_at "tr"); (case tra => walk_at "tr"))
  | ((with_reducible refine' frz.x (T := T) (H := ?trH) ?tra ?tre); (case tre => assumption); (case tra => walk_at "tr"))
  | ((with_reducible refine' frz.y (T := T) (H := ?trH) ?tra ?tre ?trt); (case tre => assumption); (case trt => walk_at "tr"); (case tra => walk_at "tr"))
  | ((with_reducible refine' Im.z (T := T) (H := ?trH) ?tra ?tre ?trt); (case tre => assumption); (case trt => assumption); (case tra => walk_at "tr"))
  | ((with_reducible refine' ImAll.z (T := T) (H := ?trH) ?tra ?tre ?trt); (case tre => assumption); (case trt => assumption); (case tra => walk_at "tr"))
  | ((with_reducible refine' StAt.z (T := T) (H := ?trH) ?tra ?tre ?trt); (case tre => assumption); (case trt => assumption); (case tra => walk_at "tr"))
  | ((with_reducible refine' SqP.z (T := T) (H := ?trH) ?tra ?tre ?trt); (case tre => assumption); (case trt => assumption); (case tra => walk_at "tr"))
  | ((with_reducible refine' tup.z (T := T) (H := ?trH) ?tra ?tre ?trt); (case tre => assumption); (case trt => assumption); (case tra => walk_at "tr"))
  | ((with_reducible refine' Ls.z (T := T) (H := ?trH) ?tra ?tre ?trt ?trn); (case tre => assumption); (case trt => assumption); (case trn => assumption); (case tra => walk_at "tr"))
  | ((with_reducible refine' lst.z (T := T) (H := ?trH) ?tra ?tre ?trn); (case tre => assumption); (case trn => assumption); (case tra => walk_at "tr"))
  | ((with_reducible refine' CL.z (T := T) (H := ?trH) ?tra ?tre ?trn); (case tre => assumption); (case trn => assumption); (case tra => walk_at "tr"))
  | ((with_reducible refine' Tape.ne1 (H := ?trH) ?trt ?trn); (case trn => assumption); (case trt => walk_at "tr"))
  | ((with_reducible refine' Ext.trans (H1 := ?trH) ?tra (Ext.any ?tre)); (case tre => assumption); (case tra => walk_at "tr"))
  | ((with_reducible refine' Ext.trans (H1 := ?trH) ?tra ?tre); (case tre => assumption); (case tra => walk_at "tr"))
  | ((with_reducible refine' Ext.back1 (T := T) (H1 := ?trH) ?tre ?trn ?tra); (case tra => assumption); (case trn => walk_at "tr"); (case tre => walk_at "tr"))
  | ((with_reducible refine' Ext.back0 (T := T) (H1 := ?trH) ?tre ?tra); (case tra => assumption); (case tre => walk_at "tr"))
  | ((with_reducible refine' SqT.of ?tra); (case tra => walk_at "tr"))
  | ((with_reducible refine' SqL.of ?tra); (case tra => walk_at "tr")))
local macro_rules | `(tactic| walk_at "al") => `(tactic| (refine ⟨by first | (show _ ≤ sizeLine; decide) | walk_at "sz", ?_⟩; intro alp aln; generalize alG : upd _ alp _ = alH; obtain ⟨aln2, alx, alh⟩ := al_of (T := T) aln alG; clear alG aln))
local macro_rules | `(tactic| walk_at "al0") => `(tactic| (intro alp aln; generalize alG : upd _ alp _ = alH; obtain ⟨aln2, alx, alh⟩ := al_of (T := T) aln alG; clear alG aln))
theorem ok_is_label (D : Def K mg "is_label" s_is_label ["text"]) (M : Cst mg) (G_is_word : Ok P w K mg base 1 "is_word" ["text", "letters", "most"] (spWordD T)) : Ok P w K mg base 2 "is_label" ["text"] (spDB T labelD) := by
  refine D.ok sc_is_label (fun vs H Q E h => ?_) (fun cdv f A outer s H vs Q E hr h => ?_)
  · obtain ⟨v, d, rfl, _⟩ := h
    rfl
  · obtain ⟨v, d, rfl, hv, hz, q⟩ := h
    refine ⟨_, (pss_one (ps_ret (pe_callO G_is_word (hr.mono (by decide)) (by rfl) (pa_cons (pv 0) (pa_cons (pe_glS (by rfl) M.c_LETTERS) (pa_cons (pe_glI (by rfl) M.c_MAX_LABEL) pa_nil)))))), ?_⟩
    walk_at "rd"
    refine ⟨v, d, lettersS, 8, rfl, hv, hz, fun H1 e1 => ?_⟩
    have := q H1 e1
    cases d <;> exact this
theorem ok_is_name (D : Def K mg "is_name" s_is_name ["text"]) (mb : ∀ x ∈ bltns, mg x = none) (M : Cst mg) (G_is_label : Ok P w K mg base 2 "is_label" ["text"] (spDB T labelD)) : Ok P w K mg base 3 "is_name" ["text"] (spDB T nameD) := by
  refine D.ok sc_is_name (fun vs H Q E h => ?_) (fun cdv f A outer s H vs Q E hr h => ?_)
  · obtain ⟨v, d, rfl, _⟩ := h
    rfl
  · obtain ⟨v, d, rfl, hv, hz, q⟩ := h
    refine ⟨_, (pss_cons (ps_if (pt_not (pt_E (pe_callB (call_isiU K rfl) (by rfl) (mb _ (by decide)) (by decide +kernel) (pa_cons (pv 0) (pa_cons (pe_bltn (v := .ty "str") (u := .type "str") (by rfl) (mb _ (by decide)) (by decide +kernel) rfl) pa_nil))))) (pss_one (ps_ret pe_bl)) pss_nil)
   (pss_cons (ps_if (pt_cmpR (op_eqU K rfl hr.units) (pv 0) pe_str (nomark _)) (pss_one (ps_ret pe_bl)) pss_nil)
   (pss_cons (ps_set (i := 1) sc_is_name.nd rfl (.inl rfl) (pe_m1 PySem.F.slot_str_split PySem.F.type_str_split mt_splitU (pv 0) pe_str))
   (pss_one (ps_ret (pe_and (pe_cmpR op_le (pe_callB (call_lenU K rfl) (by rfl) (mb _ (by decide)) (by decide +kernel) (pa_cons (pv 1) pa_nil)) (pe_glI (by rfl) M.c_MAX_LABELS) (nomark _)) (pe_one (pe_callB (call_allU K rfl rfl) (by rfl) (mb _ (by decide)) (by decide +kernel) (pa_cons (pe_lc (own := [("part", 2)]) (g := gName 2) (tt := tYes) rfl sc_is_name.nd (pi_seq K rfl (pv 1)) (blkOk_by (N := N_is_name) (sc := defScope s_is_name) (by decide +kernel)) (fun _ _ _ _ _ => (pg_name (i := 2) sc_is_name.nd rfl (Or.inl rfl))) (fun _ _ _ _ _ => pts_nil) (fun _ _ _ _ _ => (pe_callO G_is_label (hr.mono (by decide)) (by rfl) (pa_cons (pv 2) pa_nil)))) pa_nil))))))))), ?_⟩
    walk_at "rd"
    refine rd_isStrD hv ?_
    rcases hv.cases4 with rfl | ⟨i, rfl⟩ | ⟨z, rfl⟩ | ⟨ds, rfl⟩
    · walk_at "rd"
      exact q H .refl
    · walk_at "rd"
      exact q H .refl
    · have hso := hv.sok
      obtain rfl := hv.str'
      have hz : z.length ≤ 1000 := hz
      have q' : ∀ (H' : Hp) {b : Bool}, Ext T [] H H' → nameB z = b → Q (.bl b) H' := fun H' b e h => by
        rw [← h]
        exact q H' e
      unfold nameB at q'
      rw [show isStr (PyData.str z) = true from rfl]
      walk_at "rd"
      refine rd_ite (fun h1 => ?_) (fun h1 => ?_)
      · walk_at "rd"
        exact q' H .refl (by rw [decide_eq_true (show z = dotS from h1), Bool.true_or])
      · walk_at "rd"
        refine rd_split (by decide +kernel) (by walk_at "sz") fun p np => ?_
        have hpl := parts_le z
        have hd0 : decide (z = dotS) = false := decide_eq_false h1
        have hpl2 : ((partsL z).map V.str).length < sizeLine := by
          rw [List.length_map]
          exact Nat.lt_of_le_of_lt (show _ ≤ 1001 by omega) (by decide)
        walk_at "rd"
        refine rd_ite (fun h2 => ?_) (fun h2 => ?_) <;> rw [List.length_map] at h2
        · walk_at "rd"
          refine lcg_list T [] (K := K) (SqL.of upd_same) (fun _ => true) (fun v => .bl (match v with | .str x => labelB x | _ => false)) hpl2 (by simp) (by simp) (fun x hx H' e R S h1 h2 => ?_) (fun D H2 nw e hD => ?_)
          · obtain ⟨y, hy, rfl⟩ := List.mem_map.mp hx
            walk_at "rd"
            exact ⟨.str y, .str y, rfl, .str _ (parts_ok hso y hy), show y.length ≤ 1000 from Nat.le_trans (parts_mem hy) hz, fun H3 e3 => h1 rfl H3 e3⟩
          · walk_at "rd"
            refine rd_all (bs := (partsL z).map labelB) (SqL.of (by rw [hD, filtT, List.map_map, List.map_map]; rfl)) (q' _ ((Ext.new np).trans e) ?_)
            rw [hd0, decide_eq_true (show ((partsL z).length : Int) ≤ 4 from h2), List.all_map]
            rfl
        · exact q' _ (.new np) (by rw [hd0, decide_eq_false (show ¬ ((partsL z).length : Int) ≤ 4 from h2)]; rfl)
    · walk_at "rd"
      exact q H .refl
def spIdsD (T : List (Addr × Str)) : Sp := fun vs H Q _ => ∃ (v : V) (d : PyData) (lo hi : Int), vs = [v, .int lo, .int hi] ∧ Im H v d ∧ Sm d ∧ ∀ H', Ext T [] H H' → Q (.bl (idsD lo hi d)) H'
theorem ok_are_ids (D : Def K mg "are_ids" s_are_ids ["value", "least", "most"]) (mb : ∀ x ∈ bltns, mg x = none) (G_is_tuple_of : Ok P w K mg base 1 "is_tuple_of" ["value", "least", "most"] spTupD) (G_is_id : Ok P w K mg base 2 "is_id" ["text"] (spDB T idD)) (G_is_ascending : Ok P w K mg base 1 "is_ascending" ["values"] (spAsc T K)) : Ok P w K mg base 3 "are_ids" ["value", "least", "most"] (spIdsD T) := by
  refine D.ok sc_are_ids (fun vs H Q E h => ?_) (fun cdv f A outer s H vs Q E hr h => ?_)
  · obtain ⟨v, d, lo, hi, rfl, _⟩ := h
    rfl
  · obtain ⟨v, d, lo, hi, rfl, hv, hs, q⟩ := h
    refine ⟨_, (pss_one (ps_ret (pe_and (pe_callO G_is_tuple_of (hr.mono (by decide)) (by rfl) (pa_cons (pv 0) (pa_cons (pv 1) (pa_cons (pv 2) pa_nil)))) (pe_and (pe_callB (call_allU K rfl rfl) (by rfl) (mb _ (by decide)) (by decide +kernel) (pa_cons (pe_lc (own := [("part", 3)]) (g := gName 3) (tt := tYes) rfl sc_are_ids.nd (pi_seq K rfl (pv 0)) (blkOk_by (N := N_are_ids) (sc := defScope s_are_ids) (by decide +kernel)) (fun _ _ _ _ _ => (pg_name (i := 3) sc_are_ids.nd rfl (Or.inl rfl))) (fun _ _ _ _ _ => pts_nil) (fun _ _ _ _ _ => (pe_callO G_is_id (hr.mono (by decide)) (by rfl) (pa_cons (pv 3) pa_nil)))) pa_nil)) (pe_one (pe_callO G_is_ascending (hr.mono (by decide)) (by rfl) (pa_cons (pv 0) pa_nil))))))), ?_⟩
    unfold idsD at q
    walk_at "rd"
    refine ⟨v, d, lo, hi, rfl, hv, ?_⟩
    cases ht : tupB lo hi d with
    | false =>
      rw [ht] at q
      walk_at "rd"
      exact q H .refl
    | true =>
      rw [ht] at q
      obtain ⟨ds, rfl, h1, h2⟩ := tupB_some ht
      have q : ∀ H', Ext T [] H H' → Q (.bl (ds.all idD && ascD ds)) H' := q
      obtain ⟨ua, ux, rfl, hua, hui⟩ := hv.tup'
      have hsa := sm_tup.mp hs
      have hui2 : ImAll H ux (ds.map id) := by rw [List.map_id]; exact hui
      walk_at "rd"
      refine .inr ⟨⟨_, SqP.sq hua⟩, ?_⟩
      refine lcg_fv T id (fun d => .bl (idD d)) (fun _ => true) walk_tup hui2 rfl (fun i H x H' y => y) (fun H' e => SqP.sq (SqP.x hua e)) (by omega) (fun k y x hy H' e' hxy R' S' h1 _ => ?_) (fun D1 H1 nD1 e1 hD1 => ?_)
      · have hym := List.mem_of_getElem? hy
        refine rd_name ⟨wipe1, ?_⟩
        walk_at "rd"
        exact ⟨x, y, rfl, hxy, hsa.2 y hym, fun H2 e2 => h1 rfl H2 e2⟩
      · rw [filtT] at hD1
        have hD2 : H1 D1 = some (.lst ((ds.map idD).map V.bl)) := by
          rw [hD1, List.map_map]
          rfl
        walk_at "rd"
        refine rd_all (SqL.of hD2) ?_
        rw [List.all_map, show (id ∘ idD) = idD from rfl]
        cases ha : ds.all idD with
        | false =>
          rw [ha] at q
          walk_at "rd"
          exact q H1 e1
        | true =>
          rw [ha] at q
          walk_at "rd"
          have hal : Alike1 ds := by
            obtain ⟨zs, e, _⟩ := ids_strs ha
            rw [e]
            exact alike_s1 zs
          exact ⟨ua, ux, ds, rfl, .inl (SqP.x hua e1), hui.x e1, hal, hsa.1, fun H2 e2 => q H2 (e1.trans e2)⟩
theorem two_of {ds : List PyData} (h1 : (2 : Int) ≤ ds.length) (h2 : (ds.length : Int) ≤ 2) : ∃ a b, ds = [a, b] := by
  match ds, h1, h2 with
  | [a, b], _, _ => exact ⟨a, b, rfl⟩
  | [], h1, _ => exact absurd h1 (by decide)
  | [_], h1, _ => exact absurd h1 (by simp)
  | _ :: _ :: _ :: _, _, h2 => simp only [List.length_cons] at h2; omega
theorem three_of {ds : List PyData} (h1 : (3 : Int) ≤ ds.length) (h2 : (ds.length : Int) ≤ 3) : ∃ a b c, ds = [a, b, c] := by
  match ds, h1, h2 with
  | [a, b, c], _, _ => exact ⟨a, b, c, rfl⟩
  | [], h1, _ => exact absurd h1 (by decide)
  | [_], h1, _ => exact absurd h1 (by simp)
  | [_, _], h1, _ => exact absurd h1 (by simp)
  | _ :: _ :: _ :: _ :: _, _, h2 => simp only [List.length_cons] at h2; omega
theorem ok_is_zone (D : Def K mg "is_zone" s_is_zone ["value"]) (M : Cst mg) (G_is_tuple_of : Ok P w K mg base 1 "is_tuple_of" ["value", "least", "most"] spTupD) (G_is_name : Ok P w K mg base 3 "is_name" ["text"] (spDB T nameD)) (G_is_integer_in : Ok P w K mg base 1 "is_integer_in" ["value", "least", "most"] spIntD) : Ok P w K mg base 4 "is_zone" ["value"] (spDB T zoneD) := by
  refine D.ok sc_is_zone (fun vs H Q E h => ?_) (fun cdv f A outer s H vs Q E hr h => ?_)
  · obtain ⟨v, d, rfl, _⟩ := h
    rfl
  · obtain ⟨v, d, rfl, hv, hs, q⟩ := h
    refine ⟨_, (pss_one (ps_ret (pe_and (pe_callO G_is_tuple_of (hr.mono (by decide)) (by rfl) (pa_cons (pv 0) (pa_cons pe_int (pa_cons pe_int pa_nil)))) (pe_and (pe_callO G_is_name (hr.mono (by decide)) (by rfl) (pa_cons (pe_ix (ix_U K rfl) (pv 0) pe_int (fun _ _ => rfl)) pa_nil)) (pe_one (pe_callO G_is_integer_in (hr.mono (by decide)) (by rfl) (pa_cons (pe_ix (ix_U K rfl) (pv 0) pe_int (fun _ _ => rfl)) (pa_cons pe_int (pa_cons (pe_glI (by rfl) M.c_MAX_LAG) pa_nil))))))))), ?_⟩
    walk_at "rd"
    refine ⟨v, d, 2, 2, rfl, hv, ?_⟩
    cases ht : tupB 2 2 d with
    | false =>
      have hf : zoneD d = false := by
        cases hz : zoneD d with
        | false => rfl
        | true =>
          obtain ⟨a, b, rfl⟩ := zone_tup hz
          cases ht
      rw [hf] at q
      walk_at "rd"
      exact q H .refl
    | true =>
      obtain ⟨ds, rfl, h1, h2⟩ := tupB_some ht
      obtain ⟨a, b, rfl⟩ := two_of h1 h2
      have hsa := sm_tup.mp hs
      have q : ∀ H', Ext T [] H H' → Q (.bl (nameD a && intB 0 100 b)) H' := q
      walk_at "rd"
      refine rd_ixI (d := a) hv rfl fun u1 g1 => ?_
      refine ⟨u1, a, rfl, g1, hsa.2 a (by simp), fun H1 e1 => ?_⟩
      cases hn : nameD a with
      | false =>
        rw [hn] at q
        walk_at "rd"
        exact q H1 e1
      | true =>
        rw [hn] at q
        walk_at "rd"
        refine rd_ixI (d := b) (hv.x e1) rfl fun u2 g2 => ?_
        walk_at "rd"
        exact ⟨u2, b, 0, 100, rfl, g2, q H1 e1⟩
theorem ok_is_set (D : Def K mg "is_set" s_is_set ["value"]) (G_is_tuple_of : Ok P w K mg base 1 "is_tuple_of" ["value", "least", "most"] spTupD) (G_is_name : Ok P w K mg base 3 "is_name" ["text"] (spDB T nameD)) (G_is_id : Ok P w K mg base 2 "is_id" ["text"] (spDB T idD)) : Ok P w K mg base 4 "is_set" ["value"] (spDB T setD) := by
  refine D.ok sc_is_set (fun vs H Q E h => ?_) (fun cdv f A outer s H vs Q E hr h => ?_)
  · obtain ⟨v, d, rfl, _⟩ := h
    rfl
  · obtain ⟨v, d, rfl, hv, hs, q⟩ := h
    refine ⟨_, (pss_one (ps_ret (pe_and (pe_callO G_is_tuple_of (hr.mono (by decide)) (by rfl) (pa_cons (pv 0) (pa_cons pe_int (pa_cons pe_int pa_nil)))) (pe_and (pe_callO G_is_name (hr.mono (by decide)) (by rfl) (pa_cons (pe_ix (ix_U K rfl) (pv 0) pe_int (fun _ _ => rfl)) pa_nil)) (pe_one (pe_callO G_is_id (hr.mono (by decide)) (by rfl) (pa_cons (pe_ix (ix_U K rfl) (pv 0) pe_int (fun _ _ => rfl)) pa_nil))))))), ?_⟩
    walk_at "rd"
    refine ⟨v, d, 2, 2, rfl, hv, ?_⟩
    cases ht : tupB 2 2 d with
    | false =>
      have hf : setD d = false := by
        cases hz : setD d with
        | false => rfl
        | true =>
          obtain ⟨a, b, rfl⟩ := set_tup hz
          cases ht
      rw [hf] at q
      walk_at "rd"
      exact q H .refl
    | true =>
      obtain ⟨ds, rfl, h1, h2⟩ := tupB_some ht
      obtain ⟨a, b, rfl⟩ := two_of h1 h2
      have hsa := sm_tup.mp hs
      have q : ∀ H', Ext T [] H H' → Q (.bl (nameD a && idD b)) H' := q
      walk_at "rd"
      refine rd_ixI (d := a) hv rfl fun u1 g1 => ?_
      refine ⟨u1, a, rfl, g1, hsa.2 a (by simp), fun H1 e1 => ?_⟩
      cases hn : nameD a with
      | false =>
        rw [hn] at q
        walk_at "rd"
        exact q H1 e1
      | true =>
        rw [hn] at q
        walk_at "rd"
        refine rd_ixI (d := b) (hv.x e1) rfl fun u2 g2 => ?_
        walk_at "rd"
        exact ⟨u2, b, rfl, g2, hsa.2 b (by simp), fun H2 e2 => q H2 (e1.trans e2)⟩
theorem ok_are_sets (D : Def K mg "are_sets" s_are_sets ["value"]) (mb : ∀ x ∈ bltns, mg x = none) (M : Cst mg) (G_is_tuple_of : Ok P w K mg base 1 "is_tuple_of" ["value", "least", "most"] spTupD) (G_is_set : Ok P w K mg base 4 "is_set" ["value"] (spDB T setD)) (G_is_ascending : Ok P w K mg base 1 "is_ascending" ["values"] (spAsc T K)) : Ok P w K mg base 5 "are_sets" ["value"] (spDB T setsD) := by
  refine D.ok sc_are_sets (fun vs H Q E h => ?_) (fun cdv f A outer s H vs Q E hr h => ?_)
  · obtain ⟨v, d, rfl, _⟩ := h
    rfl
  · obtain ⟨v, d, rfl, hv, hs, q⟩ := h
    refine ⟨_, (pss_one (ps_ret (pe_and (pe_callO G_is_tuple_of (hr.mono (by decide)) (by rfl) (pa_cons (pv 0) (pa_cons pe_int (pa_cons (pe_glI (by rfl) M.c_MAX_SETS) pa_nil)))) (pe_and (pe_callB (call_allU K rfl rfl) (by rfl) (mb _ (by decide)) (by decide +kernel) (pa_cons (pe_lc (own := [("part", 1)]) (g := gName 1) (tt := tYes) rfl sc_are_sets.nd (pi_seq K rfl (pv 0)) (blkOk_by (N := N_are_sets) (sc := defScope s_are_sets) (by decide +kernel)) (fun _ _ _ _ _ => (pg_name (i := 1) sc_are_sets.nd rfl (Or.inl rfl))) (fun _ _ _ _ _ => pts_nil) (fun _ _ _ _ _ => (pe_callO G_is_set (hr.mono (by decide)) (by rfl) (pa_cons (pv 1) pa_nil)))) pa_nil)) (pe_one (pe_callO G_is_ascending (hr.mono (by decide)) (by rfl) (pa_cons (pv 0) pa_nil))))))), ?_⟩
    unfold setsD at q
    walk_at "rd"
    refine ⟨v, d, 1, 8, rfl, hv, ?_⟩
    cases ht : tupB 1 8 d with
    | false =>
      rw [ht] at q
      walk_at "rd"
      exact q H .refl
    | true =>
      rw [ht] at q
      obtain ⟨ds, rfl, h1, h2⟩ := tupB_some ht
      have q : ∀ H', Ext T [] H H' → Q (.bl (ds.all setD && ascD ds)) H' := q
      obtain ⟨ua, ux, rfl, hua, hui⟩ := hv.tup'
      have hsa := sm_tup.mp hs
      have hui2 : ImAll H ux (ds.map id) := by rw [List.map_id]; exact hui
      walk_at "rd"
      refine .inr ⟨⟨_, SqP.sq hua⟩, ?_⟩
      refine lcg_fv T id (fun d => .bl (setD d)) (fun _ => true) walk_tup hui2 rfl (fun i H x H' y => y) (fun H' e => SqP.sq (SqP.x hua e)) (by omega) (fun k y x hy H' e' hxy R' S' h1 _ => ?_) (fun D1 H1 nD1 e1 hD1 => ?_)
      · have hym := List.mem_of_getElem? hy
        refine rd_name ⟨wipe1, ?_⟩
        walk_at "rd"
        exact ⟨x, y, rfl, hxy, hsa.2 y hym, fun H2 e2 => h1 rfl H2 e2⟩
      · rw [filtT] at hD1
        have hD2 : H1 D1 = some (.lst ((ds.map setD).map V.bl)) := by
          rw [hD1, List.map_map]
          rfl
        walk_at "rd"
        refine rd_all (SqL.of hD2) ?_
        rw [List.all_map, show (id ∘ setD) = setD from rfl]
        cases ha : ds.all setD with
        | false =>
          rw [ha] at q
          walk_at "rd"
          exact q H1 e1
        | true =>
          rw [ha] at q
          walk_at "rd"
          have hal : Alike1 ds := by
            obtain ⟨l, e, _⟩ := sets_rows ha
            rw [e]
            exact alike_ss1 l
          exact ⟨ua, ux, ds, rfl, .inl (SqP.x hua e1), hui.x e1, hal, hsa.1, fun H2 e2 => q H2 (e1.trans e2)⟩
def spUsed (T : List (Addr × Str)) : Sp := fun vs H Q _ => ∃ (z : Str) (u : V) (l : List (Str × Str)), vs = [.str z, u] ∧ Im H u (.tuple (l.map ssD)) ∧ l.length ≤ 100 ∧ z.length ≤ 1000 ∧ (∀ r ∈ l, r.1.length ≤ 1000) ∧ ∀ H', Ext T [] H H' → Q (.bl (l.any fun r => endsB r.1 z)) H'
theorem ok_is_used (D : Def K mg "is_used" s_is_used ["zone", "sets"]) (mb : ∀ x ∈ bltns, mg x = none) (G_ends : Ok P w K mg base 1 "ends" ["name", "other"] (spTTB T endsB)) : Ok P w K mg base 2 "is_used" ["zone", "sets"] (spUsed T) := by
  refine D.ok sc_is_used (fun vs H Q E h => ?_) (fun cdv f A outer s H vs Q E hr h => ?_)
  · obtain ⟨z, u, l, rfl, _⟩ := h
    rfl
  · obtain ⟨z, u, l, rfl, hu, hl, hz, hn, q⟩ := h
    refine ⟨_, (pss_one (ps_ret (pe_callB (call_anyU K rfl rfl) (by rfl) (mb _ (by decide)) (by decide +kernel) (pa_cons (pe_lc (own := [("name", 2), ("_", 3)]) (tt := tYes) rfl sc_is_used.nd (pi_seq K rfl (pv 1)) (blkOk_by (N := N_is_used) (sc := defScope s_is_used) (by decide +kernel)) (fun _ _ _ _ _ => (pg_tupU (n := 2) K rfl rfl (pgs_cons (pg_name (i := 2) sc_is_used.nd rfl (Or.inl rfl)) (pgs_cons (pg_name (i := 3) sc_is_used.nd rfl (Or.inl rfl)) pgs_nil)))) (fun _ _ _ _ _ => pts_nil) (fun _ _ _ _ _ => (pe_callO G_ends (hr.mono (by decide)) (by rfl) (pa_cons (pv 2) (pa_cons (pv 0) pa_nil))))) pa_nil)))), ?_⟩
    obtain ⟨ua, ux, rfl, hua, hui⟩ := hu.tup'
    walk_at "rd"
    refine .inr ⟨⟨_, SqP.sq hua⟩, ?_⟩
    refine lcg_fv T ssD (fun r => .bl (endsB r.1 z)) (fun _ => true) walk_tup hui rfl (fun i H x H' y => y) (fun H' e => SqP.sq (SqP.x hua e)) (by omega) (fun k y x hy H' e' hxy R' S' h1 _ => ?_) (fun D1 H1 nD1 e1 hD1 => ?_)
    · have hym := List.mem_of_getElem? hy
      refine rd_gpair (d1 := .str y.1) (d2 := .str y.2) hxy fun v1 v2 g1 g2 => ?_
      rw [g1.str', g2.str']
      refine ⟨rfl, ?_⟩
      walk_at "rd"
      exact ⟨y.1, z, rfl, hn y hym, hz, fun H2 e2 => h1 rfl H2 e2⟩
    · rw [filtT] at hD1
      have hD2 : H1 D1 = some (.lst ((l.map fun r => endsB r.1 z).map V.bl)) := by
        rw [hD1, List.map_map]
        rfl
      walk_at "rd"
      refine rd_any (SqL.of hD2) ?_
      rw [List.any_map]
      exact q H1 e1
theorem ok_are_zones (D : Def K mg "are_zones" s_are_zones ["value"]) (mb : ∀ x ∈ bltns, mg x = none) (M : Cst mg) (G_is_tuple_of : Ok P w K mg base 1 "is_tuple_of" ["value", "least", "most"] spTupD) (G_is_zone : Ok P w K mg base 4 "is_zone" ["value"] (spDB T zoneD)) (G_is_ascending : Ok P w K mg base 1 "is_ascending" ["values"] (spAsc T K)) : Ok P w K mg base 5 "are_zones" ["value"] (spDB T zonesD) := by
  refine D.ok sc_are_zones (fun vs H Q E h => ?_) (fun cdv f A outer s H vs Q E hr h => ?_)
  · obtain ⟨v, d, rfl, _⟩ := h
    rfl
  · obtain ⟨v, d, rfl, hv, hs, q⟩ := h
    refine ⟨_, (pss_cons (ps_if (PW.pt (pw_or (pt_not (pt_E (pe_callO G_is_tuple_of (hr.mono (by decide)) (by rfl) (pa_cons (pv 0) (pa_cons pe_int (pa_cons (pe_glI (by rfl) M.c_MAX_ZONES) pa_nil)))))) (pw_or1 (pt_not (pt_E (pe_callB (call_allU K rfl rfl) (by rfl) (mb _ (by decide)) (by decide +kernel) (pa_cons (pe_lc (own := [("part", 4)]) (g := gName 4) (tt := tYes) rfl sc_are_zones.nd (pi_seq K rfl (pv 0)) (blkOk_by (N := N_are_zones) (sc := defScope s_are_zones) (by decide +kernel)) (fun _ _ _ _ _ => (pg_name (i := 4) sc_are_zones.nd rfl (Or.inl rfl))) (fun _ _ _ _ _ => pts_nil) (fun _ _ _ _ _ => (pe_callO G_is_zone (hr.mono (by decide)) (by rfl) (pa_cons (pv 4) pa_nil)))) pa_nil))))))) (pss_one (ps_ret pe_bl)) pss_nil)
   (pss_cons (ps_setLc (i := 1) (own := [("zone", 2), ("_", 3)]) (tt := tYes) rfl sc_are_zones.nd rfl rfl (sw_true rfl rfl rfl (by decide +kernel)) (pi_seq K rfl (pv 0)) (blkOk_by (N := N_are_zones) (sc := defScope s_are_zones) (by decide +kernel)) (fun _ _ _ _ _ => (pg_tupU (n := 2) K rfl rfl (pgs_cons (pg_name (i := 2) sc_are_zones.nd rfl (Or.inl rfl)) (pgs_cons (pg_name (i := 3) sc_are_zones.nd rfl (Or.inl rfl)) pgs_nil)))) (fun _ _ _ _ _ => pts_nil) (fun _ _ _ _ _ => (pv 2)))
   (pss_one (ps_ret (pe_and (pe_cmpR (op_eqU K rfl hr.units) (pe_ix (ix_U K rfl) (pv 1) pe_int (fun _ _ => rfl)) pe_str (nomark _)) (pe_one (pe_callO G_is_ascending (hr.mono (by decide)) (by rfl) (pa_cons (pv 1) pa_nil)))))))), ?_⟩
    unfold zonesD at q
    walk_at "rdn"
    refine rd_seq ?_
    walk_at "rd"
    refine ⟨v, d, 1, 6, rfl, hv, ?_⟩
    refine ⟨_, rfl, ?_⟩
    cases ht : tupB 1 6 d with
    | false =>
      rw [ht] at q
      walk_at "rd"
      exact q H .refl
    | true =>
      rw [ht] at q
      obtain ⟨ds, rfl, h1, h2⟩ := tupB_some ht
      have q : ∀ H', Ext T [] H H' → Q (.bl (ds.all zoneD && (hdD (ds.map fstD) && ascD (ds.map fstD)))) H' := q
      obtain ⟨ua, ux, rfl, hua, hui⟩ := hv.tup'
      have hsa := sm_tup.mp hs
      have hui2 : ImAll H ux (ds.map id) := by rw [List.map_id]; exact hui
      walk_at "rd"
      refine .inr ⟨⟨_, SqP.sq hua⟩, ?_⟩
      refine lcg_fv T id (fun d => .bl (zoneD d)) (fun _ => true) walk_tup hui2 rfl (fun i H x H' y => y) (fun H' e => SqP.sq (SqP.x hua e)) (by omega) (fun k y x hy H' e' hxy R' S' h1 _ => ?_) (fun D1 H1 nD1 e1 hD1 => ?_)
      · have hym := List.mem_of_getElem? hy
        refine rd_name ⟨wipe1, ?_⟩
        walk_at "rd"
        exact ⟨x, y, rfl, hxy, hsa.2 y hym, fun H2 e2 => h1 rfl H2 e2⟩
      · rw [filtT] at hD1
        have hD2 : H1 D1 = some (.lst ((ds.map zoneD).map V.bl)) := by
          rw [hD1, List.map_map]
          rfl
        walk_at "rd"
        refine rd_all (SqL.of hD2) ?_
        rw [List.all_map, show (id ∘ zoneD) = zoneD from rfl]
        refine ⟨_, rfl, ?_⟩
        cases ha : ds.all zoneD with
        | false =>
          rw [ha] at q
          walk_at "rd"
          exact q H1 e1
        | true =>
          rw [ha] at q
          obtain ⟨l, rfl, hlr⟩ := zones_rows ha
          have hll : l.length = ux.length := by rw [hui.len, List.length_map]
          have hll2 : l.length ≤ 6 := by
            rw [List.length_map] at h2
            omega
          have hll1 : 1 ≤ l.length := by
            rw [List.length_map] at h1
            omega
          have efst : (l.map siD).map fstD = (l.map (·.1)).map PyData.str := by
            rw [List.map_map, List.map_map]
            rfl
          have hua1 := SqP.x hua e1
          walk_at "rdn"
          refine rd_seq ?_
          walk_at "rd"
          refine .inr ⟨⟨_, SqP.sq hua1⟩, ?_⟩
          refine lcg_fv T siD (fun r => .str r.1) (fun _ => true) walk_tup (hui.x e1) rfl (fun i H x H' y => y) (fun H' e => SqP.sq (SqP.x hua1 e)) (by omega) (fun k y x hy H' e' hxy R' S' h1 _ => ?_) (fun D3 H3 nD3 e3 hD3 => ?_)
          · refine rd_gpair (d1 := .str y.1) (d2 := .int y.2) hxy fun v1 v2 g1 g2 => ?_
            rw [g1.str', g2.int']
            refine ⟨rfl, ?_⟩
            walk_at "rd"
            exact h1 rfl H' .refl
          · rw [filtT] at hD3
            have hD4 : H3 D3 = some (.lst ((l.map (·.1)).map V.str)) := by
              rw [hD3, List.map_map]
              rfl
            have e13 := e1.trans e3
            rw [efst] at q
            obtain ⟨r0, l0, rfl⟩ : ∃ r0 l0, l = r0 :: l0 := by
              cases l with
              | nil => simp at hll1
              | cons r0 l0 => exact ⟨r0, l0, rfl⟩
            have q : ∀ H', Ext T [] H H' → Q (.bl (decide (r0.1 = dotS) && ascD (((r0 :: l0).map (·.1)).map PyData.str))) H' := q
            walk_at "rd"
            refine rd_ixL (SqL.of hD4) (v := .str r0.1) (atI_nat (xs := ((r0 :: l0).map (·.1)).map V.str) (j := 0) rfl) ?_
            walk_at "rd"
            refine rd_ite (fun cc => ?_) (fun cc => ?_)
            · walk_at "rd"
              refine ⟨D3, _, _, rfl, .inr hD4, ImAll.strs (fun z hz => ?_), alike_s1 _, by rw [List.length_map, List.length_map]; omega, fun H5 e5 => ?_⟩
              · obtain ⟨r, hr, rfl⟩ := List.mem_map.mp hz
                exact name_ok (hlr r hr).1
              · have := q H5 (e13.trans e5)
                rw [decide_eq_true (show r0.1 = dotS from cc)] at this
                exact this
            · have := q H3 e13
              rw [decide_eq_false (show ¬ r0.1 = dotS from cc)] at this
              walk_at "rd"
              exact this
theorem ok_is_realm (D : Def K mg "is_realm" s_is_realm ["value"]) (mb : ∀ x ∈ bltns, mg x = none) (M : Cst mg) (G_is_tuple_of : Ok P w K mg base 1 "is_tuple_of" ["value", "least", "most"] spTupD) (G_are_zones : Ok P w K mg base 5 "are_zones" ["value"] (spDB T zonesD)) (G_are_ids : Ok P w K mg base 3 "are_ids" ["value", "least", "most"] (spIdsD T)) (G_are_sets : Ok P w K mg base 5 "are_sets" ["value"] (spDB T setsD)) (G_is_used : Ok P w K mg base 2 "is_used" ["zone", "sets"] (spUsed T)) : Ok P w K mg base 6 "is_realm" ["value"] (spDB T realmD) := by
  refine D.ok sc_is_realm (fun vs H Q E h => ?_) (fun cdv f A outer s H vs Q E hr h => ?_)
  · obtain ⟨v, d, rfl, _⟩ := h
    rfl
  · obtain ⟨v, d, rfl, hv, hs, q⟩ := h
    refine ⟨_, (pss_cons (ps_if (pt_not (pt_E (pe_callO G_is_tuple_of (hr.mono (by decide)) (by rfl) (pa_cons (pv 0) (pa_cons pe_int (pa_cons pe_int pa_nil)))))) (pss_one (ps_ret pe_bl)) pss_nil)
   (pss_cons (ps_asg (pv 0) (pg_tupU (n := 3) K rfl rfl (pgs_cons (pg_name (i := 1) sc_is_realm.nd rfl (.inl rfl)) (pgs_cons (pg_name (i := 2) sc_is_realm.nd rfl (.inl rfl)) (pgs_cons (pg_name (i := 3) sc_is_realm.nd rfl (.inr rfl)) pgs_nil)))))
   (pss_cons (ps_if (PW.pt (pw_or (pt_not (pt_E (pe_callO G_are_zones (hr.mono (by decide)) (by rfl) (pa_cons (pv 1) pa_nil)))) (pw_or (pt_not (pt_E (pe_callO G_are_ids (hr.mono (by decide)) (by rfl) (pa_cons (pv 2) (pa_cons pe_int (pa_cons (pe_glI (by rfl) M.c_MAX_ANCHORS) pa_nil)))))) (pw_or1 (pt_not (pt_E (pe_callO G_are_sets (hr.mono (by decide)) (by rfl) (pa_cons (pv 3) pa_nil)))))))) (pss_one (ps_ret pe_bl)) pss_nil)
   (pss_one (ps_ret (pe_callB (call_allU K rfl rfl) (by rfl) (mb _ (by decide)) (by decide +kernel) (pa_cons (pe_lc (own := [("zone", 4), ("_", 5)]) (tt := tYes) rfl sc_is_realm.nd (pi_seq K rfl (pv 1)) (blkOk_by (N := N_is_realm) (sc := defScope s_is_realm) (by decide +kernel)) (fun _ _ _ _ _ => (pg_tupU (n := 2) K rfl rfl (pgs_cons (pg_name (i := 4) sc_is_realm.nd rfl (Or.inl rfl)) (pgs_cons (pg_name (i := 5) sc_is_realm.nd rfl (Or.inl rfl)) pgs_nil)))) (fun _ _ _ _ _ => pts_nil) (fun _ _ _ _ _ => (pe_callO G_is_used (hr.mono (by decide)) (by rfl) (pa_cons (pv 4) (pa_cons (pv 3) pa_nil))))) pa_nil))))))), ?_⟩
    walk_at "rdn"
    refine rd_seq ?_
    walk_at "rd"
    refine ⟨v, d, 3, 3, rfl, hv, ?_⟩
    refine ⟨_, rfl, ?_⟩
    cases ht : tupB 3 3 d with
    | false =>
      rw [realm_no ht] at q
      walk_at "rd"
      exact q H .refl
    | true =>
      obtain ⟨ds, rfl, h1, h2⟩ := tupB_some ht
      obtain ⟨z, a, t, rfl⟩ := three_of h1 h2
      have hsa := sm_tup.mp hs
      have q : ∀ H', Ext T [] H H' → Q (.bl (zonesD z && (idsD 1 3 a && (setsD t && (els z).all fun r => usedD (fstD r) (els t))))) H' := q
      obtain ⟨ta, x1, x2, x3, rfl, hta, g1, g2, g3⟩ := hv.trip'
      walk_at "rdn"
      refine rd_seq ?_
      walk_at "rd"
      refine rd_gtup (SqP.sq hta) rfl ?_
      walk_at "rdn"
      refine rd_seq ?_
      walk_at "rd"
      refine ⟨x1, z, rfl, g1, hsa.2 z (by simp), fun H1 e1 => ?_⟩
      refine ⟨_, rfl, ?_⟩
      cases hz : zonesD z with
      | false =>
        rw [hz] at q
        walk_at "rd"
        exact q H1 e1
      | true =>
        rw [hz] at q
        walk_at "rd"
        refine ⟨x2, a, 1, 3, rfl, g2.x e1, hsa.2 a (by simp), fun H2 e2 => ?_⟩
        refine ⟨_, rfl, ?_⟩
        cases ha : idsD 1 3 a with
        | false =>
          rw [ha] at q
          walk_at "rd"
          exact q H2 (e1.trans e2)
        | true =>
          rw [ha] at q
          walk_at "rd"
          refine ⟨x3, t, rfl, (g3.x e1).x e2, hsa.2 t (by simp), fun H3 e3 => ?_⟩
          refine ⟨_, rfl, ?_⟩
          have e13 := (e1.trans e2).trans e3
          cases hb : setsD t with
          | false =>
            rw [hb] at q
            walk_at "rd"
            exact q H3 e13
          | true =>
            rw [hb] at q
            obtain ⟨zl, rfl, hzl, hzr⟩ := zonesD_rows hz
            obtain ⟨sl, rfl, hsl, hsr⟩ := setsD_rows hb
            have q : ∀ H', Ext T [] H H' → Q (.bl (zl.all fun r => sl.any fun p => endsB p.1 r.1)) H' := fun H' e => by
              have := q H' e
              rw [used_all] at this
              exact this
            obtain ⟨ua, ux, rfl, hua, hui⟩ := (g1.x e13).tup'
            walk_at "rd"
            refine .inr ⟨⟨_, SqP.sq hua⟩, ?_⟩
            refine lcg_fv T siD (fun r => .bl (sl.any fun p => endsB p.1 r.1)) (fun _ => true) walk_tup hui rfl (fun i H x H' y => y) (fun H' e => SqP.sq (SqP.x hua e)) (by omega) (fun k y x hy H' e' hxy R' S' h1 _ => ?_) (fun D1 H4 nD1 e4 hD1 => ?_)
            · have hym := List.mem_of_getElem? hy
              refine rd_gpair (d1 := .str y.1) (d2 := .int y.2) hxy fun v1 v2 g1' g2' => ?_
              rw [g1'.str', g2'.int']
              refine ⟨rfl, ?_⟩
              walk_at "rd"
              exact ⟨y.1, x3, sl, rfl, (g3.x e13).x e', by omega, Nat.le_trans (name_len (hzr y hym).1) (by decide), fun r hr => Nat.le_trans (name_len (hsr r hr).1) (by decide), fun H5 e5 => h1 rfl H5 e5⟩
            · rw [filtT] at hD1
              have hD2 : H4 D1 = some (.lst ((zl.map fun r => sl.any fun p => endsB p.1 r.1).map V.bl)) := by
                rw [hD1, List.map_map]
                rfl
              walk_at "rd"
              refine rd_all (SqL.of hD2) ?_
              rw [List.all_map]
              exact q H4 (e13.trans e4)
end
section
variable {T : List (Addr × Str)} {P : Program} {w : World} {K : PySem.W.Frag} {mg : Str → Option Value} {base : Heap}
local macro_rules | `(tactic| walk_at "tr") => `(tactic| first
  | assumption
  | exact Ext.refl
  | ((with_reducible refine' Im.x (T := T) (H := ?trH) ?tra ?tre); (case tre => assumption); (case tra => walk_at "tr"))
  | ((with_reducible refine' Im.y (T := T) (H := ?trH) ?tra ?tre ?trt); (case tre => assumption); (case trt => walk_at "tr"); (case tra => walk_at "tr"))
  | ((with_reducible refine' ImAll.x (T := T) (H := ?trH) ?tra ?tre); (case tre => assumption); (case tra => walk_at "tr"))
  | ((with_reducible refine' ImAll.y (T := T) (H := ?trH) ?tra ?tre ?trt); (case tre => assumption); (case trt => walk_at "tr"); (case tra => walk_at "tr"))
  | ((with_reducible refine' Ls.x (T := T) (H := ?trH) ?tra ?tre); (case tre => assumption); (case tra => walk_at "tr"))
  | ((with_reducible refine' Ls.y (T := T) (H := ?trH) ?tra ?tre ?trn ?trt); (case tre => assumption); (case trt => walk_at "tr"); (case trn => walk_at "tr"); (case tra => walk_at "tr"))
  | ((with_reducible refine' SqP.x (T := T) (H := ?trH) ?tra ?tre); (case tre => assumption); (case tra => walk_at "tr"))
  | ((with_reducible refine' SqP.y (T := T) (H := ?trH) ?tra ?tre ?trt); (case tre => assumption); (case trt => walk_at "tr"); (case tra => walk_at "tr"))
  | ((with_reducible refine' StAt.x (T := T) (H := ?trH) ?tra ?tre); (case tre => assumption); (case tra => walk_at "tr"))
  | ((with_reducible refine' StAt.y (T := T) (H := ?trH) ?tra ?tre ?trt); (case tre => assumption); (case trt => walk_at "tr"); (case tra => walk_at "tr"))
  | ((with_reducible refine' Pools.ext0 (T := T) (H := ?trH) ?tra ?tre); (case tre => assumption); (case tra => walk_at "tr"))
  | ((with_reducible refine' Pools.ext (T := T) (H := ?trH) ?tra ?tre ?trt); (case tre => assumption); (case trt => walk_at "tr"); (case tra => walk_at "tr"))
  | ((with_reducible refine' CL.x (T := T) (H := ?trH) ?tra ?tre); (case tre => assumption); (case tra => walk_at "tr"))
  | ((with_reducible refine' CL.y (T := T) (H := ?trH) ?tra ?tre); (case tre => assumption); (case tra => walk_at "tr"))
  | ((with_reducible refine' Tape.ext (T := T) (H := ?trH) ?tra ?tre); (case tre => assumption); (case tra => walk_at "tr"))
  | ((with_reducible refine' lst.x (T := T) (H := ?trH) ?tra ?tre); (case tre => assumption); (case tra => walk_at "tr"))
  | ((with_reducible refine' lst.y (T := T) (H := ?trH) ?tra ?tre ?trn); (case tre => assumption); (case trn => walk_at "tr"); (case tra => walk_at "tr"))
  | ((with_reducible refine' tup.x (T := T) (H := ?trH) ?tra ?tre); (case tre => assumption); (case tra => walk_at "tr"))
  | ((with_reducible refine' tup.y (T := T) (H := ?trH) ?tra ?tre ?trt); (case tre => assumption); (case trt => walk_at "tr"); (case tra => walk_at "tr"))
  | ((with_reducible refine' frz.x (T := T) (H := ?trH) ?tra ?tre); (case tre => assumption); (case tra => walk_at "tr"))
  | ((with_reducible refine' frz.y (T := T) (H := ?trH) ?tra ?tre ?trt); (case tre => assumption); (case trt => walk_at "tr"); (case tra => walk_at "tr"))
  | ((with_reducible refine' Im.z (T := T) (H := ?trH) ?tra ?tre ?trt); (case tre => assumption); (case trt => assumption); (case tra => walk_at "tr"))
  | ((with_reducible refine' ImAll.z (T := T) (H := ?trH) ?tra ?tre ?trt); (case tre => assumption); (case trt => assumption); (case tra => walk_at "tr"))
  | ((with_reducible refine' StAt.z (T := T) (H := ?trH) ?tra ?tre ?trt); (case tre => assumption); (case trt => assumption); (case tra => walk_at "tr"))
  | ((with_reducible refine' SqP.z (T := T) (H := ?trH) ?tra ?tre ?trt); (case tre => assumption); (case trt => assumption); (case tra => walk_at "tr"))
  | ((with_reducible refine' tup.z (T := T) (H := ?trH) ?tra ?tre ?trt); (case tre => assumption); (case trt => assumption); (case tra => walk_at "tr"))
  | ((with_reducible refine' Ls.z (T := T) (H := ?trH) ?tra ?tre ?trt ?trn); (case tre => assumption); (case trt => assumption); (case trn => assumption); (case tra => walk_at "tr"))
  | ((with_reducible refine' lst.z (T := T) (H := ?trH) ?tra ?tre ?trn); (case tre => assumption); (case trn => assumption); (case tra => walk_at "tr"))
  | ((with_reducible refine' CL.z (T := T) (H := ?trH) ?tra ?tre ?trn); (case tre => assumption); (case trn => assumption); (case tra => walk_at "tr"))
  | ((with_reducible refine' Tape.ne1 (H := ?trH) ?trt ?trn); (case trn => assumption); (case trt => walk_at "tr"))
  | ((with_reducible refine' Ext.trans (H1 := ?trH) ?tra (Ext.any ?tre)); (case tre => assumption); (case tra => walk_at "tr"))
  | ((with_reducible refine' Ext.trans (H1 := ?trH) ?tra ?tre); (case tre => assumption); (case tra => walk_at "tr"))
  | ((with_reducible refine' Ext.back1 (T := T) (H1 := ?trH) ?tre ?trn ?tra); (case tra => assumption); (case trn => walk_at "tr"); (case tre => walk_at "tr"))
  | ((with_reducible refine' Ext.back0 (T := T) (H1 := ?trH) ?tre ?tra); (case tra => assumption); (case tre => walk_at "tr"))
  | ((with_reducible refine' SqT.of ?tra); (case tra => walk_at "tr"))
  | ((with_reducible refine' SqL.of ?tra); (case tra => walk_at "tr")))
local macro_rules | `(tactic| walk_at "al") => `(tactic| (refine ⟨by first | (show _ ≤ sizeLine; decide) | walk_at "sz", ?_⟩; intro alp aln; generalize alG : upd _ alp _ = alH; obtain ⟨aln2, alx, alh⟩ := al_of (T := T) aln alG; clear alG aln))
local macro_rules | `(tactic| walk_at "al0") => `(tactic| (intro alp aln; generalize alG : upd _ alp _ = alH; obtain ⟨aln2, alx, alh⟩ := al_of (T := T) aln alG; clear alG aln))
theorem pushE {Hb H : Hp} {Q : VK} {dp : Addr} {ds : List PyData} {v : V} {d : PyData} (hb : Ext T [] Hb H) (hn : Nw Hb dp) (hds : Ls H dp ds) (hv : Im H v d) (hl : ds.length < 1000)
    (q : ∀ H', Ext T [] Hb H' → Ext T [dp] H H' → Lsts H [dp] → Ls H' dp (ds ++ [d]) → Q .non H') : rAppend (.ref dp) [v] H Q :=
  rd_appLs hds hv (Nat.lt_of_lt_of_le hl (by decide)) fun ys hy h => q _ (hb.own hn hy) (Ext.mut (by simp) hy) (lsts_one hy) h
theorem extE {Hb H : Hp} {Q : VK} {dp b : Addr} {ds es : List PyData} (hb : Ext T [] Hb H) (hn : Nw Hb dp) (hds : Ls H dp ds) (hes : Ls H b es) (hl : ds.length + es.length ≤ 1000)
    (q : ∀ H', Ext T [] Hb H' → Ext T [dp] H H' → Lsts H [dp] → Ls H' dp (ds ++ es) → Q .non H') : rExtend (.ref dp) [.ref b] H Q := by
  obtain ⟨xs, h1, h2⟩ := hds
  obtain ⟨zs, h3, h4⟩ := hes
  have e : Ext T [dp] H (upd H dp (.lst (xs ++ zs))) := Ext.mut (by simp) h1
  refine ⟨dp, b, xs, zs, rfl, rfl, h1, h3, Nat.le_trans (show _ ≤ 1000 by rw [h2.len, h4.len]; exact hl) (by decide), q _ (hb.own hn h1) e (lsts_one h1) ⟨_, upd_same, ?_⟩⟩
  exact (ImAll.ext e (lsts_one h1) _ _ h2).app (ImAll.ext e (lsts_one h1) _ _ h4)
def zsl (z : Str × Int) : List Sl := .k z.1 :: (if z.1 = dotS then [] else [.l z.1, .h z.1])
theorem zsl_len (zs : List (Str × Int)) : (zs.flatMap zsl).length ≤ 3 * zs.length := by
  induction zs with
  | nil => exact Nat.le_refl _
  | cons z zs ih =>
    rw [List.flatMap_cons, List.length_append, List.length_cons]
    have : (zsl z).length ≤ 3 := by
      unfold zsl
      split <;> simp
    omega
theorem slots_zsl {R : Rm} (hR : RmIn R) : slotsR R = R.zs.flatMap zsl ++ R.ss.map fun p => .s p.1 p.2 := by
  obtain ⟨lag, rest, ez, hn⟩ := hR.ne
  unfold slotsR
  rw [ez, List.flatMap_cons]
  congr 1
  show Sl.k dotS :: (rest.flatMap fun z => [Sl.k z.1, .l z.1, .h z.1]) = (Sl.k dotS :: if dotS = dotS then [] else [.l dotS, .h dotS]) ++ rest.flatMap zsl
  rw [if_pos rfl]
  show _ = Sl.k dotS :: rest.flatMap zsl
  congr 1
  have key : ∀ l : List (Str × Int), (∀ r ∈ l, r.1 ≠ dotS) → (l.flatMap fun z => [Sl.k z.1, .l z.1, .h z.1]) = l.flatMap zsl := by
    intro l
    induction l with
    | nil => intro _; rfl
    | cons z l ih =>
      intro h
      rw [List.flatMap_cons, List.flatMap_cons, ih fun r hr => h r (List.mem_cons_of_mem _ hr)]
      unfold zsl
      rw [if_neg (h z List.mem_cons_self)]
  exact key rest hn
def spSlotsT (T : List (Addr × Str)) : Sp := fun vs H Q _ => ∃ (v : V) (R : Rm), vs = [v] ∧ Im H v (rmD R) ∧ RmIn R ∧ ∀ (p : Addr) (H' : Hp), Ext T [] H H' → Im H' (.ref p) (.tuple ((slotsR R).map slD)) → Q (.ref p) H'
theorem ok_slots (D : Def K mg "slots" s_slots ["realm"]) (mb : ∀ x ∈ bltns, mg x = none) (G_zone_names : Ok P w K mg base 1 "zone_names" ["realm"] (spZn T)) : Ok P w K mg base 2 "slots" ["realm"] (spSlotsT T) := by
  refine D.ok sc_slots (fun vs H Q E h => ?_) (fun cdv f A outer s H vs Q E hr h => ?_)
  · obtain ⟨v, R, rfl, _⟩ := h
    rfl
  · obtain ⟨v, R, rfl, hv, hR, q⟩ := h
    refine ⟨_, (pss_cons (ps_set (i := 1) sc_slots.nd rfl (.inl rfl) (pe_lst pa_nil))
   (pss_cons (ps_for PassesOwn.never rfl (pi_seq K rfl (pe_callO G_zone_names (hr.mono (by decide)) (by rfl) (pa_cons (pv 0) pa_nil))) (pg_name (i := 2) sc_slots.nd rfl (.inl rfl)) (pss_cons (ps_expr (pe_bm PySem.F.plainAttrs_list PySem.F.slot_list_append PySem.F.type_list_append mt_append (pv 1) (pa_cons (pe_tup (pa_cons pe_str (pa_cons (pv 2) pa_nil))) pa_nil)))
   (pss_one (ps_if (pt_cmpR (op_neU K rfl hr.units) (pv 2) pe_str (nomark _)) (pss_one (ps_expr (pe_bm PySem.F.plainAttrs_list PySem.F.slot_list_extend PySem.F.type_list_extend mt_extend (pv 1) (pa_cons (pe_lst (pa_cons (pe_tup (pa_cons pe_str (pa_cons (pv 2) pa_nil))) (pa_cons (pe_tup (pa_cons pe_str (pa_cons (pv 2) pa_nil))) pa_nil))) pa_nil)))) pss_nil))))
   (pss_cons (ps_expr (pe_bm PySem.F.plainAttrs_list PySem.F.slot_list_extend PySem.F.type_list_extend mt_extend (pv 1) (pa_cons (pe_lc (own := [("name", 3), ("kind", 4)]) (tt := tYes) rfl sc_slots.nd (pi_seq K rfl (pe_ix (ix_U K rfl) (pv 0) pe_int (fun _ _ => rfl))) (blkOk_by (N := N_slots) (sc := defScope s_slots) (by decide +kernel)) (fun _ _ _ _ _ => (pg_tupU (n := 2) K rfl rfl (pgs_cons (pg_name (i := 3) sc_slots.nd rfl (Or.inl rfl)) (pgs_cons (pg_name (i := 4) sc_slots.nd rfl (Or.inl rfl)) pgs_nil)))) (fun _ _ _ _ _ => pts_nil) (fun _ _ _ _ _ => (pe_tup (pa_cons pe_str (pa_cons (pv 3) (pa_cons (pv 4) pa_nil)))))) pa_nil)))
   (pss_one (ps_ret (pe_callTy (call_tupU K rfl) (by rfl) (mb _ (by decide)) (by decide +kernel) (pa_cons (pv 1) pa_nil))))))), ?_⟩
    walk_at "rdn"
    refine rd_seq ?_
    walk_at "rd"
    walk_at "al"
    rename_i fp H1 nfp e1 hfp
    have hl0 : Ls H1 fp (((R.zs.take 0).flatMap zsl).map slD) := ⟨[], hfp, .nil⟩
    have hv1 := hv.x e1
    have hzl := hR.len
    walk_at "rdn"
    refine rd_seq ?_
    walk_at "rd"
    refine ⟨v, R, rfl, hv1, hR, fun zp H2 nz e2 hz2 => ?_⟩
    walk_at "rd"
    have e12 := e1.trans e2
    refine .inr ⟨⟨_, SqT.of hz2⟩, ?_⟩
    refine forg_tup (xs := (R.zs.map (·.1)).map V.str) (fun i σ H' => Ext T [] H H' ∧ Lsts H' [fp] ∧ Im H' v (rmD R) ∧ H' zp = some (.tup ((R.zs.map (·.1)).map V.str)) ∧ ∃ (a : Option V), σ = [some v, some (.ref fp), a, none, none] ∧ Ls H' fp (((R.zs.take i).flatMap zsl).map slD))
      ⟨e12, lsts_one (lst.x hfp e2), hv1.x e2, hz2, _, rfl, hl0.x e2⟩ (fun i σ H' _ h => SqT.of h.2.2.2.1) (fun i x σ H3 hx h => ?_) (fun σ H3 h => ?_)
    · obtain ⟨e3, hm3, hv3, hz3, a, rfl, hl3⟩ := h
      rw [List.getElem?_map] at hx
      obtain ⟨zn, hzn, rfl⟩ := Option.map_eq_some_iff.mp hx
      rw [List.getElem?_map] at hzn
      obtain ⟨z, hzz, rfl⟩ := Option.map_eq_some_iff.mp hzn
      have hznm := hR.nm z (List.mem_of_getElem? hzz)
      have hcl : (((R.zs.take i).flatMap zsl).map slD).length ≤ 100 := by
        rw [List.length_map]
        have := zsl_len (R.zs.take i)
        rw [List.length_take] at this
        omega
      walk_at "rdn"
      refine rd_seq ?_
      obtain ⟨fx, hfx, hfi⟩ := hl3
      have hl3 : Ls H3 fp (((R.zs.take i).flatMap zsl).map slD) := ⟨fx, hfx, hfi⟩
      walk_at "rdn"
      walk_at "al"
      rename_i t1 H4 _ e4 ht1
      have h1 : Im H4 (.ref t1) (slD (.k z.1)) := .new2 (.str _ kw_ok.1) (.str _ (name_ok hznm)) ht1
      refine rd_nil ?_
      refine pushE (T := T) (Hb := H) (e3.trans e4) nfp (hl3.x e4) h1 (by omega) fun H5 e5 e45 m5 hl5 => ?_
      have hv5 := (hv3.x e4).z e45 m5
      have hz5 := tup.z (tup.x hz3 e4) e45 m5
      have etk : (R.zs.take (i + 1)).flatMap zsl = (R.zs.take i).flatMap zsl ++ zsl z := by
        rw [List.take_add_one, hzz, List.flatMap_append]
        show _ ++ (zsl z ++ []) = _
        rw [List.append_nil]
      obtain ⟨gx, hgx, hgi⟩ := hl5
      have hl5 : Ls H5 fp (((R.zs.take i).flatMap zsl).map slD ++ [slD (.k z.1)]) := ⟨gx, hgx, hgi⟩
      clear hfx hfi
      walk_at "rd"
      refine rd_itn (fun cc => ?_) (fun cc => ?_)
      · walk_at "rd"
        refine ⟨e5, lsts_one hgx, hv5, hz5, _, rfl, ?_⟩
        rw [etk, List.map_append, show zsl z = [.k z.1] by unfold zsl; rw [if_pos (show z.1 = dotS from cc)]]
        exact hl5
      · walk_at "rdn"
        walk_at "al"
        rename_i t2 H6 _ e6 ht2
        walk_at "rdn"
        walk_at "al"
        rename_i t3 H7 _ e7 ht3
        walk_at "rdn"
        walk_at "al"
        rename_i l1 H8 _ e8 hl1
        have h2 : Im H8 (.ref t2) (slD (.l z.1)) := (Im.new2 (.str _ kw_ok.2.1) (.str _ (name_ok hznm)) ht2).x (e7.trans e8)
        have h3 : Im H8 (.ref t3) (slD (.h z.1)) := (Im.new2 (.str _ kw_ok.2.2.1) (.str _ (name_ok hznm)) ht3).x e8
        have hes : Ls H8 l1 [slD (.l z.1), slD (.h z.1)] := ⟨_, hl1, .cons h2 (.cons h3 .nil)⟩
        have e58 := (e6.trans e7).trans e8
        refine rd_nil ?_
        refine extE (T := T) (Hb := H) (e5.trans e58) nfp (hl5.x e58) hes (by simp only [List.length_append, List.length_cons, List.length_nil]; omega) fun H9 e9 e89 m9 hl9 => ?_
        have hv9 := (hv5.x e58).z e89 m9
        have hz9 := tup.z (tup.x hz5 e58) e89 m9
        walk_at "rd"
        refine ⟨e9, ?_, hv9, hz9, _, rfl, ?_⟩
        · obtain ⟨kx, hkx, _⟩ := hl9
          exact lsts_one hkx
        · rw [etk, List.map_append, show zsl z = [.k z.1, .l z.1, .h z.1] by unfold zsl; rw [if_neg (show ¬ z.1 = dotS from cc)]]
          rw [List.append_assoc] at hl9
          exact hl9
    · obtain ⟨e3, hm3, hv3, hz3, a, rfl, hl3⟩ := h
      rw [List.length_map, List.length_map, List.take_length] at hl3
      obtain ⟨fx, hfx, hfi⟩ := hl3
      have hl3 : Ls H3 fp ((R.zs.flatMap zsl).map slD) := ⟨fx, hfx, hfi⟩
      walk_at "rdn"
      refine rd_seq ?_
      walk_at "rdn"
      refine rd_ixI (d := .tuple (R.ss.map ssD)) hv3 rfl fun u hu => ?_
      obtain ⟨sp, xs, rfl, hsp, hsi⟩ := hu.tup'
      have hsl := hR.slen
      walk_at "rdn"
      refine .inr ⟨⟨_, SqP.sq hsp⟩, ?_⟩
      refine lcg_fm T ssD (fun p => slD (.s p.1 p.2)) (fun _ => true) walk_tup hsi rfl (fun i H x H' y => y) (fun H' e => SqP.sq (SqP.x hsp e)) (by omega) (fun k y x hy H' e' hxy R' S' h1 _ => ?_) (fun D1 H4 nD1 e4 hD1 => ?_)
      · have hro := hR.sok y (List.mem_of_getElem? hy)
        refine rd_gpair (d1 := .str y.1) (d2 := .str y.2) hxy fun v1 v2 g1 g2 => ?_
        rw [g1.str', g2.str']
        refine ⟨rfl, ?_⟩
        walk_at "rd"
        walk_at "al"
        rename_i tt H6 _ e6 htt
        exact h1 rfl _ H6 e6 (.new3 (.str _ kw_ok.2.2.2) (.str _ (name_ok hro.1)) (.str _ (id_ok hro.2)) htt)
      · rw [filtT] at hD1
        have hzl3 := zsl_len R.zs
        refine rd_nil ?_
        refine extE (T := T) (Hb := H) (e3.trans e4) nfp (hl3.x e4) hD1 (by rw [List.length_map, List.length_map]; omega) fun H5 e5 e45 m5 hl5 => ?_
        obtain ⟨kx, hkx, hki⟩ := hl5
        walk_at "rd"
        refine rd_tupA T hkx fun p H6 np e6 hp => ?_
        refine q p H6 (e5.trans e6) ?_
        rw [slots_zsl hR, List.map_append, List.map_map]
        exact .tup hp (ImAll.x hki e6)
def spIsSlot (T : List (Addr × Str)) : Sp := fun vs H Q _ => ∃ (v u : V) (R : Rm) (d : PyData) (b : Bool), vs = [v, u] ∧ Im H v (rmD R) ∧ RmIn R ∧ Im H u d ∧ d.depth ≤ 60 ∧ (d ∈ (slotsR R).map slD ↔ b = true) ∧ ∀ H', Ext T [] H H' → Q (.bl b) H'
theorem ok_is_slot (D : Def K mg "is_slot" s_is_slot ["realm", "value"]) (G_slots : Ok P w K mg base 2 "slots" ["realm"] (spSlotsT T)) : Ok P w K mg base 3 "is_slot" ["realm", "value"] (spIsSlot T) := by
  refine D.ok sc_is_slot (fun vs H Q E h => ?_) (fun cdv f A outer s H vs Q E hr h => ?_)
  · obtain ⟨v, u, R, d, b, rfl, _⟩ := h
    rfl
  · obtain ⟨v, u, R, d, b, rfl, hv, hR, hu, hd, hb, q⟩ := h
    refine ⟨_, (pss_one (ps_ret (pe_cmpR (op_inW K rfl (Room.units65 hr)) (pv 1) (pe_callO G_slots (hr.mono (by decide)) (by rfl) (pa_cons (pv 0) pa_nil)) rfl))), ?_⟩
    walk_at "rd"
    refine ⟨v, R, rfl, hv, hR, fun p H1 e1 hp => ?_⟩
    refine rd_inWI (b := b) (hu.x e1) hp (Nat.le_trans hd (by decide)) ?_ hb (q H1 e1)
    show PyData.depthAll ((slotsR R).map slD) + 1 ≤ 64
    have := dep_map dep_sl (slotsR R)
    omega
def hostsB : Sl → Bool
  | .h _ => true
  | _ => false
theorem iff_of {p : Prop} {a b : Bool} [Decidable p] (h : decide p = a) (e : b = a) : p ↔ b = true := by rw [e, ← h, decide_eq_true_eq]
theorem sl_hosts (s : Sl) : ∃ (kw : Str) (r : List PyData), slD s = .tuple (.str kw :: r) ∧ (kw = Str.ofString "hosts" ↔ hostsB s = true) := by
  cases s with
  | k z => exact ⟨_, _, rfl, iff_of (a := false) (by decide +kernel) rfl⟩
  | l z => exact ⟨_, _, rfl, iff_of (a := false) (by decide +kernel) rfl⟩
  | h z => exact ⟨_, _, rfl, iff_of (a := true) (by decide +kernel) rfl⟩
  | s n k => exact ⟨_, _, rfl, iff_of (a := false) (by decide +kernel) rfl⟩
theorem five_of {ds : List PyData} (h1 : (5 : Int) ≤ ds.length) (h2 : (ds.length : Int) ≤ 5) : ∃ a b c d e, ds = [a, b, c, d, e] := by
  match ds, h1, h2 with
  | [a, b, c, d, e], _, _ => exact ⟨a, b, c, d, e, rfl⟩
  | [], h1, _ => exact absurd h1 (by decide)
  | [_], h1, _ => exact absurd h1 (by simp)
  | [_, _], h1, _ => exact absurd h1 (by simp)
  | [_, _, _], h1, _ => exact absurd h1 (by simp)
  | [_, _, _, _], h1, _ => exact absurd h1 (by simp)
  | _ :: _ :: _ :: _ :: _ :: _ :: _, _, h2 => simp only [List.length_cons] at h2; omega
theorem item_no {h : Bool} {d : PyData} (ht : tupB 5 5 d = false) : itemD h d = false := by
  cases d with
  | tuple ds =>
    match ds, ht with
    | [a, b, c, d, e], ht => cases ht
    | [], _ => rfl
    | [_], _ => rfl
    | [_, _], _ => rfl
    | [_, _, _], _ => rfl
    | [_, _, _, _], _ => rfl
    | _ :: _ :: _ :: _ :: _ :: _ :: _, _ => rfl
  | none => rfl
  | bool _ => rfl
  | int _ => rfl
  | str _ => rfl
  | list _ => rfl
  | dict _ => rfl
theorem Im.quint' {H : Hp} {v : V} {a b c d e : PyData} (h : Im H v (.tuple [a, b, c, d, e])) : ∃ ta x1 x2 x3 x4 x5, v = .ref ta ∧ SqP H ta [x1, x2, x3, x4, x5] ∧ Im H x1 a ∧ Im H x2 b ∧ Im H x3 c ∧ Im H x4 d ∧ Im H x5 e := by
  obtain ⟨ta, xs, rfl, ha, hi⟩ := h.tup'
  cases hi with
  | cons g1 hi =>
    cases hi with
    | cons g2 hi =>
      cases hi with
      | cons g3 hi =>
        cases hi with
        | cons g4 hi =>
          cases hi with
          | cons g5 hi =>
            cases hi
            exact ⟨ta, _, _, _, _, _, rfl, ha, g1, g2, g3, g4, g5⟩
theorem bare_iff {g : PyData} {x y : Int} : PyData.tuple [g, .int x, .int y] = .tuple [.tuple [], .int 0, .int 10000] ↔ bareB g (.int x) (.int y) = true := by
  constructor
  · intro h
    injection h with h
    injection h with h1 h
    injection h with h2 h
    injection h with h3 h
    injection h2 with h2
    injection h3 with h3
    rw [h1, h2, h3]
    rfl
  · intro h
    cases g with
    | tuple ds =>
      cases ds with
      | nil =>
        have h : (decide (x = 0) && decide (y = 10000)) = true := h
        rw [Bool.and_eq_true, decide_eq_true_eq, decide_eq_true_eq] at h
        rw [h.1, h.2]
      | cons a r => cases h
    | none => cases h
    | bool _ => cases h
    | int _ => cases h
    | str _ => cases h
    | list _ => cases h
    | dict _ => cases h
def spItemD (T : List (Addr × Str)) : Sp := fun vs H Q _ => ∃ (v u : V) (sl : Sl) (d : PyData), vs = [v, u] ∧ Im H v (slD sl) ∧ Im H u d ∧ Sm d ∧ d.depth ≤ 60 ∧ ∀ H', Ext T [] H H' → Q (.bl (itemD (hostsB sl) d)) H'
theorem ok_is_item (D : Def K mg "is_item" s_is_item ["slot", "value"]) (M : Cst mg) (G_is_tuple_of : Ok P w K mg base 1 "is_tuple_of" ["value", "least", "most"] spTupD) (G_are_ids : Ok P w K mg base 3 "are_ids" ["value", "least", "most"] (spIdsD T)) (G_is_integer_in : Ok P w K mg base 1 "is_integer_in" ["value", "least", "most"] spIntD) : Ok P w K mg base 4 "is_item" ["slot", "value"] (spItemD T) := by
  refine D.ok sc_is_item (fun vs H Q E h => ?_) (fun cdv f A outer s H vs Q E hr h => ?_)
  · obtain ⟨v, u, sl, d, rfl, _⟩ := h
    rfl
  · obtain ⟨v, u, sl, d, rfl, hv, hu, hs, hd, q⟩ := h
    refine ⟨_, (pss_cons (ps_if (pt_not (pt_E (pe_callO G_is_tuple_of (hr.mono (by decide)) (by rfl) (pa_cons (pv 1) (pa_cons pe_int (pa_cons pe_int pa_nil)))))) (pss_one (ps_ret pe_bl)) pss_nil)
   (pss_cons (ps_asg (pv 1) (pg_tupU (n := 5) K rfl rfl (pgs_cons (pg_name (i := 2) sc_is_item.nd rfl (.inl rfl)) (pgs_cons (pg_name (i := 3) sc_is_item.nd rfl (.inl rfl)) (pgs_cons (pg_name (i := 4) sc_is_item.nd rfl (.inl rfl)) (pgs_cons (pg_name (i := 5) sc_is_item.nd rfl (.inl rfl)) (pgs_cons (pg_name (i := 6) sc_is_item.nd rfl (.inl rfl)) pgs_nil)))))))
   (pss_cons (ps_if (PW.pt (pw_or (pt_not (pt_E (pe_callO G_are_ids (hr.mono (by decide)) (by rfl) (pa_cons (pv 2) (pa_cons pe_int (pa_cons (pe_glI (by rfl) M.c_MAX_IDS) pa_nil)))))) (pw_or1 (pt_not (pt_E (pe_callO G_is_integer_in (hr.mono (by decide)) (by rfl) (pa_cons (pv 3) (pa_cons pe_int (pa_cons (pe_glI (by rfl) M.c_MAX_LIFE) pa_nil))))))))) (pss_one (ps_ret pe_bl)) pss_nil)
   (pss_cons (ps_if (pt_not (pt_E (pe_callO G_are_ids (hr.mono (by decide)) (by rfl) (pa_cons (pv 4) (pa_cons pe_int (pa_cons (pe_glI (by rfl) M.c_MAX_SIGNERS) pa_nil)))))) (pss_one (ps_ret pe_bl)) pss_nil)
   (pss_cons (ps_if (PW.pt (pw_or (pt_not (pt_E (pe_callO G_is_integer_in (hr.mono (by decide)) (by rfl) (pa_cons (pv 5) (pa_cons pe_int (pa_cons (pe_glI (by rfl) M.c_MAX_TIME) pa_nil)))))) (pw_or1 (pt_not (pt_E (pe_callO G_is_integer_in (hr.mono (by decide)) (by rfl) (pa_cons (pv 6) (pa_cons (pv 5) (pa_cons (pe_glI (by rfl) M.c_MAX_TIME) pa_nil))))))))) (pss_one (ps_ret pe_bl)) pss_nil)
   (pss_one (ps_ret (pe_or (pe_cmpR (op_neU K rfl hr.units) (pe_ix (ix_U K rfl) (pv 0) pe_int (fun _ _ => rfl)) pe_str (nomark _)) (pe_one (pe_cmpR (op_eqU K rfl hr.units) (pe_tup (pa_cons (pv 4) (pa_cons (pv 5) (pa_cons (pv 6) pa_nil)))) (pe_tup (pa_cons (pe_tup pa_nil) (pa_cons pe_int (pa_cons (pe_glI (by rfl) M.c_MAX_TIME) pa_nil)))) (nomark _))))))))))), ?_⟩
    walk_at "rdn"
    refine rd_seq ?_
    walk_at "rd"
    refine ⟨u, d, 5, 5, rfl, hu, ?_⟩
    refine ⟨_, rfl, ?_⟩
    cases ht : tupB 5 5 d with
    | false =>
      rw [item_no ht] at q
      walk_at "rd"
      exact q H .refl
    | true =>
      obtain ⟨ds, rfl, h1, h2⟩ := tupB_some ht
      obtain ⟨c, l, g, a, b, rfl⟩ := five_of h1 h2
      have hsa := sm_tup.mp hs
      have q : ∀ H', Ext T [] H H' → Q (.bl (idsD 0 4 c && (intB 1 1000 l && (idsD 0 3 g && (intB 0 10000 a && (fromB a b && (!hostsB sl || bareB g a b))))))) H' := q
      obtain ⟨ta, x1, x2, x3, x4, x5, rfl, hta, g1, g2, g3, g4, g5⟩ := hu.quint'
      walk_at "rdn"
      refine rd_seq ?_
      walk_at "rd"
      refine rd_gtup (SqP.sq hta) rfl ?_
      walk_at "rdn"
      refine rd_seq ?_
      walk_at "rd"
      refine ⟨x1, c, 0, 4, rfl, g1, hsa.2 c (by simp), fun H1 e1 => ?_⟩
      refine ⟨_, rfl, ?_⟩
      cases hc : idsD 0 4 c with
      | false =>
        rw [hc] at q
        walk_at "rd"
        exact q H1 e1
      | true =>
        rw [hc] at q
        walk_at "rd"
        refine ⟨x2, l, 1, 1000, rfl, g2.x e1, ?_⟩
        refine ⟨_, rfl, ?_⟩
        cases hl : intB 1 1000 l with
        | false =>
          rw [hl] at q
          walk_at "rd"
          exact q H1 e1
        | true =>
          rw [hl] at q
          walk_at "rd"
          refine ⟨x3, g, 0, 3, rfl, g3.x e1, hsa.2 g (by simp), fun H2 e2 => ?_⟩
          refine ⟨_, rfl, ?_⟩
          have e12 := e1.trans e2
          cases hg : idsD 0 3 g with
          | false =>
            rw [hg] at q
            walk_at "rd"
            exact q H2 e12
          | true =>
            rw [hg] at q
            walk_at "rd"
            refine ⟨x4, a, 0, 10000, rfl, g4.x e12, ?_⟩
            refine ⟨_, rfl, ?_⟩
            cases ha : intB 0 10000 a with
            | false =>
              rw [ha] at q
              walk_at "rd"
              exact q H2 e12
            | true =>
              rw [ha] at q
              obtain ⟨ai, rfl, _, _⟩ := int_some ha
              obtain rfl := g4.int'
              walk_at "rd"
              refine ⟨x5, b, ai, 10000, rfl, g5.x e12, ?_⟩
              refine ⟨_, rfl, ?_⟩
              have q : ∀ H', Ext T [] H H' → Q (.bl (intB ai 10000 b && (!hostsB sl || bareB g (.int ai) b))) H' := q
              cases hb : intB ai 10000 b with
              | false =>
                rw [hb] at q
                walk_at "rd"
                exact q H2 e12
              | true =>
                rw [hb] at q
                obtain ⟨bi, rfl, _, _⟩ := int_some hb
                obtain rfl := g5.int'
                obtain ⟨kw, rs, ekw, hkw⟩ := sl_hosts sl
                have hsk := hv.x e12
                rw [ekw] at hsk
                walk_at "rd"
                refine rd_ixSs (z := kw) hsk (atI_nat (xs := .str kw :: rs) (j := 0) rfl) ?_
                walk_at "rd"
                refine rd_itn (fun cc => ?_) (fun cc => ?_)
                · rw [hkw.mp cc] at q
                  walk_at "rd"
                  walk_at "al"
                  rename_i r1 H3 _ e3 hr1
                  walk_at "rd"
                  walk_at "al"
                  rename_i r0 H4 _ e4 hr0
                  walk_at "rd"
                  walk_at "al"
                  rename_i r2 H5 _ e5 hr2
                  have e25 := (e3.trans e4).trans e5
                  have i1 : Im H5 (.ref r1) (.tuple [g, .int ai, .int bi]) := (Im.new3 ((g3.x e12).x e3) (.int _) (.int _) hr1).x (e4.trans e5)
                  have i2 : Im H5 (.ref r2) (.tuple [.tuple [], .int 0, .int 10000]) := .new3 ((Im.tup hr0 .nil).x e5) (.int _) (.int _) hr2
                  refine rd_eqI (b := bareB g (.int ai) (.int bi)) i1 i2 ?_ (by decide) bare_iff ?_
                  · have hd : max c.depth (max l.depth (max g.depth _)) + 1 ≤ 60 := hd
                    show max g.depth (max 0 (max 0 0)) + 1 ≤ 64
                    omega
                  · exact q H5 (e12.trans e25)
                · have hh : hostsB sl = false := by
                    cases hh : hostsB sl with
                    | false => rfl
                    | true => exact absurd (hkw.mpr hh) cc
                  rw [hh] at q
                  exact q H2 e12
end
section
variable {T : List (Addr × Str)} {P : Program} {w : World} {K : PySem.W.Frag} {mg : Str → Option Value} {base : Heap}
local macro_rules | `(tactic| walk_at "tr") => `(tactic| first
  | assumption
  | exact Ext.refl
  | ((with_reducible refine' Im.x (T := T) (H := ?trH) ?tra ?tre); (case tre => assumption); (case tra => walk_at "tr"))
  | ((with_reducible refine' Im.y (T := T) (H := ?trH) ?tra ?tre ?trt); (case tre => assumption); (case trt => walk_at "tr"); (case tra => walk_at "tr"))
  | ((with_reducible refine' ImAll.x (T := T) (H := ?trH) ?tra ?tre); (case tre => assumption); (case tra => walk_at "tr"))
  | ((with_reducible refine' ImAll.y (T := T) (H := ?trH) ?tra ?tre ?trt); (case tre => assumption); (case trt => walk_at "tr"); (case tra => walk_at "tr"))
  | ((with_reducible refine' Ls.x (T := T) (H := ?trH) ?tra ?tre); (case tre => assumption); (case tra => walk_at "tr"))
  | ((with_reducible refine' Ls.y (T := T) (H := ?trH) ?tra ?tre ?trn ?trt); (case tre => assumption); (case trt => walk_at "tr"); (case trn => walk_at "tr"); (case tra => walk_at "tr"))
  | ((with_reducible refine' SqP.x (T := T) (H := ?trH) ?tra ?tre); (case tre => assumption); (case tra => walk_at "tr"))
  | ((with_reducible refine' SqP.y (T := T) (H := ?trH) ?tra ?tre ?trt); (case tre => assumption); (case trt => walk_at "tr"); (case tra => walk_at "tr"))
  | ((with_reducible refine' StAt.x (T := T) (H := ?trH) ?tra ?tre); (case tre => assumption); (case tra => walk_at "tr"))
  | ((with_reducible refine' StAt.y (T := T) (H := ?trH) ?tra ?tre ?trt); (case tre => assumption); (case trt => walk_at "tr"); (case tra => walk_at "tr"))
  | ((with_reducible refine' Pools.ext0 (T := T) (H := ?trH) ?tra ?tre); (case tre => assumption); (case tra => walk_at "tr"))
  | ((with_reducible refine' Pools.ext (T := T) (H := ?trH) ?tra ?tre ?trt); (case tre => assumption); (case trt => walk_at "tr"); (case tra => walk_at "tr"))
  | ((with_reducible refine' CL.x (T := T) (H := ?trH) ?tra ?tre); (case tre => assumption); (case tra => walk_at "tr"))
  | ((with_reducible refine' CL.y (T := T) (H := ?trH) ?tra ?tre); (case tre => assumption); (case tra => walk_at "tr"))
  | ((with_reducible refine' Tape.ext (T := T) (H := ?trH) ?tra ?tre); (case tre => assumption); (case tra => walk_at "tr"))
  | ((with_reducible refine' lst.x (T := T) (H := ?trH) ?tra ?tre); (case tre => assumption); (case tra => walk_at "tr"))
  | ((with_reducible refine' lst.y (T := T) (H := ?trH) ?tra ?tre ?trn); (case tre => assumption); (case trn => walk_at "tr"); (case tra => walk_at "tr"))
  | ((with_reducible refine' tup.x (T := T) (H := ?trH) ?tra ?tre); (case tre => assumption); (case tra => walk_at "tr"))
  | ((with_reducible refine' tup.y (T := T) (H := ?trH) ?tra ?tre ?trt); (case tre => assumption); (case trt => walk_at "tr"); (case tra => walk_at "tr"))
  | ((with_reducible refine' frz.x (T := T) (H := ?trH) ?tra ?tre); (case tre => assumption); (case tra => walk_at "tr"))
  | ((with_reducible refine' frz.y (T := T) (H := ?trH) ?tra ?tre ?trt); (case tre => assumption); (case trt => walk_at "tr"); (case tra => walk_at "tr"))
  | ((with_reducible refine' Im.z (T := T) (H := ?trH) ?tra ?tre ?trt); (case tre => assumption); (case trt => assumption); (case tra => walk_at "tr"))
  | ((with_reducible refine' ImAll.z (T := T) (H := ?trH) ?tra ?tre ?trt); (case tre => assumption); (case trt => assumption); (case tra => walk_at "tr"))
  | ((with_reducible refine' StAt.z (T := T) (H := ?trH) ?tra ?tre ?trt); (case tre => assumption); (case trt => assumption); (case tra => walk_at "tr"))
  | ((with_reducible refine' SqP.z (T := T) (H := ?trH) ?tra ?tre ?trt); (case tre => assumption); (case trt => assumption); (case tra => walk_at "tr"))
  | ((with_reducible refine' tup.z (T := T) (H := ?trH) ?tra ?tre ?trt); (case tre => assumption); (case trt => assumption); (case tra => walk_at "tr"))
  | ((with_reducible refine' Ls.z (T := T) (H := ?trH) ?tra ?tre ?trt ?trn); (case tre => assumption); (case trt => assumption); (case trn => assumption); (case tra => walk_at "tr"))
  | ((with_reducible refine' lst.z (T := T) (H := ?trH) ?tra ?tre ?trn); (case tre => assumption); (case trn => assumption); (case tra => walk_at "tr"))
  | ((with_reducible refine' CL.z (T := T) (H := ?trH) ?tra ?tre ?trn); (case tre => assumption); (case trn => assumption); (case tra => walk_at "tr"))
  | ((with_reducible refine' Tape.ne1 (H := ?trH) ?trt ?trn); (case trn => assumption); (case trt => walk_at "tr"))
  | ((with_reducible refine' Ext.trans (H1 := ?trH) ?tra (Ext.any ?tre)); (case tre => assumption); (case tra => walk_at "tr"))
  | ((with_reducible refine' Ext.trans (H1 := ?trH) ?tra ?tre); (case tre => assumption); (case tra => walk_at "tr"))
  | ((with_reducible refine' Ext.back1 (T := T) (H1 := ?trH) ?tre ?trn ?tra); (case tra => assumption); (case trn => walk_at "tr"); (case tre => walk_at "tr"))
  | ((with_reducible refine' Ext.back0 (T := T) (H1 := ?trH) ?tre ?tra); (case tra => assumption); (case tre => walk_at "tr"))
  | ((with_reducible refine' SqT.of ?tra); (case tra => walk_at "tr"))
  | ((with_reducible refine' SqL.of ?tra); (case tra => walk_at "tr")))
local macro_rules | `(tactic| walk_at "al") => `(tactic| (refine ⟨by first | (show _ ≤ sizeLine; decide) | walk_at "sz", ?_⟩; intro alp aln; generalize alG : upd _ alp _ = alH; obtain ⟨aln2, alx, alh⟩ := al_of (T := T) aln alG; clear alG aln))
local macro_rules | `(tactic| walk_at "al0") => `(tactic| (intro alp aln; generalize alG : upd _ alp _ = alH; obtain ⟨aln2, alx, alh⟩ := al_of (T := T) aln alG; clear alG aln))
theorem rd_catII {H : Hp} {Q : VK} {u v : V} {ds es : List PyData} (h1 : Im H u (.tuple ds)) (h2 : Im H v (.tuple es)) (n1 : ds ≠ []) (n2 : es ≠ []) (c : ds.length + es.length ≤ 1000) (q : ∀ y H', Ext T [] H H' → Im H' y (.tuple (ds ++ es)) → Q y H') : rPlus K u v H Q := by
  obtain ⟨a, xs, rfl, ha, hi⟩ := h1.tup'
  obtain ⟨b, ys, rfl, hb, hj⟩ := h2.tup'
  have l1 := hi.len
  have l2 := hj.len
  refine rd_catT (SqP.sq ha) (SqP.sq hb) (fun e => n1 (List.eq_nil_of_length_eq_zero (by rw [← l1, e]; rfl))) (fun e => n2 (List.eq_nil_of_length_eq_zero (by rw [← l2, e]; rfl))) (Nat.le_trans (show _ ≤ 1000 by omega) (by decide)) fun p np => ?_
  obtain ⟨_, e, hp⟩ := alT (T := T) np (xs ++ ys)
  generalize upd H p _ = H' at e hp ⊢
  exact q _ H' e (.tup hp ((hi.x e).app (hj.x e)))
def frW : List Str := ["y0", "y1", "y2", "y3", "y4", "y5", "y6", "y7", "y8", "y9", "x0", "x1", "x2", "x3", "x4"]
def nmR (R : Rm) : List (Str × PyData) := (R.zs.map fun z => (z.1, PyData.int z.2)) ++ R.ss.map fun p => (p.1, PyData.str p.2)
def spFresh (T : List (Addr × Str)) : Sp := fun vs H Q _ => ∃ (v : V) (R : Rm), vs = [v] ∧ Im H v (rmD R) ∧ RmIn R ∧ R.ss ≠ [] ∧ ∀ (f : Str) (H' : Hp), Ext T [] H H' → labelB f = true → (∀ p ∈ R.ss, lastL p.1 ≠ f) → Q (.str f) H'
theorem ok_fresh (D : Def K mg "_law_fresh" s_law_fresh ["realm"]) (mb : ∀ x ∈ bltns, mg x = none) : Ok P w K mg base 1 "_law_fresh" ["realm"] (spFresh T) := by
  refine D.ok sc_law_fresh (fun vs H Q E h => ?_) (fun cdv f A outer s H vs Q E hr h => ?_)
  · obtain ⟨v, R, rfl, _⟩ := h
    rfl
  · obtain ⟨v, R, rfl, hv, hR, hs0, q⟩ := h
    refine ⟨_, (pss_cons (ps_set (i := 1) sc_law_fresh.nd rfl (.inr rfl) (pe_lc (own := [("row", 2)]) (g := gName 2) (tt := tYes) rfl sc_law_fresh.nd (pi_seq K rfl (pe_op (op_plus K rfl) (pe_ix (ix_U K rfl) (pv 0) pe_int (fun _ _ => rfl)) (pe_ix (ix_U K rfl) (pv 0) pe_int (fun _ _ => rfl)))) (blkOk_by (N := N_law_fresh) (sc := defScope s_law_fresh) (by decide +kernel)) (fun _ _ _ _ _ => (pg_name (i := 2) sc_law_fresh.nd rfl (Or.inl rfl))) (fun _ _ _ _ _ => pts_nil) (fun _ _ _ _ _ => (pe_ix (ix_U K rfl) (pe_m1 PySem.F.slot_str_split PySem.F.type_str_split mt_splitU (pe_ix (ix_U K rfl) (pv 2) pe_int (fun _ _ => rfl)) pe_str) (pe_un un_neg pe_int) (fun _ _ => rfl)))))
   (pss_one (ps_ret (pe_ix (ix_U K rfl) (pe_lc (own := [("word", 3)]) (g := gName 3) rfl sc_law_fresh.nd (pi_seq K rfl (pe_lst (pa_cons pe_str (pa_cons pe_str (pa_cons pe_str (pa_cons pe_str (pa_cons pe_str (pa_cons pe_str (pa_cons pe_str (pa_cons pe_str (pa_cons pe_str (pa_cons pe_str (pa_cons pe_str (pa_cons pe_str (pa_cons pe_str (pa_cons pe_str (pa_cons pe_str pa_nil))))))))))))))))) (blkOk_by (N := N_law_fresh) (sc := defScope s_law_fresh) (by decide +kernel)) (fun _ _ _ _ _ => (pg_name (i := 3) sc_law_fresh.nd rfl (Or.inl rfl))) (fun _ _ _ _ _ => (pts_one (pt_cmpR (op_ninW K rfl (Room.units65 hr)) (pv 3) (pv 1) rfl))) (fun _ _ _ _ _ => (pv 3))) pe_int (fun _ _ => rfl))))), ?_⟩
    have hz0 : R.zs.map siD ≠ [] := by
      obtain ⟨lag, rest, e, _⟩ := hR.ne
      rw [e]
      simp
    have hzl := hR.len
    have hsl := hR.slen
    walk_at "rdn"
    refine rd_seq ?_
    walk_at "rd"
    refine rd_ixI (d := .tuple (R.zs.map siD)) hv rfl fun u1 hu1 => ?_
    walk_at "rd"
    refine rd_ixI (d := .tuple (R.ss.map ssD)) hv rfl fun u2 hu2 => ?_
    walk_at "rd"
    refine rd_catII (T := T) hu1 hu2 hz0 (by simpa using hs0) (by rw [List.length_map, List.length_map]; omega) fun y H1 e1 hy => ?_
    have hnm : R.zs.map siD ++ R.ss.map ssD = (nmR R).map fun r => PyData.tuple [.str r.1, r.2] := by
      unfold nmR
      rw [List.map_append, List.map_map, List.map_map]
      rfl
    rw [hnm] at hy
    obtain ⟨ua, ux, rfl, hua, hui⟩ := hy.tup'
    have hnl : (nmR R).length ≤ 13 := by
      unfold nmR
      rw [List.length_append, List.length_map, List.length_map]
      omega
    have hnn : ∀ r ∈ nmR R, nameB r.1 = true := fun r hr => by
      unfold nmR at hr
      rcases List.mem_append.mp hr with hr | hr
      · obtain ⟨z, hz, rfl⟩ := List.mem_map.mp hr
        exact hR.nm z hz
      · obtain ⟨p, hp, rfl⟩ := List.mem_map.mp hr
        exact (hR.sok p hp).1
    refine ⟨ua, rfl, .inr ⟨⟨_, SqP.sq hua⟩, ?_⟩⟩
    refine lcg_fv T (fun r : Str × PyData => PyData.tuple [.str r.1, r.2]) (fun r => .str (lastL r.1)) (fun _ => true) walk_tup hui rfl (fun i H x H' y => y) (fun H' e => SqP.sq (SqP.x hua e)) (by omega) (fun k y x hy H' e' hxy R' S' h1 _ => ?_) (fun D1 H2 nD1 e2 hD1 => ?_)
    · have hyn := name_len (hnn y (List.mem_of_getElem? hy))
      refine rd_name ⟨wipe1, ?_⟩
      walk_at "rd"
      refine rd_ixSs hxy rfl ?_
      walk_at "rd"
      refine rd_split (by decide +kernel) (by walk_at "sz") fun p np => ?_
      walk_at "rd"
      refine rd_ixL (SqL.of upd_same) (v := .str (lastL y.1)) (at_last (by rw [List.getLast?_map]; exact congrArg (Option.map V.str) (parts_last y.1))) ?_
      exact h1 rfl _ (.new np)
    · rw [filtT] at hD1
      have hD2 : H2 D1 = some (.lst (((nmR R).map fun r => lastL r.1).map V.str)) := by
        rw [hD1, List.map_map]
        rfl
      generalize hus : (nmR R).map (fun r => lastL r.1) = us at hD2
      have husl : us.length ≤ 13 := by rw [← hus, List.length_map]; exact hnl
      walk_at "rd"
      walk_at "al"
      rename_i wl H3 _ e3 hwl
      have hwl : H3 wl = some (.lst (frW.map V.str)) := hwl
      have hwi : ImAll H3 (frW.map V.str) (frW.map .str) := ImAll.strs (by decide +kernel)
      have hD3 := lst.x hD2 e3
      walk_at "rd"
      refine lcg_fv T PyData.str V.str (fun w => !decide (w ∈ us)) (walk_list (K := K) (a := wl)) hwi rfl (fun i H x H' y => y) (fun H' e => SqL.of (lst.x hwl e)) (by decide) (fun k y x hy H' e' hxy R' S' h1 h2 => ?_) (fun D2 H4 nD2 e4 hD4 => ?_)
      · rw [hxy.str']
        refine rd_name ⟨wipe1, ?_⟩
        walk_at "rd"
        refine rd_ninWs (lst.x hD3 e') ?_
        refine ⟨_, rfl, ?_⟩
        cases hc : (!decide (y ∈ us)) with
        | false => exact h2 hc H' .refl
        | true =>
          walk_at "rd"
          exact h1 hc H' .refl
      · obtain ⟨f, fs, hfs⟩ : ∃ f fs, (frW.filter fun w => !decide (w ∈ us)) = f :: fs := by
          cases hf : frW.filter fun w => !decide (w ∈ us) with
          | cons f fs => exact ⟨f, fs, rfl⟩
          | nil =>
            have hall : ∀ w ∈ frW, w ∈ us := fun w hw => by
              have := List.filter_eq_nil_iff.mp hf w hw
              simpa using this
            have := nodup_len (by decide +kernel : frW.Nodup) hall
            have h15 : frW.length = 15 := rfl
            omega
        have hfm : f ∈ frW.filter fun w => !decide (w ∈ us) := by rw [hfs]; exact List.mem_cons_self
        obtain ⟨hfw, hfu⟩ := List.mem_filter.mp hfm
        rw [hfs] at hD4
        walk_at "rd"
        refine rd_ixL (SqL.of hD4) (v := .str f) (atI_nat (xs := (f :: fs).map V.str) (j := 0) rfl) ?_
        refine q f H4 (((e1.trans e2).trans e3).trans e4) ((by decide +kernel : ∀ w ∈ frW, labelB w = true) f hfw) fun p hp e => ?_
        have : f ∈ us := by
          rw [← hus, ← e]
          refine List.mem_map.mpr ⟨(p.1, .str p.2), ?_, rfl⟩
          unfold nmR
          exact List.mem_append_right _ (List.mem_map_of_mem (f := fun p : Str × Str => (p.1, PyData.str p.2)) hp)
        simp [this] at hfu
end
def cutD (ds : List PyData) (lo hi : Option Int) : List PyData := (ds.drop (HT.sIx ds.length 0 lo)).take (HT.sIx ds.length ds.length hi - HT.sIx ds.length 0 lo)
theorem cutD_tail (ds : List PyData) : cutD ds (some 1) none = ds.tail := by
  unfold cutD
  rw [show HT.sIx ds.length 0 (some 1) = min 1 ds.length from HT.sIx_nat ds.length 0 1, HT.sIx_none]
  cases ds with
  | nil => rfl
  | cons d ds =>
    rw [show min 1 (d :: ds).length = 1 by simp]
    show ds.take (ds.length + 1 - 1) = ds
    rw [Nat.add_sub_cancel, List.take_length]
theorem cutD_last {ds : List PyData} {d : PyData} (h : ds.getLast? = some d) : cutD ds (some (-1)) none = [d] := by
  unfold cutD
  rw [HT.sIx_none]
  obtain ⟨es, rfl⟩ := List.getLast?_eq_some_iff.mp h
  have e : HT.sIx (es ++ [d]).length 0 (some (-1)) = es.length := by
    show (if (-1 : Int) < 0 then ((-1 : Int) + ((es ++ [d]).length : Int)).toNat else min (-1 : Int).toNat (es ++ [d]).length) = _
    rw [if_pos (by decide), List.length_append, List.length_singleton]
    omega
  rw [e, List.drop_left, List.length_append, List.length_singleton, Nat.add_sub_cancel_left]
  rfl
theorem last_mapS {R : Rm} (h : R.ss ≠ []) : (R.ss.map ssD).getLast? = some (ssD (lastS R)) := by
  rw [List.getLast?_map, last_ne (dotS, dotS) h]
  rfl
section
variable {T : List (Addr × Str)} {P : Program} {w : World} {K : PySem.W.Frag} {mg : Str → Option Value} {base : Heap}
local macro_rules | `(tactic| walk_at "tr") => `(tactic| first
  | assumption
  | exact Ext.refl
  | ((with_reducible refine' Im.x (T := T) (H := ?trH) ?tra ?tre); (case tre => assumption); (case tra => walk_at "tr"))
  | ((with_reducible refine' Im.y (T := T) (H := ?trH) ?tra ?tre ?trt); (case tre => assumption); (case trt => walk_at "tr"); (case tra => walk_at "tr"))
  | ((with_reducible refine' ImAll.x (T := T) (H := ?trH) ?tra ?tre); (case tre => assumption); (case tra => walk_at "tr"))
  | ((with_reducible refine' ImAll.y (T := T) (H := ?trH) ?tra ?tre ?trt); (case tre => assumption); (case trt => walk_at "tr"); (case tra => walk_at "tr"))
  | ((with_reducible refine' Ls.x (T := T) (H := ?trH) ?tra ?tre); (case tre => assumption); (case tra => walk_at "tr"))
  | ((with_reducible refine' Ls.y (T := T) (H := ?trH) ?tra ?tre ?trn ?trt); (case tre => assumption); (case trt => walk_at "tr"); (case trn => walk_at "tr"); (case tra => walk_at "tr"))
  | ((with_reducible refine' SqP.x (T := T) (H := ?trH) ?tra ?tre); (case tre => assumption); (case tra => walk_at "tr"))
  | ((with_reducible refine' SqP.y (T := T) (H := ?trH) ?tra ?tre ?trt); (case tre => assumption); (case trt => walk_at "tr"); (case tra => walk_at "tr"))
  | ((with_reducible refine' StAt.x (T := T) (H := ?trH) ?tra ?tre); (case tre => assumption); (case tra => walk_at "tr"))
  | ((with_reducible refine' StAt.y (T := T) (H := ?trH) ?tra ?tre ?trt); (case tre => assumption); (case trt => walk_at "tr"); (case tra => walk_at "tr"))
  | ((with_reducible refine' Pools.ext0 (T := T) (H := ?trH) ?tra ?tre); (case tre => assumption); (case tra => walk_at "tr"))
  | ((with_reducible refine' Pools.ext (T := T) (H := ?trH) ?tra ?tre ?trt); (case tre => assumption); (case trt => walk_at "tr"); (case tra => walk_at "tr"))
  | ((with_reducible refine' CL.x (T := T) (H := ?trH) ?tra ?tre); (case tre => assumption); (case tra => walk_at "tr"))
  | ((with_reducible refine' CL.y (T := T) (H := ?trH) ?tra ?tre); (case tre => assumption); (case tra => walk_at "tr"))
  | ((with_reducible refine' Tape.ext (T := T) (H := ?trH) ?tra ?tre); (case tre => assumption); (case tra => walk_at "tr"))
  | ((with_reducible refine' lst.x (T := T) (H := ?trH) ?tra ?tre); (case tre => assumption); (case tra => walk_at "tr"))
  | ((with_reducible refine' lst.y (T := T) (H := ?trH) ?tra ?tre ?trn); (case tre => assumption); (case trn => walk_at "tr"); (case tra => walk_at "tr"))
  | ((with_reducible refine' tup.x (T := T) (H := ?trH) ?tra ?tre); (case tre => assumption); (case tra => walk_at "tr"))
  | ((with_reducible refine' tup.y (T := T) (H := ?trH) ?tra ?tre ?trt); (case tre => assumption); (case trt => walk_at "tr"); (case tra => walk_at "tr"))
  | ((with_reducible refine' frz.x (T := T) (H := ?trH) ?tra ?tre); (case tre => assumption); (case tra => walk_at "tr"))
  | ((with_reducible refine' frz.y (T := T) (H := ?trH) ?tra ?tre ?trt); (case tre => assumption); (case trt => walk_at "tr"); (case tra => walk_at "tr"))
  | ((with_reducible refine' Im.z (T := T) (H := ?trH) ?tra ?tre ?trt); (case tre => assumption); (case trt => assumption); (case tra => walk_at "tr"))
  | ((with_reducible refine' ImAll.z (T := T) (H := ?trH) ?tra ?tre ?trt); (case tre => assumption); (case trt => assumption); (case tra => walk_at "tr"))
  | ((with_reducible refine' StAt.z (T := T) (H := ?trH) ?tra ?tre ?trt); (case tre => assumption); (case trt => assumption); (case tra => walk_at "tr"))
  | ((with_reducible refine' SqP.z (T := T) (H := ?trH) ?tra ?tre ?trt); (case tre => assumption); (case trt => assumption); (case tra => walk_at "tr"))
  | ((with_reducible refine' tup.z (T := T) (H := ?trH) ?tra ?tre ?trt); (case tre => assumption); (case trt => assumption); (case tra => walk_at "tr"))
  | ((with_reducible refine' Ls.z (T := T) (H := ?trH) ?tra ?tre ?trt ?trn); (case tre => assumption); (case trt => assumption); (case trn => assumption); (case tra => walk_at "tr"))
  | ((with_reducible refine' lst.z (T := T) (H := ?trH) ?tra ?tre ?trn); (case tre => assumption); (case trn => assumption); (case tra => walk_at "tr"))
  | ((with_reducible refine' CL.z (T := T) (H := ?trH) ?tra ?tre ?trn); (case tre => assumption); (case trn => assumption); (case tra => walk_at "tr"))
  | ((with_reducible refine' Tape.ne1 (H := ?trH) ?trt ?trn); (case trn => assumption); (case trt => walk_at "tr"))
  | ((with_reducible refine' Ext.trans (H1 := ?trH) ?tra (Ext.any ?tre)); (case tre => assumption); (case tra => walk_at "tr"))
  | ((with_reducible refine' Ext.trans (H1 := ?trH) ?tra ?tre); (case tre => assumption); (case tra => walk_at "tr"))
  | ((with_reducible refine' Ext.back1 (T := T) (H1 := ?trH) ?tre ?trn ?tra); (case tra => assumption); (case trn => walk_at "tr"); (case tre => walk_at "tr"))
  | ((with_reducible refine' Ext.back0 (T := T) (H1 := ?trH) ?tre ?tra); (case tra => assumption); (case tre => walk_at "tr"))
  | ((with_reducible refine' SqT.of ?tra); (case tra => walk_at "tr"))
  | ((with_reducible refine' SqL.of ?tra); (case tra => walk_at "tr")))
local macro_rules | `(tactic| walk_at "al") => `(tactic| (refine ⟨by first | (show _ ≤ sizeLine; decide) | walk_at "sz", ?_⟩; intro alp aln; generalize alG : upd _ alp _ = alH; obtain ⟨aln2, alx, alh⟩ := al_of (T := T) aln alG; clear alG aln))
local macro_rules | `(tactic| walk_at "al0") => `(tactic| (intro alp aln; generalize alG : upd _ alp _ = alH; obtain ⟨aln2, alx, alh⟩ := al_of (T := T) aln alG; clear alG aln))
theorem rd_consJ {te : TE} {ta : TA} {σ : L2.St} {H : Hp} {R : List V → Hp → Prop} (I : V → Hp → Prop) (h1 : ∀ Q : VK, (∀ v H', I v H' → Q v H') → te σ H Q) (h2 : ∀ v H', I v H' → ta σ H' fun xs H2 => R (v :: xs) H2) : tCons te ta σ H R := h1 _ h2
theorem rd_slIm {H : Hp} {Q : VK} {u : V} {ds : List PyData} {lo hi : Option Int} (h : Im H u (.tuple ds)) (q : ∀ y H', Ext T [] H H' → Im H' y (.tuple (cutD ds lo hi)) → Q y H') : rSlU2 K u lo hi H Q := by
  obtain ⟨a, xs, rfl, ha, hi'⟩ := h.tup'
  have hl := hi'.len
  by_cases c : HT.sIx xs.length 0 lo = 0 ∧ HT.sIx xs.length xs.length hi = xs.length
  · refine rd_slW (SqP.sq ha) c.1 c.2 (q _ H .refl ?_)
    have : cutD ds lo hi = ds := by
      unfold cutD
      rw [← hl, c.1, c.2, List.drop_zero, Nat.sub_zero, hl, List.take_length]
    rw [this]
    exact h
  · refine rd_slT2 (SqP.sq ha) c fun p np => ?_
    obtain ⟨_, e, hp⟩ := alT (T := T) np (cutV xs lo hi)
    generalize upd H p _ = H' at e hp ⊢
    refine q _ H' e (.tup hp ?_)
    unfold cutV cutD
    rw [← hl]
    exact ((hi'.x e).drop _).take _
def spBadR (T : List (Addr × Str)) : Sp := fun vs H Q _ => ∃ (l t : Addr) (v : V) (R : Rm) (m : Int), vs = [.ref t, v] ∧ Tape l H t ∧ Im H v (rmD R) ∧ RmOk R m ∧ RmIn R ∧
  ∀ (y : V) (d : PyData) (H' : Hp), SnK 3 d → realmD d = false → Im H' y d → Ext T [t] H H' → Tape l H' t → Q y H'
theorem ok_bad_realms (D : Def K mg "_law_bad_realms" s_law_bad_realms ["tape", "realm"]) (G_law_take : Ok P w K mg base 2 "_law_take" ["tape", "many"] (spTake T)) (G_law_fresh : Ok P w K mg base 1 "_law_fresh" ["realm"] (spFresh T)) : Ok P w K mg base 3 "_law_bad_realms" ["tape", "realm"] (spBadR T) := by
  refine D.ok sc_law_bad_realms (fun vs H Q E h => ?_) (fun cdv f0 A outer s H vs Q E hr h => ?_)
  · obtain ⟨l, t, v, R, m, rfl, _⟩ := h
    rfl
  · obtain ⟨l, t, v, R, m, rfl, hT, hv, hO, hR, q⟩ := h
    refine ⟨_, (pss_cons (ps_asg (pv 1) (pg_tupU (n := 3) K rfl rfl (pgs_cons (pg_name (i := 2) sc_law_bad_realms.nd rfl (.inl rfl)) (pgs_cons (pg_name (i := 3) sc_law_bad_realms.nd rfl (.inl rfl)) (pgs_cons (pg_name (i := 4) sc_law_bad_realms.nd rfl (.inl rfl)) pgs_nil)))))
   (pss_cons (ps_set (i := 5) sc_law_bad_realms.nd rfl (.inl rfl) (pe_op (op_plus K rfl) pe_int (pe_callO G_law_take (hr.mono (by decide)) (by rfl) (pa_cons (pv 0) (pa_cons pe_int pa_nil)))))
   (pss_cons (ps_set (i := 6) sc_law_bad_realms.nd rfl (.inl rfl) (pe_callO G_law_fresh (hr.mono (by decide)) (by rfl) (pa_cons (pv 1) pa_nil)))
   (pss_cons (ps_set (i := 7) sc_law_bad_realms.nd rfl (.inl rfl) (pe_tup (pa_cons (pv 6) (pa_cons pe_str pa_nil))))
   (pss_one (ps_ret (pe_ix (ix_U K rfl) (pe_lst (pa_cons (pe_tup (pa_cons (pv 2) (pa_cons (pv 3) pa_nil))) (pa_cons (pe_tup (pa_cons (pv 2) (pa_cons (pv 3) (pa_cons (pv 4) (pa_cons (pe_tup pa_nil) pa_nil))))) (pa_cons (pe_tup (pa_cons (pe_slice (sl_U2 K rfl) (pv 2) (po_some pe_int) po_none) (pa_cons (pv 3) (pa_cons (pv 4) pa_nil)))) (pa_cons (pe_tup (pa_cons (pe_op (op_plus K rfl) (pv 2) (pe_tup (pa_cons (pe_tup (pa_cons (pv 6) (pa_cons pe_int pa_nil))) pa_nil))) (pa_cons (pv 3) (pa_cons (pe_op (op_plus K rfl) (pv 4) (pe_tup (pa_cons (pv 7) pa_nil))) pa_nil)))) (pa_cons (pe_tup (pa_cons (pe_op (op_plus K rfl) (pv 2) (pe_tup (pa_cons (pe_tup (pa_cons (pv 6) (pa_cons (pe_un un_neg (pv 5)) pa_nil))) pa_nil))) (pa_cons (pv 3) (pa_cons (pe_op (op_plus K rfl) (pv 4) (pe_tup (pa_cons (pv 7) pa_nil))) pa_nil)))) (pa_cons (pe_tup (pa_cons (pe_op (op_plus K rfl) (pv 2) (pe_tup (pa_cons (pe_tup (pa_cons (pv 6) (pa_cons (pv 5) pa_nil))) pa_nil))) (pa_cons (pv 3) (pa_cons (pv 4) pa_nil)))) (pa_cons (pe_tup (pa_cons (pe_op (op_plus K rfl) (pv 2) (pe_tup (pa_cons (pe_ix (ix_U K rfl) (pv 2) (pe_un un_neg pe_int) (fun _ _ => rfl)) pa_nil))) (pa_cons (pv 3) (pa_cons (pv 4) pa_nil)))) (pa_cons (pe_tup (pa_cons (pe_op (op_plus K rfl) (pe_tup (pa_cons (pe_tup (pa_cons (pv 6) (pa_cons pe_int pa_nil))) pa_nil)) (pv 2)) (pa_cons (pv 3) (pa_cons (pe_op (op_plus K rfl) (pv 4) (pe_tup (pa_cons (pv 7) pa_nil))) pa_nil)))) (pa_cons (pe_tup (pa_cons (pv 2) (pa_cons (pe_tup pa_nil) (pa_cons (pv 4) pa_nil)))) (pa_cons (pe_tup (pa_cons (pv 2) (pa_cons (pv 3) (pa_cons (pe_tup pa_nil) pa_nil)))) (pa_cons (pe_tup (pa_cons (pv 2) (pa_cons (pe_tup (pa_cons pe_str (pa_cons pe_str (pa_cons pe_str (pa_cons pe_str pa_nil))))) (pa_cons (pv 4) pa_nil)))) (pa_cons (pe_tup (pa_cons (pv 2) (pa_cons (pe_tup (pa_cons pe_str (pa_cons pe_str pa_nil))) (pa_cons (pv 4) pa_nil)))) (pa_cons (pe_tup (pa_cons (pv 2) (pa_cons (pe_tup (pa_cons pe_str (pa_cons pe_str pa_nil))) (pa_cons (pv 4) pa_nil)))) (pa_cons (pe_tup (pa_cons (pv 2) (pa_cons (pe_tup (pa_cons pe_str pa_nil)) (pa_cons (pv 4) pa_nil)))) (pa_cons (pe_tup (pa_cons (pv 2) (pa_cons (pe_tup (pa_cons pe_str pa_nil)) (pa_cons (pv 4) pa_nil)))) (pa_cons (pe_tup (pa_cons (pv 2) (pa_cons (pe_tup (pa_cons pe_str pa_nil)) (pa_cons (pv 4) pa_nil)))) (pa_cons (pe_tup (pa_cons (pv 2) (pa_cons (pv 3) (pa_cons (pe_op (op_plus K rfl) (pv 4) (pe_slice (sl_U2 K rfl) (pv 4) (po_some (pe_un un_neg pe_int)) po_none)) pa_nil)))) (pa_cons (pe_tup (pa_cons (pv 2) (pa_cons (pv 3) (pa_cons (pe_op (op_plus K rfl) (pv 4) (pe_tup (pa_cons (pe_tup (pa_cons pe_str (pa_cons pe_str pa_nil))) pa_nil))) pa_nil)))) (pa_cons (pe_tup (pa_cons (pv 2) (pa_cons (pv 3) (pa_cons (pe_op (op_plus K rfl) (pv 4) (pe_tup (pa_cons (pe_tup (pa_cons pe_str (pa_cons pe_str pa_nil))) pa_nil))) pa_nil)))) (pa_cons (pe_tup (pa_cons (pv 2) (pa_cons (pv 3) (pa_cons (pe_op (op_plus K rfl) (pv 4) (pe_tup (pa_cons (pe_tup (pa_cons pe_str (pa_cons pe_str pa_nil))) pa_nil))) pa_nil)))) (pa_cons (pe_tup (pa_cons (pv 2) (pa_cons (pv 3) (pa_cons (pe_op (op_plus K rfl) (pv 4) (pe_tup (pa_cons (pe_tup (pa_cons (pv 6) pa_nil)) pa_nil))) pa_nil)))) (pa_cons (pe_tup (pa_cons (pv 2) (pa_cons (pv 3) (pa_cons (pe_op (op_plus K rfl) (pv 4) (pe_tup (pa_cons (pe_tup (pa_cons pe_str (pa_cons pe_str pa_nil))) pa_nil))) pa_nil)))) (pa_cons (pe_tup (pa_cons (pv 2) (pa_cons (pv 3) (pa_cons (pe_op (op_plus K rfl) (pv 4) (pe_tup (pa_cons (pe_tup (pa_cons pe_str (pa_cons pe_str pa_nil))) pa_nil))) pa_nil)))) (pa_cons (pv 2) (pa_cons (pe_tup pa_nil) (pa_cons pe_int (pa_cons pe_str (pa_cons (pe_tup (pa_cons (pe_op (op_plus K rfl) (pv 2) (pe_tup (pa_cons (pe_tup (pa_cons (pv 6) (pa_cons pe_str pa_nil))) pa_nil))) (pa_cons (pv 3) (pa_cons (pe_op (op_plus K rfl) (pv 4) (pe_tup (pa_cons (pv 7) pa_nil))) pa_nil)))) (pa_cons (pe_tup (pa_cons (pe_op (op_plus K rfl) (pv 2) (pe_tup (pa_cons (pe_tup (pa_cons (pv 6) pa_nil)) pa_nil))) (pa_cons (pv 3) (pa_cons (pe_op (op_plus K rfl) (pv 4) (pe_tup (pa_cons (pv 7) pa_nil))) pa_nil)))) pa_nil)))))))))))))))))))))))))))))) (pe_callO G_law_take (hr.mono (by decide)) (by rfl) (pa_cons (pv 0) (pa_cons pe_int pa_nil))) (fun _ _ => rfl)))))))), ?_⟩
    have hzn : R.zs ≠ [] := by
      obtain ⟨lag, rest, e, _⟩ := hR.ne
      rw [e]
      simp
    have hz0 : R.zs.map siD ≠ [] := by simpa using hzn
    have hsn : R.ss ≠ [] := by
      obtain ⟨lag, rest, ns, e1, _⟩ := hO.zs
      obtain ⟨p, hp, _⟩ := hO.used (dotS, lag) (by rw [e1]; exact List.mem_cons_self)
      exact List.ne_nil_of_mem hp
    have hs1 : R.ss.map ssD ≠ [] := by simpa using hsn
    have hzl := hR.len
    have hsl := hR.slen
    obtain ⟨ta, x1, x2, x3, rfl, hta, g1, g2, g3⟩ := (show Im H v (.tuple [zR R, aR R, sR R]) from hv).trip'
    walk_at "rdn"
    refine rd_seq ?_
    walk_at "rd"
    refine rd_gtup (SqP.sq hta) rfl ?_
    walk_at "rdn"
    refine rd_seq ?_
    walk_at "rd"
    refine ⟨l, t, 50, rfl, by decide, by decide, hT, fun d0 H1 h00 h01 e1 T1 => ?_⟩
    walk_at "rdn"
    refine rd_seq ?_
    walk_at "rd"
    refine ⟨.ref ta, R, rfl, hv.y e1 hT, hR, hsn, fun f H2 e2 hfl hfn => ?_⟩
    walk_at "rdn"
    refine rd_seq ?_
    walk_at "rd"
    walk_at "al"
    rename_i ex G0 _ e3 hex
    have e02 := (e1.trans e2.any).trans e3.any
    have T2 := (T1.ext e2).ext e3
    have hfok := label_ok hfl
    have hf8 := label_len hfl
    have iz : Im G0 x1 (zR R) := ((g1.y e1 hT).x e2).x e3
    have ia : Im G0 x2 (aR R) := ((g2.y e1 hT).x e2).x e3
    have is : Im G0 x3 (sR R) := ((g3.y e1 hT).x e2).x e3
    have ix : Im G0 (.ref ex) (t2D f "a") := .new2 (.str _ hfok) (.str _ (by decide +kernel)) hex
    clear hta g1 g2 g3 hv hex e1 e2 e3 T1 hT
    generalize hn : 1 + d0 = n
    have hn1 : 1 ≤ n := by omega
    have hbad := bad_realm (n := n) hO hR hfl hn1 hfn
    have hsm := bad_small (n := n) hO hR (show f.length ≤ 1000 by omega)
    refine rd_ret ?_
    refine rd_op ?_
    refine rd_lst ?_
    refine rd_consJ (fun v H' => Ext T [] G0 H' ∧ Im H' v ((.tuple [zR R, aR R]))) (fun Q' hQ => ?_) (fun v1e GE1 hh1 => ?_)
    · walk_at "rd"
      walk_at "al"
      rename_i p1 G1 np1 y1 g1
      have i1 : Im G1 (.ref p1) (.tuple [zR R, aR R]) := .tup g1 (.cons (iz.x y1) (.cons (ia.x y1) .nil))
      walk_at "rd"
      exact hQ _ _ ⟨y1, i1⟩
    obtain ⟨z1, h1⟩ := hh1
    have E1 : Ext T [] G0 GE1 := z1
    refine rd_consJ (fun v H' => Ext T [] GE1 H' ∧ Im H' v ((.tuple [zR R, aR R, sR R, .tuple []]))) (fun Q' hQ => ?_) (fun v2e GE2 hh2 => ?_)
    · walk_at "rd"
      walk_at "al"
      rename_i p2 G2 np2 y2 g2
      have i2 : Im G2 (.ref p2) (.tuple []) := .tup g2 .nil
      walk_at "rd"
      walk_at "al"
      rename_i p3 G3 np3 y3 g3
      have i3 : Im G3 (.ref p3) (.tuple [zR R, aR R, sR R, .tuple []]) := .tup g3 (.cons (((iz.x E1).x y2).x y3) (.cons (((ia.x E1).x y2).x y3) (.cons (((is.x E1).x y2).x y3) (.cons (i2.x y3) .nil))))
      walk_at "rd"
      exact hQ _ _ ⟨(y2.trans y3), i3⟩
    obtain ⟨z2, h2⟩ := hh2
    have E2 : Ext T [] G0 GE2 := E1.trans z2
    refine rd_consJ (fun v H' => Ext T [] GE2 H' ∧ Im H' v ((.tuple [.tuple (R.zs.tail.map siD), aR R, sR R]))) (fun Q' hQ => ?_) (fun v3e GE3 hh3 => ?_)
    · walk_at "rd"
      refine rd_slIm (T := T) (iz.x E2) fun v4 G4 y4 j4 => ?_
      rw [cutD_tail, ← List.map_tail] at j4
      have i4 : Im G4 v4 (.tuple (R.zs.tail.map siD)) := j4
      walk_at "rd"
      walk_at "al"
      rename_i p5 G5 np5 y5 g5
      have i5 : Im G5 (.ref p5) (.tuple [.tuple (R.zs.tail.map siD), aR R, sR R]) := .tup g5 (.cons (i4.x y5) (.cons (((ia.x E2).x y4).x y5) (.cons (((is.x E2).x y4).x y5) .nil)))
      walk_at "rd"
      exact hQ _ _ ⟨(y4.trans y5), i5⟩
    obtain ⟨z3, h3⟩ := hh3
    have E3 : Ext T [] G0 GE3 := E2.trans z3
    refine rd_consJ (fun v H' => Ext T [] GE3 H' ∧ Im H' v ((.tuple [zP R (siD (f, 101)), aR R, sP R (t2D f "a")]))) (fun Q' hQ => ?_) (fun v4e GE4 hh4 => ?_)
    · walk_at "rd"
      walk_at "al"
      rename_i p6 G6 np6 y6 g6
      have i6 : Im G6 (.ref p6) (siD (f, 101)) := .tup g6 (.cons (.str _ hfok) (.cons (.int _) .nil))
      walk_at "rd"
      walk_at "al"
      rename_i p7 G7 np7 y7 g7
      have i7 : Im G7 (.ref p7) (.tuple [siD (f, 101)]) := .tup g7 (.cons (i6.x y7) .nil)
      walk_at "rd"
      refine rd_catII (T := T) (((iz.x E3).x y6).x y7) i7 hz0 (by simp) (by rw [List.length_map, List.length_singleton]; omega) fun v8 G8 y8 j8 => ?_
      have i8 : Im G8 v8 (zP R (siD (f, 101))) := j8
      walk_at "rd"
      walk_at "al"
      rename_i p9 G9 np9 y9 g9
      have i9 : Im G9 (.ref p9) (.tuple [t2D f "a"]) := .tup g9 (.cons (((((ix.x E3).x y6).x y7).x y8).x y9) .nil)
      walk_at "rd"
      refine rd_catII (T := T) (((((is.x E3).x y6).x y7).x y8).x y9) i9 hs1 (by simp) (by rw [List.length_map, List.length_singleton]; omega) fun v10 G10 y10 j10 => ?_
      have i10 : Im G10 v10 (sP R (t2D f "a")) := j10
      walk_at "rd"
      walk_at "al"
      rename_i p11 G11 np11 y11 g11
      have i11 : Im G11 (.ref p11) (.tuple [zP R (siD (f, 101)), aR R, sP R (t2D f "a")]) := .tup g11 (.cons (((i8.x y9).x y10).x y11) (.cons (((((((ia.x E3).x y6).x y7).x y8).x y9).x y10).x y11) (.cons (i10.x y11) .nil)))
      walk_at "rd"
      exact hQ _ _ ⟨(((((y6.trans y7).trans y8).trans y9).trans y10).trans y11), i11⟩
    obtain ⟨z4, h4⟩ := hh4
    have E4 : Ext T [] G0 GE4 := E3.trans z4
    refine rd_consJ (fun v H' => Ext T [] GE4 H' ∧ Im H' v ((.tuple [zP R (siD (f, -n)), aR R, sP R (t2D f "a")]))) (fun Q' hQ => ?_) (fun v5e GE5 hh5 => ?_)
    · walk_at "rd"
      walk_at "al"
      rename_i p12 G12 np12 y12 g12
      have i12 : Im G12 (.ref p12) (siD (f, -n)) := .tup g12 (.cons (.str _ hfok) (.cons (.int _) .nil))
      walk_at "rd"
      walk_at "al"
      rename_i p13 G13 np13 y13 g13
      have i13 : Im G13 (.ref p13) (.tuple [siD (f, -n)]) := .tup g13 (.cons (i12.x y13) .nil)
      walk_at "rd"
      refine rd_catII (T := T) (((iz.x E4).x y12).x y13) i13 hz0 (by simp) (by rw [List.length_map, List.length_singleton]; omega) fun v14 G14 y14 j14 => ?_
      have i14 : Im G14 v14 (zP R (siD (f, -n))) := j14
      walk_at "rd"
      walk_at "al"
      rename_i p15 G15 np15 y15 g15
      have i15 : Im G15 (.ref p15) (.tuple [t2D f "a"]) := .tup g15 (.cons (((((ix.x E4).x y12).x y13).x y14).x y15) .nil)
      walk_at "rd"
      refine rd_catII (T := T) (((((is.x E4).x y12).x y13).x y14).x y15) i15 hs1 (by simp) (by rw [List.length_map, List.length_singleton]; omega) fun v16 G16 y16 j16 => ?_
      have i16 : Im G16 v16 (sP R (t2D f "a")) := j16
      walk_at "rd"
      walk_at "al"
      rename_i p17 G17 np17 y17 g17
      have i17 : Im G17 (.ref p17) (.tuple [zP R (siD (f, -n)), aR R, sP R (t2D f "a")]) := .tup g17 (.cons (((i14.x y15).x y16).x y17) (.cons (((((((ia.x E4).x y12).x y13).x y14).x y15).x y16).x y17) (.cons (i16.x y17) .nil)))
      walk_at "rd"
      exact hQ _ _ ⟨(((((y12.trans y13).trans y14).trans y15).trans y16).trans y17), i17⟩
    obtain ⟨z5, h5⟩ := hh5
    have E5 : Ext T [] G0 GE5 := E4.trans z5
    refine rd_consJ (fun v H' => Ext T [] GE5 H' ∧ Im H' v ((.tuple [zP R (siD (f, n)), aR R, sR R]))) (fun Q' hQ => ?_) (fun v6e GE6 hh6 => ?_)
    · walk_at "rd"
      walk_at "al"
      rename_i p18 G18 np18 y18 g18
      have i18 : Im G18 (.ref p18) (siD (f, n)) := .tup g18 (.cons (.str _ hfok) (.cons (.int _) .nil))
      walk_at "rd"
      walk_at "al"
      rename_i p19 G19 np19 y19 g19
      have i19 : Im G19 (.ref p19) (.tuple [siD (f, n)]) := .tup g19 (.cons (i18.x y19) .nil)
      walk_at "rd"
      refine rd_catII (T := T) (((iz.x E5).x y18).x y19) i19 hz0 (by simp) (by rw [List.length_map, List.length_singleton]; omega) fun v20 G20 y20 j20 => ?_
      have i20 : Im G20 v20 (zP R (siD (f, n))) := j20
      walk_at "rd"
      walk_at "al"
      rename_i p21 G21 np21 y21 g21
      have i21 : Im G21 (.ref p21) (.tuple [zP R (siD (f, n)), aR R, sR R]) := .tup g21 (.cons (i20.x y21) (.cons (((((ia.x E5).x y18).x y19).x y20).x y21) (.cons (((((is.x E5).x y18).x y19).x y20).x y21) .nil)))
      walk_at "rd"
      exact hQ _ _ ⟨(((y18.trans y19).trans y20).trans y21), i21⟩
    obtain ⟨z6, h6⟩ := hh6
    have E6 : Ext T [] G0 GE6 := E5.trans z6
    refine rd_consJ (fun v H' => Ext T [] GE6 H' ∧ Im H' v ((.tuple [zP R (siD (lastZ R)), aR R, sR R]))) (fun Q' hQ => ?_) (fun v7e GE7 hh7 => ?_)
    · walk_at "rd"
      refine rd_ixI (d := siD (lastZ R)) (iz.x E6) (last_map (last_ne (dotS, 0) hzn)) fun v22 i22 => ?_
      walk_at "rd"
      walk_at "al"
      rename_i p23 G23 np23 y23 g23
      have i23 : Im G23 (.ref p23) (.tuple [siD (lastZ R)]) := .tup g23 (.cons (i22.x y23) .nil)
      walk_at "rd"
      refine rd_catII (T := T) ((iz.x E6).x y23) i23 hz0 (by simp) (by rw [List.length_map, List.length_singleton]; omega) fun v24 G24 y24 j24 => ?_
      have i24 : Im G24 v24 (zP R (siD (lastZ R))) := j24
      walk_at "rd"
      walk_at "al"
      rename_i p25 G25 np25 y25 g25
      have i25 : Im G25 (.ref p25) (.tuple [zP R (siD (lastZ R)), aR R, sR R]) := .tup g25 (.cons (i24.x y25) (.cons ((((ia.x E6).x y23).x y24).x y25) (.cons ((((is.x E6).x y23).x y24).x y25) .nil)))
      walk_at "rd"
      exact hQ _ _ ⟨((y23.trans y24).trans y25), i25⟩
    obtain ⟨z7, h7⟩ := hh7
    have E7 : Ext T [] G0 GE7 := E6.trans z7
    refine rd_consJ (fun v H' => Ext T [] GE7 H' ∧ Im H' v ((.tuple [.tuple (siD (f, 0) :: R.zs.map siD), aR R, sP R (t2D f "a")]))) (fun Q' hQ => ?_) (fun v8e GE8 hh8 => ?_)
    · walk_at "rd"
      walk_at "al"
      rename_i p26 G26 np26 y26 g26
      have i26 : Im G26 (.ref p26) (siD (f, 0)) := .tup g26 (.cons (.str _ hfok) (.cons (.int _) .nil))
      walk_at "rd"
      walk_at "al"
      rename_i p27 G27 np27 y27 g27
      have i27 : Im G27 (.ref p27) (.tuple [siD (f, 0)]) := .tup g27 (.cons (i26.x y27) .nil)
      walk_at "rd"
      refine rd_catII (T := T) i27 (((iz.x E7).x y26).x y27) (by simp) hz0 (by rw [List.length_map, List.length_singleton]; omega) fun v28 G28 y28 j28 => ?_
      have i28 : Im G28 v28 (.tuple (siD (f, 0) :: R.zs.map siD)) := j28
      walk_at "rd"
      walk_at "al"
      rename_i p29 G29 np29 y29 g29
      have i29 : Im G29 (.ref p29) (.tuple [t2D f "a"]) := .tup g29 (.cons (((((ix.x E7).x y26).x y27).x y28).x y29) .nil)
      walk_at "rd"
      refine rd_catII (T := T) (((((is.x E7).x y26).x y27).x y28).x y29) i29 hs1 (by simp) (by rw [List.length_map, List.length_singleton]; omega) fun v30 G30 y30 j30 => ?_
      have i30 : Im G30 v30 (sP R (t2D f "a")) := j30
      walk_at "rd"
      walk_at "al"
      rename_i p31 G31 np31 y31 g31
      have i31 : Im G31 (.ref p31) (.tuple [.tuple (siD (f, 0) :: R.zs.map siD), aR R, sP R (t2D f "a")]) := .tup g31 (.cons (((i28.x y29).x y30).x y31) (.cons (((((((ia.x E7).x y26).x y27).x y28).x y29).x y30).x y31) (.cons (i30.x y31) .nil)))
      walk_at "rd"
      exact hQ _ _ ⟨(((((y26.trans y27).trans y28).trans y29).trans y30).trans y31), i31⟩
    obtain ⟨z8, h8⟩ := hh8
    have E8 : Ext T [] G0 GE8 := E7.trans z8
    refine rd_consJ (fun v H' => Ext T [] GE8 H' ∧ Im H' v ((.tuple [zR R, .tuple [], sR R]))) (fun Q' hQ => ?_) (fun v9e GE9 hh9 => ?_)
    · walk_at "rd"
      walk_at "al"
      rename_i p32 G32 np32 y32 g32
      have i32 : Im G32 (.ref p32) (.tuple []) := .tup g32 .nil
      walk_at "rd"
      walk_at "al"
      rename_i p33 G33 np33 y33 g33
      have i33 : Im G33 (.ref p33) (.tuple [zR R, .tuple [], sR R]) := .tup g33 (.cons (((iz.x E8).x y32).x y33) (.cons (i32.x y33) (.cons (((is.x E8).x y32).x y33) .nil)))
      walk_at "rd"
      exact hQ _ _ ⟨(y32.trans y33), i33⟩
    obtain ⟨z9, h9⟩ := hh9
    have E9 : Ext T [] G0 GE9 := E8.trans z9
    refine rd_consJ (fun v H' => Ext T [] GE9 H' ∧ Im H' v ((.tuple [zR R, aR R, .tuple []]))) (fun Q' hQ => ?_) (fun v10e GE10 hh10 => ?_)
    · walk_at "rd"
      walk_at "al"
      rename_i p34 G34 np34 y34 g34
      have i34 : Im G34 (.ref p34) (.tuple []) := .tup g34 .nil
      walk_at "rd"
      walk_at "al"
      rename_i p35 G35 np35 y35 g35
      have i35 : Im G35 (.ref p35) (.tuple [zR R, aR R, .tuple []]) := .tup g35 (.cons (((iz.x E9).x y34).x y35) (.cons (((ia.x E9).x y34).x y35) (.cons (i34.x y35) .nil)))
      walk_at "rd"
      exact hQ _ _ ⟨(y34.trans y35), i35⟩
    obtain ⟨z10, h10⟩ := hh10
    have E10 : Ext T [] G0 GE10 := E9.trans z10
    refine rd_consJ (fun v H' => Ext T [] GE10 H' ∧ Im H' v ((.tuple [zR R, .tuple [.str "aa", .str "ab", .str "ac", .str "ad"], sR R]))) (fun Q' hQ => ?_) (fun v11e GE11 hh11 => ?_)
    · walk_at "rd"
      walk_at "al"
      rename_i p36 G36 np36 y36 g36
      have i36 : Im G36 (.ref p36) (.tuple [.str "aa", .str "ab", .str "ac", .str "ad"]) := .tup g36 (.cons (.str _ (by decide +kernel)) (.cons (.str _ (by decide +kernel)) (.cons (.str _ (by decide +kernel)) (.cons (.str _ (by decide +kernel)) .nil))))
      walk_at "rd"
      walk_at "al"
      rename_i p37 G37 np37 y37 g37
      have i37 : Im G37 (.ref p37) (.tuple [zR R, .tuple [.str "aa", .str "ab", .str "ac", .str "ad"], sR R]) := .tup g37 (.cons (((iz.x E10).x y36).x y37) (.cons (i36.x y37) (.cons (((is.x E10).x y36).x y37) .nil)))
      walk_at "rd"
      exact hQ _ _ ⟨(y36.trans y37), i37⟩
    obtain ⟨z11, h11⟩ := hh11
    have E11 : Ext T [] G0 GE11 := E10.trans z11
    refine rd_consJ (fun v H' => Ext T [] GE11 H' ∧ Im H' v ((.tuple [zR R, t2D "b" "a", sR R]))) (fun Q' hQ => ?_) (fun v12e GE12 hh12 => ?_)
    · walk_at "rd"
      walk_at "al"
      rename_i p38 G38 np38 y38 g38
      have i38 : Im G38 (.ref p38) (t2D "b" "a") := .tup g38 (.cons (.str _ (by decide +kernel)) (.cons (.str _ (by decide +kernel)) .nil))
      walk_at "rd"
      walk_at "al"
      rename_i p39 G39 np39 y39 g39
      have i39 : Im G39 (.ref p39) (.tuple [zR R, t2D "b" "a", sR R]) := .tup g39 (.cons (((iz.x E11).x y38).x y39) (.cons (i38.x y39) (.cons (((is.x E11).x y38).x y39) .nil)))
      walk_at "rd"
      exact hQ _ _ ⟨(y38.trans y39), i39⟩
    obtain ⟨z12, h12⟩ := hh12
    have E12 : Ext T [] G0 GE12 := E11.trans z12
    refine rd_consJ (fun v H' => Ext T [] GE12 H' ∧ Im H' v ((.tuple [zR R, t2D "a" "a", sR R]))) (fun Q' hQ => ?_) (fun v13e GE13 hh13 => ?_)
    · walk_at "rd"
      walk_at "al"
      rename_i p40 G40 np40 y40 g40
      have i40 : Im G40 (.ref p40) (t2D "a" "a") := .tup g40 (.cons (.str _ (by decide +kernel)) (.cons (.str _ (by decide +kernel)) .nil))
      walk_at "rd"
      walk_at "al"
      rename_i p41 G41 np41 y41 g41
      have i41 : Im G41 (.ref p41) (.tuple [zR R, t2D "a" "a", sR R]) := .tup g41 (.cons (((iz.x E12).x y40).x y41) (.cons (i40.x y41) (.cons (((is.x E12).x y40).x y41) .nil)))
      walk_at "rd"
      exact hQ _ _ ⟨(y40.trans y41), i41⟩
    obtain ⟨z13, h13⟩ := hh13
    have E13 : Ext T [] G0 GE13 := E12.trans z13
    refine rd_consJ (fun v H' => Ext T [] GE13 H' ∧ Im H' v ((.tuple [zR R, t1D "", sR R]))) (fun Q' hQ => ?_) (fun v14e GE14 hh14 => ?_)
    · walk_at "rd"
      walk_at "al"
      rename_i p42 G42 np42 y42 g42
      have i42 : Im G42 (.ref p42) (t1D "") := .tup g42 (.cons (.str _ (by decide +kernel)) .nil)
      walk_at "rd"
      walk_at "al"
      rename_i p43 G43 np43 y43 g43
      have i43 : Im G43 (.ref p43) (.tuple [zR R, t1D "", sR R]) := .tup g43 (.cons (((iz.x E13).x y42).x y43) (.cons (i42.x y43) (.cons (((is.x E13).x y42).x y43) .nil)))
      walk_at "rd"
      exact hQ _ _ ⟨(y42.trans y43), i43⟩
    obtain ⟨z14, h14⟩ := hh14
    have E14 : Ext T [] G0 GE14 := E13.trans z14
    refine rd_consJ (fun v H' => Ext T [] GE14 H' ∧ Im H' v ((.tuple [zR R, t1D "abcde", sR R]))) (fun Q' hQ => ?_) (fun v15e GE15 hh15 => ?_)
    · walk_at "rd"
      walk_at "al"
      rename_i p44 G44 np44 y44 g44
      have i44 : Im G44 (.ref p44) (t1D "abcde") := .tup g44 (.cons (.str _ (by decide +kernel)) .nil)
      walk_at "rd"
      walk_at "al"
      rename_i p45 G45 np45 y45 g45
      have i45 : Im G45 (.ref p45) (.tuple [zR R, t1D "abcde", sR R]) := .tup g45 (.cons (((iz.x E14).x y44).x y45) (.cons (i44.x y45) (.cons (((is.x E14).x y44).x y45) .nil)))
      walk_at "rd"
      exact hQ _ _ ⟨(y44.trans y45), i45⟩
    obtain ⟨z15, h15⟩ := hh15
    have E15 : Ext T [] G0 GE15 := E14.trans z15
    refine rd_consJ (fun v H' => Ext T [] GE15 H' ∧ Im H' v ((.tuple [zR R, t1D "A", sR R]))) (fun Q' hQ => ?_) (fun v16e GE16 hh16 => ?_)
    · walk_at "rd"
      walk_at "al"
      rename_i p46 G46 np46 y46 g46
      have i46 : Im G46 (.ref p46) (t1D "A") := .tup g46 (.cons (.str _ (by decide +kernel)) .nil)
      walk_at "rd"
      walk_at "al"
      rename_i p47 G47 np47 y47 g47
      have i47 : Im G47 (.ref p47) (.tuple [zR R, t1D "A", sR R]) := .tup g47 (.cons (((iz.x E15).x y46).x y47) (.cons (i46.x y47) (.cons (((is.x E15).x y46).x y47) .nil)))
      walk_at "rd"
      exact hQ _ _ ⟨(y46.trans y47), i47⟩
    obtain ⟨z16, h16⟩ := hh16
    have E16 : Ext T [] G0 GE16 := E15.trans z16
    refine rd_consJ (fun v H' => Ext T [] GE16 H' ∧ Im H' v ((.tuple [zR R, aR R, sP R (ssD (lastS R))]))) (fun Q' hQ => ?_) (fun v17e GE17 hh17 => ?_)
    · walk_at "rd"
      refine rd_slIm (T := T) (is.x E16) fun v48 G48 y48 j48 => ?_
      rw [cutD_last (last_mapS hsn)] at j48
      have i48 : Im G48 v48 (.tuple [ssD (lastS R)]) := j48
      walk_at "rd"
      refine rd_catII (T := T) ((is.x E16).x y48) i48 hs1 (by simp) (by rw [List.length_map, List.length_singleton]; omega) fun v49 G49 y49 j49 => ?_
      have i49 : Im G49 v49 (sP R (ssD (lastS R))) := j49
      walk_at "rd"
      walk_at "al"
      rename_i p50 G50 np50 y50 g50
      have i50 : Im G50 (.ref p50) (.tuple [zR R, aR R, sP R (ssD (lastS R))]) := .tup g50 (.cons ((((iz.x E16).x y48).x y49).x y50) (.cons ((((ia.x E16).x y48).x y49).x y50) (.cons (i49.x y50) .nil)))
      walk_at "rd"
      exact hQ _ _ ⟨((y48.trans y49).trans y50), i50⟩
    obtain ⟨z17, h17⟩ := hh17
    have E17 : Ext T [] G0 GE17 := E16.trans z17
    refine rd_consJ (fun v H' => Ext T [] GE17 H' ∧ Im H' v ((.tuple [zR R, aR R, sP R (t2D "zz9" "")]))) (fun Q' hQ => ?_) (fun v18e GE18 hh18 => ?_)
    · walk_at "rd"
      walk_at "al"
      rename_i p51 G51 np51 y51 g51
      have i51 : Im G51 (.ref p51) (t2D "zz9" "") := .tup g51 (.cons (.str _ (by decide +kernel)) (.cons (.str _ (by decide +kernel)) .nil))
      walk_at "rd"
      walk_at "al"
      rename_i p52 G52 np52 y52 g52
      have i52 : Im G52 (.ref p52) (.tuple [t2D "zz9" ""]) := .tup g52 (.cons (i51.x y52) .nil)
      walk_at "rd"
      refine rd_catII (T := T) (((is.x E17).x y51).x y52) i52 hs1 (by simp) (by rw [List.length_map, List.length_singleton]; omega) fun v53 G53 y53 j53 => ?_
      have i53 : Im G53 v53 (sP R (t2D "zz9" "")) := j53
      walk_at "rd"
      walk_at "al"
      rename_i p54 G54 np54 y54 g54
      have i54 : Im G54 (.ref p54) (.tuple [zR R, aR R, sP R (t2D "zz9" "")]) := .tup g54 (.cons (((((iz.x E17).x y51).x y52).x y53).x y54) (.cons (((((ia.x E17).x y51).x y52).x y53).x y54) (.cons (i53.x y54) .nil)))
      walk_at "rd"
      exact hQ _ _ ⟨(((y51.trans y52).trans y53).trans y54), i54⟩
    obtain ⟨z18, h18⟩ := hh18
    have E18 : Ext T [] G0 GE18 := E17.trans z18
    refine rd_consJ (fun v H' => Ext T [] GE18 H' ∧ Im H' v ((.tuple [zR R, aR R, sP R (t2D "zz9." "a")]))) (fun Q' hQ => ?_) (fun v19e GE19 hh19 => ?_)
    · walk_at "rd"
      walk_at "al"
      rename_i p55 G55 np55 y55 g55
      have i55 : Im G55 (.ref p55) (t2D "zz9." "a") := .tup g55 (.cons (.str _ (by decide +kernel)) (.cons (.str _ (by decide +kernel)) .nil))
      walk_at "rd"
      walk_at "al"
      rename_i p56 G56 np56 y56 g56
      have i56 : Im G56 (.ref p56) (.tuple [t2D "zz9." "a"]) := .tup g56 (.cons (i55.x y56) .nil)
      walk_at "rd"
      refine rd_catII (T := T) (((is.x E18).x y55).x y56) i56 hs1 (by simp) (by rw [List.length_map, List.length_singleton]; omega) fun v57 G57 y57 j57 => ?_
      have i57 : Im G57 v57 (sP R (t2D "zz9." "a")) := j57
      walk_at "rd"
      walk_at "al"
      rename_i p58 G58 np58 y58 g58
      have i58 : Im G58 (.ref p58) (.tuple [zR R, aR R, sP R (t2D "zz9." "a")]) := .tup g58 (.cons (((((iz.x E18).x y55).x y56).x y57).x y58) (.cons (((((ia.x E18).x y55).x y56).x y57).x y58) (.cons (i57.x y58) .nil)))
      walk_at "rd"
      exact hQ _ _ ⟨(((y55.trans y56).trans y57).trans y58), i58⟩
    obtain ⟨z19, h19⟩ := hh19
    have E19 : Ext T [] G0 GE19 := E18.trans z19
    refine rd_consJ (fun v H' => Ext T [] GE19 H' ∧ Im H' v ((.tuple [zR R, aR R, sP R (t2D "zz9zz9zz9" "a")]))) (fun Q' hQ => ?_) (fun v20e GE20 hh20 => ?_)
    · walk_at "rd"
      walk_at "al"
      rename_i p59 G59 np59 y59 g59
      have i59 : Im G59 (.ref p59) (t2D "zz9zz9zz9" "a") := .tup g59 (.cons (.str _ (by decide +kernel)) (.cons (.str _ (by decide +kernel)) .nil))
      walk_at "rd"
      walk_at "al"
      rename_i p60 G60 np60 y60 g60
      have i60 : Im G60 (.ref p60) (.tuple [t2D "zz9zz9zz9" "a"]) := .tup g60 (.cons (i59.x y60) .nil)
      walk_at "rd"
      refine rd_catII (T := T) (((is.x E19).x y59).x y60) i60 hs1 (by simp) (by rw [List.length_map, List.length_singleton]; omega) fun v61 G61 y61 j61 => ?_
      have i61 : Im G61 v61 (sP R (t2D "zz9zz9zz9" "a")) := j61
      walk_at "rd"
      walk_at "al"
      rename_i p62 G62 np62 y62 g62
      have i62 : Im G62 (.ref p62) (.tuple [zR R, aR R, sP R (t2D "zz9zz9zz9" "a")]) := .tup g62 (.cons (((((iz.x E19).x y59).x y60).x y61).x y62) (.cons (((((ia.x E19).x y59).x y60).x y61).x y62) (.cons (i61.x y62) .nil)))
      walk_at "rd"
      exact hQ _ _ ⟨(((y59.trans y60).trans y61).trans y62), i62⟩
    obtain ⟨z20, h20⟩ := hh20
    have E20 : Ext T [] G0 GE20 := E19.trans z20
    refine rd_consJ (fun v H' => Ext T [] GE20 H' ∧ Im H' v ((.tuple [zR R, aR R, sP R (t1D f)]))) (fun Q' hQ => ?_) (fun v21e GE21 hh21 => ?_)
    · walk_at "rd"
      walk_at "al"
      rename_i p63 G63 np63 y63 g63
      have i63 : Im G63 (.ref p63) (t1D f) := .tup g63 (.cons (.str _ hfok) .nil)
      walk_at "rd"
      walk_at "al"
      rename_i p64 G64 np64 y64 g64
      have i64 : Im G64 (.ref p64) (.tuple [t1D f]) := .tup g64 (.cons (i63.x y64) .nil)
      walk_at "rd"
      refine rd_catII (T := T) (((is.x E20).x y63).x y64) i64 hs1 (by simp) (by rw [List.length_map, List.length_singleton]; omega) fun v65 G65 y65 j65 => ?_
      have i65 : Im G65 v65 (sP R (t1D f)) := j65
      walk_at "rd"
      walk_at "al"
      rename_i p66 G66 np66 y66 g66
      have i66 : Im G66 (.ref p66) (.tuple [zR R, aR R, sP R (t1D f)]) := .tup g66 (.cons (((((iz.x E20).x y63).x y64).x y65).x y66) (.cons (((((ia.x E20).x y63).x y64).x y65).x y66) (.cons (i65.x y66) .nil)))
      walk_at "rd"
      exact hQ _ _ ⟨(((y63.trans y64).trans y65).trans y66), i66⟩
    obtain ⟨z21, h21⟩ := hh21
    have E21 : Ext T [] G0 GE21 := E20.trans z21
    refine rd_consJ (fun v H' => Ext T [] GE21 H' ∧ Im H' v ((.tuple [zR R, aR R, sP R (t2D "zz9..a" "a")]))) (fun Q' hQ => ?_) (fun v22e GE22 hh22 => ?_)
    · walk_at "rd"
      walk_at "al"
      rename_i p67 G67 np67 y67 g67
      have i67 : Im G67 (.ref p67) (t2D "zz9..a" "a") := .tup g67 (.cons (.str _ (by decide +kernel)) (.cons (.str _ (by decide +kernel)) .nil))
      walk_at "rd"
      walk_at "al"
      rename_i p68 G68 np68 y68 g68
      have i68 : Im G68 (.ref p68) (.tuple [t2D "zz9..a" "a"]) := .tup g68 (.cons (i67.x y68) .nil)
      walk_at "rd"
      refine rd_catII (T := T) (((is.x E21).x y67).x y68) i68 hs1 (by simp) (by rw [List.length_map, List.length_singleton]; omega) fun v69 G69 y69 j69 => ?_
      have i69 : Im G69 v69 (sP R (t2D "zz9..a" "a")) := j69
      walk_at "rd"
      walk_at "al"
      rename_i p70 G70 np70 y70 g70
      have i70 : Im G70 (.ref p70) (.tuple [zR R, aR R, sP R (t2D "zz9..a" "a")]) := .tup g70 (.cons (((((iz.x E21).x y67).x y68).x y69).x y70) (.cons (((((ia.x E21).x y67).x y68).x y69).x y70) (.cons (i69.x y70) .nil)))
      walk_at "rd"
      exact hQ _ _ ⟨(((y67.trans y68).trans y69).trans y70), i70⟩
    obtain ⟨z22, h22⟩ := hh22
    have E22 : Ext T [] G0 GE22 := E21.trans z22
    refine rd_consJ (fun v H' => Ext T [] GE22 H' ∧ Im H' v ((.tuple [zR R, aR R, sP R (t2D "zz9.a.a.a.a" "a")]))) (fun Q' hQ => ?_) (fun v23e GE23 hh23 => ?_)
    · walk_at "rd"
      walk_at "al"
      rename_i p71 G71 np71 y71 g71
      have i71 : Im G71 (.ref p71) (t2D "zz9.a.a.a.a" "a") := .tup g71 (.cons (.str _ (by decide +kernel)) (.cons (.str _ (by decide +kernel)) .nil))
      walk_at "rd"
      walk_at "al"
      rename_i p72 G72 np72 y72 g72
      have i72 : Im G72 (.ref p72) (.tuple [t2D "zz9.a.a.a.a" "a"]) := .tup g72 (.cons (i71.x y72) .nil)
      walk_at "rd"
      refine rd_catII (T := T) (((is.x E22).x y71).x y72) i72 hs1 (by simp) (by rw [List.length_map, List.length_singleton]; omega) fun v73 G73 y73 j73 => ?_
      have i73 : Im G73 v73 (sP R (t2D "zz9.a.a.a.a" "a")) := j73
      walk_at "rd"
      walk_at "al"
      rename_i p74 G74 np74 y74 g74
      have i74 : Im G74 (.ref p74) (.tuple [zR R, aR R, sP R (t2D "zz9.a.a.a.a" "a")]) := .tup g74 (.cons (((((iz.x E22).x y71).x y72).x y73).x y74) (.cons (((((ia.x E22).x y71).x y72).x y73).x y74) (.cons (i73.x y74) .nil)))
      walk_at "rd"
      exact hQ _ _ ⟨(((y71.trans y72).trans y73).trans y74), i74⟩
    obtain ⟨z23, h23⟩ := hh23
    have E23 : Ext T [] G0 GE23 := E22.trans z23
    refine rd_consJ (fun v H' => Ext T [] GE23 H' ∧ Im H' v (zR R)) (fun Q' hQ => ?_) (fun v24e GE24 hh24 => ?_)
    · walk_at "rd"
      exact hQ _ _ ⟨.refl, (iz.x E23)⟩
    obtain ⟨z24, h24⟩ := hh24
    have E24 : Ext T [] G0 GE24 := E23.trans z24
    refine rd_consJ (fun v H' => Ext T [] GE24 H' ∧ Im H' v ((.tuple []))) (fun Q' hQ => ?_) (fun v25e GE25 hh25 => ?_)
    · walk_at "rd"
      walk_at "al"
      rename_i p75 G75 np75 y75 g75
      have i75 : Im G75 (.ref p75) (.tuple []) := .tup g75 .nil
      walk_at "rd"
      exact hQ _ _ ⟨y75, i75⟩
    obtain ⟨z25, h25⟩ := hh25
    have E25 : Ext T [] G0 GE25 := E24.trans z25
    refine rd_consJ (fun v H' => Ext T [] GE25 H' ∧ Im H' v (.int 7)) (fun Q' hQ => ?_) (fun v26e GE26 hh26 => ?_)
    · walk_at "rd"
      exact hQ _ _ ⟨.refl, (.int _)⟩
    obtain ⟨z26, h26⟩ := hh26
    have E26 : Ext T [] G0 GE26 := E25.trans z26
    refine rd_consJ (fun v H' => Ext T [] GE26 H' ∧ Im H' v (.str "realm")) (fun Q' hQ => ?_) (fun v27e GE27 hh27 => ?_)
    · walk_at "rd"
      exact hQ _ _ ⟨.refl, (.str _ (by decide +kernel))⟩
    obtain ⟨z27, h27⟩ := hh27
    have E27 : Ext T [] G0 GE27 := E26.trans z27
    refine rd_consJ (fun v H' => Ext T [] GE27 H' ∧ Im H' v ((.tuple [zP R (t2D f "1"), aR R, sP R (t2D f "a")]))) (fun Q' hQ => ?_) (fun v28e GE28 hh28 => ?_)
    · walk_at "rd"
      walk_at "al"
      rename_i p76 G76 np76 y76 g76
      have i76 : Im G76 (.ref p76) (t2D f "1") := .tup g76 (.cons (.str _ hfok) (.cons (.str _ (by decide +kernel)) .nil))
      walk_at "rd"
      walk_at "al"
      rename_i p77 G77 np77 y77 g77
      have i77 : Im G77 (.ref p77) (.tuple [t2D f "1"]) := .tup g77 (.cons (i76.x y77) .nil)
      walk_at "rd"
      refine rd_catII (T := T) (((iz.x E27).x y76).x y77) i77 hz0 (by simp) (by rw [List.length_map, List.length_singleton]; omega) fun v78 G78 y78 j78 => ?_
      have i78 : Im G78 v78 (zP R (t2D f "1")) := j78
      walk_at "rd"
      walk_at "al"
      rename_i p79 G79 np79 y79 g79
      have i79 : Im G79 (.ref p79) (.tuple [t2D f "a"]) := .tup g79 (.cons (((((ix.x E27).x y76).x y77).x y78).x y79) .nil)
      walk_at "rd"
      refine rd_catII (T := T) (((((is.x E27).x y76).x y77).x y78).x y79) i79 hs1 (by simp) (by rw [List.length_map, List.length_singleton]; omega) fun v80 G80 y80 j80 => ?_
      have i80 : Im G80 v80 (sP R (t2D f "a")) := j80
      walk_at "rd"
      walk_at "al"
      rename_i p81 G81 np81 y81 g81
      have i81 : Im G81 (.ref p81) (.tuple [zP R (t2D f "1"), aR R, sP R (t2D f "a")]) := .tup g81 (.cons (((i78.x y79).x y80).x y81) (.cons (((((((ia.x E27).x y76).x y77).x y78).x y79).x y80).x y81) (.cons (i80.x y81) .nil)))
      walk_at "rd"
      exact hQ _ _ ⟨(((((y76.trans y77).trans y78).trans y79).trans y80).trans y81), i81⟩
    obtain ⟨z28, h28⟩ := hh28
    have E28 : Ext T [] G0 GE28 := E27.trans z28
    refine rd_consJ (fun v H' => Ext T [] GE28 H' ∧ Im H' v ((.tuple [zP R (t1D f), aR R, sP R (t2D f "a")]))) (fun Q' hQ => ?_) (fun v29e GE29 hh29 => ?_)
    · walk_at "rd"
      walk_at "al"
      rename_i p82 G82 np82 y82 g82
      have i82 : Im G82 (.ref p82) (t1D f) := .tup g82 (.cons (.str _ hfok) .nil)
      walk_at "rd"
      walk_at "al"
      rename_i p83 G83 np83 y83 g83
      have i83 : Im G83 (.ref p83) (.tuple [t1D f]) := .tup g83 (.cons (i82.x y83) .nil)
      walk_at "rd"
      refine rd_catII (T := T) (((iz.x E28).x y82).x y83) i83 hz0 (by simp) (by rw [List.length_map, List.length_singleton]; omega) fun v84 G84 y84 j84 => ?_
      have i84 : Im G84 v84 (zP R (t1D f)) := j84
      walk_at "rd"
      walk_at "al"
      rename_i p85 G85 np85 y85 g85
      have i85 : Im G85 (.ref p85) (.tuple [t2D f "a"]) := .tup g85 (.cons (((((ix.x E28).x y82).x y83).x y84).x y85) .nil)
      walk_at "rd"
      refine rd_catII (T := T) (((((is.x E28).x y82).x y83).x y84).x y85) i85 hs1 (by simp) (by rw [List.length_map, List.length_singleton]; omega) fun v86 G86 y86 j86 => ?_
      have i86 : Im G86 v86 (sP R (t2D f "a")) := j86
      walk_at "rd"
      walk_at "al"
      rename_i p87 G87 np87 y87 g87
      have i87 : Im G87 (.ref p87) (.tuple [zP R (t1D f), aR R, sP R (t2D f "a")]) := .tup g87 (.cons (((i84.x y85).x y86).x y87) (.cons (((((((ia.x E28).x y82).x y83).x y84).x y85).x y86).x y87) (.cons (i86.x y87) .nil)))
      walk_at "rd"
      exact hQ _ _ ⟨(((((y82.trans y83).trans y84).trans y85).trans y86).trans y87), i87⟩
    obtain ⟨z29, h29⟩ := hh29
    have E29 : Ext T [] G0 GE29 := E28.trans z29
    walk_at "rd"
    walk_at "al"
    rename_i pL GL nL yL gL
    have w29 : Ext T [] GE29 GL := yL
    have w28 := z29.trans w29
    have w27 := z28.trans w28
    have w26 := z27.trans w27
    have w25 := z26.trans w26
    have w24 := z25.trans w25
    have w23 := z24.trans w24
    have w22 := z23.trans w23
    have w21 := z22.trans w22
    have w20 := z21.trans w21
    have w19 := z20.trans w20
    have w18 := z19.trans w19
    have w17 := z18.trans w18
    have w16 := z17.trans w17
    have w15 := z16.trans w16
    have w14 := z15.trans w15
    have w13 := z14.trans w14
    have w12 := z13.trans w13
    have w11 := z12.trans w12
    have w10 := z11.trans w11
    have w9 := z10.trans w10
    have w8 := z9.trans w9
    have w7 := z8.trans w8
    have w6 := z7.trans w7
    have w5 := z6.trans w6
    have w4 := z5.trans w5
    have w3 := z4.trans w4
    have w2 := z3.trans w3
    have w1 := z2.trans w2
    have wE := E29.trans yL
    have hL : Ls GL pL (badR R n f) := ⟨_, gL, (.cons (h1.x w1) (.cons (h2.x w2) (.cons (h3.x w3) (.cons (h4.x w4) (.cons (h5.x w5) (.cons (h6.x w6) (.cons (h7.x w7) (.cons (h8.x w8) (.cons (h9.x w9) (.cons (h10.x w10) (.cons (h11.x w11) (.cons (h12.x w12) (.cons (h13.x w13) (.cons (h14.x w14) (.cons (h15.x w15) (.cons (h16.x w16) (.cons (h17.x w17) (.cons (h18.x w18) (.cons (h19.x w19) (.cons (h20.x w20) (.cons (h21.x w21) (.cons (h22.x w22) (.cons (h23.x w23) (.cons (h24.x w24) (.cons (h25.x w25) (.cons (h26.x w26) (.cons (h27.x w27) (.cons (h28.x w28) (.cons (h29.x w29) .nil)))))))))))))))))))))))))))))⟩
    clear w1 w2 w3 w4 w5 w6 w7 w8 w9 w10 w11 w12 w13 w14 w15 w16 w17 w18 w19 w20 w21 w22 w23 w24 w25 w26 w27 w28 w29 z1 z2 z3 z4 z5 z6 z7 z8 z9 z10 z11 z12 z13 z14 z15 z16 z17 z18 z19 z20 z21 z22 z23 z24 z25 z26 z27 z28 z29 E1 E2 E3 E4 E5 E6 E7 E8 E9 E10 E11 E12 E13 E14 E15 E16 E17 E18 E19 E20 E21 E22 E23 E24 E25 E26 E27 E28 h1 h2 h3 h4 h5 h6 h7 h8 h9 h10 h11 h12 h13 h14 h15 h16 h17 h18 h19 h20 h21 h22 h23 h24 h25 h26 h27 h28 h29 yL
    walk_at "rd"
    refine ⟨l, t, 29, rfl, by decide, by decide, T2.ext wE, fun d1 H9 h0 h1 e9 T9 => ?_⟩
    obtain ⟨c, hc1, _, hc3⟩ := at_in (l := badR R n f) h0 (by rw [badR_len]; exact h1)
    have hLt : pL ≠ t := ((T2.ext E29).ne nL).1
    refine rd_ixLs (hL.y e9 hLt (T2.ext wE)) hc1 fun y0 hy0 => ?_
    exact q y0 c H9 (hsm c hc3) (hbad c hc3) hy0 ((e02.trans wE.any).trans e9) T9
end
section
variable {T : List (Addr × Str)} {P : Program} {w : World} {K : PySem.W.Frag} {mg : Str → Option Value} {base : Heap}
local macro_rules | `(tactic| walk_at "tr") => `(tactic| first
  | assumption
  | exact Ext.refl
  | ((with_reducible refine' Im.x (T := T) (H := ?trH) ?tra ?tre); (case tre => assumption); (case tra => walk_at "tr"))
  | ((with_reducible refine' Im.y (T := T) (H := ?trH) ?tra ?tre ?trt); (case tre => assumption); (case trt => walk_at "tr"); (case tra => walk_at "tr"))
  | ((with_reducible refine' ImAll.x (T := T) (H := ?trH) ?tra ?tre); (case tre => assumption); (case tra => walk_at "tr"))
  | ((with_reducible refine' ImAll.y (T := T) (H := ?trH) ?tra ?tre ?trt); (case tre => assumption); (case trt => walk_at "tr"); (case tra => walk_at "tr"))
  | ((with_reducible refine' Ls.x (T := T) (H := ?trH) ?tra ?tre); (case tre => assumption); (case tra => walk_at "tr"))
  | ((with_reducible refine' Ls.y (T := T) (H := ?trH) ?tra ?tre ?trn ?trt); (case tre => assumption); (case trt => walk_at "tr"); (case trn => walk_at "tr"); (case tra => walk_at "tr"))
  | ((with_reducible refine' SqP.x (T := T) (H := ?trH) ?tra ?tre); (case tre => assumption); (case tra => walk_at "tr"))
  | ((with_reducible refine' SqP.y (T := T) (H := ?trH) ?tra ?tre ?trt); (case tre => assumption); (case trt => walk_at "tr"); (case tra => walk_at "tr"))
  | ((with_reducible refine' StAt.x (T := T) (H := ?trH) ?tra ?tre); (case tre => assumption); (case tra => walk_at "tr"))
  | ((with_reducible refine' StAt.y (T := T) (H := ?trH) ?tra ?tre ?trt); (case tre => assumption); (case trt => walk_at "tr"); (case tra => walk_at "tr"))
  | ((with_reducible refine' Pools.ext0 (T := T) (H := ?trH) ?tra ?tre); (case tre => assumption); (case tra => walk_at "tr"))
  | ((with_reducible refine' Pools.ext (T := T) (H := ?trH) ?tra ?tre ?trt); (case tre => assumption); (case trt => walk_at "tr"); (case tra => walk_at "tr"))
  | ((with_reducible refine' CL.x (T := T) (H := ?trH) ?tra ?tre); (case tre => assumption); (case tra => walk_at "tr"))
  | ((with_reducible refine' CL.y (T := T) (H := ?trH) ?tra ?tre); (case tre => assumption); (case tra => walk_at "tr"))
  | ((with_reducible refine' Tape.ext (T := T) (H := ?trH) ?tra ?tre); (case tre => assumption); (case tra => walk_at "tr"))
  | ((with_reducible refine' lst.x (T := T) (H := ?trH) ?tra ?tre); (case tre => assumption); (case tra => walk_at "tr"))
  | ((with_reducible refine' lst.y (T := T) (H := ?trH) ?tra ?tre ?trn); (case tre => assumption); (case trn => walk_at "tr"); (case tra => walk_at "tr"))
  | ((with_reducible refine' tup.x (T := T) (H := ?trH) ?tra ?tre); (case tre => assumption); (case tra => walk_at "tr"))
  | ((with_reducible refine' tup.y (T := T) (H := ?trH) ?tra ?tre ?trt); (case tre => assumption); (case trt => walk_at "tr"); (case tra => walk_at "tr"))
  | ((with_reducible refine' frz.x (T := T) (H := ?trH) ?tra ?tre); (case tre => assumption); (case tra => walk_at "tr"))
  | ((with_reducible refine' frz.y (T := T) (H := ?trH) ?tra ?tre ?trt); (case tre => assumption); (case trt => walk_at "tr"); (case tra => walk_at "tr"))
  | ((with_reducible refine' Im.z (T := T) (H := ?trH) ?tra ?tre ?trt); (case tre => assumption); (case trt => assumption); (case tra => walk_at "tr"))
  | ((with_reducible refine' ImAll.z (T := T) (H := ?trH) ?tra ?tre ?trt); (case tre => assumption); (case trt => assumption); (case tra => walk_at "tr"))
  | ((with_reducible refine' StAt.z (T := T) (H := ?trH) ?tra ?tre ?trt); (case tre => assumption); (case trt => assumption); (case tra => walk_at "tr"))
  | ((with_reducible refine' SqP.z (T := T) (H := ?trH) ?tra ?tre ?trt); (case tre => assumption); (case trt => assumption); (case tra => walk_at "tr"))
  | ((with_reducible refine' tup.z (T := T) (H := ?trH) ?tra ?tre ?trt); (case tre => assumption); (case trt => assumption); (case tra => walk_at "tr"))
  | ((with_reducible refine' Ls.z (T := T) (H := ?trH) ?tra ?tre ?trt ?trn); (case tre => assumption); (case trt => assumption); (case trn => assumption); (case tra => walk_at "tr"))
  | ((with_reducible refine' lst.z (T := T) (H := ?trH) ?tra ?tre ?trn); (case tre => assumption); (case trn => assumption); (case tra => walk_at "tr"))
  | ((with_reducible refine' CL.z (T := T) (H := ?trH) ?tra ?tre ?trn); (case tre => assumption); (case trn => assumption); (case tra => walk_at "tr"))
  | ((with_reducible refine' Tape.ne1 (H := ?trH) ?trt ?trn); (case trn => assumption); (case trt => walk_at "tr"))
  | ((with_reducible refine' Ext.trans (H1 := ?trH) ?tra (Ext.any ?tre)); (case tre => assumption); (case tra => walk_at "tr"))
  | ((with_reducible refine' Ext.trans (H1 := ?trH) ?tra ?tre); (case tre => assumption); (case tra => walk_at "tr"))
  | ((with_reducible refine' Ext.back1 (T := T) (H1 := ?trH) ?tre ?trn ?tra); (case tra => assumption); (case trn => walk_at "tr"); (case tre => walk_at "tr"))
  | ((with_reducible refine' Ext.back0 (T := T) (H1 := ?trH) ?tre ?tra); (case tra => assumption); (case tre => walk_at "tr"))
  | ((with_reducible refine' SqT.of ?tra); (case tra => walk_at "tr"))
  | ((with_reducible refine' SqL.of ?tra); (case tra => walk_at "tr")))
local macro_rules | `(tactic| walk_at "al") => `(tactic| (refine ⟨by first | (show _ ≤ sizeLine; decide) | walk_at "sz", ?_⟩; intro alp aln; generalize alG : upd _ alp _ = alH; obtain ⟨aln2, alx, alh⟩ := al_of (T := T) aln alG; clear alG aln))
local macro_rules | `(tactic| walk_at "al0") => `(tactic| (intro alp aln; generalize alG : upd _ alp _ = alH; obtain ⟨aln2, alx, alh⟩ := al_of (T := T) aln alG; clear alG aln))
theorem rd_seqK {t u : TS} {nx bk ct : L2.St → Hp → Prop} {rt : VK} {σ : L2.St} {H : Hp} (I : L2.St → Hp → Prop) (ht : ∀ N : L2.St → Hp → Prop, (∀ σ H, I σ H → N σ H) → t ⟨N, rt, bk, ct⟩ σ H) (hu : ∀ σ H, I σ H → u ⟨nx, rt, bk, ct⟩ σ H) : tSeq t u ⟨nx, rt, bk, ct⟩ σ H := ht _ hu
def spBadI (T : List (Addr × Str)) : Sp := fun vs H Q _ => ∃ (l t : Addr) (v : V) (i : Itm), vs = [.ref t, v] ∧ Tape l H t ∧ Im H v (itD i) ∧ SnK 1 (cI i) ∧ SnK 1 (gI i) ∧
  ∀ (y : V) (d : PyData) (H' : Hp), SnK 3 d → (∀ h, itemD h d = false) → Im H' y d → Ext T [t] H H' → Tape l H' t → Q y H'
theorem ok_bad_item (D : Def K mg "_law_bad_item" s_law_bad_item ["tape", "item"]) (G_law_take : Ok P w K mg base 2 "_law_take" ["tape", "many"] (spTake T)) : Ok P w K mg base 3 "_law_bad_item" ["tape", "item"] (spBadI T) := by
  refine D.ok sc_law_bad_item (fun vs H Q E h => ?_) (fun cdv f0 A outer s H vs Q E hr h => ?_)
  · obtain ⟨l, t, v, i, rfl, _⟩ := h
    rfl
  · obtain ⟨l, t, v, i, rfl, hT, hv, hc, hg, q⟩ := h
    refine ⟨_, (pss_cons (ps_asg (pv 1) (pg_tupU (n := 5) K rfl rfl (pgs_cons (pg_name (i := 2) sc_law_bad_item.nd rfl (.inl rfl)) (pgs_cons (pg_name (i := 3) sc_law_bad_item.nd rfl (.inl rfl)) (pgs_cons (pg_name (i := 4) sc_law_bad_item.nd rfl (.inl rfl)) (pgs_cons (pg_name (i := 5) sc_law_bad_item.nd rfl (.inl rfl)) (pgs_cons (pg_name (i := 6) sc_law_bad_item.nd rfl (.inl rfl)) pgs_nil)))))))
   (pss_cons (ps_set (i := 7) sc_law_bad_item.nd rfl (.inl rfl) (pe_op (op_plus K rfl) pe_int (pe_callO G_law_take (hr.mono (by decide)) (by rfl) (pa_cons (pv 0) (pa_cons pe_int pa_nil)))))
   (pss_one (ps_ret (pe_ix (ix_U K rfl) (pe_lst (pa_cons (pe_tup (pa_cons (pv 2) (pa_cons (pv 3) (pa_cons (pv 4) (pa_cons (pv 5) pa_nil))))) (pa_cons (pe_op (op_plus K rfl) (pv 1) (pe_tup (pa_cons pe_int pa_nil))) (pa_cons (pe_tup (pa_cons (pe_tup (pa_cons pe_str (pa_cons pe_str pa_nil))) (pa_cons (pv 3) (pa_cons (pv 4) (pa_cons (pv 5) (pa_cons (pv 6) pa_nil)))))) (pa_cons (pe_tup (pa_cons (pe_tup (pa_cons pe_str (pa_cons pe_str pa_nil))) (pa_cons (pv 3) (pa_cons (pv 4) (pa_cons (pv 5) (pa_cons (pv 6) pa_nil)))))) (pa_cons (pe_tup (pa_cons (pe_tup (pa_cons pe_str (pa_cons pe_str (pa_cons pe_str (pa_cons pe_str (pa_cons pe_str pa_nil)))))) (pa_cons (pv 3) (pa_cons (pv 4) (pa_cons (pv 5) (pa_cons (pv 6) pa_nil)))))) (pa_cons (pe_tup (pa_cons (pe_tup (pa_cons pe_str pa_nil)) (pa_cons (pv 3) (pa_cons (pv 4) (pa_cons (pv 5) (pa_cons (pv 6) pa_nil)))))) (pa_cons (pe_tup (pa_cons (pv 2) (pa_cons pe_int (pa_cons (pv 4) (pa_cons (pv 5) (pa_cons (pv 6) pa_nil)))))) (pa_cons (pe_tup (pa_cons (pv 2) (pa_cons pe_int (pa_cons (pv 4) (pa_cons (pv 5) (pa_cons (pv 6) pa_nil)))))) (pa_cons (pe_tup (pa_cons (pv 2) (pa_cons (pe_un un_neg (pv 7)) (pa_cons (pv 4) (pa_cons (pv 5) (pa_cons (pv 6) pa_nil)))))) (pa_cons (pe_tup (pa_cons (pv 2) (pa_cons (pv 3) (pa_cons (pe_tup (pa_cons pe_str (pa_cons pe_str (pa_cons pe_str (pa_cons pe_str pa_nil))))) (pa_cons (pv 5) (pa_cons (pv 6) pa_nil)))))) (pa_cons (pe_tup (pa_cons (pv 2) (pa_cons (pv 3) (pa_cons (pe_tup (pa_cons pe_str (pa_cons pe_str pa_nil))) (pa_cons (pv 5) (pa_cons (pv 6) pa_nil)))))) (pa_cons (pe_tup (pa_cons (pv 2) (pa_cons (pv 3) (pa_cons (pv 4) (pa_cons (pv 7) (pa_cons (pe_op op_sub (pv 7) pe_int) pa_nil)))))) (pa_cons (pe_tup (pa_cons (pv 2) (pa_cons (pv 3) (pa_cons (pv 4) (pa_cons (pe_un un_neg pe_int) (pa_cons (pv 6) pa_nil)))))) (pa_cons (pe_tup (pa_cons (pv 2) (pa_cons (pv 3) (pa_cons (pv 4) (pa_cons (pv 5) (pa_cons pe_int pa_nil)))))) (pa_cons (pe_tup (pa_cons (pv 2) (pa_cons (pv 3) (pa_cons pe_str (pa_cons (pv 5) (pa_cons (pv 6) pa_nil)))))) (pa_cons (pe_tup (pa_cons pe_str (pa_cons (pv 3) (pa_cons (pv 4) (pa_cons (pv 5) (pa_cons (pv 6) pa_nil)))))) (pa_cons (pe_tup pa_nil) (pa_cons pe_int (pa_cons pe_str (pa_cons (pe_tup (pa_cons (pv 2) (pa_cons pe_str (pa_cons (pv 4) (pa_cons (pv 5) (pa_cons (pv 6) pa_nil)))))) (pa_cons (pe_tup (pa_cons (pe_tup (pa_cons pe_str pa_nil)) (pa_cons (pv 3) (pa_cons (pv 4) (pa_cons (pv 5) (pa_cons (pv 6) pa_nil)))))) (pa_cons (pe_tup (pa_cons (pe_tup (pa_cons pe_str pa_nil)) (pa_cons (pv 3) (pa_cons (pv 4) (pa_cons (pv 5) (pa_cons (pv 6) pa_nil)))))) pa_nil))))))))))))))))))))))) (pe_callO G_law_take (hr.mono (by decide)) (by rfl) (pa_cons (pv 0) (pa_cons pe_int pa_nil))) (fun _ _ => rfl)))))), ?_⟩
    obtain ⟨ta, x1, x2, x3, x4, x5, rfl, hta, g1, g2, g3, g4, g5⟩ := (show Im H v (.tuple [cI i, .int i.li, gI i, .int i.a, .int i.b]) from hv).quint'
    obtain rfl := g2.int'
    obtain rfl := g4.int'
    obtain rfl := g5.int'
    walk_at "rdn"
    refine rd_seq ?_
    walk_at "rd"
    refine rd_gtup (SqP.sq hta) rfl ?_
    walk_at "rdn"
    refine rd_seqK (fun σ H' => ∃ d0 : Int, 0 ≤ d0 ∧ Ext T [t] H H' ∧ Tape l H' t ∧ σ = [some (.ref t), some (.ref ta), some x1, some (.int i.li), some x3, some (.int i.a), some (.int i.b), some (.int (1 + d0))]) (fun N hN => ?_) (fun σ G0 h => ?_)
    · walk_at "rd"
      refine ⟨l, t, 60, rfl, by decide, by decide, hT, fun d0 G0 h00 h01 e1 T2 => ?_⟩
      walk_at "rd"
      exact hN _ _ ⟨d0, h00, e1, T2, rfl⟩
    obtain ⟨d0, h00, e1, T2, rfl⟩ := h
    have ic : Im G0 x1 (cI i) := g1.y e1 hT
    have ig : Im G0 x3 (gI i) := g3.y e1 hT
    have iv : Im G0 (.ref ta) (.tuple [cI i, .int i.li, gI i, .int i.a, .int i.b]) := (show Im H (.ref ta) (.tuple [cI i, .int i.li, gI i, .int i.a, .int i.b]) from hv).y e1 hT
    clear hta g1 g2 g3 g4 g5 hv hT
    generalize hn : 1 + d0 = n
    have hn1 : 1 ≤ n := by omega
    have hbad := fun h => bad_item (i := i) (n := n) hn1 h
    have hsm := bad_item_small (n := n) hc hg
    refine rd_ret ?_
    refine rd_op ?_
    refine rd_lst ?_
    refine rd_consJ (fun v H' => Ext T [] G0 H' ∧ Im H' v ((.tuple [cI i, .int i.li, gI i, .int i.a]))) (fun Q' hQ => ?_) (fun v1e GE1 hh1 => ?_)
    · walk_at "rd"
      walk_at "al"
      rename_i p1 G1 np1 y1 g1
      have i1 : Im G1 (.ref p1) (.tuple [cI i, .int i.li, gI i, .int i.a]) := .tup g1 (.cons (ic.x y1) (.cons (.int _) (.cons (ig.x y1) (.cons (.int _) .nil))))
      walk_at "rd"
      exact hQ _ _ ⟨y1, i1⟩
    obtain ⟨z1, h1⟩ := hh1
    have E1 : Ext T [] G0 GE1 := z1
    refine rd_consJ (fun v H' => Ext T [] GE1 H' ∧ Im H' v ((.tuple ([cI i, .int i.li, gI i, .int i.a, .int i.b] ++ [.int 0])))) (fun Q' hQ => ?_) (fun v2e GE2 hh2 => ?_)
    · walk_at "rd"
      walk_at "al"
      rename_i p2 G2 np2 y2 g2
      have i2 : Im G2 (.ref p2) (.tuple [.int 0]) := .tup g2 (.cons (.int _) .nil)
      walk_at "rd"
      refine rd_catII (T := T) ((iv.x E1).x y2) i2 (by simp) (by simp) (by simp) fun v3 G3 y3 j3 => ?_
      have i3 : Im G3 v3 (.tuple ([cI i, .int i.li, gI i, .int i.a, .int i.b] ++ [.int 0])) := j3
      walk_at "rd"
      exact hQ _ _ ⟨(y2.trans y3), i3⟩
    obtain ⟨z2, h2⟩ := hh2
    have E2 : Ext T [] G0 GE2 := E1.trans z2
    refine rd_consJ (fun v H' => Ext T [] GE2 H' ∧ Im H' v ((i5 (t2D "b" "a") (.int i.li) (gI i) (.int i.a) (.int i.b)))) (fun Q' hQ => ?_) (fun v3e GE3 hh3 => ?_)
    · walk_at "rd"
      walk_at "al"
      rename_i p4 G4 np4 y4 g4
      have i4 : Im G4 (.ref p4) (t2D "b" "a") := .tup g4 (.cons (.str _ (by decide +kernel)) (.cons (.str _ (by decide +kernel)) .nil))
      walk_at "rd"
      walk_at "al"
      rename_i p5 G5 np5 y5 g5
      have i5 : Im G5 (.ref p5) (i5 (t2D "b" "a") (.int i.li) (gI i) (.int i.a) (.int i.b)) := .tup g5 (.cons (i4.x y5) (.cons (.int _) (.cons (((ig.x E2).x y4).x y5) (.cons (.int _) (.cons (.int _) .nil)))))
      walk_at "rd"
      exact hQ _ _ ⟨(y4.trans y5), i5⟩
    obtain ⟨z3, h3⟩ := hh3
    have E3 : Ext T [] G0 GE3 := E2.trans z3
    refine rd_consJ (fun v H' => Ext T [] GE3 H' ∧ Im H' v ((i5 (t2D "a" "a") (.int i.li) (gI i) (.int i.a) (.int i.b)))) (fun Q' hQ => ?_) (fun v4e GE4 hh4 => ?_)
    · walk_at "rd"
      walk_at "al"
      rename_i p6 G6 np6 y6 g6
      have i6 : Im G6 (.ref p6) (t2D "a" "a") := .tup g6 (.cons (.str _ (by decide +kernel)) (.cons (.str _ (by decide +kernel)) .nil))
      walk_at "rd"
      walk_at "al"
      rename_i p7 G7 np7 y7 g7
      have i7 : Im G7 (.ref p7) (i5 (t2D "a" "a") (.int i.li) (gI i) (.int i.a) (.int i.b)) := .tup g7 (.cons (i6.x y7) (.cons (.int _) (.cons (((ig.x E3).x y6).x y7) (.cons (.int _) (.cons (.int _) .nil)))))
      walk_at "rd"
      exact hQ _ _ ⟨(y6.trans y7), i7⟩
    obtain ⟨z4, h4⟩ := hh4
    have E4 : Ext T [] G0 GE4 := E3.trans z4
    refine rd_consJ (fun v H' => Ext T [] GE4 H' ∧ Im H' v ((i5 (.tuple [.str "a", .str "b", .str "c", .str "d", .str "e"]) (.int i.li) (gI i) (.int i.a) (.int i.b)))) (fun Q' hQ => ?_) (fun v5e GE5 hh5 => ?_)
    · walk_at "rd"
      walk_at "al"
      rename_i p8 G8 np8 y8 g8
      have i8 : Im G8 (.ref p8) (.tuple [.str "a", .str "b", .str "c", .str "d", .str "e"]) := .tup g8 (.cons (.str _ (by decide +kernel)) (.cons (.str _ (by decide +kernel)) (.cons (.str _ (by decide +kernel)) (.cons (.str _ (by decide +kernel)) (.cons (.str _ (by decide +kernel)) .nil)))))
      walk_at "rd"
      walk_at "al"
      rename_i p9 G9 np9 y9 g9
      have i9 : Im G9 (.ref p9) (i5 (.tuple [.str "a", .str "b", .str "c", .str "d", .str "e"]) (.int i.li) (gI i) (.int i.a) (.int i.b)) := .tup g9 (.cons (i8.x y9) (.cons (.int _) (.cons (((ig.x E4).x y8).x y9) (.cons (.int _) (.cons (.int _) .nil)))))
      walk_at "rd"
      exact hQ _ _ ⟨(y8.trans y9), i9⟩
    obtain ⟨z5, h5⟩ := hh5
    have E5 : Ext T [] G0 GE5 := E4.trans z5
    refine rd_consJ (fun v H' => Ext T [] GE5 H' ∧ Im H' v ((i5 (t1D "abcde") (.int i.li) (gI i) (.int i.a) (.int i.b)))) (fun Q' hQ => ?_) (fun v6e GE6 hh6 => ?_)
    · walk_at "rd"
      walk_at "al"
      rename_i p10 G10 np10 y10 g10
      have i10 : Im G10 (.ref p10) (t1D "abcde") := .tup g10 (.cons (.str _ (by decide +kernel)) .nil)
      walk_at "rd"
      walk_at "al"
      rename_i p11 G11 np11 y11 g11
      have i11 : Im G11 (.ref p11) (i5 (t1D "abcde") (.int i.li) (gI i) (.int i.a) (.int i.b)) := .tup g11 (.cons (i10.x y11) (.cons (.int _) (.cons (((ig.x E5).x y10).x y11) (.cons (.int _) (.cons (.int _) .nil)))))
      walk_at "rd"
      exact hQ _ _ ⟨(y10.trans y11), i11⟩
    obtain ⟨z6, h6⟩ := hh6
    have E6 : Ext T [] G0 GE6 := E5.trans z6
    refine rd_consJ (fun v H' => Ext T [] GE6 H' ∧ Im H' v ((i5 (cI i) (.int 0) (gI i) (.int i.a) (.int i.b)))) (fun Q' hQ => ?_) (fun v7e GE7 hh7 => ?_)
    · walk_at "rd"
      walk_at "al"
      rename_i p12 G12 np12 y12 g12
      have i12 : Im G12 (.ref p12) (i5 (cI i) (.int 0) (gI i) (.int i.a) (.int i.b)) := .tup g12 (.cons ((ic.x E6).x y12) (.cons (.int _) (.cons ((ig.x E6).x y12) (.cons (.int _) (.cons (.int _) .nil)))))
      walk_at "rd"
      exact hQ _ _ ⟨y12, i12⟩
    obtain ⟨z7, h7⟩ := hh7
    have E7 : Ext T [] G0 GE7 := E6.trans z7
    refine rd_consJ (fun v H' => Ext T [] GE7 H' ∧ Im H' v ((i5 (cI i) (.int 1001) (gI i) (.int i.a) (.int i.b)))) (fun Q' hQ => ?_) (fun v8e GE8 hh8 => ?_)
    · walk_at "rd"
      walk_at "al"
      rename_i p13 G13 np13 y13 g13
      have i13 : Im G13 (.ref p13) (i5 (cI i) (.int 1001) (gI i) (.int i.a) (.int i.b)) := .tup g13 (.cons ((ic.x E7).x y13) (.cons (.int _) (.cons ((ig.x E7).x y13) (.cons (.int _) (.cons (.int _) .nil)))))
      walk_at "rd"
      exact hQ _ _ ⟨y13, i13⟩
    obtain ⟨z8, h8⟩ := hh8
    have E8 : Ext T [] G0 GE8 := E7.trans z8
    refine rd_consJ (fun v H' => Ext T [] GE8 H' ∧ Im H' v ((i5 (cI i) (.int (-n)) (gI i) (.int i.a) (.int i.b)))) (fun Q' hQ => ?_) (fun v9e GE9 hh9 => ?_)
    · walk_at "rd"
      walk_at "al"
      rename_i p14 G14 np14 y14 g14
      have i14 : Im G14 (.ref p14) (i5 (cI i) (.int (-n)) (gI i) (.int i.a) (.int i.b)) := .tup g14 (.cons ((ic.x E8).x y14) (.cons (.int _) (.cons ((ig.x E8).x y14) (.cons (.int _) (.cons (.int _) .nil)))))
      walk_at "rd"
      exact hQ _ _ ⟨y14, i14⟩
    obtain ⟨z9, h9⟩ := hh9
    have E9 : Ext T [] G0 GE9 := E8.trans z9
    refine rd_consJ (fun v H' => Ext T [] GE9 H' ∧ Im H' v ((i5 (cI i) (.int i.li) (.tuple [.str "a", .str "b", .str "c", .str "d"]) (.int i.a) (.int i.b)))) (fun Q' hQ => ?_) (fun v10e GE10 hh10 => ?_)
    · walk_at "rd"
      walk_at "al"
      rename_i p15 G15 np15 y15 g15
      have i15 : Im G15 (.ref p15) (.tuple [.str "a", .str "b", .str "c", .str "d"]) := .tup g15 (.cons (.str _ (by decide +kernel)) (.cons (.str _ (by decide +kernel)) (.cons (.str _ (by decide +kernel)) (.cons (.str _ (by decide +kernel)) .nil))))
      walk_at "rd"
      walk_at "al"
      rename_i p16 G16 np16 y16 g16
      have i16 : Im G16 (.ref p16) (i5 (cI i) (.int i.li) (.tuple [.str "a", .str "b", .str "c", .str "d"]) (.int i.a) (.int i.b)) := .tup g16 (.cons (((ic.x E9).x y15).x y16) (.cons (.int _) (.cons (i15.x y16) (.cons (.int _) (.cons (.int _) .nil)))))
      walk_at "rd"
      exact hQ _ _ ⟨(y15.trans y16), i16⟩
    obtain ⟨z10, h10⟩ := hh10
    have E10 : Ext T [] G0 GE10 := E9.trans z10
    refine rd_consJ (fun v H' => Ext T [] GE10 H' ∧ Im H' v ((i5 (cI i) (.int i.li) (t2D "b" "a") (.int i.a) (.int i.b)))) (fun Q' hQ => ?_) (fun v11e GE11 hh11 => ?_)
    · walk_at "rd"
      walk_at "al"
      rename_i p17 G17 np17 y17 g17
      have i17 : Im G17 (.ref p17) (t2D "b" "a") := .tup g17 (.cons (.str _ (by decide +kernel)) (.cons (.str _ (by decide +kernel)) .nil))
      walk_at "rd"
      walk_at "al"
      rename_i p18 G18 np18 y18 g18
      have i18 : Im G18 (.ref p18) (i5 (cI i) (.int i.li) (t2D "b" "a") (.int i.a) (.int i.b)) := .tup g18 (.cons (((ic.x E10).x y17).x y18) (.cons (.int _) (.cons (i17.x y18) (.cons (.int _) (.cons (.int _) .nil)))))
      walk_at "rd"
      exact hQ _ _ ⟨(y17.trans y18), i18⟩
    obtain ⟨z11, h11⟩ := hh11
    have E11 : Ext T [] G0 GE11 := E10.trans z11
    refine rd_consJ (fun v H' => Ext T [] GE11 H' ∧ Im H' v ((i5 (cI i) (.int i.li) (gI i) (.int n) (.int (n - 1))))) (fun Q' hQ => ?_) (fun v12e GE12 hh12 => ?_)
    · walk_at "rd"
      walk_at "al"
      rename_i p19 G19 np19 y19 g19
      have i19 : Im G19 (.ref p19) (i5 (cI i) (.int i.li) (gI i) (.int n) (.int (n - 1))) := .tup g19 (.cons ((ic.x E11).x y19) (.cons (.int _) (.cons ((ig.x E11).x y19) (.cons (.int _) (.cons (.int _) .nil)))))
      walk_at "rd"
      exact hQ _ _ ⟨y19, i19⟩
    obtain ⟨z12, h12⟩ := hh12
    have E12 : Ext T [] G0 GE12 := E11.trans z12
    refine rd_consJ (fun v H' => Ext T [] GE12 H' ∧ Im H' v ((i5 (cI i) (.int i.li) (gI i) (.int (-1)) (.int i.b)))) (fun Q' hQ => ?_) (fun v13e GE13 hh13 => ?_)
    · walk_at "rd"
      walk_at "al"
      rename_i p20 G20 np20 y20 g20
      have i20 : Im G20 (.ref p20) (i5 (cI i) (.int i.li) (gI i) (.int (-1)) (.int i.b)) := .tup g20 (.cons ((ic.x E12).x y20) (.cons (.int _) (.cons ((ig.x E12).x y20) (.cons (.int _) (.cons (.int _) .nil)))))
      walk_at "rd"
      exact hQ _ _ ⟨y20, i20⟩
    obtain ⟨z13, h13⟩ := hh13
    have E13 : Ext T [] G0 GE13 := E12.trans z13
    refine rd_consJ (fun v H' => Ext T [] GE13 H' ∧ Im H' v ((i5 (cI i) (.int i.li) (gI i) (.int i.a) (.int 10001)))) (fun Q' hQ => ?_) (fun v14e GE14 hh14 => ?_)
    · walk_at "rd"
      walk_at "al"
      rename_i p21 G21 np21 y21 g21
      have i21 : Im G21 (.ref p21) (i5 (cI i) (.int i.li) (gI i) (.int i.a) (.int 10001)) := .tup g21 (.cons ((ic.x E13).x y21) (.cons (.int _) (.cons ((ig.x E13).x y21) (.cons (.int _) (.cons (.int _) .nil)))))
      walk_at "rd"
      exact hQ _ _ ⟨y21, i21⟩
    obtain ⟨z14, h14⟩ := hh14
    have E14 : Ext T [] G0 GE14 := E13.trans z14
    refine rd_consJ (fun v H' => Ext T [] GE14 H' ∧ Im H' v ((i5 (cI i) (.int i.li) (.str "a") (.int i.a) (.int i.b)))) (fun Q' hQ => ?_) (fun v15e GE15 hh15 => ?_)
    · walk_at "rd"
      walk_at "al"
      rename_i p22 G22 np22 y22 g22
      have i22 : Im G22 (.ref p22) (i5 (cI i) (.int i.li) (.str "a") (.int i.a) (.int i.b)) := .tup g22 (.cons ((ic.x E14).x y22) (.cons (.int _) (.cons (.str _ (by decide +kernel)) (.cons (.int _) (.cons (.int _) .nil)))))
      walk_at "rd"
      exact hQ _ _ ⟨y22, i22⟩
    obtain ⟨z15, h15⟩ := hh15
    have E15 : Ext T [] G0 GE15 := E14.trans z15
    refine rd_consJ (fun v H' => Ext T [] GE15 H' ∧ Im H' v ((i5 (.str "a") (.int i.li) (gI i) (.int i.a) (.int i.b)))) (fun Q' hQ => ?_) (fun v16e GE16 hh16 => ?_)
    · walk_at "rd"
      walk_at "al"
      rename_i p23 G23 np23 y23 g23
      have i23 : Im G23 (.ref p23) (i5 (.str "a") (.int i.li) (gI i) (.int i.a) (.int i.b)) := .tup g23 (.cons (.str _ (by decide +kernel)) (.cons (.int _) (.cons ((ig.x E15).x y23) (.cons (.int _) (.cons (.int _) .nil)))))
      walk_at "rd"
      exact hQ _ _ ⟨y23, i23⟩
    obtain ⟨z16, h16⟩ := hh16
    have E16 : Ext T [] G0 GE16 := E15.trans z16
    refine rd_consJ (fun v H' => Ext T [] GE16 H' ∧ Im H' v ((.tuple []))) (fun Q' hQ => ?_) (fun v17e GE17 hh17 => ?_)
    · walk_at "rd"
      walk_at "al"
      rename_i p24 G24 np24 y24 g24
      have i24 : Im G24 (.ref p24) (.tuple []) := .tup g24 .nil
      walk_at "rd"
      exact hQ _ _ ⟨y24, i24⟩
    obtain ⟨z17, h17⟩ := hh17
    have E17 : Ext T [] G0 GE17 := E16.trans z17
    refine rd_consJ (fun v H' => Ext T [] GE17 H' ∧ Im H' v (.int 5)) (fun Q' hQ => ?_) (fun v18e GE18 hh18 => ?_)
    · walk_at "rd"
      exact hQ _ _ ⟨.refl, (.int _)⟩
    obtain ⟨z18, h18⟩ := hh18
    have E18 : Ext T [] G0 GE18 := E17.trans z18
    refine rd_consJ (fun v H' => Ext T [] GE18 H' ∧ Im H' v (.str "item")) (fun Q' hQ => ?_) (fun v19e GE19 hh19 => ?_)
    · walk_at "rd"
      exact hQ _ _ ⟨.refl, (.str _ (by decide +kernel))⟩
    obtain ⟨z19, h19⟩ := hh19
    have E19 : Ext T [] G0 GE19 := E18.trans z19
    refine rd_consJ (fun v H' => Ext T [] GE19 H' ∧ Im H' v ((i5 (cI i) (.str "1") (gI i) (.int i.a) (.int i.b)))) (fun Q' hQ => ?_) (fun v20e GE20 hh20 => ?_)
    · walk_at "rd"
      walk_at "al"
      rename_i p25 G25 np25 y25 g25
      have i25 : Im G25 (.ref p25) (i5 (cI i) (.str "1") (gI i) (.int i.a) (.int i.b)) := .tup g25 (.cons ((ic.x E19).x y25) (.cons (.str _ (by decide +kernel)) (.cons ((ig.x E19).x y25) (.cons (.int _) (.cons (.int _) .nil)))))
      walk_at "rd"
      exact hQ _ _ ⟨y25, i25⟩
    obtain ⟨z20, h20⟩ := hh20
    have E20 : Ext T [] G0 GE20 := E19.trans z20
    refine rd_consJ (fun v H' => Ext T [] GE20 H' ∧ Im H' v ((i5 (t1D "") (.int i.li) (gI i) (.int i.a) (.int i.b)))) (fun Q' hQ => ?_) (fun v21e GE21 hh21 => ?_)
    · walk_at "rd"
      walk_at "al"
      rename_i p26 G26 np26 y26 g26
      have i26 : Im G26 (.ref p26) (t1D "") := .tup g26 (.cons (.str _ (by decide +kernel)) .nil)
      walk_at "rd"
      walk_at "al"
      rename_i p27 G27 np27 y27 g27
      have i27 : Im G27 (.ref p27) (i5 (t1D "") (.int i.li) (gI i) (.int i.a) (.int i.b)) := .tup g27 (.cons (i26.x y27) (.cons (.int _) (.cons (((ig.x E20).x y26).x y27) (.cons (.int _) (.cons (.int _) .nil)))))
      walk_at "rd"
      exact hQ _ _ ⟨(y26.trans y27), i27⟩
    obtain ⟨z21, h21⟩ := hh21
    have E21 : Ext T [] G0 GE21 := E20.trans z21
    refine rd_consJ (fun v H' => Ext T [] GE21 H' ∧ Im H' v ((i5 (t1D "A") (.int i.li) (gI i) (.int i.a) (.int i.b)))) (fun Q' hQ => ?_) (fun v22e GE22 hh22 => ?_)
    · walk_at "rd"
      walk_at "al"
      rename_i p28 G28 np28 y28 g28
      have i28 : Im G28 (.ref p28) (t1D "A") := .tup g28 (.cons (.str _ (by decide +kernel)) .nil)
      walk_at "rd"
      walk_at "al"
      rename_i p29 G29 np29 y29 g29
      have i29 : Im G29 (.ref p29) (i5 (t1D "A") (.int i.li) (gI i) (.int i.a) (.int i.b)) := .tup g29 (.cons (i28.x y29) (.cons (.int _) (.cons (((ig.x E21).x y28).x y29) (.cons (.int _) (.cons (.int _) .nil)))))
      walk_at "rd"
      exact hQ _ _ ⟨(y28.trans y29), i29⟩
    obtain ⟨z22, h22⟩ := hh22
    have E22 : Ext T [] G0 GE22 := E21.trans z22
    walk_at "rd"
    walk_at "al"
    rename_i pL GL nL yL gL
    have w22 : Ext T [] GE22 GL := yL
    have w21 := z22.trans w22
    have w20 := z21.trans w21
    have w19 := z20.trans w20
    have w18 := z19.trans w19
    have w17 := z18.trans w18
    have w16 := z17.trans w17
    have w15 := z16.trans w16
    have w14 := z15.trans w15
    have w13 := z14.trans w14
    have w12 := z13.trans w13
    have w11 := z12.trans w12
    have w10 := z11.trans w11
    have w9 := z10.trans w10
    have w8 := z9.trans w9
    have w7 := z8.trans w8
    have w6 := z7.trans w7
    have w5 := z6.trans w6
    have w4 := z5.trans w5
    have w3 := z4.trans w4
    have w2 := z3.trans w3
    have w1 := z2.trans w2
    have wE := E22.trans yL
    have hL : Ls GL pL (badI i n) := ⟨_, gL, (.cons (h1.x w1) (.cons (h2.x w2) (.cons (h3.x w3) (.cons (h4.x w4) (.cons (h5.x w5) (.cons (h6.x w6) (.cons (h7.x w7) (.cons (h8.x w8) (.cons (h9.x w9) (.cons (h10.x w10) (.cons (h11.x w11) (.cons (h12.x w12) (.cons (h13.x w13) (.cons (h14.x w14) (.cons (h15.x w15) (.cons (h16.x w16) (.cons (h17.x w17) (.cons (h18.x w18) (.cons (h19.x w19) (.cons (h20.x w20) (.cons (h21.x w21) (.cons (h22.x w22) .nil))))))))))))))))))))))⟩
    clear w1 w2 w3 w4 w5 w6 w7 w8 w9 w10 w11 w12 w13 w14 w15 w16 w17 w18 w19 w20 w21 w22 z1 z2 z3 z4 z5 z6 z7 z8 z9 z10 z11 z12 z13 z14 z15 z16 z17 z18 z19 z20 z21 z22 E1 E2 E3 E4 E5 E6 E7 E8 E9 E10 E11 E12 E13 E14 E15 E16 E17 E18 E19 E20 E21 h1 h2 h3 h4 h5 h6 h7 h8 h9 h10 h11 h12 h13 h14 h15 h16 h17 h18 h19 h20 h21 h22 yL
    walk_at "rd"
    refine ⟨l, t, 22, rfl, by decide, by decide, T2.ext wE, fun d1 H9 h0 h1 e9 T9 => ?_⟩
    obtain ⟨c, hc1, _, hc3⟩ := at_in (l := badI i n) h0 (by rw [badI_len]; exact h1)
    have hLt : pL ≠ t := ((T2.ext E22).ne nL).1
    refine rd_ixLs (hL.y e9 hLt (T2.ext wE)) hc1 fun y0 hy0 => ?_
    exact q y0 c H9 (hsm c hc3) (fun h => hbad h c hc3) hy0 ((e1.trans wE.any).trans e9) T9
end
def wdL : List Str := ["ya", "yb", "yc", "yd", "ye", "yf", "yg", "yh", "yi"]
theorem wd_len : ∀ w ∈ wdL, w.length = 2 := by decide +kernel
theorem wd_label : ∀ w ∈ wdL, ∀ c ∈ sg w, c ∈ sg lettersS := by decide +kernel
/-- ids, each with its own word behind it: other than one another -/
theorem wd_nodup : ∀ {ws zs : List Str}, ws.Nodup → (∀ w ∈ ws, w.length = 2) → EachIs (fun w z => ∃ y, idB y = true ∧ z = y ++ w) ws zs → zs.Nodup
  | [], zs, _, _, h => by
    cases h
    exact List.nodup_nil
  | w :: ws, zs, hn, hl, h => by
    cases h with
    | cons a b =>
      obtain ⟨y, hy, rfl⟩ := a
      have h1 := List.nodup_cons.mp hn
      refine List.nodup_cons.mpr ⟨fun hm => ?_, wd_nodup h1.2 (fun w hw => hl w (List.mem_cons_of_mem _ hw)) b⟩
      have key : ∀ {ws zs : List Str}, EachIs (fun w z => ∃ y, idB y = true ∧ z = y ++ w) ws zs → ∀ z ∈ zs, ∃ w ∈ ws, ∃ y, z = y ++ w := by
        intro ws zs h
        induction h with
        | nil => intro z hz; cases hz
        | cons a b ih =>
          intro z hz
          rcases List.mem_cons.mp hz with rfl | hz
          · obtain ⟨y, _, e⟩ := a
            exact ⟨_, List.mem_cons_self, y, e⟩
          · obtain ⟨w, hw, h⟩ := ih z hz
            exact ⟨w, List.mem_cons_of_mem _ hw, h⟩
      obtain ⟨w2, hw2, y2, e⟩ := key b _ hm
      have e2 := congrArg sg e
      rw [sg_app, sg_app] at e2
      have l1 := hl w List.mem_cons_self
      have l2 := hl w2 (List.mem_cons_of_mem _ hw2)
      rw [← sg_len] at l1 l2
      have e3 := (List.append_inj' e2 (by rw [l1, l2])).2
      exact h1.1 (by rw [sg_inj e3]; exact hw2)
theorem each_snoc {α β : Type} {R : α → β → Prop} {a : α} {b : β} : ∀ {xs : List α} {ys : List β}, EachIs R xs ys → R a b → EachIs R (xs ++ [a]) (ys ++ [b])
  | [], _, h, r => by
    cases h
    exact .cons r .nil
  | x :: xs, _, h, r => by
    cases h with
    | cons p q => exact .cons p (each_snoc q r)
theorem wd_lb {y w : Str} (hy : idB y = true) (hw : w ∈ wdL) : labelB (y ++ w) = true := by
  have h1 := id_len hy
  have h2 := wd_len w hw
  show wordB (y ++ w) lettersS 8 = true
  unfold idB wordB at hy
  unfold wordB
  rw [Bool.and_eq_true, Bool.and_eq_true, decide_eq_true_eq, decide_eq_true_eq] at hy ⊢
  have hl : (y ++ w).length = y.length + w.length := by
    rw [← sg_len, sg_app, List.length_append, sg_len, sg_len]
  refine ⟨by rw [hl]; omega, by rw [hl]; omega, ?_⟩
  rw [List.all_eq_true] at hy ⊢
  rw [sg_app]
  intro c hc
  rcases List.mem_append.mp hc with hc | hc
  · exact hy.2.2 c hc
  · exact decide_eq_true (wd_label w hw c hc)
theorem each_len {α β : Type} {R : α → β → Prop} : ∀ {xs : List α} {ys : List β}, EachIs R xs ys → xs.length = ys.length
  | [], _, h => by cases h; rfl
  | x :: xs, _, h => by
    cases h with
    | cons p q => rw [List.length_cons, List.length_cons, each_len q]
theorem each_lb : ∀ {ws zs : List Str}, (∀ w ∈ ws, w ∈ wdL) → EachIs (fun w z => ∃ y, idB y = true ∧ z = y ++ w) ws zs → ∀ z ∈ zs, labelB z = true
  | [], _, _, h, z, hz => by
    cases h
    cases hz
  | w :: ws, _, hw, h, z, hz => by
    cases h with
    | cons a b =>
      rcases List.mem_cons.mp hz with rfl | hz
      · obtain ⟨y, hy, rfl⟩ := a
        exact wd_lb hy (hw w List.mem_cons_self)
      · exact each_lb (fun w h => hw w (List.mem_cons_of_mem _ h)) b z hz
theorem lb_of {zs : List Str} (hn : zs.Nodup) (h : ∀ z ∈ zs, labelB z = true) : LbOk (srtS zs) := ⟨pair_srtS hn, fun l hl => h l ((srtS_perm zs).mem_iff.mp hl)⟩
theorem imall_strV {H : Hp} : ∀ {ys : List V} {zs : List Str}, ImAll H ys (zs.map PyData.str) → ys = zs.map V.str
  | _, [], h => by cases h; rfl
  | _, z :: zs, h => by
    cases h with
    | cons a b => rw [a.str', imall_strV b]; rfl
section
variable {T : List (Addr × Str)} {P : Program} {w : World} {K : PySem.W.Frag} {mg : Str → Option Value} {base : Heap}
local macro_rules | `(tactic| walk_at "tr") => `(tactic| first
  | assumption
  | exact Ext.refl
  | ((with_reducible refine' Im.x (T := T) (H := ?trH) ?tra ?tre); (case tre => assumption); (case tra => walk_at "tr"))
  | ((with_reducible refine' Im.y (T := T) (H := ?trH) ?tra ?tre ?trt); (case tre => assumption); (case trt => walk_at "tr"); (case tra => walk_at "tr"))
  | ((with_reducible refine' ImAll.x (T := T) (H := ?trH) ?tra ?tre); (case tre => assumption); (case tra => walk_at "tr"))
  | ((with_reducible refine' ImAll.y (T := T) (H := ?trH) ?tra ?tre ?trt); (case tre => assumption); (case trt => walk_at "tr"); (case tra => walk_at "tr"))
  | ((with_reducible refine' Ls.x (T := T) (H := ?trH) ?tra ?tre); (case tre => assumption); (case tra => walk_at "tr"))
  | ((with_reducible refine' Ls.y (T := T) (H := ?trH) ?tra ?tre ?trn ?trt); (case tre => assumption); (case trt => walk_at "tr"); (case trn => walk_at "tr"); (case tra => walk_at "tr"))
  | ((with_reducible refine' SqP.x (T := T) (H := ?trH) ?tra ?tre); (case tre => assumption); (case tra => walk_at "tr"))
  | ((with_reducible refine' SqP.y (T := T) (H := ?trH) ?tra ?tre ?trt); (case tre => assumption); (case trt => walk_at "tr"); (case tra => walk_at "tr"))
  | ((with_reducible refine' StAt.x (T := T) (H := ?trH) ?tra ?tre); (case tre => assumption); (case tra => walk_at "tr"))
  | ((with_reducible refine' StAt.y (T := T) (H := ?trH) ?tra ?tre ?trt); (case tre => assumption); (case trt => walk_at "tr"); (case tra => walk_at "tr"))
  | ((with_reducible refine' Pools.ext0 (T := T) (H := ?trH) ?tra ?tre); (case tre => assumption); (case tra => walk_at "tr"))
  | ((with_reducible refine' Pools.ext (T := T) (H := ?trH) ?tra ?tre ?trt); (case tre => assumption); (case trt => walk_at "tr"); (case tra => walk_at "tr"))
  | ((with_reducible refine' CL.x (T := T) (H := ?trH) ?tra ?tre); (case tre => assumption); (case tra => walk_at "tr"))
  | ((with_reducible refine' CL.y (T := T) (H := ?trH) ?tra ?tre); (case tre => assumption); (case tra => walk_at "tr"))
  | ((with_reducible refine' Tape.ext (T := T) (H := ?trH) ?tra ?tre); (case tre => assumption); (case tra => walk_at "tr"))
  | ((with_reducible refine' lst.x (T := T) (H := ?trH) ?tra ?tre); (case tre => assumption); (case tra => walk_at "tr"))
  | ((with_reducible refine' lst.y (T := T) (H := ?trH) ?tra ?tre ?trn); (case tre => assumption); (case trn => walk_at "tr"); (case tra => walk_at "tr"))
  | ((with_reducible refine' tup.x (T := T) (H := ?trH) ?tra ?tre); (case tre => assumption); (case tra => walk_at "tr"))
  | ((with_reducible refine' tup.y (T := T) (H := ?trH) ?tra ?tre ?trt); (case tre => assumption); (case trt => walk_at "tr"); (case tra => walk_at "tr"))
  | ((with_reducible refine' frz.x (T := T) (H := ?trH) ?tra ?tre); (case tre => assumption); (case tra => walk_at "tr"))
  | ((with_reducible refine' frz.y (T := T) (H := ?trH) ?tra ?tre ?trt); (case tre => assumption); (case trt => walk_at "tr"); (case tra => walk_at "tr"))
  | ((with_reducible refine' Im.z (T := T) (H := ?trH) ?tra ?tre ?trt); (case tre => assumption); (case trt => assumption); (case tra => walk_at "tr"))
  | ((with_reducible refine' ImAll.z (T := T) (H := ?trH) ?tra ?tre ?trt); (case tre => assumption); (case trt => assumption); (case tra => walk_at "tr"))
  | ((with_reducible refine' StAt.z (T := T) (H := ?trH) ?tra ?tre ?trt); (case tre => assumption); (case trt => assumption); (case tra => walk_at "tr"))
  | ((with_reducible refine' SqP.z (T := T) (H := ?trH) ?tra ?tre ?trt); (case tre => assumption); (case trt => assumption); (case tra => walk_at "tr"))
  | ((with_reducible refine' tup.z (T := T) (H := ?trH) ?tra ?tre ?trt); (case tre => assumption); (case trt => assumption); (case tra => walk_at "tr"))
  | ((with_reducible refine' Ls.z (T := T) (H := ?trH) ?tra ?tre ?trt ?trn); (case tre => assumption); (case trt => assumption); (case trn => assumption); (case tra => walk_at "tr"))
  | ((with_reducible refine' lst.z (T := T) (H := ?trH) ?tra ?tre ?trn); (case tre => assumption); (case trn => assumption); (case tra => walk_at "tr"))
  | ((with_reducible refine' CL.z (T := T) (H := ?trH) ?tra ?tre ?trn); (case tre => assumption); (case trn => assumption); (case tra => walk_at "tr"))
  | ((with_reducible refine' Tape.ne1 (H := ?trH) ?trt ?trn); (case trn => assumption); (case trt => walk_at "tr"))
  | ((with_reducible refine' Ext.trans (H1 := ?trH) ?tra (Ext.any ?tre)); (case tre => assumption); (case tra => walk_at "tr"))
  | ((with_reducible refine' Ext.trans (H1 := ?trH) ?tra ?tre); (case tre => assumption); (case tra => walk_at "tr"))
  | ((with_reducible refine' Ext.back1 (T := T) (H1 := ?trH) ?tre ?trn ?tra); (case tra => assumption); (case trn => walk_at "tr"); (case tre => walk_at "tr"))
  | ((with_reducible refine' Ext.back0 (T := T) (H1 := ?trH) ?tre ?tra); (case tra => assumption); (case tre => walk_at "tr"))
  | ((with_reducible refine' SqT.of ?tra); (case tra => walk_at "tr"))
  | ((with_reducible refine' SqL.of ?tra); (case tra => walk_at "tr")))
local macro_rules | `(tactic| walk_at "al") => `(tactic| (refine ⟨by first | (show _ ≤ sizeLine; decide) | walk_at "sz", ?_⟩; intro alp aln; generalize alG : upd _ alp _ = alH; obtain ⟨aln2, alx, alh⟩ := al_of (T := T) aln alG; clear alG aln))
local macro_rules | `(tactic| walk_at "al0") => `(tactic| (intro alp aln; generalize alG : upd _ alp _ = alH; obtain ⟨aln2, alx, alh⟩ := al_of (T := T) aln alG; clear alG aln))
/-- texts out of texts, drawn from the tape on the way -/
theorem lcg_lt (T : List (Addr × Str)) {σ : L2.St} {H : Hp} {Q : VK} {te : TE} {k : Nat} {l t a : Addr} {as : List Str} (hT : Tape l H t) (ha : H a = some (.lst (as.map V.str))) (hat : a ≠ t) (hn : as.length < sizeLine) (g : Str → Str → Prop)
    (step : ∀ (i : Nat) x H', as[i]? = some x → Ext T [t] H H' → Tape l H' t → ∀ F : VK, (∀ z H2, g x z → Ext T [t] H' H2 → Tape l H2 t → F (.str z) H2) → te ((wipe σ [k]).set k (some (.str x))) H' F)
    (q : ∀ D H2 zs, Nw H D → Ext T [t] H H2 → Tape l H2 t → H2 D = some (.lst (zs.map V.str)) → EachIs g as zs → Q (.ref D) H2) : LcG (Itl K a) (gName k) tYes te [k] σ H Q := fun D hD => by
  obtain ⟨nt, nl⟩ := hT.ne (.of hD)
  have hl : (as.map V.str).length = as.length := List.length_map ..
  refine lc_it (walk_list (K := K) (a := a) (xs := as.map V.str)) (fun i H2 => Ext T [t] H H2 ∧ Tape l H2 t ∧ ∃ zs : List Str, H2 D = some (.lst (zs.map V.str)) ∧ zs.length = i ∧ EachIs g (as.take i) zs) ⟨.new hD, hT.upd hD, [], upd_same, rfl, .nil⟩ (fun i H2 _ h => SqL.of (lst.y ha h.1 hat)) (fun i x H1 H' hi h y => ?_) (fun H1 h => ?_)
  · obtain ⟨e1, e2⟩ := y
    subst e1
    rw [List.getElem?_map] at e2
    obtain ⟨z0, hz0, rfl⟩ := Option.map_eq_some_iff.mp e2
    obtain ⟨h1, h2, zs, h3, h4, h5⟩ := h
    refine ⟨wipe1, step i z0 _ hz0 h1 h2 _ fun z H2 hp e t2 => ?_⟩
    have h3' := e.lst (show D ∉ [t] by simpa using nt) h3
    have hil : i < as.length := by rw [← hl]; exact hi
    refine ⟨zs.map V.str, h3', by rw [List.length_map]; omega, (h1.trans e).own (.of hD) h3', t2.own nt nl, zs ++ [z], ?_, by rw [List.length_append, h4]; rfl, ?_⟩
    · rw [List.map_append]
      exact upd_same
    · rw [List.take_add_one, hz0]
      exact each_snoc h5 hp
  · obtain ⟨h1, h2, zs, h3, h4, h5⟩ := h
    rw [hl, List.take_length] at h5
    exact q D H1 zs (.of hD) h1 h2 h3 h5
theorem rd_slSt {H : Hp} {Q : VK} {a : Addr} {zs : List Str} {m : Nat} (h : H a = some (.lst (zs.map V.str))) (q : ∀ p H', Nw H p → Ext T [] H H' → H' p = some (.lst ((zs.take m).map V.str)) → Q (.ref p) H') : rSlU K (.ref a) none (some (m : Int)) H Q := rd_slL (SqL.of h) fun p hp => by
  rw [cutV_to _ (by omega), Int.toNat_natCast, ← List.map_take]
  exact q p _ (.of hp) (.new hp) upd_same
theorem imall_rev {H : Hp} : ∀ {xs : List V} {ds : List PyData}, ImAll H xs ds → ImAll H xs.reverse ds.reverse
  | _, [], h => by
    cases h
    exact .nil
  | _, d :: ds, h => by
    cases h with
    | cons a b =>
      rw [List.reverse_cons, List.reverse_cons]
      exact (imall_rev b).app (.cons a .nil)
theorem sn_all {ds : List PyData} (hl : ds.length ≤ 1000) (h : ∀ d ∈ ds, SnK 1 d) : SnK 2 (.tuple ds) := sn_tup hl (by decide) h
theorem sn_rowsM {ls : List Str} (h : LbOk ls) (m : Nat) : ∀ d ∈ rowsM ls m, SnK 1 d := fun d hd => by
  obtain ⟨l, hl, rfl⟩ := List.mem_map.mp hd
  exact snk2 (snk_str (by have := label_len (h.ok l (List.mem_of_mem_take hl)); omega)) (snk_str (by decide +kernel)) (by decide)
theorem sn_znsM {ls : List Str} (h : LbOk ls) (m : Nat) : ∀ d ∈ znsM ls m, SnK 1 d := fun d hd => by
  rcases List.mem_cons.mp hd with rfl | hd
  · exact snk2 (snk_str (by decide +kernel)) (snk_int _) (by decide)
  · obtain ⟨l, hl, rfl⟩ := List.mem_map.mp hd
    exact snk2 (snk_str (show l.length ≤ 1000 by have := label_len (h.ok l (List.mem_of_mem_take hl)); omega)) (snk_int _) (by decide)
theorem rowsM_len (ls : List Str) (m : Nat) : (rowsM ls m).length ≤ m := by
  unfold rowsM
  rw [List.length_map, List.length_take]
  omega
theorem znsM_len (ls : List Str) (m : Nat) : (znsM ls m).length ≤ m + 1 := by
  unfold znsM
  rw [List.length_cons, List.length_map, List.length_take]
  omega
def spLimits (T : List (Addr × Str)) : Sp := fun vs H Q _ => ∃ (l t : Addr) (v : V) (R : Rm) (m : Int), vs = [.ref t, v] ∧ Tape l H t ∧ Im H v (rmD R) ∧ RmOk R m ∧ RmIn R ∧ ∀ (H' : Hp), Ext T [t] H H' → Tape l H' t → Q (.bl true) H'
theorem ok_limits (D : Def K mg "_law_limits" s_law_limits ["tape", "realm"]) (mb : ∀ x ∈ bltns, mg x = none) (M : Cst mg) (G_law_id : Ok P w K mg base 3 "_law_id" ["tape"] (spId T)) (G_is_realm : Ok P w K mg base 6 "is_realm" ["value"] (spDB T realmD)) : Ok P w K mg base 7 "_law_limits" ["tape", "realm"] (spLimits T) := by
  refine D.ok sc_law_limits (fun vs H Q E h => ?_) (fun cdv f0 A outer s H vs Q E hr h => ?_)
  · obtain ⟨l, t, v, R, m, rfl, _⟩ := h
    rfl
  · obtain ⟨l, t, v, R, m, rfl, hT, hv, hO, hR, q⟩ := h
    refine ⟨_, (pss_cons (ps_set (i := 2) sc_law_limits.nd rfl (.inr rfl) (pe_callB (call_sortedU K rfl hr.units) (by rfl) (mb _ (by decide)) (by decide +kernel) (pa_cons (pe_lc (own := [("word", 7)]) (g := gName 7) (tt := tYes) rfl sc_law_limits.nd (pi_seq K rfl (pe_lst (pa_cons pe_str (pa_cons pe_str (pa_cons pe_str (pa_cons pe_str (pa_cons pe_str (pa_cons pe_str (pa_cons pe_str (pa_cons pe_str (pa_cons pe_str pa_nil))))))))))) (blkOk_by (N := N_law_limits) (sc := defScope s_law_limits) (by decide +kernel)) (fun _ _ _ _ _ => (pg_name (i := 7) sc_law_limits.nd rfl (Or.inl rfl))) (fun _ _ _ _ _ => pts_nil) (fun _ _ _ _ _ => (pe_op (op_plus K rfl) (pe_callO G_law_id (hr.mono (by decide)) (by rfl) (pa_cons (pv 0) pa_nil)) (pv 7)))) pa_nil)))
   (pss_cons (ps_setLc (i := 3) (own := [("many", 6)]) (g := gName 6) (tt := tYes) rfl sc_law_limits.nd rfl rfl (sw_true rfl rfl rfl (by decide +kernel)) (pi_seq K rfl (pe_lst (pa_cons pe_int (pa_cons pe_int (pa_cons pe_int (pa_cons pe_int pa_nil)))))) (blkOk_by (N := N_law_limits) (sc := defScope s_law_limits) (by decide +kernel)) (fun _ _ _ _ _ => (pg_name (i := 6) sc_law_limits.nd rfl (Or.inl rfl))) (fun _ _ _ _ _ => pts_nil) (fun _ _ _ _ _ => (pe_callTy (call_tupU K rfl) (by rfl) (mb _ (by decide)) (by decide +kernel) (pa_cons (pe_lc (own := [("label", 8)]) (g := gName 8) (tt := tYes) rfl sc_law_limits.nd (pi_seq K rfl (pe_slice (sl_U K rfl) (pv 2) po_none (po_some (pv 6)))) (blkOk_by (by exact rfl)) (fun _ _ _ _ _ => (pg_name (i := 8) sc_law_limits.nd rfl (Or.inl rfl))) (fun _ _ _ _ _ => pts_nil) (fun _ _ _ _ _ => (pe_tup (pa_cons (pv 8) (pa_cons pe_str pa_nil))))) pa_nil))))
   (pss_cons (ps_setLc (i := 4) (own := [("many", 6)]) (g := gName 6) (tt := tYes) rfl sc_law_limits.nd rfl rfl (sw_true rfl rfl rfl (by decide +kernel)) (pi_seq K rfl (pe_lst (pa_cons pe_int (pa_cons pe_int pa_nil)))) (blkOk_by (N := N_law_limits) (sc := defScope s_law_limits) (by decide +kernel)) (fun _ _ _ _ _ => (pg_name (i := 6) sc_law_limits.nd rfl (Or.inl rfl))) (fun _ _ _ _ _ => pts_nil) (fun _ _ _ _ _ => (pe_op (op_plus K rfl) (pe_tup (pa_cons (pe_tup (pa_cons pe_str (pa_cons pe_int pa_nil))) pa_nil)) (pe_callTy (call_tupU K rfl) (by rfl) (mb _ (by decide)) (by decide +kernel) (pa_cons (pe_lc (own := [("label", 8)]) (g := gName 8) (tt := tYes) rfl sc_law_limits.nd (pi_seq K rfl (pe_slice (sl_U K rfl) (pv 2) po_none (po_some (pv 6)))) (blkOk_by (by exact rfl)) (fun _ _ _ _ _ => (pg_name (i := 8) sc_law_limits.nd rfl (Or.inl rfl))) (fun _ _ _ _ _ => pts_nil) (fun _ _ _ _ _ => (pe_tup (pa_cons (pv 8) (pa_cons pe_int pa_nil))))) pa_nil)))))
   (pss_cons (ps_if (PW.pt (pw_or (pt_cmpR op_isnotU (pe_callO G_is_realm (hr.mono (by decide)) (by rfl) (pa_cons (pe_tup (pa_cons (pe_ix (ix_U K rfl) (pv 4) pe_int (fun _ _ => rfl)) (pa_cons (pe_ix (ix_U K rfl) (pv 1) pe_int (fun _ _ => rfl)) (pa_cons (pe_ix (ix_U K rfl) (pv 3) pe_int (fun _ _ => rfl)) pa_nil)))) pa_nil)) pe_bl (nomark _)) (pw_or1 (pt_cmpR op_isnotU (pe_callO G_is_realm (hr.mono (by decide)) (by rfl) (pa_cons (pe_tup (pa_cons (pe_ix (ix_U K rfl) (pv 4) pe_int (fun _ _ => rfl)) (pa_cons (pe_ix (ix_U K rfl) (pv 1) pe_int (fun _ _ => rfl)) (pa_cons (pe_ix (ix_U K rfl) (pv 3) pe_int (fun _ _ => rfl)) pa_nil)))) pa_nil)) pe_bl (nomark _))))) (pss_one (ps_ret pe_bl)) pss_nil)
   (pss_cons (ps_if (PW.pt (pw_or (pt_cmpR op_isnotU (pe_callO G_is_realm (hr.mono (by decide)) (by rfl) (pa_cons (pe_tup (pa_cons (pe_tup (pa_cons (pe_tup (pa_cons pe_str (pa_cons pe_int pa_nil))) pa_nil)) (pa_cons (pe_ix (ix_U K rfl) (pv 1) pe_int (fun _ _ => rfl)) (pa_cons (pe_ix (ix_U K rfl) (pv 3) pe_int (fun _ _ => rfl)) pa_nil)))) pa_nil)) pe_bl (nomark _)) (pw_or1 (pt_cmpR op_isnotU (pe_callO G_is_realm (hr.mono (by decide)) (by rfl) (pa_cons (pe_tup (pa_cons (pe_tup (pa_cons (pe_tup (pa_cons pe_str (pa_cons pe_int pa_nil))) pa_nil)) (pa_cons (pe_ix (ix_U K rfl) (pv 1) pe_int (fun _ _ => rfl)) (pa_cons (pe_ix (ix_U K rfl) (pv 3) pe_int (fun _ _ => rfl)) pa_nil)))) pa_nil)) pe_bl (nomark _))))) (pss_one (ps_ret pe_bl)) pss_nil)
   (pss_cons (ps_if (PW.pt (pw_or (pt_cmpR op_isnotU (pe_callO G_is_realm (hr.mono (by decide)) (by rfl) (pa_cons (pe_tup (pa_cons (pe_op (op_plus K rfl) (pe_slice (sl_U2 K rfl) (pe_ix (ix_U K rfl) (pv 4) pe_int (fun _ _ => rfl)) po_none (po_some pe_int)) (pe_dnT1U K rfl (pe_ix (ix_U K rfl) (pv 4) pe_int (fun _ _ => rfl)))) (pa_cons (pe_ix (ix_U K rfl) (pv 1) pe_int (fun _ _ => rfl)) (pa_cons (pe_ix (ix_U K rfl) (pv 3) pe_int (fun _ _ => rfl)) pa_nil)))) pa_nil)) pe_bl (nomark _)) (pw_or1 (pt_cmpR op_isnotU (pe_callO G_is_realm (hr.mono (by decide)) (by rfl) (pa_cons (pe_tup (pa_cons (pe_ix (ix_U K rfl) (pv 4) pe_int (fun _ _ => rfl)) (pa_cons (pe_ix (ix_U K rfl) (pv 1) pe_int (fun _ _ => rfl)) (pa_cons (pe_dnTU K rfl (pe_ix (ix_U K rfl) (pv 3) pe_int (fun _ _ => rfl))) pa_nil)))) pa_nil)) pe_bl (nomark _))))) (pss_one (ps_ret pe_bl)) pss_nil)
   (pss_cons (ps_set (i := 5) sc_law_limits.nd rfl (.inl rfl) (pe_tup (pa_cons (pe_glI (by rfl) M.c_MAX_TIME) (pa_cons (pe_glI (by rfl) M.c_MAX_LIFE) (pa_cons (pe_glI (by rfl) M.c_MAX_LAG) (pa_cons (pe_glI (by rfl) M.c_MAX_ZONES) (pa_cons (pe_glI (by rfl) M.c_MAX_ANCHORS) (pa_cons (pe_glI (by rfl) M.c_MAX_SETS) (pa_cons (pe_glI (by rfl) M.c_MAX_IDS) (pa_cons (pe_glI (by rfl) M.c_MAX_SIGNERS) (pa_cons (pe_glI (by rfl) M.c_MAX_PLAN) pa_nil)))))))))))
   (pss_one (ps_ret (pe_cmpR (op_eqU K rfl hr.units) (pv 5) (pe_tup (pa_cons pe_int (pa_cons pe_int (pa_cons pe_int (pa_cons pe_int (pa_cons pe_int (pa_cons pe_int (pa_cons pe_int (pa_cons pe_int (pa_cons pe_int pa_nil)))))))))) (nomark _))))))))))), ?_⟩
    walk_at "rdn"
    refine rd_seqK (fun σ H' => Ext T [t] H H' ∧ Tape l H' t ∧ ∃ (a2 : Addr) (ls : List Str), σ = [some (.ref t), some v, some (.ref a2), none, none, none, none, none, none] ∧ H' a2 = some (.lst (ls.map V.str)) ∧ a2 ≠ t ∧ LbOk ls ∧ ls.length = 9) (fun N hN => ?_) (fun σ H1 h => ?_)
    · walk_at "rd"
      walk_at "al"
      rename_i wl H1 nwl e1 hwl
      have hwl : H1 wl = some (.lst (wdL.map V.str)) := hwl
      have T1 := hT.ext e1
      have hwt := (hT.ne nwl).1
      walk_at "rd"
      refine lcg_lt T T1 hwl hwt (by decide) (fun w z => ∃ y, idB y = true ∧ z = y ++ w) (fun i x H' hx e' T' F hF => ?_) (fun D1 H2 zs nD1 e2 T2 hD1 hzs => ?_)
      · walk_at "rd"
        refine ⟨l, t, rfl, T', fun y H3 hy e3 T3 => ?_⟩
        walk_at "rd"
        have hxm := List.mem_of_getElem? hx
        refine rd_plusS (Nat.le_trans (show y.length + x.length ≤ 1000 by have := id_len hy; have := wd_len x hxm; omega) (by decide)) ?_
        exact hF _ H3 ⟨y, hy, rfl⟩ e3 T3
      · have hzn := wd_nodup (by decide +kernel : wdL.Nodup) wd_len hzs
        have hzl : zs.length = 9 := (each_len hzs).symm
        have hlb := lb_of hzn (each_lb (fun w hw => hw) hzs)
        walk_at "rd"
        refine rd_sortA T (ds := zs.map .str) ⟨_, hD1, ImAll.strs fun z hz => label_ok (each_lb (fun w hw => hw) hzs z hz)⟩ (alike_s zs) (sortable_s zs) (depth_s zs) fun sa H3 ys nsa e3 hsa hys => ?_
        rw [srtS_eq] at hys
        obtain rfl := imall_strV hys
        walk_at "rd"
        exact hN _ _ ⟨(e1.any.trans e2).trans e3.any, T2.ext e3, sa, srtS zs, rfl, hsa, (T2.ne nsa).1, hlb, by rw [(srtS_perm zs).length_eq]; exact hzl⟩
    obtain ⟨e1, T1, a2, ls, rfl, ha2, ha2t, hlb, hl9⟩ := h
    have hv1 := hv.y e1 hT
    walk_at "rdn"
    refine rd_seqK (fun σ H' => Ext T [] H1 H' ∧ ∃ (a3 : Addr), σ = [some (.ref t), some v, some (.ref a2), some (.ref a3), none, none, none, none, none] ∧ Ls H' a3 ([5, 6, 8, 9].map fun m => PyData.tuple (rowsM ls m))) (fun N hN => ?_) (fun σ H2 h => ?_)
    · walk_at "rd"
      walk_at "al"
      rename_i ml H2 nml e2 hml
      walk_at "rd"
      have hml : H2 ml = some (.lst (([5, 6, 8, 9] : List Nat).map fun m : Nat => V.int (m : Int))) := hml
      have hmi : ImAll H2 (([5, 6, 8, 9] : List Nat).map fun m : Nat => V.int (m : Int)) (([5, 6, 8, 9] : List Nat).map fun m : Nat => PyData.int (m : Int)) := .cons (.int _) (.cons (.int _) (.cons (.int _) (.cons (.int _) .nil)))
      refine lcg_fm T (fun m : Nat => PyData.int (m : Int)) (fun m => PyData.tuple (rowsM ls m)) (fun _ => true) (walk_list (K := K) (a := ml)) hmi rfl (fun i H x H' y => y) (fun H' e => SqL.of (lst.x hml e)) (by decide) (fun k m x hm H' e' hxm R' S' h1 _ => ?_) (fun D1 H3 nD1 e3 hD1 => ?_)
      · rw [hxm.int']
        refine rd_name ⟨wipe1, ?_⟩
        walk_at "rd"
        refine rd_slSt (T := T) (lst.x (lst.x ha2 e2) e') fun sp H4 nsp e4 hsp => ?_
        have hsi : ImAll H4 ((ls.take m).map V.str) ((ls.take m).map .str) := ImAll.strs fun z hz => label_ok (hlb.ok z (List.mem_of_mem_take hz))
        walk_at "rd"
        refine lcg_fm T PyData.str (fun l => t2D l "a") (fun _ => true) (walk_list (K := K) (a := sp)) hsi rfl (fun i H x H' y => y) (fun H' e => SqL.of (lst.x hsp e)) (by rw [List.length_take]; omega) (fun k2 l2 x2 hl2 H5 e5 hx2 R2 S2 g1 _ => ?_) (fun D3 H6 nD3 e6 hD3 => ?_)
        · have hl2m := hlb.ok l2 (List.mem_of_mem_take (List.mem_of_getElem? hl2))
          rw [hx2.str']
          refine rd_name ⟨wipe1, ?_⟩
          walk_at "rd"
          walk_at "al"
          rename_i tp H7 _ e7 htp
          exact g1 rfl _ H7 e7 (.new2 (.str _ (label_ok hl2m)) (.str _ (by decide +kernel)) htp)
        · rw [filtT] at hD3
          obtain ⟨kx, hkx, hki⟩ := hD3
          walk_at "rd"
          refine rd_tupA T hkx fun p H7 np e7 hp => ?_
          exact h1 rfl _ H7 ((e4.trans e6).trans e7) (.tup hp (ImAll.x hki e7))
      · rw [filtT] at hD1
        walk_at "rd"
        exact hN _ _ ⟨e2.trans e3, D1, rfl, hD1⟩
    obtain ⟨e2, a3, rfl, ha3⟩ := h
    walk_at "rdn"
    refine rd_seqK (fun σ H' => Ext T [] H2 H' ∧ ∃ (a4 : Addr), σ = [some (.ref t), some v, some (.ref a2), some (.ref a3), some (.ref a4), none, none, none, none] ∧ Ls H' a4 ([5, 6].map fun m => PyData.tuple (znsM ls m))) (fun N hN => ?_) (fun σ H3 h => ?_)
    · walk_at "rd"
      walk_at "al"
      rename_i ml H3 nml e3 hml
      walk_at "rd"
      have hml : H3 ml = some (.lst (([5, 6] : List Nat).map fun m : Nat => V.int (m : Int))) := hml
      have hmi : ImAll H3 (([5, 6] : List Nat).map fun m : Nat => V.int (m : Int)) (([5, 6] : List Nat).map fun m : Nat => PyData.int (m : Int)) := .cons (.int _) (.cons (.int _) .nil)
      refine lcg_fm T (fun m : Nat => PyData.int (m : Int)) (fun m => PyData.tuple (znsM ls m)) (fun _ => true) (walk_list (K := K) (a := ml)) hmi rfl (fun i H x H' y => y) (fun H' e => SqL.of (lst.x hml e)) (by decide) (fun k m x hm H' e' hxm R' S' h1 _ => ?_) (fun D1 H4 nD1 e4 hD1 => ?_)
      · rw [hxm.int']
        have hm5 : 5 ≤ m ∧ m ≤ 6 := by
          have hmm := List.mem_of_getElem? hm
          simp only [List.mem_cons, List.not_mem_nil, or_false] at hmm
          omega
        refine rd_name ⟨wipe1, ?_⟩
        walk_at "rd"
        walk_at "al"
        rename_i q1 G1 _ f1 hq1
        walk_at "rd"
        walk_at "al"
        rename_i q2 G2 _ f2 hq2
        have hhd : Im G2 (.ref q2) (.tuple [siD (dotS, 3)]) := .tup hq2 (.cons ((Im.new2 (.str _ (name_ok dot_name)) (.int _) hq1).x f2) .nil)
        walk_at "rd"
        refine rd_slSt (T := T) (lst.x (lst.x (lst.x (lst.x (lst.x ha2 e2) e3) e') f1) f2) fun sp H5 nsp e5 hsp => ?_
        have hsi : ImAll H5 ((ls.take m).map V.str) ((ls.take m).map .str) := ImAll.strs fun z hz => label_ok (hlb.ok z (List.mem_of_mem_take hz))
        walk_at "rd"
        refine lcg_fm T PyData.str (fun l => siD (l, 100)) (fun _ => true) (walk_list (K := K) (a := sp)) hsi rfl (fun i H x H' y => y) (fun H' e => SqL.of (lst.x hsp e)) (by rw [List.length_take]; omega) (fun k2 l2 x2 hl2 H6 e6 hx2 R2 S2 g1 _ => ?_) (fun D3 H6 nD3 e6 hD3 => ?_)
        · have hl2m := hlb.ok l2 (List.mem_of_mem_take (List.mem_of_getElem? hl2))
          rw [hx2.str']
          refine rd_name ⟨wipe1, ?_⟩
          walk_at "rd"
          walk_at "al"
          rename_i tp H7 _ e7 htp
          exact g1 rfl _ H7 e7 (.new2 (.str _ (label_ok hl2m)) (.int _) htp)
        · rw [filtT] at hD3
          obtain ⟨kx, hkx, hki⟩ := hD3
          walk_at "rd"
          refine rd_tupA T hkx fun p H7 np e7 hp => ?_
          have hpt : Im H7 (.ref p) (.tuple ((ls.take m).map fun l => siD (l, 100))) := .tup hp (ImAll.x hki e7)
          refine rd_catII (T := T) (((hhd.x e5).x e6).x e7) hpt (by simp) (fun h => ?_) (by rw [List.length_map, List.length_take, List.length_singleton]; omega) fun y H8 e8 hy => ?_
          · have := congrArg List.length h
            rw [List.length_map, List.length_take] at this
            simp only [List.length_nil] at this
            omega
          · exact h1 rfl y H8 (((((f1.trans f2).trans e5).trans e6).trans e7).trans e8) hy
      · rw [filtT] at hD1
        walk_at "rd"
        exact hN _ _ ⟨e3.trans e4, D1, rfl, hD1⟩
    obtain ⟨e3, a4, rfl, ha4⟩ := h
    have hv3 := (hv1.x e2).x e3
    have ha3' := ha3.x e3
    have e03 := (e1.trans e2.any).trans e3.any
    have T3 := (T1.ext e2).ext e3
    clear hv hv1 ha2 ha3 e1 e2 e3 T1 hT
    have haD := ids_okD hO.an
    have hsa := sn_aR hO
    have hok := lim_ok (an := aR R) hlb hl9 haD
    have hno := lim_no (an := aR R) hlb hl9
    have sz := fun m (hm : m ≤ 100) => sn_all (ds := znsM ls m) (by have := znsM_len ls m; omega) (sn_znsM hlb m)
    have sr := fun m (hm : m ≤ 100) => sn_all (ds := rowsM ls m) (by have := rowsM_len ls m; omega) (sn_rowsM hlb m)
    have t3 : ∀ {x y w : PyData}, SnK 2 x → SnK 2 y → SnK 2 w → Sm (.tuple [x, y, w]) := fun h1 h2 h3 => (snk3 h1 h2 h3 (by decide)).1
    have hv3 : Im H3 v (.tuple [zR R, aR R, sR R]) := hv3
    walk_at "rdn"
    refine rd_seqK (fun σ H' => Ext T [] H3 H' ∧ σ = [some (.ref t), some v, some (.ref a2), some (.ref a3), some (.ref a4), none, none, none, none]) (fun N hN => ?_) (fun σ H4 h => ?_)
    · walk_at "rd"
      refine rd_ixLs (d := .tuple (znsM ls 5)) ha4 rfl fun y1 g1 => ?_
      walk_at "rd"
      refine rd_ixI (d := aR R) hv3 rfl fun y2 g2 => ?_
      walk_at "rd"
      refine rd_ixLs (d := .tuple (rowsM ls 5)) ha3' rfl fun y3 g3 => ?_
      walk_at "rd"
      walk_at "al"
      rename_i p1 G1 _ f1 hp1
      walk_at "rd"
      refine ⟨_, .tuple [.tuple (znsM ls 5), aR R, .tuple (rowsM ls 5)], rfl, (Im.new3 (g1.x f1) (g2.x f1) (g3.x f1) hp1), t3 (sz 5 (by decide)) hsa (sr 5 (by decide)), fun G2 f2 => ?_⟩
      rw [hok.1]
      refine rd_isnBl ?_
      refine ⟨_, rfl, ?_⟩
      have f12 := f1.trans f2
      walk_at "rd"
      refine rd_itn (fun _ => ?_) (fun h => absurd rfl h)
      walk_at "rd"
      refine rd_ixLs (d := .tuple (znsM ls 6)) (ha4.x f12) rfl fun y1 g1 => ?_
      walk_at "rd"
      refine rd_ixI (d := aR R) (hv3.x f12) rfl fun y2 g2 => ?_
      walk_at "rd"
      refine rd_ixLs (d := .tuple (rowsM ls 6)) (ha3'.x f12) rfl fun y3 g3 => ?_
      walk_at "rd"
      walk_at "al"
      rename_i p2 G3 _ f3 hp2
      walk_at "rd"
      refine ⟨_, .tuple [.tuple (znsM ls 6), aR R, .tuple (rowsM ls 6)], rfl, (Im.new3 (g1.x f3) (g2.x f3) (g3.x f3) hp2), t3 (sz 6 (by decide)) hsa (sr 6 (by decide)), fun G4 f4 => ?_⟩
      rw [hno.1]
      refine rd_isnBl ?_
      walk_at "rd"
      refine rd_itn (fun _ => ?_) (fun h => absurd rfl h)
      walk_at "rd"
      exact hN _ _ ⟨(f12.trans f3).trans f4, rfl⟩
    obtain ⟨e4, rfl⟩ := h
    have hz00 : ∀ {H' : Hp} {q : Addr} {x : V}, H' q = some (.tup [x]) → Im H' x (siD (dotS, 0)) → Im H' (.ref q) (.tuple [siD (dotS, 0)]) := fun h g => .tup h (.cons g .nil)
    have s00 : SnK 2 (.tuple [siD (dotS, 0)]) := snk1 (snk2 (snk_str (by decide +kernel)) (snk_int _) (by decide)) (by decide)
    walk_at "rdn"
    refine rd_seqK (fun σ H' => Ext T [] H4 H' ∧ σ = [some (.ref t), some v, some (.ref a2), some (.ref a3), some (.ref a4), none, none, none, none]) (fun N hN => ?_) (fun σ H5 h => ?_)
    · walk_at "rd"
      walk_at "al"
      rename_i b1 G1 _ f1 hb1
      walk_at "rd"
      walk_at "al"
      rename_i b2 G2 _ f2 hb2
      have f12 := f1.trans f2
      have e42 := e4.trans f12
      have i0 := hz00 hb2 ((Im.new2 (.str _ (name_ok dot_name)) (.int _) hb1).x f2)
      walk_at "rd"
      refine rd_ixI (d := aR R) (hv3.x e42) rfl fun y2 g2 => ?_
      walk_at "rd"
      refine rd_ixLs (d := .tuple (rowsM ls 8)) (ha3'.x e42) rfl fun y3 g3 => ?_
      walk_at "rd"
      walk_at "al"
      rename_i p1 G3 _ f3 hp1
      walk_at "rd"
      refine ⟨_, .tuple [.tuple [siD (dotS, 0)], aR R, .tuple (rowsM ls 8)], rfl, (Im.new3 (i0.x f3) (g2.x f3) (g3.x f3) hp1), t3 s00 hsa (sr 8 (by decide)), fun G4 f4 => ?_⟩
      rw [hok.2]
      refine rd_isnBl ?_
      refine ⟨_, rfl, ?_⟩
      walk_at "rd"
      refine rd_itn (fun _ => ?_) (fun h => absurd rfl h)
      have f14 := (f12.trans f3).trans f4
      walk_at "rd"
      walk_at "al"
      rename_i b3 G5 _ f5 hb3
      walk_at "rd"
      walk_at "al"
      rename_i b4 G6 _ f6 hb4
      have f16 := (f14.trans f5).trans f6
      have e46 := e4.trans f16
      have i1 := hz00 hb4 ((Im.new2 (.str _ (name_ok dot_name)) (.int _) hb3).x f6)
      walk_at "rd"
      refine rd_ixI (d := aR R) (hv3.x e46) rfl fun y4 g4 => ?_
      walk_at "rd"
      refine rd_ixLs (d := .tuple (rowsM ls 9)) (ha3'.x e46) rfl fun y5 g5 => ?_
      walk_at "rd"
      walk_at "al"
      rename_i p2 G7 _ f7 hp2
      walk_at "rd"
      refine ⟨_, .tuple [.tuple [siD (dotS, 0)], aR R, .tuple (rowsM ls 9)], rfl, (Im.new3 (i1.x f7) (g4.x f7) (g5.x f7) hp2), t3 s00 hsa (sr 9 (by decide)), fun G8 f8 => ?_⟩
      rw [hno.2.1]
      refine rd_isnBl ?_
      walk_at "rd"
      refine rd_itn (fun _ => ?_) (fun h => absurd rfl h)
      walk_at "rd"
      exact hN _ _ ⟨(f16.trans f7).trans f8, rfl⟩
    obtain ⟨e5, rfl⟩ := h
    have e35 := e4.trans e5
    walk_at "rdn"
    refine rd_seqK (fun σ H' => Ext T [] H5 H' ∧ σ = [some (.ref t), some v, some (.ref a2), some (.ref a3), some (.ref a4), none, none, none, none]) (fun N hN => ?_) (fun σ H6 h => ?_)
    · walk_at "rd"
      refine rd_ixLs (d := .tuple (znsM ls 5)) (ha4.x e35) rfl fun y1 g1 => ?_
      walk_at "rd"
      refine rd_slIm (T := T) g1 fun y2 G1 f1 g2 => ?_
      have ec : cutD (znsM ls 5) none (some 1) = [siD (dotS, 3)] := by
        unfold cutD
        rw [HT.sIx_none, show HT.sIx (znsM ls 5).length (znsM ls 5).length (some 1) = min 1 (znsM ls 5).length from HT.sIx_nat _ _ 1]
        unfold znsM
        rw [show min 1 (siD (dotS, 3) :: (ls.take 5).map fun l => siD (l, 100)).length = 1 by rw [List.length_cons]; omega]
        rfl
      rw [ec] at g2
      have e1 := e35.trans f1
      walk_at "rd"
      refine rd_dnT ?_
      walk_at "rd"
      refine rd_ixLs (d := .tuple (znsM ls 5)) (ha4.x e1) rfl fun y3 g3 => ?_
      obtain ⟨za, zx, rfl, hza, hzi⟩ := g3.tup'
      refine ⟨za, zx, rfl, SqP.sq hza, fun p np => ?_⟩
      obtain ⟨_, f2, hp⟩ := alT (T := T) np (zx.drop 1).reverse
      generalize upd G1 p _ = G2 at f2 hp ⊢
      have g4 : Im G2 (.ref p) (.tuple ((znsM ls 5).drop 1).reverse) := .tup hp (imall_rev ((hzi.x f2).drop 1))
      have ed : (znsM ls 5).drop 1 = (ls.take 5).map fun l => siD (l, 100) := rfl
      rw [ed] at g4
      refine rd_catII (T := T) (g2.x f2) g4 (by simp) (fun h => ?_) (by rw [List.length_reverse, List.length_map, List.length_take, List.length_singleton]; omega) fun y5 G3 f3 g5 => ?_
      · have := congrArg List.length h
        rw [List.length_reverse, List.length_map, List.length_take] at this
        simp only [List.length_nil] at this
        omega
      have g5 : Im G3 y5 (.tuple (siD (dotS, 3) :: ((ls.take 5).map fun l => siD (l, 100)).reverse)) := g5
      have f13 := (f1.trans f2).trans f3
      have e53 := e35.trans f13
      walk_at "rd"
      refine rd_ixI (d := aR R) (hv3.x e53) rfl fun y6 g6 => ?_
      walk_at "rd"
      refine rd_ixLs (d := .tuple (rowsM ls 5)) (ha3'.x e53) rfl fun y7 g7 => ?_
      walk_at "rd"
      walk_at "al"
      rename_i p1 G4 _ f4 hp1
      walk_at "rd"
      have srev : SnK 2 (.tuple (siD (dotS, 3) :: ((ls.take 5).map fun l => siD (l, 100)).reverse)) := sn_all (by rw [List.length_cons, List.length_reverse, List.length_map, List.length_take]; omega) fun d hd => by
        refine sn_znsM hlb 5 d ?_
        rcases List.mem_cons.mp hd with rfl | hd
        · exact List.mem_cons_self
        · exact List.mem_cons_of_mem _ (List.mem_reverse.mp hd)
      refine ⟨_, .tuple [.tuple (siD (dotS, 3) :: ((ls.take 5).map fun l => siD (l, 100)).reverse), aR R, .tuple (rowsM ls 5)], rfl, (Im.new3 (g5.x f4) (g6.x f4) (g7.x f4) hp1), t3 srev hsa (sr 5 (by decide)), fun G5 f5 => ?_⟩
      rw [hno.2.2.1]
      refine rd_isnBl ?_
      refine ⟨_, rfl, ?_⟩
      walk_at "rd"
      refine rd_itn (fun _ => ?_) (fun h => absurd rfl h)
      have f15 := (f13.trans f4).trans f5
      have e55 := e35.trans f15
      walk_at "rd"
      refine rd_ixLs (d := .tuple (znsM ls 5)) (ha4.x e55) rfl fun y8 g8 => ?_
      walk_at "rd"
      refine rd_ixI (d := aR R) (hv3.x e55) rfl fun y9 g9 => ?_
      walk_at "rd"
      refine rd_dnT ?_
      walk_at "rd"
      refine rd_ixLs (d := .tuple (rowsM ls 5)) (ha3'.x e55) rfl fun y10 g10 => ?_
      obtain ⟨ra, rx, rfl, hra, hri⟩ := g10.tup'
      refine ⟨ra, rx, rfl, SqP.sq hra, fun pp npp => ?_⟩
      obtain ⟨_, f6, hpp⟩ := alT (T := T) npp (rx.drop 0).reverse
      generalize upd G5 pp _ = G6 at f6 hpp ⊢
      have g11 : Im G6 (.ref pp) (.tuple (rowsM ls 5).reverse) := .tup hpp (imall_rev ((hri.x f6).drop 0))
      walk_at "rd"
      walk_at "al"
      rename_i p2 G7 _ f7 hp2
      walk_at "rd"
      have srr : SnK 2 (.tuple (rowsM ls 5).reverse) := sn_all (by rw [List.length_reverse]; have := rowsM_len ls 5; omega) fun d hd => sn_rowsM hlb 5 d (List.mem_reverse.mp hd)
      refine ⟨_, .tuple [.tuple (znsM ls 5), aR R, .tuple (rowsM ls 5).reverse], rfl, (Im.new3 ((g8.x f6).x f7) ((g9.x f6).x f7) (g11.x f7) hp2), t3 (sz 5 (by decide)) hsa srr, fun G8 f8 => ?_⟩
      rw [hno.2.2.2]
      refine rd_isnBl ?_
      walk_at "rd"
      refine rd_itn (fun _ => ?_) (fun h => absurd rfl h)
      walk_at "rd"
      exact hN _ _ ⟨((f15.trans f6).trans f7).trans f8, rfl⟩
    obtain ⟨e6, rfl⟩ := h
    walk_at "rdn"
    refine rd_seq ?_
    walk_at "rd"
    walk_at "al"
    rename_i c1 G1 _ f1 hc1
    walk_at "rd"
    walk_at "al"
    rename_i c2 G2 _ f2 hc2
    have k1 : Im G2 (.ref c1) (.tuple (([10000, 1000, 100, 6, 3, 8, 4, 3, 12] : List Int).map .int)) := (Im.tup hc1 (.cons (.int _) (.cons (.int _) (.cons (.int _) (.cons (.int _) (.cons (.int _) (.cons (.int _) (.cons (.int _) (.cons (.int _) (.cons (.int _) .nil)))))))))).x f2
    have k2 : Im G2 (.ref c2) (.tuple (([10000, 1000, 100, 6, 3, 8, 4, 3, 12] : List Int).map .int)) := .tup hc2 (.cons (.int _) (.cons (.int _) (.cons (.int _) (.cons (.int _) (.cons (.int _) (.cons (.int _) (.cons (.int _) (.cons (.int _) (.cons (.int _) .nil)))))))))
    have f36 := ((e35.trans e6).trans f1).trans f2
    refine rd_eqI (b := true) k1 k2 (by decide) (by decide) (by simp) ?_
    exact q G2 (e03.trans f36.any) (T3.ext f36)
end
theorem filter_nd {α β : Type} [DecidableEq α] {l : List (α × β)} {a : α} {b : β} (hn : (l.map (·.1)).Nodup) (hm : (a, b) ∈ l) : l.filter (fun p => decide (p.1 = a)) = [(a, b)] := by
  induction l with
  | nil => cases hm
  | cons p l ih =>
    rw [List.map_cons, List.nodup_cons] at hn
    rcases List.mem_cons.mp hm with e | hm
    · subst e
      rw [List.filter_cons_of_pos (by simp), List.filter_eq_nil_iff.mpr]
      intro y hy h
      have h2 : y.1 = a := of_decide_eq_true h
      exact hn.1 (List.mem_map.mpr ⟨y, hy, h2⟩)
    · rw [List.filter_cons_of_neg, ih hn.2 hm]
      intro h
      have h2 : p.1 = a := of_decide_eq_true h
      exact hn.1 (List.mem_map.mpr ⟨_, hm, h2.symm⟩)
/-- what is no slot of any realm, of any -/
def wrongs : List PyData := [.tuple [.str "keys"], .tuple [.str "link", .str "."], .tuple [.str "hosts", .str "."], .tuple [.str "keys", .str "no.such.zone.at.all"], .tuple [.str "set", .str "no.such.zone.at.all", .str "a"], .tuple [], .str "keys", .int 3, .tuple [.str "key", .str "."]]
section
variable {T : List (Addr × Str)} {P : Program} {w : World} {K : PySem.W.Frag} {mg : Str → Option Value} {base : Heap}
local macro_rules | `(tactic| walk_at "tr") => `(tactic| first
  | assumption
  | exact Ext.refl
  | ((with_reducible refine' Im.x (T := T) (H := ?trH) ?tra ?tre); (case tre => assumption); (case tra => walk_at "tr"))
  | ((with_reducible refine' Im.y (T := T) (H := ?trH) ?tra ?tre ?trt); (case tre => assumption); (case trt => walk_at "tr"); (case tra => walk_at "tr"))
  | ((with_reducible refine' ImAll.x (T := T) (H := ?trH) ?tra ?tre); (case tre => assumption); (case tra => walk_at "tr"))
  | ((with_reducible refine' ImAll.y (T := T) (H := ?trH) ?tra ?tre ?trt); (case tre => assumption); (case trt => walk_at "tr"); (case tra => walk_at "tr"))
  | ((with_reducible refine' Ls.x (T := T) (H := ?trH) ?tra ?tre); (case tre => assumption); (case tra => walk_at "tr"))
  | ((with_reducible refine' Ls.y (T := T) (H := ?trH) ?tra ?tre ?trn ?trt); (case tre => assumption); (case trt => walk_at "tr"); (case trn => walk_at "tr"); (case tra => walk_at "tr"))
  | ((with_reducible refine' SqP.x (T := T) (H := ?trH) ?tra ?tre); (case tre => assumption); (case tra => walk_at "tr"))
  | ((with_reducible refine' SqP.y (T := T) (H := ?trH) ?tra ?tre ?trt); (case tre => assumption); (case trt => walk_at "tr"); (case tra => walk_at "tr"))
  | ((with_reducible refine' StAt.x (T := T) (H := ?trH) ?tra ?tre); (case tre => assumption); (case tra => walk_at "tr"))
  | ((with_reducible refine' StAt.y (T := T) (H := ?trH) ?tra ?tre ?trt); (case tre => assumption); (case trt => walk_at "tr"); (case tra => walk_at "tr"))
  | ((with_reducible refine' Pools.ext0 (T := T) (H := ?trH) ?tra ?tre); (case tre => assumption); (case tra => walk_at "tr"))
  | ((with_reducible refine' Pools.ext (T := T) (H := ?trH) ?tra ?tre ?trt); (case tre => assumption); (case trt => walk_at "tr"); (case tra => walk_at "tr"))
  | ((with_reducible refine' CL.x (T := T) (H := ?trH) ?tra ?tre); (case tre => assumption); (case tra => walk_at "tr"))
  | ((with_reducible refine' CL.y (T := T) (H := ?trH) ?tra ?tre); (case tre => assumption); (case tra => walk_at "tr"))
  | ((with_reducible refine' Tape.ext (T := T) (H := ?trH) ?tra ?tre); (case tre => assumption); (case tra => walk_at "tr"))
  | ((with_reducible refine' lst.x (T := T) (H := ?trH) ?tra ?tre); (case tre => assumption); (case tra => walk_at "tr"))
  | ((with_reducible refine' lst.y (T := T) (H := ?trH) ?tra ?tre ?trn); (case tre => assumption); (case trn => walk_at "tr"); (case tra => walk_at "tr"))
  | ((with_reducible refine' tup.x (T := T) (H := ?trH) ?tra ?tre); (case tre => assumption); (case tra => walk_at "tr"))
  | ((with_reducible refine' tup.y (T := T) (H := ?trH) ?tra ?tre ?trt); (case tre => assumption); (case trt => walk_at "tr"); (case tra => walk_at "tr"))
  | ((with_reducible refine' frz.x (T := T) (H := ?trH) ?tra ?tre); (case tre => assumption); (case tra => walk_at "tr"))
  | ((with_reducible refine' frz.y (T := T) (H := ?trH) ?tra ?tre ?trt); (case tre => assumption); (case trt => walk_at "tr"); (case tra => walk_at "tr"))
  | ((with_reducible refine' Im.z (T := T) (H := ?trH) ?tra ?tre ?trt); (case tre => assumption); (case trt => assumption); (case tra => walk_at "tr"))
  | ((with_reducible refine' ImAll.z (T := T) (H := ?trH) ?tra ?tre ?trt); (case tre => assumption); (case trt => assumption); (case tra => walk_at "tr"))
  | ((with_reducible refine' StAt.z (T := T) (H := ?trH) ?tra ?tre ?trt); (case tre => assumption); (case trt => assumption); (case tra => walk_at "tr"))
  | ((with_reducible refine' SqP.z (T := T) (H := ?trH) ?tra ?tre ?trt); (case tre => assumption); (case trt => assumption); (case tra => walk_at "tr"))
  | ((with_reducible refine' tup.z (T := T) (H := ?trH) ?tra ?tre ?trt); (case tre => assumption); (case trt => assumption); (case tra => walk_at "tr"))
  | ((with_reducible refine' Ls.z (T := T) (H := ?trH) ?tra ?tre ?trt ?trn); (case tre => assumption); (case trt => assumption); (case trn => assumption); (case tra => walk_at "tr"))
  | ((with_reducible refine' lst.z (T := T) (H := ?trH) ?tra ?tre ?trn); (case tre => assumption); (case trn => assumption); (case tra => walk_at "tr"))
  | ((with_reducible refine' CL.z (T := T) (H := ?trH) ?tra ?tre ?trn); (case tre => assumption); (case trn => assumption); (case tra => walk_at "tr"))
  | ((with_reducible refine' Tape.ne1 (H := ?trH) ?trt ?trn); (case trn => assumption); (case trt => walk_at "tr"))
  | ((with_reducible refine' Ext.trans (H1 := ?trH) ?tra (Ext.any ?tre)); (case tre => assumption); (case tra => walk_at "tr"))
  | ((with_reducible refine' Ext.trans (H1 := ?trH) ?tra ?tre); (case tre => assumption); (case tra => walk_at "tr"))
  | ((with_reducible refine' Ext.back1 (T := T) (H1 := ?trH) ?tre ?trn ?tra); (case tra => assumption); (case trn => walk_at "tr"); (case tre => walk_at "tr"))
  | ((with_reducible refine' Ext.back0 (T := T) (H1 := ?trH) ?tre ?tra); (case tra => assumption); (case tre => walk_at "tr"))
  | ((with_reducible refine' SqT.of ?tra); (case tra => walk_at "tr"))
  | ((with_reducible refine' SqL.of ?tra); (case tra => walk_at "tr")))
local macro_rules | `(tactic| walk_at "al") => `(tactic| (refine ⟨by first | (show _ ≤ sizeLine; decide) | walk_at "sz", ?_⟩; intro alp aln; generalize alG : upd _ alp _ = alH; obtain ⟨aln2, alx, alh⟩ := al_of (T := T) aln alG; clear alG aln))
local macro_rules | `(tactic| walk_at "al0") => `(tactic| (intro alp aln; generalize alG : upd _ alp _ = alH; obtain ⟨aln2, alx, alh⟩ := al_of (T := T) aln alG; clear alG aln))
def spLawLag (T : List (Addr × Str)) : Sp := fun vs H Q _ => ∃ (v u : V) (R : Rm) (sl : Sl) (lag : Int), vs = [v, u] ∧ Im H v (rmD R) ∧ Im H u (slD sl) ∧ RmIn R ∧ sl ∈ slotsR R ∧ (homeR R sl, lag) ∈ R.zs ∧ ∀ H', Ext T [] H H' → Q (.int lag) H'
theorem ok_law_lag_of (D : Def K mg "_law_lag_of" s_law_lag_of ["realm", "slot"]) (G_law_home : Ok P w K mg base 2 "_law_home" ["realm", "slot"] (spHome T)) : Ok P w K mg base 3 "_law_lag_of" ["realm", "slot"] (spLawLag T) := by
  refine D.ok sc_law_lag_of (fun vs H Q E h => ?_) (fun cdv f A outer s H vs Q E hr h => ?_)
  · obtain ⟨v, u, R, sl, lag, rfl, _⟩ := h
    rfl
  · obtain ⟨v, u, R, sl, lag, rfl, hv, hu, hR, hs, hl, q⟩ := h
    refine ⟨_, (pss_cons (ps_set (i := 2) sc_law_lag_of.nd rfl (.inr rfl) (pe_callO G_law_home (hr.mono (by decide)) (by rfl) (pa_cons (pv 0) (pa_cons (pv 1) pa_nil))))
   (pss_one (ps_ret (pe_ix (ix_U K rfl) (pe_lc (own := [("name", 3), ("lag", 4)]) rfl sc_law_lag_of.nd (pi_seq K rfl (pe_ix (ix_U K rfl) (pv 0) pe_int (fun _ _ => rfl))) (blkOk_by (N := N_law_lag_of) (sc := defScope s_law_lag_of) (by decide +kernel)) (fun _ _ _ _ _ => (pg_tupU (n := 2) K rfl rfl (pgs_cons (pg_name (i := 3) sc_law_lag_of.nd rfl (Or.inl rfl)) (pgs_cons (pg_name (i := 4) sc_law_lag_of.nd rfl (Or.inl rfl)) pgs_nil)))) (fun _ _ _ _ _ => (pts_one (pt_cmpR (op_eqU K rfl hr.units) (pv 3) (pv 2) (nomark _)))) (fun _ _ _ _ _ => (pv 4))) pe_int (fun _ _ => rfl))))), ?_⟩
    walk_at "rdn"
    refine rd_seq ?_
    walk_at "rdn"
    refine ⟨v, u, R, sl, rfl, hv, hu, hR, hs, fun H1 e1 _ => ?_⟩
    walk_at "rdn"
    refine rd_ixI (d := .tuple (R.zs.map siD)) (hv.x e1) rfl fun u1 hu1 => ?_
    obtain ⟨zp, zx, rfl, hzp, hzi⟩ := hu1.tup'
    have h6 := hR.len
    refine ⟨zp, rfl, .inr ⟨⟨_, SqP.sq hzp⟩, ?_⟩⟩
    refine lcg_fm T siD (fun z => .int z.2) (fun z => decide (z.1 = homeR R sl)) walk_tup hzi rfl (fun i H x H' y => y) (fun H' e => SqP.sq (SqP.x hzp e)) (by omega) (fun i z x hz' H' e' hxz R' S h1 h2 => ?_) (fun D1 H2 nD1 e2 hD1 => ?_)
    · refine rd_gpair (d1 := .str z.1) (d2 := .int z.2) hxz fun v1 v2 g1 g2 => ?_
      refine ⟨by rw [wipe_set (by decide), wipe_set (by decide), wipe_wipe], ?_⟩
      rw [g1.str', g2.int']
      walk_at "rd"
      refine rd_ite (fun c => ?_) (fun c => ?_)
      · walk_at "rd"
        exact h1 (decide_eq_true (p := z.1 = homeR R sl) c) _ H' .refl (.int _)
      · exact h2 (decide_eq_false (p := z.1 = homeR R sl) c) H' .refl
    · rw [filter_nd hR.nd hl] at hD1
      walk_at "rd"
      refine rd_ixLs hD1 (d := .int lag) rfl fun y hy => ?_
      rw [hy.int']
      exact q H2 (e1.trans e2)
def spLaw (T : List (Addr × Str)) (K : PySem.W.Frag) : Sp := fun vs H Q _ => ∃ (a : Addr) (ns : List Int), vs = [.ref a] ∧ SqL K H a (ns.map V.int) ∧ ns.length ≤ 63 ∧ LamX.Tabs T H ∧ ∀ H', Q (.bl true) H'
theorem sl_kinds {R : Rm} (hR : RmIn R) {d : PyData} (h : d ∈ (slotsR R).map slD) : (∃ z, z ∈ R.zs.map (·.1) ∧ d = .tuple [.str "keys", .str z]) ∨ (∃ z ∈ R.zs.tail.map (·.1), d = .tuple [.str "link", .str z] ∨ d = .tuple [.str "hosts", .str z]) ∨ ∃ p ∈ R.ss, d = .tuple [.str "set", .str p.1, .str p.2] := by
  obtain ⟨sl, hs, rfl⟩ := List.mem_map.mp h
  rcases slots_cases hR hs with ⟨z, hz, rfl⟩ | ⟨y, hy, h | h⟩ | ⟨p, hp, rfl⟩
  · exact .inl ⟨z, hz, rfl⟩
  · subst h
    exact .inr (.inl ⟨y, hy, .inl rfl⟩)
  · subst h
    exact .inr (.inl ⟨y, hy, .inr rfl⟩)
  · exact .inr (.inr ⟨p, hp, rfl⟩)
def slB : PyData → Bool
  | .tuple [.str k, .str z] => (decide (k = Str.ofString "keys") && nameB z) || ((decide (k = Str.ofString "link") || decide (k = Str.ofString "hosts")) && (nameB z && !decide (z = dotS)))
  | .tuple [.str k, .str n, .str _] => decide (k = Str.ofString "set") && nameB n
  | _ => false
theorem wrong_b : ∀ d ∈ wrongs, slB d = false := by
  intro d hd
  unfold wrongs at hd
  simp only [List.mem_cons, List.not_mem_nil, or_false] at hd
  rcases hd with rfl | rfl | rfl | rfl | rfl | rfl | rfl | rfl | rfl <;> decide +kernel
theorem wrong_no {R : Rm} (hR : RmIn R) {d : PyData} (hd : d ∈ wrongs) : d ∉ (slotsR R).map slD := fun h => by
  have hk : ∀ z ∈ R.zs.map (·.1), nameB z = true := fun z hz => by
    obtain ⟨y, hy, rfl⟩ := List.mem_map.mp hz
    exact hR.nm y hy
  have ht : ∀ z ∈ R.zs.tail.map (·.1), nameB z = true ∧ z ≠ dotS := fun z hz => by
    refine ⟨(zin hR hz).1, ?_⟩
    obtain ⟨lag, rest, e, hn⟩ := hR.ne
    rw [e] at hz
    obtain ⟨y, hy, rfl⟩ := List.mem_map.mp hz
    exact hn y hy
  have hb := wrong_b d hd
  rcases sl_kinds hR h with ⟨z, hz, rfl⟩ | ⟨z, hz, rfl | rfl⟩ | ⟨p, hp, rfl⟩
  · have e : slB (.tuple [.str "keys", .str z]) = true := by
      show ((decide (Str.ofString "keys" = Str.ofString "keys") && nameB z) || ((decide (Str.ofString "keys" = Str.ofString "link") || decide (Str.ofString "keys" = Str.ofString "hosts")) && (nameB z && !decide (z = dotS)))) = true
      rw [hk z hz, decide_eq_true (p := Str.ofString "keys" = Str.ofString "keys") rfl]
      rfl
    rw [e] at hb
    cases hb
  · have e : slB (.tuple [.str "link", .str z]) = true := by
      show ((decide (Str.ofString "link" = Str.ofString "keys") && nameB z) || ((decide (Str.ofString "link" = Str.ofString "link") || decide (Str.ofString "link" = Str.ofString "hosts")) && (nameB z && !decide (z = dotS)))) = true
      rw [(ht z hz).1, decide_eq_false (ht z hz).2, decide_eq_true (p := Str.ofString "link" = Str.ofString "link") rfl]
      simp
    rw [e] at hb
    cases hb
  · have e : slB (.tuple [.str "hosts", .str z]) = true := by
      show ((decide (Str.ofString "hosts" = Str.ofString "keys") && nameB z) || ((decide (Str.ofString "hosts" = Str.ofString "link") || decide (Str.ofString "hosts" = Str.ofString "hosts")) && (nameB z && !decide (z = dotS)))) = true
      rw [(ht z hz).1, decide_eq_false (ht z hz).2, decide_eq_true (p := Str.ofString "hosts" = Str.ofString "hosts") rfl]
      simp
    rw [e] at hb
    cases hb
  · have e : slB (.tuple [.str "set", .str p.1, .str p.2]) = true := by
      show (decide (Str.ofString "set" = Str.ofString "set") && nameB p.1) = true
      rw [(hR.sok p hp).1, decide_eq_true rfl]
      rfl
    rw [e] at hb
    cases hb
theorem bare_no {g : PyData} {x y : Int} (h : ¬ (x = 0 ∧ y = 10000)) : bareB g (.int x) (.int y) = false := by
  cases g with
  | tuple ds =>
    cases ds with
    | nil =>
      show (decide (x = 0) && decide (y = 10000)) = false
      rw [Bool.and_eq_false_iff, decide_eq_false_iff_not, decide_eq_false_iff_not]
      by_cases h1 : x = 0
      · exact .inr fun h2 => h ⟨h1, h2⟩
      · exact .inl h1
    | cons a r => rfl
  | none => rfl
  | bool _ => rfl
  | int _ => rfl
  | str _ => rfl
  | list _ => rfl
  | dict _ => rfl
theorem item_nb {c l g a b : PyData} (h : bareB g a b = false) : itemD true (.tuple [c, l, g, a, b]) = false := by
  show (idsD 0 4 c && (intB 1 1000 l && (idsD 0 3 g && (intB 0 10000 a && (fromB a b && (!true || bareB g a b)))))) = false
  rw [h]
  simp
theorem item_sn {s : Sl} {i : Itm} (h : ItmOk s i) : SnK 2 (itD i) := by
  obtain ⟨h1, h2⟩ := itm_sn h
  refine sn_tup (by show 5 ≤ 1000; decide) (by decide) fun d hd => ?_
  have hd : d ∈ [cI i, .int i.li, gI i, .int i.a, .int i.b] := hd
  simp only [List.mem_cons, List.not_mem_nil, or_false] at hd
  rcases hd with rfl | rfl | rfl | rfl | rfl
  · exact h1
  · exact snk_up (snk_int _) (by decide)
  · exact h2
  · exact snk_up (snk_int _) (by decide)
  · exact snk_up (snk_int _) (by decide)
theorem cutD_to {ds : List PyData} {m : Nat} (h : m ≤ ds.length) : cutD ds none (some (m : Int)) = ds.take m := by
  unfold cutD
  rw [HT.sIx_none, HT.sIx_nat, List.drop_zero, Nat.sub_zero, Nat.min_eq_left h]
theorem five_sn {c l g a b : PyData} (h1 : SnK 1 c) (h2 : SnK 1 l) (h3 : SnK 1 g) (h4 : SnK 1 a) (h5 : SnK 1 b) : SnK 2 (.tuple [c, l, g, a, b]) := by
  refine sn_tup (by show 5 ≤ 1000; decide) (by decide) fun d hd => ?_
  simp only [List.mem_cons, List.not_mem_nil, or_false] at hd
  rcases hd with rfl | rfl | rfl | rfl | rfl <;> assumption
theorem ok_law {f : Addr} {fd : FuncData} (F : Fun K "law" "law" s_law f fd) (mb : ∀ x ∈ bltns, mg x = none)
    (G_law_tape : Ok P w K mg base 1 "_law_tape" ["script", "budget"] (spTape T K)) (G_law_take : Ok P w K mg base 2 "_law_take" ["tape", "many"] (spTake T)) (G_law_realm : Ok P w K mg base 7 "_law_realm" ["tape", "most"] (spRealm T))
    (G_law_limits : Ok P w K mg base 7 "_law_limits" ["tape", "realm"] (spLimits T)) (G_is_realm : Ok P w K mg base 6 "is_realm" ["value"] (spDB T realmD)) (G_law_bad_realms : Ok P w K mg base 3 "_law_bad_realms" ["tape", "realm"] (spBadR T))
    (G_zone_names : Ok P w K mg base 1 "zone_names" ["realm"] (spZn T)) (G_slots : Ok P w K mg base 2 "slots" ["realm"] (spSlotsT T)) (G_law_slots : Ok P w K mg base 1 "_law_slots" ["realm"] (spSlots T))
    (G_parent : Ok P w K mg base 5 "parent" ["realm", "zone"] (spParent T)) (G_law_chain : Ok P w K mg base 1 "_law_chain" ["realm", "name"] (spChainL T)) (G_law_pools : Ok P w K mg base 5 "_law_pools" ["tape", "realm"] (spPools T))
    (G_home : Ok P w K mg base 6 "home" ["realm", "slot"] (spHomeP T)) (G_law_home : Ok P w K mg base 2 "_law_home" ["realm", "slot"] (spHome T)) (G_lag_of : Ok P w K mg base 7 "lag_of" ["realm", "slot"] (spLagP T)) (G_law_lag_of : Ok P w K mg base 3 "_law_lag_of" ["realm", "slot"] (spLawLag T))
    (G_law_first_item : Ok P w K mg base 5 "_law_first_item" ["tape", "realm", "pools", "slot"] (spFirst T)) (G_is_slot : Ok P w K mg base 3 "is_slot" ["realm", "value"] (spIsSlot T)) (G_is_item : Ok P w K mg base 4 "is_item" ["slot", "value"] (spItemD T))
    (G_law_bad_item : Ok P w K mg base 3 "_law_bad_item" ["tape", "item"] (spBadI T)) : FnOk P w K mg base CX0 8 f fd ["script"] (spLaw T K) := by
  refine F.ok sc_law (fun vs H Q E h => ?_) (fun cdv A outer s H vs Q E hr h => ?_)
  · obtain ⟨a, ns, rfl, _⟩ := h
    rfl
  · obtain ⟨a, ns, rfl, ha, hl, hTb, q⟩ := h
    refine ⟨_, (pss_cons (ps_set (i := 1) sc_law.nd rfl (.inl rfl) (pe_callO G_law_tape (hr.mono (by decide)) (by rfl) (pa_cons (pv 0) (pa_cons pe_int pa_nil))))
   (pss_cons (ps_set (i := 2) sc_law.nd rfl (.inl rfl) (pe_callO G_law_realm (hr.mono (by decide)) (by rfl) (pa_cons (pv 1) (pa_cons pe_int pa_nil))))
   (pss_cons (ps_if (pt_not (pt_E (pe_callO G_law_limits (hr.mono (by decide)) (by rfl) (pa_cons (pv 1) (pa_cons (pv 2) pa_nil))))) (pss_one (ps_ret pe_bl)) pss_nil)
   (pss_cons (ps_if (PW.pt (pw_or (pt_cmpR op_isnotU (pe_callO G_is_realm (hr.mono (by decide)) (by rfl) (pa_cons (pv 2) pa_nil)) pe_bl (nomark _)) (pw_or1 (pt_cmpR op_isnotU (pe_callO G_is_realm (hr.mono (by decide)) (by rfl) (pa_cons (pe_callO G_law_bad_realms (hr.mono (by decide)) (by rfl) (pa_cons (pv 1) (pa_cons (pv 2) pa_nil))) pa_nil)) pe_bl (nomark _))))) (pss_one (ps_ret pe_bl)) pss_nil)
   (pss_cons (ps_if (PW.pt (pw_or (pt_cmpR (op_neU K rfl hr.units) (pe_callO G_zone_names (hr.mono (by decide)) (by rfl) (pa_cons (pv 2) pa_nil)) (pe_callTy (call_tupU K rfl) (by rfl) (mb _ (by decide)) (by decide +kernel) (pa_cons (pe_lc (own := [("zone", 3), ("lag", 4)]) (tt := tYes) rfl sc_law.nd (pi_seq K rfl (pe_ix (ix_U K rfl) (pv 2) pe_int (fun _ _ => rfl))) (blkOk_by (N := N_law) (sc := defScope s_law) (by decide +kernel)) (fun _ _ _ _ _ => (pg_tupU (n := 2) K rfl rfl (pgs_cons (pg_name (i := 3) sc_law.nd rfl (Or.inl rfl)) (pgs_cons (pg_name (i := 4) sc_law.nd rfl (Or.inl rfl)) pgs_nil)))) (fun _ _ _ _ _ => pts_nil) (fun _ _ _ _ _ => (pv 3))) pa_nil)) (nomark _)) (pw_or1 (pt_cmpR (op_neU K rfl hr.units) (pe_callO G_slots (hr.mono (by decide)) (by rfl) (pa_cons (pv 2) pa_nil)) (pe_callTy (call_tupU K rfl) (by rfl) (mb _ (by decide)) (by decide +kernel) (pa_cons (pe_callO G_law_slots (hr.mono (by decide)) (by rfl) (pa_cons (pv 2) pa_nil)) pa_nil)) (nomark _))))) (pss_one (ps_ret pe_bl)) pss_nil)
   (pss_cons (ps_for PassesOwn.never rfl (pi_seq K rfl (pe_slice (sl_U2 K rfl) (pe_ix (ix_U K rfl) (pv 2) pe_int (fun _ _ => rfl)) (po_some pe_int) po_none)) (pg_tupU (n := 2) K rfl rfl (pgs_cons (pg_name (i := 3) sc_law.nd rfl (.inl rfl)) (pgs_cons (pg_name (i := 4) sc_law.nd rfl (.inl rfl)) pgs_nil))) (pss_one (ps_if (pt_cmpR (op_neU K rfl hr.units) (pe_callO G_parent (hr.mono (by decide)) (by rfl) (pa_cons (pv 2) (pa_cons (pv 3) pa_nil))) (pe_ix (ix_U K rfl) (pe_callO G_law_chain (hr.mono (by decide)) (by rfl) (pa_cons (pv 2) (pa_cons (pv 3) pa_nil))) (pe_un un_neg pe_int) (fun _ _ => rfl)) (nomark _)) (pss_one (ps_ret pe_bl)) pss_nil)))
   (pss_cons (ps_set (i := 5) sc_law.nd rfl (.inl rfl) (pe_callO G_law_pools (hr.mono (by decide)) (by rfl) (pa_cons (pv 1) (pa_cons (pv 2) pa_nil))))
   (pss_cons (ps_for PassesOwn.never rfl (pi_seq K rfl (pe_callO G_law_slots (hr.mono (by decide)) (by rfl) (pa_cons (pv 2) pa_nil))) (pg_name (i := 6) sc_law.nd rfl (.inl rfl)) (pss_cons (ps_if (PW.pt (pw_or (pt_cmpR (op_neU K rfl hr.units) (pe_callO G_home (hr.mono (by decide)) (by rfl) (pa_cons (pv 2) (pa_cons (pv 6) pa_nil))) (pe_callO G_law_home (hr.mono (by decide)) (by rfl) (pa_cons (pv 2) (pa_cons (pv 6) pa_nil))) (nomark _)) (pw_or1 (pt_cmpR (op_neU K rfl hr.units) (pe_callO G_lag_of (hr.mono (by decide)) (by rfl) (pa_cons (pv 2) (pa_cons (pv 6) pa_nil))) (pe_callO G_law_lag_of (hr.mono (by decide)) (by rfl) (pa_cons (pv 2) (pa_cons (pv 6) pa_nil))) (nomark _))))) (pss_one (ps_ret pe_bl)) pss_nil)
   (pss_cons (ps_set (i := 7) sc_law.nd rfl (.inl rfl) (pe_callO G_law_first_item (hr.mono (by decide)) (by rfl) (pa_cons (pv 1) (pa_cons (pv 2) (pa_cons (pv 5) (pa_cons (pv 6) pa_nil))))))
   (pss_cons (ps_if (PW.pt (pw_or (pt_cmpR op_isnotU (pe_callO G_is_slot (hr.mono (by decide)) (by rfl) (pa_cons (pv 2) (pa_cons (pv 6) pa_nil))) pe_bl (nomark _)) (pw_or1 (pt_cmpR op_isnotU (pe_callO G_is_item (hr.mono (by decide)) (by rfl) (pa_cons (pv 6) (pa_cons (pv 7) pa_nil))) pe_bl (nomark _))))) (pss_one (ps_ret pe_bl)) pss_nil)
   (pss_cons (ps_if (pt_cmpR op_isnotU (pe_callO G_is_item (hr.mono (by decide)) (by rfl) (pa_cons (pv 6) (pa_cons (pe_callO G_law_bad_item (hr.mono (by decide)) (by rfl) (pa_cons (pv 1) (pa_cons (pv 7) pa_nil))) pa_nil))) pe_bl (nomark _)) (pss_one (ps_ret pe_bl)) pss_nil)
   (pss_cons (ps_if (PW.pt (pw_and (pt_cmpR (op_eqU K rfl hr.units) (pe_ix (ix_U K rfl) (pv 6) pe_int (fun _ _ => rfl)) pe_str (nomark _)) (pw_and1 (pt_cmpR op_isnotU (pe_callO G_is_item (hr.mono (by decide)) (by rfl) (pa_cons (pv 6) (pa_cons (pe_op (op_plus K rfl) (pe_slice (sl_U2 K rfl) (pv 7) po_none (po_some pe_int)) (pe_tup (pa_cons (pe_tup (pa_cons pe_str pa_nil)) (pa_cons pe_int (pa_cons pe_int pa_nil))))) pa_nil))) pe_bl (nomark _))))) (pss_one (ps_ret pe_bl)) pss_nil)
   (pss_one (ps_if (PW.pt (pw_and (pt_cmpR (op_eqU K rfl hr.units) (pe_ix (ix_U K rfl) (pv 6) pe_int (fun _ _ => rfl)) pe_str (nomark _)) (pw_and1 (pt_cmpR op_isnotU (pe_callO G_is_item (hr.mono (by decide)) (by rfl) (pa_cons (pv 6) (pa_cons (pe_op (op_plus K rfl) (pe_slice (sl_U2 K rfl) (pv 7) po_none (po_some pe_int)) (pe_ix (ix_U K rfl) (pe_lst (pa_cons (pe_tup (pa_cons pe_int (pa_cons pe_int pa_nil))) (pa_cons (pe_tup (pa_cons pe_int (pa_cons pe_int pa_nil))) pa_nil))) (pe_callO G_law_take (hr.mono (by decide)) (by rfl) (pa_cons (pv 1) (pa_cons pe_int pa_nil))) (fun _ _ => rfl))) pa_nil))) pe_bl (nomark _))))) (pss_one (ps_ret pe_bl)) pss_nil))))))))
   (pss_cons (ps_set (i := 8) sc_law.nd rfl (.inl rfl) (pe_lst (pa_cons (pe_tup (pa_cons pe_str pa_nil)) (pa_cons (pe_tup (pa_cons pe_str (pa_cons pe_str pa_nil))) (pa_cons (pe_tup (pa_cons pe_str (pa_cons pe_str pa_nil))) (pa_cons (pe_tup (pa_cons pe_str (pa_cons pe_str pa_nil))) (pa_cons (pe_tup (pa_cons pe_str (pa_cons pe_str (pa_cons pe_str pa_nil)))) (pa_cons (pe_tup pa_nil) (pa_cons pe_str (pa_cons pe_int (pa_cons (pe_tup (pa_cons pe_str (pa_cons pe_str pa_nil))) pa_nil)))))))))))
   (pss_one (ps_ret (pe_cmpR op_isU (pe_callO G_is_slot (hr.mono (by decide)) (by rfl) (pa_cons (pv 2) (pa_cons (pe_ix (ix_U K rfl) (pv 8) (pe_callO G_law_take (hr.mono (by decide)) (by rfl) (pa_cons (pv 1) (pa_cons pe_int pa_nil))) (fun _ _ => rfl)) pa_nil))) pe_bl (nomark _))))))))))))), ?_⟩
    walk_at "rdn"
    refine rd_seq ?_
    walk_at "rdn"
    refine ⟨a, ns, 0, rfl, ha, hl, fun t l H1 nt e1 T1 => ?_⟩
    walk_at "rdn"
    refine rd_seq ?_
    walk_at "rdn"
    refine ⟨l, t, 5, rfl, by decide, by decide, T1, fun v R H2 hRo hF hv e2 T2 => ?_⟩
    have hR := hRo.rin (by decide)
    have hTb2 := e2.tabs (e1.tabs hTb)
    clear e1 e2 T1 nt hTb ha
    walk_at "rdn"
    refine rd_seqK (fun σ H' => Ext T [t] H2 H' ∧ Tape l H' t ∧ σ = [some (.ref a), some (.ref t), some v, none, none, none, none, none, none]) (fun N hN => ?_) (fun σ H3 h => ?_)
    · walk_at "rd"
      refine ⟨l, t, v, R, 5, rfl, T2, hv, hRo, hR, fun H3 e3 T3 => ?_⟩
      walk_at "rd"
      exact hN _ _ ⟨e3, T3, rfl⟩
    obtain ⟨e3, T3, rfl⟩ := h
    have hv3 := hv.y e3 T2
    have hF3 := hF.y e3 T2
    have hTb3 := e3.tabs hTb2
    have hz := sn_zR hR
    have hs := sn_sR hR
    have hsm : SnK 3 (rmD R) := snk3 hz (sn_aR hRo) hs (by decide)
    have hzl := hR.len
    have hsl := slots_len hR
    clear e3 hv hF hTb2 T2
    walk_at "rdn"
    refine rd_seqK (fun σ H' => Ext T [t] H3 H' ∧ Tape l H' t ∧ σ = [some (.ref a), some (.ref t), some v, none, none, none, none, none, none]) (fun N hN => ?_) (fun σ H4 h => ?_)
    · walk_at "rd"
      refine ⟨v, rmD R, rfl, hv3, hsm.1, fun H4 e4 => ?_⟩
      rw [realm_okD hRo (by decide)]
      refine rd_isnBl ?_
      refine ⟨_, rfl, ?_⟩
      walk_at "rd"
      refine rd_itn (fun _ => ?_) (fun h => absurd rfl h)
      walk_at "rd"
      refine ⟨l, t, v, R, 5, rfl, T3.ext e4, hv3.x e4, hRo, hR, fun y d H5 hd hdf hy e5 T5 => ?_⟩
      walk_at "rd"
      refine ⟨y, d, rfl, hy, hd.1, fun H6 e6 => ?_⟩
      rw [hdf]
      refine rd_isnBl ?_
      walk_at "rd"
      refine rd_itn (fun _ => ?_) (fun h => absurd rfl h)
      walk_at "rd"
      exact hN _ _ ⟨(e4.any.trans e5).trans e6.any, T5.ext e6, rfl⟩
    obtain ⟨e4, T4, rfl⟩ := h
    have hv4 := hv3.y e4 T3
    have hF4 := hF3.y e4 T3
    have hTb4 := e4.tabs hTb3
    clear e4 hv3 hF3 hTb3 T3
    have hznm : ∀ z ∈ R.zs.map (·.1), PyData.strOk z = true := fun z hz => by
      obtain ⟨y, hy, rfl⟩ := List.mem_map.mp hz
      exact name_ok (hR.nm y hy)
    walk_at "rdn"
    refine rd_seqK (fun σ H' => Ext T [] H4 H' ∧ σ = [some (.ref a), some (.ref t), some v, none, none, none, none, none, none]) (fun N hN => ?_) (fun σ H5 h => ?_)
    · walk_at "rd"
      refine ⟨v, R, rfl, hv4, hR, fun p H5 np e5 hp => ?_⟩
      walk_at "rd"
      refine rd_ixI (d := .tuple (R.zs.map siD)) (hv4.x e5) rfl fun u1 hu1 => ?_
      obtain ⟨zp, zx, rfl, hzp, hzi⟩ := hu1.tup'
      walk_at "rd"
      refine .inr ⟨⟨_, SqP.sq hzp⟩, ?_⟩
      refine lcg_fm T siD (fun z => .str z.1) (fun _ => true) walk_tup hzi rfl (fun i H x H' y => y) (fun H' e => SqP.sq (SqP.x hzp e)) (by omega) (fun i z x hz' H' e' hxz R' S h1 _ => ?_) (fun D1 H6 nD1 e6 hD1 => ?_)
      · refine rd_gpair (d1 := .str z.1) (d2 := .int z.2) hxz fun v1 v2 g1 g2 => ?_
        refine ⟨by rw [wipe_set (by decide), wipe_set (by decide), wipe_wipe], ?_⟩
        rw [g1.str', g2.int']
        walk_at "rd"
        exact h1 rfl _ H' .refl (.str _ (hznm _ (List.mem_map_of_mem (List.mem_of_getElem? hz'))))
      · rw [filtT] at hD1
        obtain ⟨kx, hkx, hki⟩ := hD1
        walk_at "rd"
        refine rd_tupA T hkx fun p2 H7 np2 e7 hp2 => ?_
        have el : (R.zs.map fun z => PyData.str z.1) = (R.zs.map (·.1)).map .str := by rw [List.map_map]; rfl
        rw [el] at hki
        have dzs : PyData.depth (.tuple ((R.zs.map (·.1)).map .str)) ≤ 64 := by
          show PyData.depthAll ((R.zs.map (·.1)).map PyData.str) + 1 ≤ 64
          have := dep_map (f := PyData.str) (n := 0) (fun _ => Nat.le_refl _) (R.zs.map (·.1))
          omega
        refine rd_neI (b := true) (.tup (tup.x (tup.x hp e6) e7) (ImAll.strs hznm)) (.tup hp2 (hki.x e7)) dzs dzs (by simp) ?_
        walk_at "rd"
        have e57 := (e5.trans e6).trans e7
        refine ⟨v, R, rfl, hv4.x e57, hR, fun p3 H8 e8 hp3 => ?_⟩
        walk_at "rd"
        refine ⟨v, R, rfl, hv4.x (e57.trans e8), hR, fun p4 H9 np4 e9 hp4 => ?_⟩
        obtain ⟨sx, hsx, hsi⟩ := hp4
        walk_at "rd"
        refine rd_tupA T hsx fun p5 H10 _ e10 hp5 => ?_
        have dsl : PyData.depth (.tuple ((slotsR R).map slD)) ≤ 64 := by
          show PyData.depthAll ((slotsR R).map slD) + 1 ≤ 64
          have := dep_map dep_sl (slotsR R)
          omega
        refine rd_neI (b := true) ((hp3.x e9).x e10) (.tup hp5 (hsi.x e10)) dsl dsl (by simp) ?_
        walk_at "rd"
        exact hN _ _ ⟨((e57.trans e8).trans e9).trans e10, rfl⟩
    obtain ⟨e5, rfl⟩ := h
    have hv5 := hv4.x e5
    have hF5 := hF4.x e5
    have hTb5 := e5.tabs hTb4
    have T5 := T4.ext e5
    clear e5 hv4 hF4 hTb4 T4
    walk_at "rdn"
    refine rd_seqK (fun σ H' => Ext T [] H5 H' ∧ ∃ o1 o2 : Option V, σ = [some (.ref a), some (.ref t), some v, o1, o2, none, none, none, none]) (fun N hN => ?_) (fun σ H6 h => ?_)
    · walk_at "rd"
      refine rd_ixI (d := .tuple (R.zs.map siD)) hv5 rfl fun u1 hu1 => ?_
      walk_at "rd"
      refine rd_slIm (T := T) hu1 fun y1 H6 e6 hy1 => ?_
      rw [cutD_tail, ← List.map_tail] at hy1
      obtain ⟨zp, zx, rfl, hzp, hzi⟩ := hy1.tup'
      refine ⟨zp, rfl, .inr ⟨⟨_, SqP.sq hzp⟩, ?_⟩⟩
      refine forg_tup (xs := zx) (fun k σ H' => Ext T [] H6 H' ∧ ∃ o1 o2 : Option V, σ = [some (.ref a), some (.ref t), some v, o1, o2, none, none, none, none])
        ⟨.refl, _, _, rfl⟩ (fun k σ H' _ h => SqP.sq (SqP.x hzp h.1)) (fun k y σ H7 hy h => ?_) (fun σ H7 h => ?_)
      · obtain ⟨e7, o1, o2, rfl⟩ := h
        obtain ⟨dr, hdr, hyr⟩ := hzi.get' hy
        rw [List.getElem?_map] at hdr
        obtain ⟨z, hz', rfl⟩ := Option.map_eq_some_iff.mp hdr
        have hzt : z.1 ∈ R.zs.tail.map (·.1) := List.mem_map_of_mem (List.mem_of_getElem? hz')
        refine rd_gpair (d1 := .str z.1) (d2 := .int z.2) (hyr.x e7) fun v1 v2 g1 g2 => ?_
        rw [g1.str', g2.int']
        have e57 := e6.trans e7
        obtain ⟨pz, h1, h2⟩ := chL_last2 hR hzt
        have hpz : (chL R z.1).dropLast.getLast?.getD dotS = pz := by rw [h1]; rfl
        walk_at "rd"
        refine ⟨v, R, z.1, rfl, hv5.x e57, hR, hzt, e57.tabs hTb5, fun H8 e8 => ?_⟩
        rw [hpz]
        walk_at "rd"
        refine ⟨v, R, z.1, rfl, hv5.x (e57.trans e8), hR, (zin hR hzt).1, fun cp H9 np e9 hcp => ?_⟩
        walk_at "rd"
        refine rd_ixL (v := .str pz) (SqL.of hcp) (at_last2 (by rw [← List.map_dropLast, List.getLast?_map, h1]; rfl)) ?_
        walk_at "rd"
        refine rd_itn (fun _ => ?_) (fun h => absurd rfl h)
        walk_at "rd"
        exact ⟨(e7.trans e8).trans e9, _, _, rfl⟩
      · obtain ⟨e7, o1, o2, rfl⟩ := h
        exact hN _ _ ⟨e6.trans e7, _, _, rfl⟩
    obtain ⟨e6, o1, o2, rfl⟩ := h
    have hv6 := hv5.x e6
    have hF6 := hF5.x e6
    have hTb6 := e6.tabs hTb5
    have T6 := T5.ext e6
    clear e6 hv5 hF5 hTb5 T5
    walk_at "rdn"
    refine rd_seqK (fun σ H' => Ext T [t] H6 H' ∧ Tape l H' t ∧ ∃ (pa : Addr) (ps : List (Str × List Str)), σ = [some (.ref a), some (.ref t), some v, o1, o2, some (.ref pa), none, none, none] ∧ Pools H' t pa ps ∧ PsOk R ps) (fun N hN => ?_) (fun σ H7 h => ?_)
    · walk_at "rd"
      refine ⟨l, t, v, R, rfl, T6, hv6, hR, fun pa ps H7 npa hP hps e7 T7 => ?_⟩
      walk_at "rd"
      exact hN _ _ ⟨e7, T7, pa, ps, rfl, hP, hps⟩
    obtain ⟨e7, T7, pa, ps, rfl, hP7, hps⟩ := h
    have hv7 := hv6.y e7 T6
    have hF7 := hF6.y e7 T6
    have hTb7 := e7.tabs hTb6
    clear e7 hv6 hF6 hTb6 T6
    walk_at "rdn"
    refine rd_seqK (fun σ H' => Ext T [t] H7 H' ∧ Tape l H' t ∧ ∃ o3 o4 : Option V, σ = [some (.ref a), some (.ref t), some v, o1, o2, some (.ref pa), o3, o4, none]) (fun N hN => ?_) (fun σ H8 h => ?_)
    · walk_at "rd"
      refine ⟨v, R, rfl, hv7, hR, fun sp H8 nsp e8 hsp => ?_⟩
      have T8 := T7.ext e8
      have hspt : sp ≠ t := (T7.ne nsp).1
      obtain ⟨sx, hsx, hsi⟩ := hsp
      walk_at "rd"
      refine forg_list (xs := sx) (fun k σ H' => Ext T [t] H8 H' ∧ Tape l H' t ∧ ∃ o3 o4 : Option V, σ = [some (.ref a), some (.ref t), some v, o1, o2, some (.ref pa), o3, o4, none])
        ⟨.refl, T8, _, _, rfl⟩ (fun k σ H' _ h => SqL.of (lst.y hsx h.1 hspt)) (fun k y σ H9 hy h => ?_) (fun σ H9 h => ?_)
      · obtain ⟨e9, T9, o3, o4, rfl⟩ := h
        obtain ⟨dr, hdr, hyr⟩ := hsi.get' hy
        rw [List.getElem?_map] at hdr
        obtain ⟨sl, hsl', rfl⟩ := Option.map_eq_some_iff.mp hdr
        have hslm := List.mem_of_getElem? hsl'
        obtain ⟨lag, hlag⟩ := home_lag hR hslm
        have hv9 := (hv7.x e8).y e9 T8
        have hF9 := (hF7.x e8).y e9 T8
        have hP9 := (hP7.ext0 e8).ext e9 T8
        have hTb9 := e9.tabs (e8.tabs hTb7)
        have hy9 := hyr.y e9 T8
        have fin : ∀ {σ : L2.St} {H' : Hp} (o3 o4 : Option V), σ = [some (.ref a), some (.ref t), some v, o1, o2, some (.ref pa), o3, o4, none] → Ext T [t] H9 H' → Tape l H' t → Ext T [t] H8 H' ∧ Tape l H' t ∧ ∃ o3 o4 : Option V, σ = [some (.ref a), some (.ref t), some v, o1, o2, some (.ref pa), o3, o4, none] := fun o3 o4 h e t' => ⟨e9.trans e, t', o3, o4, h⟩
        clear hv7 hF7 hP7 hTb7 e8 T8 T7 hsx hsi hyr
        refine rd_name ?_
        walk_at "rdn"
        refine rd_seqK (fun σ H' => Ext T [] H9 H' ∧ σ = [some (.ref a), some (.ref t), some v, o1, o2, some (.ref pa), some y, o4, none]) (fun N hN => ?_) (fun σ H10 h => ?_)
        · walk_at "rd"
          refine ⟨v, y, R, sl, rfl, hv9, hy9, hR, hslm, hTb9, fun H10 e10 => ?_⟩
          walk_at "rd"
          refine ⟨v, y, R, sl, rfl, hv9.x e10, hy9.x e10, hR, hslm, fun H11 e11 _ => ?_⟩
          walk_at "rd"
          refine rd_itn (fun _ => ?_) (fun h => absurd rfl h)
          have e911 := e10.trans e11
          walk_at "rd"
          refine ⟨v, y, R, sl, lag, rfl, hv9.x e911, hF9.x e911, hy9.x e911, hR, hslm, hlag, e911.tabs hTb9, fun H12 e12 => ?_⟩
          have e912 := e911.trans e12
          walk_at "rd"
          refine ⟨v, y, R, sl, lag, rfl, hv9.x e912, hy9.x e912, hR, hslm, hlag, fun H13 e13 => ?_⟩
          walk_at "rd"
          refine rd_itn (fun _ => ?_) (fun h => absurd rfl h)
          walk_at "rd"
          exact hN _ _ ⟨e912.trans e13, rfl⟩
        obtain ⟨e10, rfl⟩ := h
        have T10 := T9.ext e10
        walk_at "rdn"
        refine rd_seqK (fun σ H' => Ext T [t] H10 H' ∧ Tape l H' t ∧ ∃ (x : V) (i : Itm), σ = [some (.ref a), some (.ref t), some v, o1, o2, some (.ref pa), some y, some x, none] ∧ ItmOk sl i ∧ Im H' x (itD i)) (fun N hN => ?_) (fun σ H11 h => ?_)
        · walk_at "rd"
          refine ⟨l, t, pa, v, y, R, ps, sl, rfl, T10, hv9.x e10, hR, hP9.ext0 e10, hps, hy9.x e10, hslm, fun x i H11 hio _ _ hx e11 T11 => ?_⟩
          walk_at "rd"
          exact hN _ _ ⟨e11, T11, x, i, rfl, hio, hx⟩
        obtain ⟨e11, T11, x, i, rfl, hio, hx11⟩ := h
        have e911 := e10.any.trans e11
        have hv11 := hv9.y e911 T9
        have hy11 := hy9.y e911 T9
        have fin : ∀ {σ : L2.St} {H' : Hp} (o3 o4 : Option V), σ = [some (.ref a), some (.ref t), some v, o1, o2, some (.ref pa), o3, o4, none] → Ext T [t] H11 H' → Tape l H' t → Ext T [t] H8 H' ∧ Tape l H' t ∧ ∃ o3 o4 : Option V, σ = [some (.ref a), some (.ref t), some v, o1, o2, some (.ref pa), o3, o4, none] := fun o3 o4 h e t' => fin o3 o4 h (e911.trans e) t'
        clear hv9 hF9 hP9 hTb9 hy9 e10 e11 T9 T10 e911 e9
        have hiS := item_sn hio
        obtain ⟨hcS, hgS⟩ := itm_sn hio
        obtain ⟨kw, kr, hkw, hkh⟩ := sl_hosts sl
        walk_at "rdn"
        refine rd_seqK (fun σ H' => Ext T [] H11 H' ∧ σ = [some (.ref a), some (.ref t), some v, o1, o2, some (.ref pa), some y, some x, none]) (fun N hN => ?_) (fun σ H12 h => ?_)
        · walk_at "rd"
          refine ⟨v, y, R, slD sl, true, rfl, hv11, hR, hy11, Nat.le_trans (dep_sl _) (by decide), ⟨fun _ => rfl, fun _ => List.mem_map_of_mem hslm⟩, fun H12 e12 => ?_⟩
          refine rd_isnBl ?_
          refine ⟨_, rfl, ?_⟩
          walk_at "rd"
          refine rd_itn (fun _ => ?_) (fun h => absurd rfl h)
          walk_at "rd"
          refine ⟨y, x, sl, itD i, rfl, hy11.x e12, hx11.x e12, hiS.1, Nat.le_trans hiS.2 (by decide), fun H13 e13 => ?_⟩
          rw [item_okD hio (fun hb => by
            cases sl with
            | h z => exact hio.h z rfl
            | k z => cases hb
            | l z => cases hb
            | s n k => cases hb)]
          refine rd_isnBl ?_
          walk_at "rd"
          refine rd_itn (fun _ => ?_) (fun h => absurd rfl h)
          walk_at "rd"
          exact hN _ _ ⟨e12.trans e13, rfl⟩
        obtain ⟨e12, rfl⟩ := h
        have T12 := T11.ext e12
        walk_at "rdn"
        refine rd_seqK (fun σ H' => Ext T [t] H12 H' ∧ Tape l H' t ∧ σ = [some (.ref a), some (.ref t), some v, o1, o2, some (.ref pa), some y, some x, none]) (fun N hN => ?_) (fun σ H13 h => ?_)
        · walk_at "rd"
          refine ⟨l, t, x, i, rfl, T12, hx11.x e12, hcS, hgS, fun y2 d2 H13 hsn hno hy2 e13 T13 => ?_⟩
          walk_at "rd"
          refine ⟨y, y2, sl, d2, rfl, (hy11.x e12).y e13 T12, hy2, hsn.1, Nat.le_trans hsn.2 (by decide), fun H14 e14 => ?_⟩
          rw [hno]
          refine rd_isnBl ?_
          walk_at "rd"
          refine rd_itn (fun _ => ?_) (fun h => absurd rfl h)
          walk_at "rd"
          exact hN _ _ ⟨e13.trans e14.any, T13.ext e14, rfl⟩
        obtain ⟨e13, T13, rfl⟩ := h
        have e1113 := e12.any.trans e13
        have hy13 := hy11.y e1113 T11
        have hx13 : Im H13 x (.tuple [cI i, .int i.li, gI i, .int i.a, .int i.b]) := hx11.y e1113 T11
        have fin : ∀ {σ : L2.St} {H' : Hp} (o3 o4 : Option V), σ = [some (.ref a), some (.ref t), some v, o1, o2, some (.ref pa), o3, o4, none] → Ext T [t] H13 H' → Tape l H' t → Ext T [t] H8 H' ∧ Tape l H' t ∧ ∃ o3 o4 : Option V, σ = [some (.ref a), some (.ref t), some v, o1, o2, some (.ref pa), o3, o4, none] := fun o3 o4 h e t' => fin o3 o4 h (e1113.trans e) t'
        clear e12 e13 T11 T12 e1113 hv11 hx11 hy11
        have hyk : ∀ {H' : Hp}, Im H' y (slD sl) → Im H' y (.tuple (.str kw :: kr)) := fun h => by rw [← hkw]; exact h
        walk_at "rdn"
        refine rd_seqK (fun σ H' => Ext T [] H13 H' ∧ σ = [some (.ref a), some (.ref t), some v, o1, o2, some (.ref pa), some y, some x, none]) (fun N hN => ?_) (fun σ H14 h => ?_)
        · walk_at "rd"
          refine rd_ixSs (z := kw) (hyk hy13) (at_zero _ _) ?_
          walk_at "rd"
          refine rd_ite (fun c => ?_) (fun c => ?_)
          · have hhb := hkh.mp c
            walk_at "rd"
            refine rd_slIm (T := T) hx13 fun y1 G1 f1 g1 => ?_
            rw [show cutD [cI i, PyData.int i.li, gI i, .int i.a, .int i.b] none (some 2) = [cI i, .int i.li] from cutD_to (m := 2) (by simp)] at g1
            walk_at "rd"
            walk_at "al"
            rename_i q1 G2 _ f2 hq1
            walk_at "rd"
            walk_at "al"
            rename_i q2 G3 _ f3 hq2
            have g2 : Im G3 (.ref q2) (.tuple [.tuple [.str "a"], .int 0, .int 10000]) := .new3 ((Im.tup hq1 (.cons (.str _ (by decide +kernel)) .nil)).x f3) (.int _) (.int _) hq2
            refine rd_catII (T := T) ((g1.x f2).x f3) g2 (by simp) (by simp) (by simp) fun y3 G4 f4 g4 => ?_
            have g4 : Im G4 y3 (.tuple [cI i, .int i.li, .tuple [.str "a"], .int 0, .int 10000]) := g4
            have f14 := ((f1.trans f2).trans f3).trans f4
            have hS5 : SnK 2 (.tuple [cI i, .int i.li, .tuple [.str "a"], .int 0, .int 10000]) := five_sn hcS (snk_up (snk_int _) (by decide)) (snk1 (snk_str (by decide +kernel)) (by decide)) (snk_up (snk_int _) (by decide)) (snk_up (snk_int _) (by decide))
            walk_at "rd"
            refine ⟨y, y3, sl, _, rfl, hy13.x f14, g4, hS5.1, Nat.le_trans hS5.2 (by decide), fun G5 f5 => ?_⟩
            rw [hhb, item_nb (by rfl)]
            refine rd_isnBl ?_
            walk_at "rd"
            refine rd_itn (fun _ => ?_) (fun h => absurd rfl h)
            walk_at "rd"
            exact hN _ _ ⟨f14.trans f5, rfl⟩
          · walk_at "rd"
            exact hN _ _ ⟨.refl, rfl⟩
        obtain ⟨e14, rfl⟩ := h
        have hy14 := hy13.x e14
        have hx14 := hx13.x e14
        have T14 := T13.ext e14
        have fin : ∀ {σ : L2.St} {H' : Hp} (o3 o4 : Option V), σ = [some (.ref a), some (.ref t), some v, o1, o2, some (.ref pa), o3, o4, none] → Ext T [t] H14 H' → Tape l H' t → Ext T [t] H8 H' ∧ Tape l H' t ∧ ∃ o3 o4 : Option V, σ = [some (.ref a), some (.ref t), some v, o1, o2, some (.ref pa), o3, o4, none] := fun o3 o4 h e t' => fin o3 o4 h (e14.any.trans e) t'
        clear e14 hy13 hx13 T13
        walk_at "rd"
        refine rd_ixSs (z := kw) (hyk hy14) (at_zero _ _) ?_
        walk_at "rd"
        refine rd_ite (fun c => ?_) (fun c => ?_)
        · have hhb := hkh.mp c
          walk_at "rd"
          refine rd_slIm (T := T) hx14 fun y1 G1 f1 g1 => ?_
          rw [show cutD [cI i, PyData.int i.li, gI i, .int i.a, .int i.b] none (some 3) = [cI i, .int i.li, gI i] from cutD_to (m := 3) (by simp)] at g1
          walk_at "rd"
          walk_at "al"
          rename_i q1 G2 _ f2 hq1
          walk_at "rd"
          walk_at "al"
          rename_i q2 G3 _ f3 hq2
          walk_at "rd"
          walk_at "al"
          rename_i ql G4 nql f4 hql
          have f14 := ((f1.trans f2).trans f3).trans f4
          have TG := T14.ext f14
          have hqlt : ql ≠ t := (T14.ne (((f1.trans f2).trans f3).back0 nql)).1
          have hlsq : Ls G4 ql [.tuple [.int 1, .int 10000], .tuple [.int 0, .int 9999]] := ⟨_, hql, .cons (((Im.new2 (.int _) (.int _) hq1).x f3).x f4) (.cons ((Im.new2 (.int _) (.int _) hq2).x f4) .nil)⟩
          walk_at "rd"
          refine ⟨l, t, 2, rfl, by decide, by decide, TG, fun d5 G5 d50 d51 f5 T5 => ?_⟩
          have hbd : ∃ (b1 b2 : Int), atI [PyData.tuple [.int 1, .int 10000], .tuple [.int 0, .int 9999]] d5 = some (.tuple [.int b1, .int b2]) ∧ ¬ (b1 = 0 ∧ b2 = 10000) := by
            rcases (by omega : d5 = 0 ∨ d5 = 1) with rfl | rfl
            · exact ⟨1, 10000, rfl, by decide⟩
            · exact ⟨0, 9999, rfl, by decide⟩
          obtain ⟨b1, b2, hb1, hb2⟩ := hbd
          walk_at "rd"
          refine rd_ixLs (hlsq.y f5 hqlt TG) hb1 fun y2 g2 => ?_
          refine rd_catII (T := T) ((((g1.x f2).x f3).x f4).y f5 TG) g2 (by simp) (by simp) (by simp) fun y3 G6 f6 g4 => ?_
          have g4 : Im G6 y3 (.tuple [cI i, .int i.li, gI i, .int b1, .int b2]) := g4
          have f16 := (f14.any.trans f5).trans f6.any
          have hS5 : SnK 2 (.tuple [cI i, .int i.li, gI i, .int b1, .int b2]) := five_sn hcS (snk_up (snk_int _) (by decide)) hgS (snk_up (snk_int _) (by decide)) (snk_up (snk_int _) (by decide))
          walk_at "rd"
          refine ⟨y, y3, sl, _, rfl, hy14.y f16 T14, g4, hS5.1, Nat.le_trans hS5.2 (by decide), fun G7 f7 => ?_⟩
          rw [hhb, item_nb (bare_no hb2)]
          refine rd_isnBl ?_
          walk_at "rd"
          refine rd_itn (fun _ => ?_) (fun h => absurd rfl h)
          walk_at "rd"
          exact fin _ _ rfl (f16.trans f7.any) (T5.ext (f6.trans f7))
        · walk_at "rd"
          exact fin _ _ rfl .refl T14
      · obtain ⟨e9, T9, o3, o4, rfl⟩ := h
        exact hN _ _ ⟨e8.any.trans e9, T9, o3, o4, rfl⟩
    obtain ⟨e8, T8, o3, o4, rfl⟩ := h
    have hv8 := hv7.y e8 T7
    clear e8 hv7 hF7 hTb7 T7 hP7
    walk_at "rdn"
    refine rd_seqK (fun σ H' => Ext T [] H8 H' ∧ ∃ wl : Addr, σ = [some (.ref a), some (.ref t), some v, o1, o2, some (.ref pa), o3, o4, some (.ref wl)] ∧ Nw H8 wl ∧ Ls H' wl wrongs) (fun N hN => ?_) (fun σ H9 h => ?_)
    · walk_at "rd"
      walk_at "al"
      rename_i q1 G1 _ f1 hq1
      walk_at "rd"
      walk_at "al"
      rename_i q2 G2 _ f2 hq2
      walk_at "rd"
      walk_at "al"
      rename_i q3 G3 _ f3 hq3
      walk_at "rd"
      walk_at "al"
      rename_i q4 G4 _ f4 hq4
      walk_at "rd"
      walk_at "al"
      rename_i q5 G5 _ f5 hq5
      walk_at "rd"
      walk_at "al"
      rename_i q6 G6 _ f6 hq6
      walk_at "rd"
      walk_at "al"
      rename_i q7 G7 _ f7 hq7
      walk_at "rd"
      walk_at "al"
      rename_i wl G8 nwl f8 hwl
      have kk : ∀ x ∈ ([Str.ofString "keys", Str.ofString "link", Str.ofString "hosts", Str.ofString ".", Str.ofString "no.such.zone.at.all", Str.ofString "set", Str.ofString "a", Str.ofString "key"] : List Str), PyData.strOk x = true := by decide +kernel
      have f78 := f7.trans f8
      have f68 := f6.trans f78
      have f58 := f5.trans f68
      have f48 := f4.trans f58
      have f38 := f3.trans f48
      have f28 := f2.trans f38
      have i1 := (Im.tup hq1 (.cons (.str (Str.ofString "keys") (kk _ (by simp))) .nil)).x f28
      have i2 := (Im.new2 (.str (Str.ofString "link") (kk _ (by simp))) (.str (Str.ofString ".") (kk _ (by simp))) hq2).x f38
      have i3 := (Im.new2 (.str (Str.ofString "hosts") (kk _ (by simp))) (.str (Str.ofString ".") (kk _ (by simp))) hq3).x f48
      have i4 := (Im.new2 (.str (Str.ofString "keys") (kk _ (by simp))) (.str (Str.ofString "no.such.zone.at.all") (kk _ (by simp))) hq4).x f58
      have i5 := (Im.new3 (.str (Str.ofString "set") (kk _ (by simp))) (.str (Str.ofString "no.such.zone.at.all") (kk _ (by simp))) (.str (Str.ofString "a") (kk _ (by simp))) hq5).x f68
      have i6 := (Im.tup hq6 .nil).x f78
      have i7 := (Im.new2 (.str (Str.ofString "key") (kk _ (by simp))) (.str (Str.ofString ".") (kk _ (by simp))) hq7).x f8
      walk_at "rd"
      exact hN _ _ ⟨f1.trans f28, wl, rfl, (((((((f1.trans f2).trans f3).trans f4).trans f5).trans f6).trans f7)).back0 nwl, _, hwl, .cons i1 (.cons i2 (.cons i3 (.cons i4 (.cons i5 (.cons i6 (.cons (.str _ (kk _ (by simp))) (.cons (.int _) (.cons i7 .nil))))))))⟩
    obtain ⟨e9, wl, rfl, nwl, hwl⟩ := h
    have hwt : wl ≠ t := (T8.ne nwl).1
    have T9 := T8.ext e9
    have hv9 := hv8.x e9
    walk_at "rdn"
    walk_at "rd"
    refine ⟨l, t, 9, rfl, by decide, by decide, T9, fun d9 H10 d0 d1 e10 T10 => ?_⟩
    obtain ⟨d, hd1, hd2⟩ : ∃ d, atI wrongs d9 = some d ∧ d ∈ wrongs := by
      rcases (by omega : d9 = 0 ∨ d9 = 1 ∨ d9 = 2 ∨ d9 = 3 ∨ d9 = 4 ∨ d9 = 5 ∨ d9 = 6 ∨ d9 = 7 ∨ d9 = 8) with rfl | rfl | rfl | rfl | rfl | rfl | rfl | rfl | rfl <;> exact ⟨_, rfl, by simp [wrongs]⟩
    have hdd : ∀ d ∈ wrongs, d.depth ≤ 60 := by
      intro d hd
      unfold wrongs at hd
      simp only [List.mem_cons, List.not_mem_nil, or_false] at hd
      rcases hd with rfl | rfl | rfl | rfl | rfl | rfl | rfl | rfl | rfl <;> decide
    walk_at "rd"
    refine rd_ixLs (hwl.y e10 hwt T9) hd1 fun y2 g2 => ?_
    walk_at "rd"
    refine ⟨v, y2, R, d, false, rfl, hv9.y e10 T9, hR, g2, hdd d hd2, ⟨fun h => absurd h (wrong_no hR hd2), fun h => by cases h⟩, fun H11 e11 => ?_⟩
    exact rd_isBl (q H11)
end
section
variable {T : List (Addr × Str)} {P : Program} {w : World} {K : PySem.W.Frag} {mg : Str → Option Value} {base : Heap}
theorem ok_law_mix (D : Def K mg "_law_mix" s_law_mix ["number"]) (mb : ∀ x ∈ bltns, mg x = none) : Ok P w K mg base 1 "_law_mix" ["number"] spMix := by
  refine D.ok sc_law_mix (fun vs H Q E h => ?_) (fun cdv f A outer s H vs Q E hr h => ?_)
  · obtain ⟨n, rfl, _⟩ := h
    rfl
  · obtain ⟨n, rfl, q⟩ := h
    refine ⟨_, (pss_cons (ps_set (i := 0) sc_law_mix.nd rfl (.inl rfl) (pe_op op_mod (pe_callTy call_int1U (by rfl) (mb _ (by decide)) (by decide +kernel) (pa_cons (pe_op (op_plus K rfl) (pe_op op_mul (pv 0) pe_int) pe_int) pa_nil)) pe_int))
   (pss_one (ps_ret (pe_op op_mod (pe_callTy call_int1U (by rfl) (mb _ (by decide)) (by decide +kernel) (pa_cons (pe_op (op_plus K rfl) (pe_op op_fdivW (pe_op op_mul (pv 0) (pv 0)) pe_int) (pe_op op_mul (pv 0) pe_int)) pa_nil)) pe_int)))), ?_⟩
    walk_at "rd"
    exact q
theorem ok_law_tape (D : Def K mg "_law_tape" s_law_tape ["script", "budget"]) (mb : ∀ x ∈ bltns, mg x = none) : Ok P w K mg base 1 "_law_tape" ["script", "budget"] (spTape T K) := by
  refine D.ok sc_law_tape (fun vs H Q E h => ?_) (fun cdv f A outer s H vs Q E hr h => ?_)
  · obtain ⟨a, ns, b, rfl, _⟩ := h
    rfl
  · obtain ⟨a, ns, b, rfl, ha, hl, q⟩ := h
    refine ⟨_, (pss_one (ps_ret (pe_lst (pa_cons (pe_callTy (call_listU K rfl) (by rfl) (mb _ (by decide)) (by decide +kernel) (pa_cons (pv 0) pa_nil)) (pa_cons pe_int (pa_cons pe_int (pa_cons pe_int (pa_cons (pv 1) pa_nil)))))))), ?_⟩
    walk_at "rd"
    refine rd_listL ha fun l nl => ?_
    walk_at "rd"
    refine ⟨by show 5 ≤ sizeLine; decide, fun t nt => ?_⟩
    have hlt : l ≠ t := fun z => by
      rw [← z, upd_same] at nt
      cases nt
    have ntH : H t = none := by
      rw [upd_ne (Ne.symm hlt)] at nt
      exact nt
    exact q t l _ (.of ntH) ((Ext.new nl).trans (.new nt)) ⟨ns, 0, 0, 1, b, upd_same, by rw [upd_ne hlt]; exact upd_same, hlt, by decide, by decide⟩
theorem ok_law_take (D : Def K mg "_law_take" s_law_take ["tape", "many"]) (G_law_mix : Ok P w K mg base 1 "_law_mix" ["number"] spMix) (mb : ∀ x ∈ bltns, mg x = none) : Ok P w K mg base 2 "_law_take" ["tape", "many"] (spTake T) := by
  refine D.ok sc_law_take (fun vs H Q E h => ?_) (fun cdv f A outer s H vs Q E hr h => ?_)
  · obtain ⟨l, t, m, rfl, _⟩ := h
    rfl
  · obtain ⟨l, t, m, rfl, hm, hm2, hT, q⟩ := h
    obtain ⟨ns, pos, rest, st, bud, ht, hlh, hlt, hr0, hs0⟩ := hT
    refine ⟨_, (pss_cons (ps_if (pt_cmpR op_lt (pe_ix (ix_U K rfl) (pv 0) pe_int (fun _ _ => rfl)) (pv 1) (nomark _)) (pss_one (ps_if (pt_cmpR op_lt (pe_ix (ix_U K rfl) (pv 0) pe_int (fun _ _ => rfl)) (pe_callB (call_lenU K rfl) (by rfl) (mb _ (by decide)) (by decide +kernel) (pa_cons (pe_ix (ix_U K rfl) (pv 0) pe_int (fun _ _ => rfl)) pa_nil)) (nomark _)) (pss_cons (ps_set (i := 2) sc_law_take.nd rfl (.inl rfl) (pe_ix (ix_U K rfl) (pe_ix (ix_U K rfl) (pv 0) pe_int (fun _ _ => rfl)) (pe_ix (ix_U K rfl) (pv 0) pe_int (fun _ _ => rfl)) (fun _ _ => rfl)))
   (pss_cons (ps_set (i := 2) sc_law_take.nd rfl (.inl rfl) (pe_ifExp (pt_cmpR op_ge (pv 2) pe_int (nomark _)) (pe_op op_mul pe_int (pv 2)) (pe_op op_sub (pe_op op_mul (pe_un un_neg pe_int) (pv 2)) pe_int)))
   (pss_cons (ps_asg (pe_op (op_plus K rfl) (pe_ix (ix_U K rfl) (pv 0) pe_int (fun _ _ => rfl)) pe_int) (pg_sub (pv 0) pe_int set_list))
   (pss_cons (ps_asg (pe_callO G_law_mix (hr.mono (by decide)) (by rfl) (pa_cons (pe_op (op_plus K rfl) (pe_ix (ix_U K rfl) (pv 0) pe_int (fun _ _ => rfl)) (pv 2)) pa_nil)) (pg_sub (pv 0) pe_int set_list))
   (pss_one (ps_asg (pe_ifExp (pt_cmpR op_ge (pv 2) (pe_op op_pow pe_int pe_int) (nomark _)) (pv 2) (pe_callO G_law_mix (hr.mono (by decide)) (by rfl) (pa_cons (pe_callO G_law_mix (hr.mono (by decide)) (by rfl) (pa_cons (pv 2) pa_nil)) pa_nil))) (pg_sub (pv 0) pe_int set_list))))))) (pss_cons (ps_asg (pe_callO G_law_mix (hr.mono (by decide)) (by rfl) (pa_cons (pe_op (op_plus K rfl) (pe_ix (ix_U K rfl) (pv 0) pe_int (fun _ _ => rfl)) pe_int) pa_nil)) (pg_sub (pv 0) pe_int set_list))
   (pss_one (ps_asg (pe_ix (ix_U K rfl) (pv 0) pe_int (fun _ _ => rfl)) (pg_sub (pv 0) pe_int set_list)))))) pss_nil)
   (pss_cons (ps_set (i := 3) sc_law_take.nd rfl (.inl rfl) (pe_op op_mod (pe_callTy call_int1U (by rfl) (mb _ (by decide)) (by decide +kernel) (pa_cons (pe_ix (ix_U K rfl) (pv 0) pe_int (fun _ _ => rfl)) pa_nil)) (pv 1)))
   (pss_cons (ps_asg (pe_op op_fdivW (pe_ix (ix_U K rfl) (pv 0) pe_int (fun _ _ => rfl)) (pv 1)) (pg_sub (pv 0) pe_int set_list))
   (pss_one (ps_ret (pv 3)))))), ?_⟩
    have fin : ∀ (H1 : Hp) (po : Nat) (re sm : Int) (σ' : L2.St), H1 t = some (.lst [.ref l, .int (po : Int), .int re, .int sm, .int bud]) → H1 l = some (.lst (ns.map V.int)) → 0 ≤ re → 0 ≤ sm → Ext T [t] H H1 →
        ∀ d, 0 ≤ d → d < m → Q (.int d) (upd H1 t (.lst [.ref l, .int (po : Int), .int (re / m), .int sm, .int bud])) := fun H1 po re sm σ' e1 e2 h1 h2 ex d h3 h4 =>
      q d _ h3 h4 (ex.trans (.mut (by simp) e1)) ⟨ns, po, re / m, sm, bud, upd_same, by rw [upd_ne hlt]; exact e2, hlt, Int.ediv_nonneg h1 (by omega), h2⟩
    have wm : ∀ i, CDivW i m := fun i => wide_div hm (b := 64) (by omega) (by decide) (by decide)
    have tail : ∀ (H1 : Hp) (po : Nat) (re sm : Int) (xs : List V), xs = [.ref l, .int (po : Int), .int re, .int sm, .int bud] → H1 t = some (.lst xs) → H1 l = some (.lst (ns.map V.int)) → 0 ≤ re → 0 ≤ sm → Ext T [t] H H1 →
        Q (.int (re % m)) (upd H1 t (.lst (xs.set 2 (.int (re / m))))) := fun H1 po re sm xs exs e1 e2 h1 h2 ex => by
      subst exs
      exact fin H1 po re sm [] e1 e2 h1 h2 ex _ (Int.emod_nonneg _ (by omega)) (Int.emod_lt_of_pos _ hm)
    walk_at "rd"
    refine rd_ite (fun h1 => ?_) (fun h1 => ?_)
    · walk_at "rd"
      refine rd_ite (fun h2 => ?_) (fun h2 => ?_)
      · walk_at "rd"
        have hp : pos < ns.length := by
          rw [List.length_map] at h2
          omega
        refine rd_ixL (v := .int ns[pos]) (SqL.of hlh) (atI_nat (by rw [List.getElem?_map, List.getElem?_eq_getElem hp]; rfl)) ?_
        walk_at "rd"
        refine rd_ite (fun h3 => ?_) (fun h3 => ?_)
        · walk_at "rd"
          refine ⟨_, rfl, ?_⟩
          walk_at "rd"
          refine rd_ite (fun h4 => ?_) (fun h4 => ?_)
          · walk_at "rd"
            refine rd_i (wm _) ?_
            walk_at "rd"
            exact tail _ (pos + 1) _ _ _ rfl upd_same (by walk_at "hp") (by omega) (mixI_nn _) (by walk_at "ext")
          · walk_at "rd"
            refine ⟨_, rfl, ?_⟩
            walk_at "rd"
            refine ⟨_, rfl, ?_⟩
            walk_at "rd"
            refine rd_i (wm _) ?_
            walk_at "rd"
            exact tail _ (pos + 1) _ _ _ rfl upd_same (by walk_at "hp") (mixI_nn _) (mixI_nn _) (by walk_at "ext")
        · walk_at "rd"
          refine ⟨_, rfl, ?_⟩
          walk_at "rd"
          refine rd_ite (fun h4 => ?_) (fun h4 => ?_)
          · walk_at "rd"
            refine rd_i (wm _) ?_
            walk_at "rd"
            exact tail _ (pos + 1) _ _ _ rfl upd_same (by walk_at "hp") (by omega) (mixI_nn _) (by walk_at "ext")
          · walk_at "rd"
            refine ⟨_, rfl, ?_⟩
            walk_at "rd"
            refine ⟨_, rfl, ?_⟩
            walk_at "rd"
            refine rd_i (wm _) ?_
            walk_at "rd"
            exact tail _ (pos + 1) _ _ _ rfl upd_same (by walk_at "hp") (mixI_nn _) (mixI_nn _) (by walk_at "ext")
      · walk_at "rd"
        refine ⟨_, rfl, ?_⟩
        walk_at "rd"
        refine rd_i (wm _) ?_
        walk_at "rd"
        exact tail _ pos _ _ _ rfl upd_same (by walk_at "hp") (mixI_nn _) (mixI_nn _) (by walk_at "ext")
    · walk_at "rd"
      refine rd_i (wm _) ?_
      walk_at "rd"
      exact tail H pos rest st _ rfl ht hlh hr0 hs0 .refl
end
/-! ### what the head has written: the defs, the constants, the words of the language -/
def DefIn (K : PySem.W.Frag) (x : Str) (st : Stmt) : Prop :=
  ∃ (f : Addr) (oc : Value) (od : Option Addr) (kV doc pm : Value) (an : Option Addr) (cdv ct : Value) (osl : Array (Option Value)),
    PySem.W.nsIn K mainGlobals x = some (some (.ref f)) ∧ K.lookup f = some ⟨oc, od, .func (PySem.W.fnOf x x (defArgs st) (defBody st) (defScope st) .none kV doc pm an cdv ct), osl⟩ ∧ PySem.W.codeIn K cdv x = true ∧ PySem.W.keepIn K (.ref f) = true
def DefInC (K : PySem.W.Frag) (x : Str) (st : Stmt) (c : Addr) : Prop :=
  ∃ (f : Addr) (oc : Value) (od : Option Addr) (kV doc pm : Value) (an : Option Addr) (ct : Value) (osl : Array (Option Value)),
    PySem.W.nsIn K mainGlobals x = some (some (.ref f)) ∧ K.lookup f = some ⟨oc, od, .func (PySem.W.fnOf x x (defArgs st) (defBody st) (defScope st) .none kV doc pm an (.ref c) ct), osl⟩ ∧ PySem.W.codeIn K (.ref c) x = true ∧ PySem.W.keepIn K (.ref f) = true
theorem DefIn.of {K : PySem.W.Frag} {x : Str} {st : Stmt} {f : Addr} {oc : Value} {od : Option Addr} {kV doc pm : Value} {an : Option Addr} {cdv ct : Value} {osl : Array (Option Value)} (h1 : PySem.W.nsIn K mainGlobals x = some (some (.ref f)))
    (h2 : K.lookup f = some ⟨oc, od, .func (PySem.W.fnOf x x (defArgs st) (defBody st) (defScope st) .none kV doc pm an cdv ct), osl⟩) (h3 : PySem.W.codeIn K cdv x = true) (h4 : PySem.W.keepIn K (.ref f) = true) : DefIn K x st := ⟨f, oc, od, kV, doc, pm, an, cdv, ct, osl, h1, h2, h3, h4⟩
theorem DefInC.of {K : PySem.W.Frag} {x : Str} {st : Stmt} {f c : Addr} {oc : Value} {od : Option Addr} {kV doc pm : Value} {an : Option Addr} {ct : Value} {osl : Array (Option Value)} (h1 : PySem.W.nsIn K mainGlobals x = some (some (.ref f)))
    (h2 : K.lookup f = some ⟨oc, od, .func (PySem.W.fnOf x x (defArgs st) (defBody st) (defScope st) .none kV doc pm an (.ref c) ct), osl⟩) (h3 : PySem.W.codeIn K (.ref c) x = true) (h4 : PySem.W.keepIn K (.ref f) = true) : DefInC K x st c := ⟨f, oc, od, kV, doc, pm, an, ct, osl, h1, h2, h3, h4⟩
theorem cstS_of {K : PySem.W.Frag} {x y : Str} {t : Tok} (h : PySem.W.nsIn K mainGlobals x = some (some (.str y t))) : ∃ t, PySem.W.nsIn K mainGlobals x = some (some (.str y t)) := ⟨t, h⟩
theorem cstI_of {K : PySem.W.Frag} {x : Str} {y : Int} {t : Tok} (h : PySem.W.nsIn K mainGlobals x = some (some (.int y t))) : ∃ t, PySem.W.nsIn K mainGlobals x = some (some (.int y t)) := ⟨t, h⟩
section
variable {K : PySem.W.Frag} {h : Heap} {mg : Str → Option Value} {x : Str} {st : Stmt} {ps : List Str}
def BindOk (x : Str) (st : Stmt) (ps : List Str) : Prop := ∀ (kV doc pm : Value) (an : Option Addr) (cdv ct : Value) (us : List Value), us.length = ps.length → bindArgs (PySem.W.fnOf x x (defArgs st) (defBody st) (defScope st) .none kV doc pm an cdv ct) ⟨us, []⟩ = pure (ps.zip us)
theorem DefIn.mk (d : DefIn K x st) (X : K.In h) (G : h.Ns mainGlobals mg) (hb : BindOk x st ps) : Def K mg x st ps := by
  obtain ⟨f, oc, od, kV, doc, pm, an, cdv, ct, osl, h1, h2, h3, h4⟩ := d
  have F := fun_mk (st := st) h2 h3 h4
  exact ⟨f, _, F, PySem.W.mg_of X G h1, F.binds hb⟩
theorem DefInC.mk {c : Addr} (d : DefInC K x st c) (X : K.In h) (G : h.Ns mainGlobals mg) (hb : BindOk x st ps) : DefC K mg x st ps c := by
  obtain ⟨f, oc, od, kV, doc, pm, an, ct, osl, h1, h2, h3, h4⟩ := d
  exact ⟨f, oc, od, kV, doc, pm, an, ct, osl, h2, h3, h4, PySem.W.mg_of X G h1, (fun_mk (st := st) h2 h3 h4).binds hb⟩
end
/-! ### what the head has written of classes and of second names -/
def MethIn (K : PySem.W.Frag) (C : Addr) (m qual : Str) (st : Stmt) : Prop :=
  ∃ (f : Addr) (oc : Value) (od : Option Addr) (kV doc pm : Value) (an : Option Addr) (cdv ct : Value) (osl : Array (Option Value)),
    PySem.W.findIn K (.ref C) m = some (some (.ref f)) ∧ PySem.W.isFn K (.ref f) = true ∧ K.lookup f = some ⟨oc, od, .func (PySem.W.fnOf m qual (defArgs st) (defBody st) (defScope st) .none kV doc pm an cdv ct), osl⟩ ∧ PySem.W.codeIn K cdv qual = true ∧ PySem.W.keepIn K (.ref f) = true
theorem MethIn.of {K : PySem.W.Frag} {C : Addr} {m qual : Str} {st : Stmt} {f : Addr} {oc : Value} {od : Option Addr} {kV doc pm : Value} {an : Option Addr} {cdv ct : Value} {osl : Array (Option Value)} (h1 : PySem.W.findIn K (.ref C) m = some (some (.ref f))) (h2 : PySem.W.isFn K (.ref f) = true)
    (h3 : K.lookup f = some ⟨oc, od, .func (PySem.W.fnOf m qual (defArgs st) (defBody st) (defScope st) .none kV doc pm an cdv ct), osl⟩) (h4 : PySem.W.codeIn K cdv qual = true) (h5 : PySem.W.keepIn K (.ref f) = true) : MethIn K C m qual st := ⟨f, oc, od, kV, doc, pm, an, cdv, ct, osl, h1, h2, h3, h4, h5⟩
def DefIn2 (K : PySem.W.Frag) (x y : Str) (st : Stmt) : Prop :=
  ∃ (f : Addr) (oc : Value) (od : Option Addr) (kV doc pm : Value) (an : Option Addr) (cdv ct : Value) (osl : Array (Option Value)),
    PySem.W.nsIn K mainGlobals x = some (some (.ref f)) ∧ PySem.W.nsIn K mainGlobals y = some (some (.ref f)) ∧ K.lookup f = some ⟨oc, od, .func (PySem.W.fnOf x x (defArgs st) (defBody st) (defScope st) .none kV doc pm an cdv ct), osl⟩ ∧ PySem.W.codeIn K cdv x = true ∧ PySem.W.keepIn K (.ref f) = true
theorem DefIn2.of {K : PySem.W.Frag} {x y : Str} {st : Stmt} {f : Addr} {oc : Value} {od : Option Addr} {kV doc pm : Value} {an : Option Addr} {cdv ct : Value} {osl : Array (Option Value)} (h1 : PySem.W.nsIn K mainGlobals x = some (some (.ref f))) (h2 : PySem.W.nsIn K mainGlobals y = some (some (.ref f)))
    (h3 : K.lookup f = some ⟨oc, od, .func (PySem.W.fnOf x x (defArgs st) (defBody st) (defScope st) .none kV doc pm an cdv ct), osl⟩) (h4 : PySem.W.codeIn K cdv x = true) (h5 : PySem.W.keepIn K (.ref f) = true) : DefIn2 K x y st := ⟨f, oc, od, kV, doc, pm, an, cdv, ct, osl, h1, h2, h3, h4, h5⟩
section
variable {P : Program} {w : World} {K : PySem.W.Frag} {mg : Str → Option Value} {base : Heap} {h : Heap}
theorem DefIn2.d {x y : Str} {st : Stmt} (d : DefIn2 K x y st) : DefIn K x st := by
  obtain ⟨f, oc, od, kV, doc, pm, an, cdv, ct, osl, h1, _, h3, h4, h5⟩ := d
  exact ⟨f, oc, od, kV, doc, pm, an, cdv, ct, osl, h1, h3, h4, h5⟩
theorem DefIn2.same {x y : Str} {st : Stmt} (d : DefIn2 K x y st) (X : K.In h) (G : h.Ns mainGlobals mg) : mg y = mg x := by
  obtain ⟨f, oc, od, kV, doc, pm, an, cdv, ct, osl, h1, h2, _⟩ := d
  rw [PySem.W.mg_of X G h1, PySem.W.mg_of X G h2]
end
open PySem.W (ksFn ks_superIn)
theorem exm_selfE {K : PySem.W.Frag} {S : Addr} (h1 : PySem.W.subIn K (.ref S) (.type "BaseException") = some true) (h2 : PySem.W.hasDictIn K S = true) (h3 : PySem.W.typeIn K (.ref S) = some (.type "type")) (h4 : PySem.W.subIn K (.ref S) (.ref S) = some true) :
    PySem.W.exmOne K (.ref S) (.ref S) = some true := PySem.W.exm_ref h1 h2 h3 h4
/-- what the head has written of the code of a def of a class -/
structure InitIn (P : Program) (K : PySem.W.Frag) (fld : Str) (C fI : Addr) (parts : List Expr) (ps : List Pos) (p1 p2 q1 q2 q3 q4 : Pos) (qual : Str) : Prop where
  ex : ∃ (oc : Value) (od : Option Addr) (doc pm kV : Value) (an : Option Addr) (cda cc : Addr) (ct : Value) (osl : Array (Option Value)),
    K.lookup fI = some ⟨oc, od, .func (ksFn "__init__" qual (supA fld p1 p2) (supB fld parts ps q1 q2 q3 q4) (supS fld) .none kV doc pm an (.ref cda) ct cc), osl⟩ ∧ PySem.W.codeIn K (.ref cda) qual = true ∧
    (∃ ccl cdd vs ccs file tf, K.lookup cda = some ⟨ccl, cdd, .fields vs, ccs⟩ ∧ vs[2]? = some (.str file tf) ∧ ((P.main.file : Str) == file) = true) ∧
    (∃ cl cld csl, K.lookup cc = some ⟨cl, cld, .cell (some (.ref C)), csl⟩)
theorem InitIn.of {P : Program} {K : PySem.W.Frag} {fld : Str} {C fI : Addr} {parts : List Expr} {ps : List Pos} {p1 p2 q1 q2 q3 q4 : Pos} {qual : Str} {oc : Value} {od : Option Addr} {doc pm kV : Value} {an : Option Addr} {cda cc : Addr} {ct : Value} {osl : Array (Option Value)} {ccl : Value} {cdd : Option Addr} {vs : Array Value} {ccs : Array (Option Value)} {file : Str} {tf : Tok} {cl : Value} {cld : Option Addr} {csl : Array (Option Value)}
    (h1 : K.lookup fI = some ⟨oc, od, .func (ksFn "__init__" qual (supA fld p1 p2) (supB fld parts ps q1 q2 q3 q4) (supS fld) .none kV doc pm an (.ref cda) ct cc), osl⟩) (h2 : PySem.W.codeIn K (.ref cda) qual = true)
    (h3 : K.lookup cda = some ⟨ccl, cdd, .fields vs, ccs⟩) (h4 : vs[2]? = some (.str file tf)) (h5 : ((P.main.file : Str) == file) = true) (h6 : K.lookup cc = some ⟨cl, cld, .cell (some (.ref C)), csl⟩) : InitIn P K fld C fI parts ps p1 p2 q1 q2 q3 q4 qual :=
  ⟨oc, od, doc, pm, kV, an, cda, cc, ct, osl, h1, h2, ⟨ccl, cdd, vs, ccs, file, tf, h3, h4, h5⟩, ⟨cl, cld, csl, h6⟩⟩
structure ClsIn (P : Program) (K : PySem.W.Frag) (nm fld : Str) (C fI CN : Addr) : Prop where
  aC : PySem.W.nsIn K mainGlobals nm = some (some (.ref C))
  cls : ∃ nm q N bs sn sub ab col dd k0 k1 k2 k3 k5, K.lookup C = some (excClassObj nm q C N bs [.ref CN, .type "ValueError", .type "Exception", .type "BaseException", .type "object"] true sn sub ab col dd k0 k1 k2 k3 k5 "ValueError.__new__")
  sa : PySem.W.findIn K (.ref C) "__setattr__" = some (some (.builtin "object.__setattr__"))
  ga : PySem.W.findIn K (.ref C) "__getattribute__" = some (some (.builtin "BaseException.__getattribute__"))
  gg : PySem.W.findIn K (.ref C) "__getattr__" = some none
  noN : PySem.W.findIn K (.ref C) fld = some none
  iC : PySem.W.findIn K (.ref C) "__init__" = some (some (.ref fI))
  tC : PySem.W.typeIn K (.ref fI) = some (.type "function")
  kC : PySem.W.keepIn K (.ref C) = true
  exC : PySem.W.subIn K (.ref C) (.type "BaseException") = some true
  tyC : PySem.W.typeIn K (.ref C) = some (.type "type")
  hdC : PySem.W.hasDictIn K C = true
  sC : PySem.W.subIn K (.ref C) (.ref C) = some true
  sup : ks_superIn K C C "__init__" = some (some (.builtin "ValueError.__init__"))
  subV : PySem.W.subIn K (.ref C) (.type "ValueError") = some true
  selfC : PySem.W.mroIn K C (.ref C) = some true
  gsup : PySem.W.nsIn K mainGlobals "super" = some none
  opq : PySem.W.nsIn K cStatics "thirdparty.any" = some none
  ha : PySem.W.findIn K (.ref C) "__class__" = some (some (.builtin "object.__class__"))
  hn : PySem.W.specialIn K (.builtin "object.__class__") "__get__" = some (some (.builtin "getset_descriptor.__get__"))
  ht : PySem.W.takesIn K (.builtin "object.__class__") = some true
  hm : PySem.W.mroIn K C (.type "object") = some true
theorem ClsIn.of {P : Program} {K : PySem.W.Frag} {nm fld : Str} {C fI CN : Addr} {nm' q : Str} {N : Addr} {bs : List Value} {sn : List Str} {sub : List Value} {ab : Bool} {col : Option Bool} {dd : Option Addr} {k0 k1 k2 k3 k5 : Option Value}
    (aC : PySem.W.nsIn K mainGlobals nm = some (some (.ref C)))
    (cls : K.lookup C = some (excClassObj nm' q C N bs [.ref CN, .type "ValueError", .type "Exception", .type "BaseException", .type "object"] true sn sub ab col dd k0 k1 k2 k3 k5 "ValueError.__new__"))
    (sa : PySem.W.findIn K (.ref C) "__setattr__" = some (some (.builtin "object.__setattr__")))
    (ga : PySem.W.findIn K (.ref C) "__getattribute__" = some (some (.builtin "BaseException.__getattribute__")))
    (gg : PySem.W.findIn K (.ref C) "__getattr__" = some none)
    (noN : PySem.W.findIn K (.ref C) fld = some none)
    (iC : PySem.W.findIn K (.ref C) "__init__" = some (some (.ref fI)))
    (tC : PySem.W.typeIn K (.ref fI) = some (.type "function"))
    (kC : PySem.W.keepIn K (.ref C) = true)
    (exC : PySem.W.subIn K (.ref C) (.type "BaseException") = some true)
    (tyC : PySem.W.typeIn K (.ref C) = some (.type "type"))
    (hdC : PySem.W.hasDictIn K C = true)
    (sC : PySem.W.subIn K (.ref C) (.ref C) = some true)
    (sup : ks_superIn K C C "__init__" = some (some (.builtin "ValueError.__init__")))
    (subV : PySem.W.subIn K (.ref C) (.type "ValueError") = some true)
    (selfC : PySem.W.mroIn K C (.ref C) = some true)
    (gsup : PySem.W.nsIn K mainGlobals "super" = some none)
    (opq : PySem.W.nsIn K cStatics "thirdparty.any" = some none)
    (ha : PySem.W.findIn K (.ref C) "__class__" = some (some (.builtin "object.__class__")))
    (hn : PySem.W.specialIn K (.builtin "object.__class__") "__get__" = some (some (.builtin "getset_descriptor.__get__")))
    (ht : PySem.W.takesIn K (.builtin "object.__class__") = some true)
    (hm : PySem.W.mroIn K C (.type "object") = some true) : ClsIn P K nm fld C fI CN :=
  ⟨aC, ⟨nm', q, N, bs, sn, sub, ab, col, dd, k0, k1, k2, k3, k5, cls⟩, sa, ga, gg, noN, iC, tC, kC, exC, tyC, hdC, sC, sup, subV, selfC, gsup, opq, ha, hn, ht, hm⟩
theorem ExcT.of {P : Program} {K : PySem.W.Frag} {h : Heap} {mg : Str → Option Value} {nm fld : Str} {C fI CN : Addr} {parts : List Expr} {ps : List Pos} {p1 p2 q1 q2 q3 q4 : Pos} {qual : Str} (X : K.In h) (G : h.Ns mainGlobals mg) (c : ClsIn P K nm fld C fI CN) (i : InitIn P K fld C fI parts ps p1 p2 q1 q2 q3 q4 qual)
    (htop : (P.main.scope.names.lookup ("super" : Str)).isSome = false) (hp : PartsOk fld parts (pz ps 3)) (hc : CallOk fld parts ps) : ExcT P K mg nm fld C fI where
  gC := PySem.W.mg_of X G c.aC
  cls := by
    obtain ⟨nm, q, N, bs, sn, sub, ab, col, dd, k0, k1, k2, k3, k5, e⟩ := c.cls
    exact ⟨nm, q, N, bs, _, sn, sub, ab, col, dd, k0, k1, k2, k3, k5, e, rfl⟩
  sa := c.sa
  ga := c.ga
  gg := c.gg
  noN := c.noN
  iC := c.iC
  tC := c.tC
  kC := c.kC
  exC := c.exC
  tyC := c.tyC
  hdC := c.hdC
  te := exm_selfE c.exC c.hdC c.tyC c.sC
  sup := c.sup
  subV := c.subV
  selfC := c.selfC
  gsup := c.gsup
  opq := c.opq
  htop := htop
  fn := by
    obtain ⟨oc, od, doc, pm, kV, an, cda, cc, ct, osl, h1, h2, h3, h4⟩ := i.ex
    exact ⟨oc, od, doc, pm, kV, an, cda, cc, ct, osl, p1, p2, q1, q2, q3, q4, ps, parts, qual, h1, h2, h3, h4, hp, hc⟩
  ec := ⟨c.ga, c.gg, c.exC, c.hdC, c.ha, c.hn, c.ht, c.hm⟩
theorem all_mk {l : PySem.W.OpenLaw} {w : World} {K : PySem.W.Frag} {h : Heap} {mg : Str → Option Value} {fa c Pt : Addr} (X : K.In h) (G : h.Ns mainGlobals mg) (hfa : mg "law" = some (.ref fa)) (hTab : h.get? Pt = some { cls := .none, data := .fields #[] }) (nT : K.lookup Pt = none) (hcd : PySem.W.codeHdIn K c Pt = true)
    (d1 : DefIn K "is_integer_in" s_is_integer_in) (d2 : DefIn K "is_tuple_of" s_is_tuple_of) (d3 : DefIn K "is_ascending" s_is_ascending) (d4 : DefIn K "is_word" s_is_word) (d5 : DefIn K "is_id" s_is_id) (d6 : DefIn K "is_label" s_is_label) (d7 : DefIn K "is_name" s_is_name) (d8 : DefIn K "labels" s_labels) (d9 : DefIn K "ends" s_ends) (d10 : DefInC K "chain" s_chain c) (d11 : DefIn K "zone_of" s_zone_of) (d12 : DefIn K "are_ids" s_are_ids) (d13 : DefIn K "is_zone" s_is_zone) (d14 : DefIn K "are_zones" s_are_zones) (d15 : DefIn K "is_set" s_is_set) (d16 : DefIn K "are_sets" s_are_sets) (d17 : DefIn K "is_used" s_is_used) (d18 : DefIn K "is_realm" s_is_realm) (d19 : DefIn K "zone_names" s_zone_names) (d20 : DefIn K "slots" s_slots) (d21 : DefIn K "parent" s_parent) (d22 : DefIn K "home" s_home) (d23 : DefIn K "lag_of" s_lag_of) (d24 : DefIn K "is_slot" s_is_slot) (d25 : DefIn K "is_item" s_is_item) (d26 : DefIn K "_law_mix" s_law_mix) (d27 : DefIn K "_law_tape" s_law_tape) (d28 : DefIn K "_law_take" s_law_take) (d29 : DefIn K "_law_id" s_law_id) (d30 : DefIn K "_law_ids" s_law_ids) (d31 : DefIn K "_law_label" s_law_label) (d32 : DefIn K "_law_labels" s_law_labels) (d33 : DefIn K "_law_lag" s_law_lag) (d34 : DefIn K "_law_zones" s_law_zones) (d35 : DefIn K "_law_realm" s_law_realm) (d36 : DefIn K "_law_chain" s_law_chain) (d37 : DefIn K "_law_slots" s_law_slots) (d38 : DefIn K "_law_home" s_law_home) (d39 : DefIn K "_law_lag_of" s_law_lag_of) (d40 : DefIn K "_law_life" s_law_life) (d41 : DefIn K "_law_pools" s_law_pools) (d42 : DefIn K "_law_pool" s_law_pool) (d43 : DefIn K "_law_item" s_law_item) (d44 : DefIn K "_law_first_item" s_law_first_item) (d45 : DefIn K "_law_fresh" s_law_fresh) (d46 : DefIn K "_law_bad_realms" s_law_bad_realms) (d47 : DefIn K "_law_bad_item" s_law_bad_item) (d48 : DefIn K "_law_limits" s_law_limits) (d49 : DefIn K "law" s_law)
    (mb : ∀ x ∈ bltns, PySem.W.nsIn K mainGlobals x = some none) (c1 : ∃ t, PySem.W.nsIn K mainGlobals "LETTERS" = some (some (.str "abcdefghijklmnopqrstuvwxyz0123456789" t))) (c2 : ∃ t, PySem.W.nsIn K mainGlobals "MAX_ID" = some (some (.int 4 t))) (c3 : ∃ t, PySem.W.nsIn K mainGlobals "MAX_LABEL" = some (some (.int 8 t))) (c4 : ∃ t, PySem.W.nsIn K mainGlobals "MAX_LABELS" = some (some (.int 4 t))) (c5 : ∃ t, PySem.W.nsIn K mainGlobals "MAX_TIME" = some (some (.int 10000 t))) (c6 : ∃ t, PySem.W.nsIn K mainGlobals "MAX_LIFE" = some (some (.int 1000 t))) (c7 : ∃ t, PySem.W.nsIn K mainGlobals "MAX_LAG" = some (some (.int 100 t))) (c8 : ∃ t, PySem.W.nsIn K mainGlobals "MAX_ZONES" = some (some (.int 6 t))) (c9 : ∃ t, PySem.W.nsIn K mainGlobals "MAX_ANCHORS" = some (some (.int 3 t))) (c10 : ∃ t, PySem.W.nsIn K mainGlobals "MAX_SETS" = some (some (.int 8 t))) (c11 : ∃ t, PySem.W.nsIn K mainGlobals "MAX_IDS" = some (some (.int 4 t))) (c12 : ∃ t, PySem.W.nsIn K mainGlobals "MAX_SIGNERS" = some (some (.int 3 t))) (c13 : ∃ t, PySem.W.nsIn K mainGlobals "MAX_PLAN" = some (some (.int 12 t))) :
    LamX.LawAtS l w K CX0 8 63 "script" mg fa h := by
  have M : Cst mg := ⟨c1.imp fun _ e => PySem.W.mg_of X G e, c2.imp fun _ e => PySem.W.mg_of X G e, c3.imp fun _ e => PySem.W.mg_of X G e, c4.imp fun _ e => PySem.W.mg_of X G e, c5.imp fun _ e => PySem.W.mg_of X G e, c6.imp fun _ e => PySem.W.mg_of X G e, c7.imp fun _ e => PySem.W.mg_of X G e, c8.imp fun _ e => PySem.W.mg_of X G e, c9.imp fun _ e => PySem.W.mg_of X G e, c10.imp fun _ e => PySem.W.mg_of X G e, c11.imp fun _ e => PySem.W.mg_of X G e, c12.imp fun _ e => PySem.W.mg_of X G e, c13.imp fun _ e => PySem.W.mg_of X G e⟩
  have mb : ∀ x ∈ bltns, mg x = none := fun x hx => PySem.W.mg_none_of X G (mb x hx)
  obtain ⟨f, oc, od, kV, doc, pm, an, cdv, ct, osl, h1, h2, h3, h4⟩ := d49
  have F_law := fun_mk (st := s_law) h2 h3 h4
  have e := hfa.symm.trans (PySem.W.mg_of X G h1)
  cases e
  have D_is_integer_in := d1.mk (ps := ["value", "least", "most"]) X G fun _ _ _ _ _ _ us hl => match us, hl with | [_, _, _], _ => rfl
  have D_is_tuple_of := d2.mk (ps := ["value", "least", "most"]) X G fun _ _ _ _ _ _ us hl => match us, hl with | [_, _, _], _ => rfl
  have D_is_ascending := d3.mk (ps := ["values"]) X G fun _ _ _ _ _ _ us hl => match us, hl with | [_], _ => rfl
  have D_is_word := d4.mk (ps := ["text", "letters", "most"]) X G fun _ _ _ _ _ _ us hl => match us, hl with | [_, _, _], _ => rfl
  have D_is_id := d5.mk (ps := ["text"]) X G fun _ _ _ _ _ _ us hl => match us, hl with | [_], _ => rfl
  have D_is_label := d6.mk (ps := ["text"]) X G fun _ _ _ _ _ _ us hl => match us, hl with | [_], _ => rfl
  have D_is_name := d7.mk (ps := ["text"]) X G fun _ _ _ _ _ _ us hl => match us, hl with | [_], _ => rfl
  have D_labels := d8.mk (ps := ["name"]) X G fun _ _ _ _ _ _ us hl => match us, hl with | [_], _ => rfl
  have D_ends := d9.mk (ps := ["name", "other"]) X G fun _ _ _ _ _ _ us hl => match us, hl with | [_, _], _ => rfl
  have D_chain := d10.mk (ps := ["zones", "name"]) X G fun _ _ _ _ _ _ us hl => match us, hl with | [_, _], _ => rfl
  have D_zone_of := d11.mk (ps := ["zones", "name"]) X G fun _ _ _ _ _ _ us hl => match us, hl with | [_, _], _ => rfl
  have D_are_ids := d12.mk (ps := ["value", "least", "most"]) X G fun _ _ _ _ _ _ us hl => match us, hl with | [_, _, _], _ => rfl
  have D_is_zone := d13.mk (ps := ["value"]) X G fun _ _ _ _ _ _ us hl => match us, hl with | [_], _ => rfl
  have D_are_zones := d14.mk (ps := ["value"]) X G fun _ _ _ _ _ _ us hl => match us, hl with | [_], _ => rfl
  have D_is_set := d15.mk (ps := ["value"]) X G fun _ _ _ _ _ _ us hl => match us, hl with | [_], _ => rfl
  have D_are_sets := d16.mk (ps := ["value"]) X G fun _ _ _ _ _ _ us hl => match us, hl with | [_], _ => rfl
  have D_is_used := d17.mk (ps := ["zone", "sets"]) X G fun _ _ _ _ _ _ us hl => match us, hl with | [_, _], _ => rfl
  have D_is_realm := d18.mk (ps := ["value"]) X G fun _ _ _ _ _ _ us hl => match us, hl with | [_], _ => rfl
  have D_zone_names := d19.mk (ps := ["realm"]) X G fun _ _ _ _ _ _ us hl => match us, hl with | [_], _ => rfl
  have D_slots := d20.mk (ps := ["realm"]) X G fun _ _ _ _ _ _ us hl => match us, hl with | [_], _ => rfl
  have D_parent := d21.mk (ps := ["realm", "zone"]) X G fun _ _ _ _ _ _ us hl => match us, hl with | [_, _], _ => rfl
  have D_home := d22.mk (ps := ["realm", "slot"]) X G fun _ _ _ _ _ _ us hl => match us, hl with | [_, _], _ => rfl
  have D_lag_of := d23.mk (ps := ["realm", "slot"]) X G fun _ _ _ _ _ _ us hl => match us, hl with | [_, _], _ => rfl
  have D_is_slot := d24.mk (ps := ["realm", "value"]) X G fun _ _ _ _ _ _ us hl => match us, hl with | [_, _], _ => rfl
  have D_is_item := d25.mk (ps := ["slot", "value"]) X G fun _ _ _ _ _ _ us hl => match us, hl with | [_, _], _ => rfl
  have D_law_mix := d26.mk (ps := ["number"]) X G fun _ _ _ _ _ _ us hl => match us, hl with | [_], _ => rfl
  have D_law_tape := d27.mk (ps := ["script", "budget"]) X G fun _ _ _ _ _ _ us hl => match us, hl with | [_, _], _ => rfl
  have D_law_take := d28.mk (ps := ["tape", "many"]) X G fun _ _ _ _ _ _ us hl => match us, hl with | [_, _], _ => rfl
  have D_law_id := d29.mk (ps := ["tape"]) X G fun _ _ _ _ _ _ us hl => match us, hl with | [_], _ => rfl
  have D_law_ids := d30.mk (ps := ["tape", "many"]) X G fun _ _ _ _ _ _ us hl => match us, hl with | [_, _], _ => rfl
  have D_law_label := d31.mk (ps := ["tape"]) X G fun _ _ _ _ _ _ us hl => match us, hl with | [_], _ => rfl
  have D_law_labels := d32.mk (ps := ["tape"]) X G fun _ _ _ _ _ _ us hl => match us, hl with | [_], _ => rfl
  have D_law_lag := d33.mk (ps := ["tape"]) X G fun _ _ _ _ _ _ us hl => match us, hl with | [_], _ => rfl
  have D_law_zones := d34.mk (ps := ["tape", "most"]) X G fun _ _ _ _ _ _ us hl => match us, hl with | [_, _], _ => rfl
  have D_law_realm := d35.mk (ps := ["tape", "most"]) X G fun _ _ _ _ _ _ us hl => match us, hl with | [_, _], _ => rfl
  have D_law_chain := d36.mk (ps := ["realm", "name"]) X G fun _ _ _ _ _ _ us hl => match us, hl with | [_, _], _ => rfl
  have D_law_slots := d37.mk (ps := ["realm"]) X G fun _ _ _ _ _ _ us hl => match us, hl with | [_], _ => rfl
  have D_law_home := d38.mk (ps := ["realm", "slot"]) X G fun _ _ _ _ _ _ us hl => match us, hl with | [_, _], _ => rfl
  have D_law_lag_of := d39.mk (ps := ["realm", "slot"]) X G fun _ _ _ _ _ _ us hl => match us, hl with | [_, _], _ => rfl
  have D_law_life := d40.mk (ps := ["tape"]) X G fun _ _ _ _ _ _ us hl => match us, hl with | [_], _ => rfl
  have D_law_pools := d41.mk (ps := ["tape", "realm"]) X G fun _ _ _ _ _ _ us hl => match us, hl with | [_, _], _ => rfl
  have D_law_pool := d42.mk (ps := ["pools", "zone"]) X G fun _ _ _ _ _ _ us hl => match us, hl with | [_, _], _ => rfl
  have D_law_item := d43.mk (ps := ["content", "life", "signers"]) X G fun _ _ _ _ _ _ us hl => match us, hl with | [_, _, _], _ => rfl
  have D_law_first_item := d44.mk (ps := ["tape", "realm", "pools", "slot"]) X G fun _ _ _ _ _ _ us hl => match us, hl with | [_, _, _, _], _ => rfl
  have D_law_fresh := d45.mk (ps := ["realm"]) X G fun _ _ _ _ _ _ us hl => match us, hl with | [_], _ => rfl
  have D_law_bad_realms := d46.mk (ps := ["tape", "realm"]) X G fun _ _ _ _ _ _ us hl => match us, hl with | [_, _], _ => rfl
  have D_law_bad_item := d47.mk (ps := ["tape", "item"]) X G fun _ _ _ _ _ _ us hl => match us, hl with | [_, _], _ => rfl
  have D_law_limits := d48.mk (ps := ["tape", "realm"]) X G fun _ _ _ _ _ _ us hl => match us, hl with | [_, _], _ => rfl
  refine ⟨PySem.W.fnOf "law" "law" (defArgs s_law) (defBody s_law) (defScope s_law) .none kV doc pm an cdv ct, [(c, Pt)], spLaw [(Pt, ("chain.<locals>.<lambda>" : Str))] K, fun p hp => ?_, fun p hp => ?_, fun p hp => ?_, fun s u => .of_eq rfl, fun H a ns hl _ hT hS => ?_, fun base _ _ hTB => ?_⟩
  · rw [List.mem_singleton.mp hp]
    exact hTab
  · rw [List.mem_singleton.mp hp]
    exact nT
  · rw [List.mem_singleton.mp hp]
    exact PySem.W.codeHd_of_K X hcd
  · refine ⟨a, ns, rfl, hS, hl, fun p hp => ?_, fun _ => rfl⟩
    rw [List.mem_singleton.mp hp]
    exact .nil (hT (c, Pt) List.mem_cons_self)
  · have TB : LamX.TabB base mg c Pt := hTB (c, Pt) List.mem_cons_self
    have hmT : (Pt, ("chain.<locals>.<lambda>" : Str)) ∈ [(Pt, ("chain.<locals>.<lambda>" : Str))] := List.mem_cons_self
    have huT : ∀ z ∈ [(Pt, ("chain.<locals>.<lambda>" : Str))], z.1 = Pt → z.2 = ("chain.<locals>.<lambda>" : Str) := fun z hz _ => by rw [List.mem_singleton.mp hz]
    have O_law_tape := ok_law_tape (P := l.prog) (w := w) (base := base) (T := [(Pt, ("chain.<locals>.<lambda>" : Str))]) (D := D_law_tape) (mb := mb)
    have O_law_mix := ok_law_mix (P := l.prog) (w := w) (base := base) (D := D_law_mix) (mb := mb)
    have O_law_take := ok_law_take (P := l.prog) (w := w) (base := base) (T := [(Pt, ("chain.<locals>.<lambda>" : Str))]) (D := D_law_take) (mb := mb) (G_law_mix := O_law_mix)
    have O_law_id := ok_law_id (P := l.prog) (w := w) (base := base) (T := [(Pt, ("chain.<locals>.<lambda>" : Str))]) (D := D_law_id) (mb := mb) (G_law_take := O_law_take)
    have O_law_label := ok_law_label (P := l.prog) (w := w) (base := base) (T := [(Pt, ("chain.<locals>.<lambda>" : Str))]) (D := D_law_label) (mb := mb) (G_law_take := O_law_take) (G_law_id := O_law_id)
    have O_law_labels := ok_law_labels (P := l.prog) (w := w) (base := base) (T := [(Pt, ("chain.<locals>.<lambda>" : Str))]) (D := D_law_labels) (mb := mb) (G_law_label := O_law_label)
    have O_law_lag := ok_law_lag (P := l.prog) (w := w) (base := base) (T := [(Pt, ("chain.<locals>.<lambda>" : Str))]) (D := D_law_lag) (G_law_take := O_law_take)
    have O_law_zones := ok_law_zones (P := l.prog) (w := w) (base := base) (T := [(Pt, ("chain.<locals>.<lambda>" : Str))]) (D := D_law_zones) (mb := mb) (G_law_take := O_law_take) (G_law_labels := O_law_labels) (G_law_lag := O_law_lag)
    have O_law_ids := ok_law_ids (P := l.prog) (w := w) (base := base) (T := [(Pt, ("chain.<locals>.<lambda>" : Str))]) (D := D_law_ids) (mb := mb) (G_law_id := O_law_id)
    have O_law_realm := ok_law_realm (P := l.prog) (w := w) (base := base) (T := [(Pt, ("chain.<locals>.<lambda>" : Str))]) (D := D_law_realm) (mb := mb) (G_law_take := O_law_take) (G_law_zones := O_law_zones) (G_law_label := O_law_label) (G_law_id := O_law_id) (G_law_ids := O_law_ids)
    have O_is_tuple_of := ok_is_tuple_of (P := l.prog) (w := w) (base := base) (D := D_is_tuple_of) (mb := mb)
    have O_is_word := ok_is_word (P := l.prog) (w := w) (base := base) (T := [(Pt, ("chain.<locals>.<lambda>" : Str))]) (D := D_is_word) (mb := mb)
    have O_is_label := ok_is_label (P := l.prog) (w := w) (base := base) (T := [(Pt, ("chain.<locals>.<lambda>" : Str))]) (D := D_is_label) (M := M) (G_is_word := O_is_word)
    have O_is_name := ok_is_name (P := l.prog) (w := w) (base := base) (T := [(Pt, ("chain.<locals>.<lambda>" : Str))]) (D := D_is_name) (mb := mb) (M := M) (G_is_label := O_is_label)
    have O_is_integer_in := ok_is_integer_in (P := l.prog) (w := w) (base := base) (D := D_is_integer_in) (mb := mb)
    have O_is_zone := ok_is_zone (P := l.prog) (w := w) (base := base) (T := [(Pt, ("chain.<locals>.<lambda>" : Str))]) (D := D_is_zone) (M := M) (G_is_tuple_of := O_is_tuple_of) (G_is_name := O_is_name) (G_is_integer_in := O_is_integer_in)
    have O_is_ascending := ok_is_ascending (P := l.prog) (w := w) (base := base) (T := [(Pt, ("chain.<locals>.<lambda>" : Str))]) (D := D_is_ascending) (mb := mb)
    have O_are_zones := ok_are_zones (P := l.prog) (w := w) (base := base) (T := [(Pt, ("chain.<locals>.<lambda>" : Str))]) (D := D_are_zones) (mb := mb) (M := M) (G_is_tuple_of := O_is_tuple_of) (G_is_zone := O_is_zone) (G_is_ascending := O_is_ascending)
    have O_is_id := ok_is_id (P := l.prog) (w := w) (base := base) (T := [(Pt, ("chain.<locals>.<lambda>" : Str))]) (D := D_is_id) (M := M) (G_is_word := O_is_word)
    have O_are_ids := ok_are_ids (P := l.prog) (w := w) (base := base) (T := [(Pt, ("chain.<locals>.<lambda>" : Str))]) (D := D_are_ids) (mb := mb) (G_is_tuple_of := O_is_tuple_of) (G_is_id := O_is_id) (G_is_ascending := O_is_ascending)
    have O_is_set := ok_is_set (P := l.prog) (w := w) (base := base) (T := [(Pt, ("chain.<locals>.<lambda>" : Str))]) (D := D_is_set) (G_is_tuple_of := O_is_tuple_of) (G_is_name := O_is_name) (G_is_id := O_is_id)
    have O_are_sets := ok_are_sets (P := l.prog) (w := w) (base := base) (T := [(Pt, ("chain.<locals>.<lambda>" : Str))]) (D := D_are_sets) (mb := mb) (M := M) (G_is_tuple_of := O_is_tuple_of) (G_is_set := O_is_set) (G_is_ascending := O_is_ascending)
    have O_ends := ok_ends (P := l.prog) (w := w) (base := base) (T := [(Pt, ("chain.<locals>.<lambda>" : Str))]) (D := D_ends) (mb := mb)
    have O_is_used := ok_is_used (P := l.prog) (w := w) (base := base) (T := [(Pt, ("chain.<locals>.<lambda>" : Str))]) (D := D_is_used) (mb := mb) (G_ends := O_ends)
    have O_is_realm := ok_is_realm (P := l.prog) (w := w) (base := base) (T := [(Pt, ("chain.<locals>.<lambda>" : Str))]) (D := D_is_realm) (mb := mb) (M := M) (G_is_tuple_of := O_is_tuple_of) (G_are_zones := O_are_zones) (G_are_ids := O_are_ids) (G_are_sets := O_are_sets) (G_is_used := O_is_used)
    have O_law_limits := ok_limits (P := l.prog) (w := w) (base := base) (T := [(Pt, ("chain.<locals>.<lambda>" : Str))]) (D := D_law_limits) (mb := mb) (M := M) (G_law_id := O_law_id) (G_is_realm := O_is_realm)
    have O_law_fresh := ok_fresh (P := l.prog) (w := w) (base := base) (T := [(Pt, ("chain.<locals>.<lambda>" : Str))]) (D := D_law_fresh) (mb := mb)
    have O_law_bad_realms := ok_bad_realms (P := l.prog) (w := w) (base := base) (T := [(Pt, ("chain.<locals>.<lambda>" : Str))]) (D := D_law_bad_realms) (G_law_take := O_law_take) (G_law_fresh := O_law_fresh)
    have O_zone_names := ok_zone_names (P := l.prog) (w := w) (base := base) (T := [(Pt, ("chain.<locals>.<lambda>" : Str))]) (D := D_zone_names) (mb := mb)
    have O_slots := ok_slots (P := l.prog) (w := w) (base := base) (T := [(Pt, ("chain.<locals>.<lambda>" : Str))]) (D := D_slots) (mb := mb) (G_zone_names := O_zone_names)
    have O_law_slots := ok_law_slots (P := l.prog) (w := w) (base := base) (T := [(Pt, ("chain.<locals>.<lambda>" : Str))]) (D := D_law_slots) (mb := mb)
    have O_labels := ok_labels (P := l.prog) (w := w) (base := base) (T := [(Pt, ("chain.<locals>.<lambda>" : Str))]) (D := D_labels) (mb := mb)
    have O_chain := ok_chain (P := l.prog) (w := w) (base := base) (T := [(Pt, ("chain.<locals>.<lambda>" : Str))]) (D := D_chain) (mb := mb) (TB := TB) (hmT := hmT) (huT := huT) (G_labels := O_labels) (G_ends := O_ends)
    have O_parent := ok_parent (P := l.prog) (w := w) (base := base) (T := [(Pt, ("chain.<locals>.<lambda>" : Str))]) (D := D_parent) (G_zone_names := O_zone_names) (G_chain := O_chain)
    have O_law_chain := ok_law_chain (P := l.prog) (w := w) (base := base) (T := [(Pt, ("chain.<locals>.<lambda>" : Str))]) (D := D_law_chain) (mb := mb)
    have O_law_pools := ok_law_pools (P := l.prog) (w := w) (base := base) (T := [(Pt, ("chain.<locals>.<lambda>" : Str))]) (D := D_law_pools) (mb := mb) (G_law_ids := O_law_ids)
    have O_zone_of := ok_zone_of (P := l.prog) (w := w) (base := base) (T := [(Pt, ("chain.<locals>.<lambda>" : Str))]) (D := D_zone_of) (G_chain := O_chain)
    have O_home := ok_home (P := l.prog) (w := w) (base := base) (T := [(Pt, ("chain.<locals>.<lambda>" : Str))]) (D := D_home) (G_zone_of := O_zone_of) (G_zone_names := O_zone_names) (G_parent := O_parent)
    have O_law_home := ok_law_home (P := l.prog) (w := w) (base := base) (T := [(Pt, ("chain.<locals>.<lambda>" : Str))]) (D := D_law_home) (G_law_chain := O_law_chain)
    have O_lag_of := ok_lag_of (P := l.prog) (w := w) (base := base) (T := [(Pt, ("chain.<locals>.<lambda>" : Str))]) (D := D_lag_of) (mb := mb) (G_home := O_home)
    have O_law_lag_of := ok_law_lag_of (P := l.prog) (w := w) (base := base) (T := [(Pt, ("chain.<locals>.<lambda>" : Str))]) (D := D_law_lag_of) (G_law_home := O_law_home)
    have O_law_life := ok_law_life (P := l.prog) (w := w) (base := base) (T := [(Pt, ("chain.<locals>.<lambda>" : Str))]) (D := D_law_life) (G_law_take := O_law_take)
    have O_law_pool := ok_law_pool (P := l.prog) (w := w) (base := base) (T := [(Pt, ("chain.<locals>.<lambda>" : Str))]) (D := D_law_pool) (mb := mb)
    have O_law_item := ok_law_item (P := l.prog) (w := w) (base := base) (T := [(Pt, ("chain.<locals>.<lambda>" : Str))]) (D := D_law_item) (mb := mb)
    have O_law_first_item := ok_law_first_item (P := l.prog) (w := w) (base := base) (T := [(Pt, ("chain.<locals>.<lambda>" : Str))]) (D := D_law_first_item) (mb := mb) (G_law_take := O_law_take) (G_law_life := O_law_life) (G_law_home := O_law_home) (G_law_pool := O_law_pool) (G_law_item := O_law_item) (G_law_ids := O_law_ids)
    have O_is_slot := ok_is_slot (P := l.prog) (w := w) (base := base) (T := [(Pt, ("chain.<locals>.<lambda>" : Str))]) (D := D_is_slot) (G_slots := O_slots)
    have O_is_item := ok_is_item (P := l.prog) (w := w) (base := base) (T := [(Pt, ("chain.<locals>.<lambda>" : Str))]) (D := D_is_item) (M := M) (G_is_tuple_of := O_is_tuple_of) (G_are_ids := O_are_ids) (G_is_integer_in := O_is_integer_in)
    have O_law_bad_item := ok_bad_item (P := l.prog) (w := w) (base := base) (T := [(Pt, ("chain.<locals>.<lambda>" : Str))]) (D := D_law_bad_item) (G_law_take := O_law_take)
    exact ok_law F_law mb O_law_tape O_law_take O_law_realm O_law_limits O_is_realm O_law_bad_realms O_zone_names O_slots O_law_slots O_parent O_law_chain O_law_pools O_home O_law_home O_lag_of O_law_lag_of O_law_first_item O_is_slot O_is_item O_law_bad_item
end NK
open PySem.W
set_option maxHeartbeats 0 in
theorem PySem.Challenge.cw_neverdark_k20_forms_of_realms_holds : PySem.Challenge.rw_neverdark_k20_forms_of_realms.Holds := by
  w_on; o_law; k_head; (case hw => w_witness2)
  k_fill
  refine LamX.walk_ofTs (l := PySem.Challenge.rw_neverdark_k20_forms_of_realms) (n := 63) (k := 8) (x := "script") (CX := fun _ => L2.CX0) rfl (by decide) rfl ⟨rfl, by decide, by decide⟩ (fun w h Y => Y.1) ?F (fun _ _ _ _ _ h => h)
  case F =>
    intro w mg fa h Y KX G hmg
    refine' NK.all_mk KX G hmg (Y.2 _ List.mem_cons_self) ?nT ?hcd ?d1 ?d2 ?d3 ?d4 ?d5 ?d6 ?d7 ?d8 ?d9 ?d10 ?d11 ?d12 ?d13 ?d14 ?d15 ?d16 ?d17 ?d18 ?d19 ?d20 ?d21 ?d22 ?d23 ?d24 ?d25 ?d26 ?d27 ?d28 ?d29 ?d30 ?d31 ?d32 ?d33 ?d34 ?d35 ?d36 ?d37 ?d38 ?d39 ?d40 ?d41 ?d42 ?d43 ?d44 ?d45 ?d46 ?d47 ?d48 ?d49 ?mb ?c1 ?c2 ?c3 ?c4 ?c5 ?c6 ?c7 ?c8 ?c9 ?c10 ?c11 ?c12 ?c13
    case nT => exact rfl
    case d1 => (refine' NK.DefIn.of ?x1 ?x2 ?x3 ?x4; (case x1 => k_is); (case x2 => k_is); (case x3 => k_is); (case x4 => k_is))
    case d2 => (refine' NK.DefIn.of ?x1 ?x2 ?x3 ?x4; (case x1 => k_is); (case x2 => k_is); (case x3 => k_is); (case x4 => k_is))
    case d3 => (refine' NK.DefIn.of ?x1 ?x2 ?x3 ?x4; (case x1 => k_is); (case x2 => k_is); (case x3 => k_is); (case x4 => k_is))
    case d4 => (refine' NK.DefIn.of ?x1 ?x2 ?x3 ?x4; (case x1 => k_is); (case x2 => k_is); (case x3 => k_is); (case x4 => k_is))
    case d5 => (refine' NK.DefIn.of ?x1 ?x2 ?x3 ?x4; (case x1 => k_is); (case x2 => k_is); (case x3 => k_is); (case x4 => k_is))
    case d6 => (refine' NK.DefIn.of ?x1 ?x2 ?x3 ?x4; (case x1 => k_is); (case x2 => k_is); (case x3 => k_is); (case x4 => k_is))
    case d7 => (refine' NK.DefIn.of ?x1 ?x2 ?x3 ?x4; (case x1 => k_is); (case x2 => k_is); (case x3 => k_is); (case x4 => k_is))
    case d8 => (refine' NK.DefIn.of ?x1 ?x2 ?x3 ?x4; (case x1 => k_is); (case x2 => k_is); (case x3 => k_is); (case x4 => k_is))
    case d9 => (refine' NK.DefIn.of ?x1 ?x2 ?x3 ?x4; (case x1 => k_is); (case x2 => k_is); (case x3 => k_is); (case x4 => k_is))
    case d10 => (refine' NK.DefInC.of ?x1 ?x2 ?x3 ?x4; (case x1 => k_is); (case x2 => k_is); (case x3 => k_is); (case x4 => k_is))
    case d11 => (refine' NK.DefIn.of ?x1 ?x2 ?x3 ?x4; (case x1 => k_is); (case x2 => k_is); (case x3 => k_is); (case x4 => k_is))
    case d12 => (refine' NK.DefIn.of ?x1 ?x2 ?x3 ?x4; (case x1 => k_is); (case x2 => k_is); (case x3 => k_is); (case x4 => k_is))
    case d13 => (refine' NK.DefIn.of ?x1 ?x2 ?x3 ?x4; (case x1 => k_is); (case x2 => k_is); (case x3 => k_is); (case x4 => k_is))
    case d14 => (refine' NK.DefIn.of ?x1 ?x2 ?x3 ?x4; (case x1 => k_is); (case x2 => k_is); (case x3 => k_is); (case x4 => k_is))
    case d15 => (refine' NK.DefIn.of ?x1 ?x2 ?x3 ?x4; (case x1 => k_is); (case x2 => k_is); (case x3 => k_is); (case x4 => k_is))
    case d16 => (refine' NK.DefIn.of ?x1 ?x2 ?x3 ?x4; (case x1 => k_is); (case x2 => k_is); (case x3 => k_is); (case x4 => k_is))
    case d17 => (refine' NK.DefIn.of ?x1 ?x2 ?x3 ?x4; (case x1 => k_is); (case x2 => k_is); (case x3 => k_is); (case x4 => k_is))
    case d18 => (refine' NK.DefIn.of ?x1 ?x2 ?x3 ?x4; (case x1 => k_is); (case x2 => k_is); (case x3 => k_is); (case x4 => k_is))
    case d19 => (refine' NK.DefIn.of ?x1 ?x2 ?x3 ?x4; (case x1 => k_is); (case x2 => k_is); (case x3 => k_is); (case x4 => k_is))
    case d20 => (refine' NK.DefIn.of ?x1 ?x2 ?x3 ?x4; (case x1 => k_is); (case x2 => k_is); (case x3 => k_is); (case x4 => k_is))
    case d21 => (refine' NK.DefIn.of ?x1 ?x2 ?x3 ?x4; (case x1 => k_is); (case x2 => k_is); (case x3 => k_is); (case x4 => k_is))
    case d22 => (refine' NK.DefIn.of ?x1 ?x2 ?x3 ?x4; (case x1 => k_is); (case x2 => k_is); (case x3 => k_is); (case x4 => k_is))
    case d23 => (refine' NK.DefIn.of ?x1 ?x2 ?x3 ?x4; (case x1 => k_is); (case x2 => k_is); (case x3 => k_is); (case x4 => k_is))
    case d24 => (refine' NK.DefIn.of ?x1 ?x2 ?x3 ?x4; (case x1 => k_is); (case x2 => k_is); (case x3 => k_is); (case x4 => k_is))
    case d25 => (refine' NK.DefIn.of ?x1 ?x2 ?x3 ?x4; (case x1 => k_is); (case x2 => k_is); (case x3 => k_is); (case x4 => k_is))
    case d26 => (refine' NK.DefIn.of ?x1 ?x2 ?x3 ?x4; (case x1 => k_is); (case x2 => k_is); (case x3 => k_is); (case x4 => k_is))
    case d27 => (refine' NK.DefIn.of ?x1 ?x2 ?x3 ?x4; (case x1 => k_is); (case x2 => k_is); (case x3 => k_is); (case x4 => k_is))
    case d28 => (refine' NK.DefIn.of ?x1 ?x2 ?x3 ?x4; (case x1 => k_is); (case x2 => k_is); (case x3 => k_is); (case x4 => k_is))
    case d29 => (refine' NK.DefIn.of ?x1 ?x2 ?x3 ?x4; (case x1 => k_is); (case x2 => k_is); (case x3 => k_is); (case x4 => k_is))
    case d30 => (refine' NK.DefIn.of ?x1 ?x2 ?x3 ?x4; (case x1 => k_is); (case x2 => k_is); (case x3 => k_is); (case x4 => k_is))
    case d31 => (refine' NK.DefIn.of ?x1 ?x2 ?x3 ?x4; (case x1 => k_is); (case x2 => k_is); (case x3 => k_is); (case x4 => k_is))
    case d32 => (refine' NK.DefIn.of ?x1 ?x2 ?x3 ?x4; (case x1 => k_is); (case x2 => k_is); (case x3 => k_is); (case x4 => k_is))
    case d33 => (refine' NK.DefIn.of ?x1 ?x2 ?x3 ?x4; (case x1 => k_is); (case x2 => k_is); (case x3 => k_is); (case x4 => k_is))
    case d34 => (refine' NK.DefIn.of ?x1 ?x2 ?x3 ?x4; (case x1 => k_is); (case x2 => k_is); (case x3 => k_is); (case x4 => k_is))
    case d35 => (refine' NK.DefIn.of ?x1 ?x2 ?x3 ?x4; (case x1 => k_is); (case x2 => k_is); (case x3 => k_is); (case x4 => k_is))
    case d36 => (refine' NK.DefIn.of ?x1 ?x2 ?x3 ?x4; (case x1 => k_is); (case x2 => k_is); (case x3 => k_is); (case x4 => k_is))
    case d37 => (refine' NK.DefIn.of ?x1 ?x2 ?x3 ?x4; (case x1 => k_is); (case x2 => k_is); (case x3 => k_is); (case x4 => k_is))
    case d38 => (refine' NK.DefIn.of ?x1 ?x2 ?x3 ?x4; (case x1 => k_is); (case x2 => k_is); (case x3 => k_is); (case x4 => k_is))
    case d39 => (refine' NK.DefIn.of ?x1 ?x2 ?x3 ?x4; (case x1 => k_is); (case x2 => k_is); (case x3 => k_is); (case x4 => k_is))
    case d40 => (refine' NK.DefIn.of ?x1 ?x2 ?x3 ?x4; (case x1 => k_is); (case x2 => k_is); (case x3 => k_is); (case x4 => k_is))
    case d41 => (refine' NK.DefIn.of ?x1 ?x2 ?x3 ?x4; (case x1 => k_is); (case x2 => k_is); (case x3 => k_is); (case x4 => k_is))
    case d42 => (refine' NK.DefIn.of ?x1 ?x2 ?x3 ?x4; (case x1 => k_is); (case x2 => k_is); (case x3 => k_is); (case x4 => k_is))
    case d43 => (refine' NK.DefIn.of ?x1 ?x2 ?x3 ?x4; (case x1 => k_is); (case x2 => k_is); (case x3 => k_is); (case x4 => k_is))
    case d44 => (refine' NK.DefIn.of ?x1 ?x2 ?x3 ?x4; (case x1 => k_is); (case x2 => k_is); (case x3 => k_is); (case x4 => k_is))
    case d45 => (refine' NK.DefIn.of ?x1 ?x2 ?x3 ?x4; (case x1 => k_is); (case x2 => k_is); (case x3 => k_is); (case x4 => k_is))
    case d46 => (refine' NK.DefIn.of ?x1 ?x2 ?x3 ?x4; (case x1 => k_is); (case x2 => k_is); (case x3 => k_is); (case x4 => k_is))
    case d47 => (refine' NK.DefIn.of ?x1 ?x2 ?x3 ?x4; (case x1 => k_is); (case x2 => k_is); (case x3 => k_is); (case x4 => k_is))
    case d48 => (refine' NK.DefIn.of ?x1 ?x2 ?x3 ?x4; (case x1 => k_is); (case x2 => k_is); (case x3 => k_is); (case x4 => k_is))
    case d49 => (refine' NK.DefIn.of ?x1 ?x2 ?x3 ?x4; (case x1 => k_is); (case x2 => k_is); (case x3 => k_is); (case x4 => k_is))
    case hcd => exact rfl
    case mb =>
      intro x hx
      rcases List.mem_cons.mp hx with e | hx
      · rw [e]; k_is
      rcases List.mem_cons.mp hx with e | hx
      · rw [e]; k_is
      rcases List.mem_cons.mp hx with e | hx
      · rw [e]; k_is
      rcases List.mem_cons.mp hx with e | hx
      · rw [e]; k_is
      rcases List.mem_cons.mp hx with e | hx
      · rw [e]; k_is
      rcases List.mem_cons.mp hx with e | hx
      · rw [e]; k_is
      rcases List.mem_cons.mp hx with e | hx
      · rw [e]; k_is
      rcases List.mem_cons.mp hx with e | hx
      · rw [e]; k_is
      rcases List.mem_cons.mp hx with e | hx
      · rw [e]; k_is
      rcases List.mem_cons.mp hx with e | hx
      · rw [e]; k_is
      rcases List.mem_cons.mp hx with e | hx
      · rw [e]; k_is
      rcases List.mem_cons.mp hx with e | hx
      · rw [e]; k_is
      rcases List.mem_cons.mp hx with e | hx
      · rw [e]; k_is
      rcases List.mem_cons.mp hx with e | hx
      · rw [e]; k_is
      rcases List.mem_cons.mp hx with e | hx
      · rw [e]; k_is
      rcases List.mem_cons.mp hx with e | hx
      · rw [e]; k_is
      rcases List.mem_cons.mp hx with e | hx
      · rw [e]; k_is
      rcases List.mem_cons.mp hx with e | hx
      · rw [e]; k_is
      cases hx
    case c1 => refine' NK.cstS_of ?x; (case x => k_is)
    case c2 => refine' NK.cstI_of ?x; (case x => k_is)
    case c3 => refine' NK.cstI_of ?x; (case x => k_is)
    case c4 => refine' NK.cstI_of ?x; (case x => k_is)
    case c5 => refine' NK.cstI_of ?x; (case x => k_is)
    case c6 => refine' NK.cstI_of ?x; (case x => k_is)
    case c7 => refine' NK.cstI_of ?x; (case x => k_is)
    case c8 => refine' NK.cstI_of ?x; (case x => k_is)
    case c9 => refine' NK.cstI_of ?x; (case x => k_is)
    case c10 => refine' NK.cstI_of ?x; (case x => k_is)
    case c11 => refine' NK.cstI_of ?x; (case x => k_is)
    case c12 => refine' NK.cstI_of ?x; (case x => k_is)
    case c13 => refine' NK.cstI_of ?x; (case x => k_is)
