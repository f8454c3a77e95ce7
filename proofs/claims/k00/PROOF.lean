import PyProof.Rows.All
import Wide.All
import OpenK.AllK
import Wide.FinOn
import PySem.Challenge.RW_neverdark_k00_names
import HandS.ForMost
import HandS.Walk
import HandS.IsInst
import HandS.Style
import HandS.FStr
import HandS.WideBits
import HandS.Deep
import HandS.Steps
import HandS.Lambda
import HandS.EndTab
import KE.SortKeyHeap
import KE.DatumOrd
set_option Elab.async false
set_option linter.all false
set_option maxRecDepth 100000
set_option maxHeartbeats 4000000
namespace NK
open PySem PySem.Spec PyProof.Rows L2
/-! ### a def of the text that keeps a promise, found by its name -/
def Ok (P : Program) (w : World) (K : PySem.W.Frag) (mg : Str → Option Value) (base : Heap) (k : Nat) (x : Str) (ps : List Str) (sp : Sp) : Prop :=
  ∃ (f : Addr) (fd : FuncData), FnOk P w K mg base CX0 k f fd ps sp ∧ mg x = some (.ref f) ∧ PySem.W.keepIn K (.ref f) = true ∧ Binds K fd ps []
def Def (K : PySem.W.Frag) (mg : Str → Option Value) (x : Str) (st : Stmt) (ps : List Str) : Prop :=
  ∃ (f : Addr) (fd : FuncData), Fun K x x st f fd ∧ mg x = some (.ref f) ∧ Binds K fd ps []
section
variable {P : Program} {w : World} {K : PySem.W.Frag} {mg : Str → Option Value} {base : Heap}
theorem Def.ok {x : Str} {st : Stmt} {N ps : List Str} {k : Nat} {sp : Sp} (D : Def K mg x st ps) (S : FnScope N ps (defScope st)) (len : ∀ vs H Q E, sp vs H Q E → vs.length = ps.length)
    (hbody : ∀ (cdv : Value) (f : Addr) (A : Around) (outer : List Env) (s : Shared) (H : Hp) (vs : List V) (Q : VK) (E : XK), Room k (A.deeper (envOfC x (defScope st) s.heap.objs.size f cdv)) → sp vs H Q E →
      ∃ t, PSs (cxOf CX0 P w K mg base N x (defScope st) f cdv A outer s H E).nox (defBody st) t ∧ t { nx := fun _ H' => Q .non H', rt := Q } (start N vs) H) : Ok P w K mg base (k + 1) x ps sp := by
  obtain ⟨f, fd, F, hm, hb⟩ := D
  exact ⟨f, fd, F.ok S len fun cdv A outer s H vs Q E hr h => hbody cdv f A outer s H vs Q E hr h, hm, F.kp, hb⟩
theorem Ok.mono {j k : Nat} {x : Str} {ps : List Str} {sp : Sp} (h : Ok P w K mg base j x ps sp) (hk : j ≤ k) : Ok P w K mg base k x ps sp := by
  obtain ⟨f, fd, F, r⟩ := h
  exact ⟨f, fd, F.mono hk, r⟩
end
section
variable {X : Cx}
theorem pe_callO {x : Str} {p pos : Pos} {e : Expr} {es : List Expr} {t : TA} {k : Nat} {ps : List Str} {sp : Sp} (h : Ok X.prog X.w X.K X.mg X.base k x ps sp) (hr : Room k X.A) (hg : Gl X x) (ha : PA X (e :: es) t)
    (hdb : (x == ("__debug__" : Str)) = false := by decide) (he : starEach (e :: es) X.env = (false, eval e X.env) :: starEach es X.env := by rfl) (hpl : (backTo pos (starEach es X.env)).any (·.1) = false := by rfl) :
    PE X (.Call (.Name x p) (e :: es) [] pos) (tCall sp [] E0 t) := by
  obtain ⟨f, fd, F, hm, hk, hb⟩ := h
  exact pe_call F hr hg hm hk hb .nil pass0 ha hdb he hpl
/-- a module's constant -/
theorem pe_glS {x : Str} {z : Str} {pos : Pos} (hg : Gl X x) (hm : ∃ t, X.mg x = some (.str z t)) (hd : (x == ("__debug__" : Str)) = false := by decide) : PE X (.Name x pos) (tC (.str z)) := by
  obtain ⟨t, hm⟩ := hm
  exact pe_glob hg hm ⟨t, rfl⟩ hd
theorem pe_glI {x : Str} {z : Int} {pos : Pos} (hg : Gl X x) (hm : ∃ t, X.mg x = some (.int z t)) (hd : (x == ("__debug__" : Str)) = false := by decide) : PE X (.Name x pos) (tC (.int z)) := by
  obtain ⟨t, hm⟩ := hm
  exact pe_glob hg hm ⟨t, rfl⟩ hd
/-! ### one rule for each sign, whatever its operands are; K is the written part by its name -/
def rPlus (K : PySem.W.Frag) : R2 := fun x y H Q => (rI0 (fun i j => .int (i + j)) x y H Q) ∨ (∃ i j, x = .str i ∧ y = .str j ∧ i.length + j.length ≤ sizeLine ∧ Q (.str (i ++ j)) H) ∨ (rCat x y H Q) ∨ (rCatT K x y H Q)
theorem op_plus (K : PySem.W.Frag) (hK : X.K = K) : OpR X (binaryOp .Add) (rPlus K) := by
  subst hK
  exact op_add.or (op_add_str.or (op_cat.or op_catT))
def rEqU (K : PySem.W.Frag) : R2 := fun x y H Q => rEq x y H Q ∨ rEqD K x y H Q
def rNeU (K : PySem.W.Frag) : R2 := fun x y H Q => rNe x y H Q ∨ rNeD K x y H Q
theorem op_eqU (K : PySem.W.Frag) (hK : X.K = K) (hu : X.A.units + 64 < cLine) : OpR X (compareOp .Eq) (rEqU K) := by
  subst hK
  exact op_eq.or (op_eqD hu)
theorem op_neU (K : PySem.W.Frag) (hK : X.K = K) (hu : X.A.units + 64 < cLine) : OpR X (compareOp .NotEq) (rNeU K) := by
  subst hK
  exact op_ne.or (op_neD hu)
def rInU (K : PySem.W.Frag) : R2 := fun x y H Q => rIn K false x y H Q ∨ rInS x y H Q
def rNinU (K : PySem.W.Frag) : R2 := fun x y H Q => rIn K true x y H Q ∨ rNotInS x y H Q
theorem op_inU (K : PySem.W.Frag) (hK : X.K = K) : OpR X (compareOp .In) (rInU K) := by
  subst hK
  exact op_in_seq.or op_in_sign
theorem op_ninU (K : PySem.W.Frag) (hK : X.K = K) : OpR X (compareOp .NotIn) (rNinU K) := by
  subst hK
  exact op_notIn_seq.or op_notIn_sign
def rIsU : R2 := fun x y H Q => rIsB x y H Q ∨ rIsN x y H Q
def rIsNU : R2 := fun x y H Q => rNotB x y H Q ∨ rNotN x y H Q
theorem op_isU : OpR X (compareOp .Is) rIsU := op_isBl.or op_isN
theorem op_isnotU : OpR X (compareOp .IsNot) rIsNU := op_notBl.or op_notN
theorem ix_U (K : PySem.W.Frag) (hK : X.K = K) : IxR X (rIx K) := by
  subst hK
  exact ix_seq
def rSlU (K : PySem.W.Frag) : V → Option Int → Option Int → Hp → VK → Prop := fun x lo hi H Q => rSlL K x lo hi H Q ∨ rSlS x lo hi H Q ∨ rSlT K x lo hi H Q
theorem sl_U (K : PySem.W.Frag) (hK : X.K = K) : SlR X (rSlU K) := by
  subst hK
  exact sl_list.or (sl_str.or sl_tup)
def rLenU (K : PySem.W.Frag) : List V → Hp → VK → Prop := fun xs H Q => (∃ z, xs = [.str z] ∧ z.length ≤ sizeLine ∧ Q (.int z.length) H) ∨ (∃ p ys, xs = [.ref p] ∧ (SqL K H p ys ∨ SqT K H p ys) ∧ Q (.int ys.length) H)
theorem call_lenU (K : PySem.W.Frag) (hK : X.K = K) : CallR X (.builtin "len") (rLenU K) := by
  subst hK
  exact call_len_str.or call_len_seq
def rInt1 : List V → Hp → VK → Prop := fun xs H Q => (∃ i, xs = [.int i] ∧ Q (.int i) H) ∨ ∃ k, xs = [.bl k] ∧ Q (.int (if k then 1 else 0)) H
theorem call_int1U : CallR X (.type "int") rInt1 := call_int1
def rListOf (K : PySem.W.Frag) : List V → Hp → VK → Prop := fun xs H Q => ∃ p ys, xs = [.ref p] ∧ (SqL K H p ys ∨ SqT K H p ys) ∧ ∀ l, H l = none → Q (.ref l) (upd H l (.lst ys))
theorem call_listU (K : PySem.W.Frag) (hK : X.K = K) : CallR X (.type "list") (rListOf K) := by
  subst hK
  exact call_list_of
def rTupOf (K : PySem.W.Frag) : List V → Hp → VK → Prop := fun xs H Q => ∃ p ys, xs = [.ref p] ∧ ((SqL K H p ys ∧ ∀ l, H l = none → Q (.ref l) (upd H l (.tup ys))) ∨ (SqT K H p ys ∧ Q (.ref p) H))
theorem call_tupU (K : PySem.W.Frag) (hK : X.K = K) : CallR X (.type "tuple") (rTupOf K) := by
  subst hK
  exact call_tuple_of
theorem call_allU (K : PySem.W.Frag) (hK : X.K = K) (hc : X.calm = true) : CallR X (.builtin "all") (rAll K) := by
  subst hK
  exact cr_all hc
theorem call_anyU (K : PySem.W.Frag) (hK : X.K = K) (hc : X.calm = true) : CallR X (.builtin "any") (rAny K) := by
  subst hK
  exact cr_any hc
theorem call_isiU (K : PySem.W.Frag) (hK : X.K = K) : CallR X (.builtin "isinstance") (rIsi K) := by
  subst hK
  exact call_isi
def rSplit : V → List V → Hp → VK → Prop := fun x xs H Q => ∃ a b, x = .str a ∧ xs = [.str b] ∧ (b.length == 0) = false ∧ a.length + 2 ≤ sizeLine ∧ rNewStrs (Txt.split a b) H Q
def rJoin (K : PySem.W.Frag) : V → List V → Hp → VK → Prop := fun x xs H Q => ∃ a p, ∃ ys : List Str, x = .str a ∧ xs = [.ref p] ∧ (SqL K H p (ys.map V.str) ∨ SqT K H p (ys.map V.str)) ∧ (ys.map (·.length)).sum + ys.length * a.length ≤ 16777216 ∧ Q (.str (Txt.join a ys)) H
def rEndsW : V → List V → Hp → VK → Prop := fun x xs H Q => ∃ a b, x = .str a ∧ xs = [.str b] ∧ Q (.bl (Txt.endswith a b)) H
theorem mt_splitU : MtR X "str.split" rSplit := mt_split
theorem mt_endsU : MtR X "str.endswith" rEndsW := mt_endswith
theorem mt_joinU (K : PySem.W.Frag) (hK : X.K = K) : MtR X "str.join" (rJoin K) := by
  subst hK
  exact mt_join
theorem pt_E {e : Expr} {t : TE} (h : PE X e t) (he : ∀ whole, isTrue e X.env whole = (do let v ← whole; standAt e.pos; holding [v] (truthy v)) := by intro _; rfl) : PT X e (tB t) := pt_val h he
theorem pe_rev (K : PySem.W.Frag) (hK : X.K = K) {e : Expr} {te : TE} {k : Nat} {p1 p2 p3 pos : Pos} (he : PE X e te) : PE X (.Subscript e (.Slice none none (some (.UnaryOp .USub (.Constant (.int 1) k p1) p2)) p3) pos) (tRevL K te) := by
  subst hK
  exact pe_revL he
end
/-! ### steps of a reading -/
section
variable {K : PySem.W.Frag} {σ : L2.St} {H : Hp} {Q : VK} {te ta tb : TE} {D : Ends} {nx : L2.St → Hp → Prop} {rt : VK} {bk ct : L2.St → Hp → Prop}
theorem rd_var {i : Nat} {v : V} (h : σ[i]? = some (some v)) (q : Q v H) : tVar i σ H Q := ⟨v, h, q⟩
theorem rd_c {v : V} (q : Q v H) : tC v σ H Q := q
theorem rd_op {r : R2} (q : ta σ H fun x H1 => tb σ H1 fun y H2 => r x y H2 Q) : tOp r ta tb σ H Q := q
theorem rd_un {r : V → Hp → VK → Prop} (q : ta σ H fun x H1 => r x H1 Q) : tUn r ta σ H Q := q
theorem rd_i0 {f : Int → Int → V} {i j : Int} (q : Q (f i j) H) : rI0 f (.int i) (.int j) H Q := ⟨i, j, rfl, rfl, q⟩
theorem rd_i {C : Int → Int → Prop} {f : Int → Int → V} {i j : Int} (c : C i j) (q : Q (f i j) H) : rI C f (.int i) (.int j) H Q := ⟨i, j, rfl, rfl, c, q⟩
theorem rd_plusI {i j : Int} (q : Q (.int (i + j)) H) : rPlus K (.int i) (.int j) H Q := .inl ⟨i, j, rfl, rfl, q⟩
theorem rd_plusS {i j : Str} (c : i.length + j.length ≤ sizeLine) (q : Q (.str (i ++ j)) H) : rPlus K (.str i) (.str j) H Q := .inr (.inl ⟨i, j, rfl, rfl, c, q⟩)
theorem rd_uI {f : Int → Int} {i : Int} (q : Q (.int (f i)) H) : rU (fun i => .int (f i)) (.int i) H Q := ⟨i, rfl, q⟩
theorem rd_eqS {x y : V} (h : scal x y = true) (q : Q (.bl (decide (x = y))) H) : rEqU K x y H Q := .inl ⟨h, q⟩
theorem rd_neS {x y : V} (h : scal x y = true) (q : Q (.bl (!decide (x = y))) H) : rNeU K x y H Q := .inl ⟨h, q⟩
theorem rd_ixL {p : Addr} {xs : List V} {i : Int} {v : V} (h : SqL K H p xs) (a : atI xs i = some v) (q : Q v H) : rIx K (.ref p) (.int i) H Q := .inl ⟨p, xs, i, v, rfl, rfl, h, a, q⟩
theorem rd_ixT {p : Addr} {xs : List V} {i : Int} {v : V} (h : SqT K H p xs) (a : atI xs i = some v) (q : Q v H) : rIx K (.ref p) (.int i) H Q := .inr (.inl ⟨p, xs, i, v, rfl, rfl, h, a, q⟩)
theorem rd_B {Q : Bool → Hp → Prop} (q : te σ H fun v H1 => ∃ b, v = .bl b ∧ Q b H1) : tB te σ H Q := q
theorem rd_bl {b : Bool} {Q : Bool → Prop} (q : Q b) : ∃ c, V.bl b = .bl c ∧ Q c := ⟨b, rfl, q⟩
theorem rd_if {c : TT} {t u : TS} (q : c σ H fun b H1 => if b = true then t D σ H1 else u D σ H1) : tIfS c t u D σ H := q
theorem rd_ifE {c : TT} (q : c σ H fun b H1 => if b = true then ta σ H1 Q else tb σ H1 Q) : tIf c ta tb σ H Q := q
theorem rd_seq {t u : TS} (q : t ⟨fun σ H => u ⟨nx, rt, bk, ct⟩ σ H, rt, bk, ct⟩ σ H) : tSeq t u ⟨nx, rt, bk, ct⟩ σ H := q
theorem rd_next (q : nx σ H) : tNext ⟨nx, rt, bk, ct⟩ σ H := q
theorem rd_asg {g : TG} (q : te σ H fun x H1 => g x σ H1 nx) : tAsg te g ⟨nx, rt, bk, ct⟩ σ H := q
theorem rd_name {i : Nat} {v : V} {Q : L2.St → Hp → Prop} (q : Q (σ.set i (some v)) H) : gName i v σ H Q := q
theorem rd_ret (q : te σ H rt) : tRet te ⟨nx, rt, bk, ct⟩ σ H := q
theorem rd_drop (q : te σ H fun _ H1 => nx σ H1) : tDrop te ⟨nx, rt, bk, ct⟩ σ H := q
theorem rd_call {sp : Sp} {E : XK} {t : TA} (q : t σ H fun vs H1 => sp (vs ++ []) H1 Q E) : tCall sp [] E t σ H Q := q
theorem rd_cons {tr : TA} {Q : List V → Hp → Prop} (q : ta σ H fun x H1 => tr σ H1 fun xs H2 => Q (x :: xs) H2) : tCons ta tr σ H Q := q
theorem rd_nil {Q : List V → Hp → Prop} (q : Q [] H) : tNil σ H Q := q
theorem rd_cb {r : List V → Hp → VK → Prop} {t : TA} (q : t σ H fun vs H1 => r vs H1 Q) : tCB r t σ H Q := q
theorem rd_sub {to ti : TE} {t : TSet} {v : V} {Q : L2.St → Hp → Prop} (q : to σ H fun o H1 => ti σ H1 fun i H2 => t o i v H2 fun H3 => Q σ H3) : gSub to ti t v σ H Q := q
theorem rd_not (q : ta σ H fun x H1 => ∃ c, x = .bl c ∧ Q (.bl (!c)) H1) : tNotV ta σ H Q := q
theorem rd_and (q : ta σ H fun x H1 => ∃ c, x = .bl c ∧ if c = true then tb σ H1 Q else Q (.bl false) H1) : tAndV ta tb σ H Q := q
theorem rd_or (q : ta σ H fun x H1 => ∃ c, x = .bl c ∧ if c = true then Q (.bl true) H1 else tb σ H1 Q) : tOrV ta tb σ H Q := q
theorem rd_T {Q : Bool → Hp → Prop} (q : te σ H fun v H1 => ∃ b, v = .bl b ∧ Q b H1) : tTest te σ H Q := q
theorem rd_tnot {t : TT} {Q : Bool → Hp → Prop} (q : t σ H fun c H1 => Q (!c) H1) : tNot t σ H Q := q
theorem rd_tand {t u : TT} {Q : Bool → Hp → Prop} (q : t σ H fun c H1 => if c = true then u σ H1 Q else Q false H1) : tAnd t u σ H Q := q
theorem rd_tor {t u : TT} {Q : Bool → Hp → Prop} (q : t σ H fun c H1 => if c = true then Q true H1 else u σ H1 Q) : tOr t u σ H Q := q
theorem rd_chain {r r' : R2} {tc : TE} (q : ta σ H fun x H1 => tb σ H1 fun y H2 => r x y H2 fun z H3 => ∃ k, z = .bl k ∧ (if k = true then tc σ H3 fun w' H4 => r' y w' H4 Q else Q (.bl false) H3)) : tChain r r' ta tb tc σ H Q := q
theorem rd_ite {p A B : Prop} [Decidable p] (h1 : p → A) (h2 : ¬ p → B) : if decide p = true then A else B := by
  by_cases h : p
  · rw [if_pos (decide_eq_true h)]
    exact h1 h
  · rw [if_neg (by rw [decide_eq_false h]; decide)]
    exact h2 h
theorem rd_itn {p A B : Prop} [Decidable p] (h1 : p → B) (h2 : ¬ p → A) : if (!decide p) = true then A else B := by
  by_cases h : p
  · rw [decide_eq_true h]
    exact h1 h
  · rw [decide_eq_false h]
    exact h2 h
theorem rd_len {z : Str} (h : z.length ≤ sizeLine) (q : Q (.int z.length) H) : rLenU K [.str z] H Q := .inl ⟨z, rfl, h, q⟩
theorem rd_lenL {p : Addr} {ys : List V} (h : SqL K H p ys) (q : Q (.int ys.length) H) : rLenU K [.ref p] H Q := .inr ⟨p, ys, rfl, .inl h, q⟩
theorem rd_int1 {i : Int} (q : Q (.int i) H) : rInt1 [.int i] H Q := .inl ⟨i, rfl, q⟩
theorem rd_listL {p : Addr} {ys : List V} (h : SqL K H p ys) (q : ∀ l, H l = none → Q (.ref l) (upd H l (.lst ys))) : rListOf K [.ref p] H Q := ⟨p, ys, rfl, .inl h, q⟩
theorem rd_tupL {p : Addr} {ys : List V} (h : SqL K H p ys) (q : ∀ l, H l = none → Q (.ref l) (upd H l (.tup ys))) : rTupOf K [.ref p] H Q := ⟨p, ys, rfl, .inl ⟨h, q⟩⟩
theorem rd_m1 {r : V → List V → Hp → VK → Prop} (q : ta σ H fun x H1 => (∃ a, x = .str a) ∧ tb σ H1 fun y H2 => r x [y] H2 Q) : tM1 r ta tb σ H Q := q
theorem rd_split {a b : Str} (hb : (b.length == 0) = false) (ha : a.length + 2 ≤ sizeLine) (q : ∀ p, H p = none → Q (.ref p) (upd H p (.lst ((Txt.split a b).map V.str)))) : rSplit (.str a) [.str b] H Q := ⟨a, b, rfl, rfl, hb, ha, q⟩
theorem rd_ends {a b : Str} (q : Q (.bl (Txt.endswith a b)) H) : rEndsW (.str a) [.str b] H Q := ⟨a, b, rfl, rfl, q⟩
theorem rd_join {a : Str} {p : Addr} {ys : List Str} (h : SqL K H p (ys.map V.str)) (c : (ys.map (·.length)).sum + ys.length * a.length ≤ 16777216) (q : Q (.str (Txt.join a ys)) H) : rJoin K (.str a) [.ref p] H Q := ⟨a, p, ys, rfl, rfl, .inl h, c, q⟩
theorem rd_inS {c : Nat} {z : Str} (q : Q (.bl (decide (c ∈ z.cps.toList))) H) : rInU K (.str ⟨#[c]⟩) (.str z) H Q := .inr ⟨c, z, rfl, rfl, q⟩
theorem rd_ninS {c : Nat} {z : Str} (q : Q (.bl (!decide (c ∈ z.cps.toList))) H) : rNinU K (.str ⟨#[c]⟩) (.str z) H Q := .inr ⟨c, z, rfl, rfl, q⟩
theorem rd_all {a : Addr} {bs : List Bool} (h : SqL K H a (bs.map V.bl)) (q : Q (.bl (bs.all id)) H) : rAll K [.ref a] H Q := ⟨a, bs, rfl, h, q⟩
theorem rd_isStr {z : Str} (q : Q (.bl true) H) : rIsi K [.str z, .ty "str"] H Q := ⟨_, _, _, _, true, rfl, .ty _, .base (.str _), rfl, q⟩
theorem rd_lst {t : TA} (q : t σ H fun xs H1 => xs.length ≤ sizeLine ∧ ∀ p, H1 p = none → Q (.ref p) (upd H1 p (.lst xs))) : tLst t σ H Q := q
theorem rd_tup {t : TA} (q : t σ H fun xs H1 => xs.length ≤ sizeLine ∧ ∀ p, H1 p = none → Q (.ref p) (upd H1 p (.tup xs))) : tTup t σ H Q := q
theorem rd_set {p : Addr} {k : Int} {v : V} {xs : List V} {j : Nat} {Q : Hp → Prop} (h : H p = some (.lst xs)) (a : ixN xs.length k = some j) (q : Q (upd H p (.lst (xs.set j v)))) : rSetL (.ref p) (.int k) v H Q := ⟨p, xs, k, j, rfl, rfl, h, a, q⟩
end
/-! ### what stays: all but the objects of ms, and the tables of code objects -/
open LamX in
structure Ext (T : List (Addr × Str)) (ms : List Addr) (H H' : Hp) : Prop where
  keep : ∀ b o, b ∉ ms → (∀ ps, o ≠ .tbl ps) → H b = some o → H' b = some o
  tabs : LamX.Tabs T H → LamX.Tabs T H'
/-- nothing but a table of code objects stands there -/
def Nw (H : Hp) (p : Addr) : Prop := ∀ o, H p = some o → ∃ ps, o = .tbl ps
theorem Nw.of {H : Hp} {p : Addr} (h : H p = none) : Nw H p := fun o e => by
  rw [h] at e
  cases e
theorem Nw.ne {H : Hp} {p q : Addr} {o : HO} (f : Nw H p) (h : H q = some o) (hn : ∀ ps, o ≠ .tbl ps) : q ≠ p := fun z => by
  rw [z] at h
  obtain ⟨ps, e⟩ := f o h
  exact hn ps e
theorem Nw.lst {H : Hp} {p q : Addr} {xs : List V} (f : Nw H p) (h : H q = some (.lst xs)) : q ≠ p := f.ne h fun _ z => by cases z
theorem Nw.tup {H : Hp} {p q : Addr} {xs : List V} (f : Nw H p) (h : H q = some (.tup xs)) : q ≠ p := f.ne h fun _ z => by cases z
section
variable {T : List (Addr × Str)} {ms : List Addr} {K : PySem.W.Frag} {H H1 H2 : Hp}
theorem Ext.back {p : Addr} (e : Ext T ms H H1) (hp : p ∉ ms) (f : Nw H1 p) : Nw H p := fun o ho => Classical.byContradiction fun n => n (f o (e.keep p o hp (fun ps z => n ⟨ps, z⟩) ho))
theorem Ext.refl : Ext T ms H H := ⟨fun _ _ _ _ h => h, id⟩
theorem Ext.trans (a : Ext T ms H H1) (b : Ext T ms H1 H2) : Ext T ms H H2 := ⟨fun c o hc hn h => b.keep c o hc hn (a.keep c o hc hn h), fun t => b.tabs (a.tabs t)⟩
theorem Ext.same (s : Same H H1) : Ext T ms H H1 := ⟨fun c o _ _ h => s c o h, fun t => t.ext s⟩
theorem Ext.new {p : Addr} {o : HO} (h : H p = none) : Ext T ms H (upd H p o) := .same fun b x e => by
  rw [upd_ne (ne_of_none e h)]
  exact e
theorem Ext.wide {ms' : List Addr} (a : Ext T ms H H1) (h : ∀ b, b ∈ ms → b ∈ ms') : Ext T ms' H H1 := ⟨fun c o hc hn => a.keep c o (fun z => hc (h c z)) hn, a.tabs⟩
theorem Ext.any (a : Ext T [] H H1) : Ext T ms H H1 := a.wide fun b h => absurd h (by simp)
/-- a list that may change is changed -/
theorem Ext.mut {p : Addr} {xs : List V} {u : HO} (hp : p ∈ ms) (h : H p = some (.lst xs)) : Ext T ms H (upd H p u) := ⟨fun b x hb _ e => by
  rw [upd_ne (fun z => hb (by rw [z]; exact hp))]
  exact e, fun t q hq => by
  obtain ⟨ps, h1, h2, h3⟩ := t q hq
  refine ⟨ps, ?_, h2, fun pos cv hc => ?_⟩
  · rw [upd_ne]
    · exact h1
    · intro z
      rw [z, h] at h1
      cases h1
  · obtain ⟨c, e1, e2⟩ := h3 pos cv hc
    refine ⟨c, e1, ?_⟩
    rw [upd_ne]
    · exact e2
    · intro z
      rw [z, h] at e2
      unfold LamX.CodeO at e2
      cases e2⟩
theorem Ext.lst {p : Addr} {xs : List V} (e : Ext T ms H H1) (hp : p ∉ ms) (h : H p = some (.lst xs)) : H1 p = some (.lst xs) := e.keep p _ hp (fun _ z => by cases z) h
theorem Ext.tup {p : Addr} {xs : List V} (e : Ext T ms H H1) (hp : p ∉ ms) (h : H p = some (.tup xs)) : H1 p = some (.tup xs) := e.keep p _ hp (fun _ z => by cases z) h
theorem Ext.seqL {a : Addr} {xs : List V} (e : Ext T ms H H1) (ha : a ∉ ms) (h : SqL K H a xs) : SqL K H1 a xs := by
  rcases h with (h | ⟨o, h⟩) | h
  · exact .inl (.inl (e.keep a _ ha (fun _ z => by cases z) h))
  · exact .inl (.inr ⟨o, e.keep a _ ha (fun _ z => by cases z) h⟩)
  · exact .inr h
theorem Ext.seqT {a : Addr} {xs : List V} (e : Ext T ms H H1) (ha : a ∉ ms) (h : SqT K H a xs) : SqT K H1 a xs := by
  rcases h with (h | ⟨o, h⟩) | h
  · exact .inl (.inl (e.keep a _ ha (fun _ z => by cases z) h))
  · exact .inl (.inr ⟨o, e.keep a _ ha (fun _ z => by cases z) h⟩)
  · exact .inr h
end
/-! ### the law's tape -/
/-- the tape at t: the script's list at l, its place, what is left of a cell, the running number, the budget -/
def Tape (l : Addr) (H : Hp) (t : Addr) : Prop := ∃ (ns : List Int) (pos : Nat) (rest st bud : Int), H t = some (.lst [.ref l, .int (pos : Int), .int rest, .int st, .int bud]) ∧ H l = some (.lst (ns.map V.int)) ∧ l ≠ t ∧ 0 ≤ rest ∧ 0 ≤ st
theorem Tape.ext {T : List (Addr × Str)} {H H1 : Hp} {l t : Addr} (p : Tape l H t) (e : Ext T [] H H1) : Tape l H1 t := by
  obtain ⟨ns, pos, rest, st, bud, h1, h2, h3⟩ := p
  exact ⟨ns, pos, rest, st, bud, e.lst (by simp) h1, e.lst (by simp) h2, h3⟩
theorem Tape.upd {H : Hp} {l t q : Addr} {o : HO} (p : Tape l H t) (h : H q = none) : Tape l (upd H q o) t := p.ext (T := []) (.new h)
/-- another object is changed -/
theorem Tape.own {H : Hp} {l t q : Addr} {o : HO} (p : Tape l H t) (h1 : q ≠ t) (h2 : q ≠ l) : Tape l (L2.upd H q o) t := by
  obtain ⟨ns, pos, rest, st, bud, a1, a2, h3⟩ := p
  exact ⟨ns, pos, rest, st, bud, by rw [upd_ne h1.symm]; exact a1, by rw [upd_ne h2.symm]; exact a2, h3⟩
theorem Tape.ne {H : Hp} {l t q : Addr} (p : Tape l H t) (h : Nw H q) : q ≠ t ∧ q ≠ l := by
  obtain ⟨ns, pos, rest, st, bud, a1, a2, _⟩ := p
  exact ⟨(h.lst a1).symm, (h.lst a2).symm⟩
def mixI (n : Int) : Int :=
  ((n * 6364136223846793005 + 1442695040888963407) % 18446744073709551616 * ((n * 6364136223846793005 + 1442695040888963407) % 18446744073709551616) / 4294967296 + (n * 6364136223846793005 + 1442695040888963407) % 18446744073709551616 * 69621) % 18446744073709551557
theorem mixI_nn (n : Int) : 0 ≤ mixI n := Int.emod_nonneg _ (by decide)
def spMix : Sp := fun vs H Q _ => ∃ n : Int, vs = [.int n] ∧ Q (.int (mixI n)) H
def spTape (T : List (Addr × Str)) (K : PySem.W.Frag) : Sp := fun vs H Q _ => ∃ (a : Addr) (ns : List Int) (b : Int), vs = [.ref a, .int b] ∧ SqL K H a (ns.map V.int) ∧ ns.length ≤ 63 ∧ ∀ t l H', Nw H t → Ext T [] H H' → Tape l H' t → Q (.ref t) H'
def spTake (T : List (Addr × Str)) : Sp := fun vs H Q _ => ∃ (l t : Addr) (m : Int), vs = [.ref t, .int m] ∧ 0 < m ∧ m < 2 ^ 64 ∧ Tape l H t ∧ ∀ d H', 0 ≤ d → d < m → Ext T [t] H H' → Tape l H' t → Q (.int d) H'

section
variable {T : List (Addr × Str)} {ms : List Addr} {K : PySem.W.Frag} {H H1 H2 : Hp}
/-- an own new list is changed -/
theorem Ext.own {p : Addr} {xs : List V} {u : HO} (e : Ext T ms H H1) (hn : Nw H p) (h : H1 p = some (.lst xs)) : Ext T ms H (upd H1 p u) := ⟨fun b x hb hx q => by
  rw [upd_ne (hn.ne q hx)]
  exact e.keep b x hb hx q, fun t => (Ext.mut (T := T) (ms := [p]) (u := u) (by simp) h).tabs (e.tabs t)⟩
theorem Ext.newR {p : Addr} {o : HO} (e : Ext T ms H H1) (h : H1 p = none) : Ext T ms H (upd H1 p o) := e.trans (.new h)
theorem Ext.mutR {p : Addr} {xs : List V} {u : HO} (e : Ext T ms H H1) (hp : p ∈ ms) (h : H1 p = some (.lst xs)) : Ext T ms H (upd H1 p u) := e.trans (.mut hp h)
theorem wipe1 {σ : L2.St} {k : Nat} {v : Option V} : wipe ((wipe σ [k]).set k v) [k] = wipe σ [k] := by
  show ((σ.set k none).set k v).set k none = σ.set k none
  rw [List.set_set, List.set_set]
/-- a comprehension over one name whose test and element are functions of the item -/
theorem lc_pure {J : It} {n : Nat} {G : Hp → Prop} {Y : Nat → Hp → V → Hp → Prop} {tt : TT} {te : TE} {σ : L2.St} {D : Addr} {Qd : Hp → Prop} {k : Nat} (w : Walk J n G Y) (xs : List V) (hn : n = xs.length) (hY : ∀ i H x H', Y i H x H' → H' = H ∧ xs[i]? = some x) (hD : H1 D = none)
    (hG : ∀ H, Ext T ms H1 H → G H) (p : V → Bool) (f : V → V) (hl : xs.length < sizeLine)
    (step : ∀ x ∈ xs, ∀ H, Ext T ms H1 H → ∀ (R : V → Hp → Prop) (S : Hp → Prop), (p x = true → ∀ H2, Ext T ms H H2 → R (f x) H2) → (p x = false → ∀ H2, Ext T ms H H2 → S H2) →
      tt ((wipe σ [k]).set k (some x)) H fun b H2 => if b = true then te ((wipe σ [k]).set k (some x)) H2 R else S H2)
    (hDm : D ∉ ms) (hd : ∀ H, Ext T ms H1 H → H D = some (.lst ((xs.filter p).map f)) → Qd H) :
    ∃ W : Nat → Nat → Hp → Prop, (∃ z, W 0 z (upd H1 D (.lst []))) ∧ ∀ j z H, W j z H →
      (J.stop j H ∧ Qd H) ∨ (J.go j H ∧ ∃ Nx : Hp → Prop, (∀ H', Nx H' → ∃ y, y < z ∧ W (j + 1) y H') ∧ ∀ x H', J.yld j H x H' → gName k x (wipe σ [k]) H' fun σ2 H2 => wipe σ2 [k] = wipe σ [k] ∧ tt σ2 H2 fun b H3 =>
        if b = true then te σ2 H3 fun y H4 => ∃ acc, H4 D = some (.lst acc) ∧ acc.length < sizeLine ∧ Nx (upd H4 D (.lst (acc ++ [y]))) else Nx H3) := by
  refine lc_it w (fun i H => Ext T ms H1 H ∧ H D = some (.lst (((xs.take i).filter p).map f))) ⟨.new hD, by rw [List.take_zero]; exact upd_same⟩ (fun i H _ h => hG H h.1) (fun i x H H' hi h y => ?_) (fun H h => ?_)
  · obtain ⟨e1, e2⟩ := hY i H x H' y
    subst e1
    obtain ⟨h1, h2⟩ := h
    have hx : x ∈ xs := List.mem_of_getElem? e2
    have et : xs.take (i + 1) = xs.take i ++ [x] := by rw [List.take_add_one, e2]; rfl
    refine ⟨wipe1, step x hx H' h1 _ _ (fun hp H2 e => ⟨_, e.lst hDm h2, ?_, ?_⟩) (fun hp H2 e => ?_)⟩
    · refine Nat.lt_of_le_of_lt ?_ hl
      rw [List.length_map]
      exact Nat.le_trans (List.length_filter_le _ _) (by rw [List.length_take]; exact Nat.min_le_right _ _)
    · refine ⟨(h1.trans e).own (.of hD) (e.lst hDm h2), ?_⟩
      rw [upd_same, et, List.filter_append, List.map_append, List.filter_cons_of_pos hp]
      rfl
    · refine ⟨h1.trans e, ?_⟩
      rw [et, List.filter_append, List.filter_cons_of_neg (by rw [hp]; decide), List.filter_nil, List.append_nil]
      exact e.lst hDm h2
  · obtain ⟨h1, h2⟩ := h
    rw [hn, List.take_length] at h2
    exact hd H h1 h2
end
/-! ### a list or a tuple walked -/
def iSeq (K : PySem.W.Frag) (tl : TE) : TI := fun σ H R => tl σ H fun x H1 => ∃ a, x = .ref a ∧ (((∃ xs, SqL K H1 a xs) ∧ R (Itl K a) H1) ∨ ((∃ xs, SqT K H1 a xs) ∧ R (Itt K a) H1))
theorem pi_seq {X : Cx} (K : PySem.W.Frag) (hK : X.K = K) {tg l : Expr} {tl : TE} (hl : PE X l tl) : PI X tg l (iSeq K tl) := by
  subst hK
  refine ⟨fun pins s σ H R I h => ?_⟩
  refine thn (hl.run pins s σ H _ I h) fun v s1 ⟨x, H1, I1, r1, a, e, q⟩ => ?_
  subst e
  cases r1
  have fr : ∀ b, b ∈ [s1.heap.objs.size] → ∀ {o : Obj}, FpOk X pins H1 b := fun b hb _ => by
    have e : b = s1.heap.objs.size := by simpa using hb
    rw [e]
    exact I1.fpOk (Nat.le_refl _) (I1.hok.fresh (Nat.le_refl _))
  rcases q with ⟨⟨xs, hq⟩, q⟩ | ⟨⟨xs, hq⟩, q⟩
  · obtain ⟨us, ru, pl, _⟩ := I1.list hq
    refine wpAny_pyIter_list pl.isList ?_
    exact ⟨s1.heap.objs.size, [s1.heap.objs.size], _, _, H1, rfl, I1.kept (t' := s1.toks) fun b o e => Heap.get?_push_of_some _ e, turn_list a _, ⟨_, Heap.get?_push_size _ rfl, rfl, rfl⟩, fun b hb => fr b hb (o := default), q⟩
  · obtain ⟨us, ru, pl, _⟩ := I1.tuple hq
    refine wpAny_pyIter_tuple (show s1.heap.IsTuple a us.toArray from pl) ?_
    exact ⟨s1.heap.objs.size, [s1.heap.objs.size], _, _, H1, rfl, I1.kept (t' := s1.toks) fun b o e => Heap.get?_push_of_some _ e, turn_tuple a _, ⟨_, Heap.get?_push_size _ rfl, rfl, rfl⟩, fun b hb => fr b hb (o := default), q⟩
/-! ### texts as lists of signs -/
abbrev sg (z : Str) : List Nat := z.cps.toList
theorem sg_len (z : Str) : (sg z).length = z.length := Array.length_toList
theorem sg_inj {a b : Str} (h : sg a = sg b) : a = b := TL.ext_tl h
theorem sg_app (a b : Str) : sg (a ++ b) = sg a ++ sg b := TL.tl_append a b
theorem endswith_iff (x y : Str) : Txt.endswith x y = true ↔ sg y <:+ sg x := by
  unfold Txt.endswith
  rw [StrLaws.subAt_eq, Bool.and_eq_true, decide_eq_true_eq, beq_iff_eq]
  rw [List.suffix_iff_eq_drop, ← sg_len, ← sg_len]
  have hx : x.cps.toList.length = (sg x).length := rfl
  constructor
  · rintro ⟨h1, h2⟩
    rw [List.take_of_length_le (by rw [List.length_drop]; omega)] at h2
    exact h2.symm
  · intro h
    have hl := congrArg List.length h
    rw [List.length_drop] at hl
    refine ⟨by omega, ?_⟩
    rw [List.take_of_length_le (by rw [List.length_drop]; omega)]
    exact h.symm

/-! ### comprehensions, read -/
def LcG (J : It) (g : TG) (tt : TT) (te : TE) (vs : List Nat) (σ : L2.St) (H1 : Hp) (Q : VK) : Prop := ∀ D, H1 D = none → ∃ W : Nat → Nat → Hp → Prop, (∃ z, W 0 z (upd H1 D (.lst []))) ∧ ∀ j z H, W j z H →
  (J.stop j H ∧ Q (.ref D) H) ∨ (J.go j H ∧ ∃ Nx : Hp → Prop, (∀ H', Nx H' → ∃ y, y < z ∧ W (j + 1) y H') ∧ ∀ x H', J.yld j H x H' → g x (wipe σ vs) H' fun σ2 H2 => wipe σ2 vs = wipe σ vs ∧ tt σ2 H2 fun b H3 =>
    if b = true then te σ2 H3 fun y H4 => ∃ acc, H4 D = some (.lst acc) ∧ acc.length < sizeLine ∧ Nx (upd H4 D (.lst (acc ++ [y]))) else Nx H3)
section
variable {K : PySem.W.Frag} {σ : L2.St} {H H1 : Hp} {Q : VK} {wi : TI} {g : TG} {tt : TT} {te : TE} {vs : List Nat} {R : It → Hp → Prop}
theorem rd_lc (q : wi σ H fun J H1 => LcG J g tt te vs σ H1 Q) : tLc wi g tt te vs σ H Q := q
theorem rd_iStr (q : te σ H fun v H1 => ∃ x, v = .str x ∧ R (Its x) H1) : iStr te σ H R := q
theorem rd_exStr {z : Str} {P : Str → Prop} (q : P z) : ∃ x, V.str z = .str x ∧ P x := ⟨z, rfl, q⟩
theorem rd_exRef {a : Addr} {P : Addr → Prop} (q : P a) : ∃ x, V.ref a = .ref x ∧ P x := ⟨a, rfl, q⟩
theorem rd_exInt {a : Int} {P : Int → Prop} (q : P a) : ∃ x, V.int a = .int x ∧ P x := ⟨a, rfl, q⟩
theorem rd_exInts {a : Int} {P : Int → Prop} (q : P a) : ∃ x, [V.int a] = [.int x] ∧ P x := ⟨a, rfl, q⟩
theorem rd_seqL {a : Addr} {xs : List V} {B C : Prop} (h : SqL K H1 a xs) (q : B) : ((∃ xs, SqL K H1 a xs) ∧ B) ∨ C := .inl ⟨⟨xs, h⟩, q⟩
theorem rd_seqT {a : Addr} {xs : List V} {B C : Prop} (h : SqT K H1 a xs) (q : B) : C ∨ ((∃ xs, SqT K H1 a xs) ∧ B) := .inr ⟨⟨xs, h⟩, q⟩
theorem rd_iSeq (q : te σ H fun x H1 => ∃ a, x = .ref a ∧ (((∃ xs, SqL K H1 a xs) ∧ R (Itl K a) H1) ∨ ((∃ xs, SqT K H1 a xs) ∧ R (Itt K a) H1))) : iSeq K te σ H R := q
theorem rd_rng {ta : TA} (q : ta σ H fun vs H1 => ∃ j : Int, vs = [.int j] ∧ -(2 ^ 62) ≤ j ∧ j < 2 ^ 62 ∧ R (Itr 0 j.toNat) H1) : iRng1 ta σ H R := q
/-- the signs of a text, each a text -/
def chrs (z : Str) : List V := (sg z).map fun c => .str ⟨#[c]⟩
variable (T : List (Addr × Str)) (ms : List Addr)
theorem lcg_str {z : Str} {k : Nat} (p : V → Bool) (f : V → V) (hz : z.length < sizeLine) (hm : ∀ D, H D = none → D ∉ ms)
    (step : ∀ x ∈ chrs z, ∀ H', Ext T ms H H' → ∀ (R : V → Hp → Prop) (S : Hp → Prop), (p x = true → ∀ H2, Ext T ms H' H2 → R (f x) H2) → (p x = false → ∀ H2, Ext T ms H' H2 → S H2) →
      tt ((wipe σ [k]).set k (some x)) H' fun b H2 => if b = true then te ((wipe σ [k]).set k (some x)) H2 R else S H2)
    (q : ∀ D H2, Nw H D → Ext T ms H H2 → H2 D = some (.lst (((chrs z).filter p).map f)) → Q (.ref D) H2) : LcG (Its z) (gName k) tt te [k] σ H Q := fun D hD =>
  lc_pure walk_str (chrs z) (by rw [chrs, List.length_map, sg_len]; rfl) (fun i H x H' y => by
    obtain ⟨e, c, h1, h2⟩ := y
    refine ⟨e, ?_⟩
    rw [chrs, List.getElem?_map, h2, show (sg z)[i]? = some c by rw [← h1]; exact Array.getElem?_toList]
    rfl) hD (fun _ _ => True.intro) p f (by rw [chrs, List.length_map, sg_len]; exact hz) step (hm D hD) fun H2 e h => q D H2 (.of hD) e h
theorem lcg_list {a : Addr} {xs : List V} {k : Nat} (h : SqL K H a xs) (p : V → Bool) (f : V → V) (hz : xs.length < sizeLine) (ha : a ∉ ms) (hm : ∀ D, H D = none → D ∉ ms)
    (step : ∀ x ∈ xs, ∀ H', Ext T ms H H' → ∀ (R : V → Hp → Prop) (S : Hp → Prop), (p x = true → ∀ H2, Ext T ms H' H2 → R (f x) H2) → (p x = false → ∀ H2, Ext T ms H' H2 → S H2) →
      tt ((wipe σ [k]).set k (some x)) H' fun b H2 => if b = true then te ((wipe σ [k]).set k (some x)) H2 R else S H2)
    (q : ∀ D H2, Nw H D → Ext T ms H H2 → H2 D = some (.lst ((xs.filter p).map f)) → Q (.ref D) H2) : LcG (Itl K a) (gName k) tt te [k] σ H Q := fun D hD =>
  lc_pure walk_list xs rfl (fun i H x H' y => y) hD (fun H' e => e.seqL ha h) p f hz step (hm D hD) fun H2 e h => q D H2 (.of hD) e h
theorem lcg_tup {a : Addr} {xs : List V} {k : Nat} (h : SqT K H a xs) (p : V → Bool) (f : V → V) (hz : xs.length < sizeLine) (ha : a ∉ ms) (hm : ∀ D, H D = none → D ∉ ms)
    (step : ∀ x ∈ xs, ∀ H', Ext T ms H H' → ∀ (R : V → Hp → Prop) (S : Hp → Prop), (p x = true → ∀ H2, Ext T ms H' H2 → R (f x) H2) → (p x = false → ∀ H2, Ext T ms H' H2 → S H2) →
      tt ((wipe σ [k]).set k (some x)) H' fun b H2 => if b = true then te ((wipe σ [k]).set k (some x)) H2 R else S H2)
    (q : ∀ D H2, Nw H D → Ext T ms H H2 → H2 D = some (.lst ((xs.filter p).map f)) → Q (.ref D) H2) : LcG (Itt K a) (gName k) tt te [k] σ H Q := fun D hD =>
  lc_pure walk_tup xs rfl (fun i H x H' y => y) hD (fun H' e => e.seqT ha h) p f hz step (hm D hD) fun H2 e h => q D H2 (.of hD) e h
end
/-- over a range, the elements drawn from the tape -/
theorem lcg_range_tape (T : List (Addr × Str)) {σ : L2.St} {H : Hp} {Q : VK} {te : TE} {n k : Nat} {l t : Addr} (hT : Tape l H t) (Pr : V → Prop) (hn : n < sizeLine)
    (step : ∀ (i : Nat) H', i < n → Ext T [t] H H' → Tape l H' t → ∀ R : VK, (∀ v H2, Pr v → Ext T [t] H' H2 → Tape l H2 t → R v H2) → te ((wipe σ [k]).set k (some (.int (0 + (i : Int))))) H' R)
    (q : ∀ D H2 vs, Nw H D → Ext T [t] H H2 → Tape l H2 t → H2 D = some (.lst vs) → vs.length = n → (∀ v ∈ vs, Pr v) → Q (.ref D) H2) : LcG (Itr 0 n) (gName k) tYes te [k] σ H Q := fun D hD => by
  obtain ⟨nt, nl⟩ := hT.ne (.of hD)
  refine lc_it walk_range (fun i H2 => Ext T [t] H H2 ∧ Tape l H2 t ∧ ∃ vs, H2 D = some (.lst vs) ∧ vs.length = i ∧ ∀ v ∈ vs, Pr v) ⟨.new hD, hT.upd hD, [], upd_same, rfl, by simp⟩ (fun _ _ _ _ => True.intro) (fun i x H1 H' hi h y => ?_) (fun H1 h => ?_)
  · obtain ⟨e1, e2⟩ := y
    subst e1
    subst e2
    obtain ⟨h1, h2, vs, h3, h4, h5⟩ := h
    refine ⟨wipe1, step i H' hi h1 h2 _ fun v H2 hp e t2 => ?_⟩
    have h3' := e.lst (show D ∉ [t] by simpa using nt) h3
    refine ⟨vs, h3', by omega, (h1.trans e).own (.of hD) h3', t2.own nt nl, vs ++ [v], upd_same, by rw [List.length_append, h4]; rfl, fun u hu => ?_⟩
    rcases List.mem_append.mp hu with hu | hu
    · exact h5 u hu
    · rw [List.mem_singleton.mp hu]
      exact hp
  · obtain ⟨h1, h2, vs, h3, h4, h5⟩ := h
    exact q D H1 vs (.of hD) h1 h2 h3 h4 h5
/-! ### loops, read -/
def ForG (J : It) (g : TG) (tb : TS) (D : Ends) (σ : L2.St) (H1 : Hp) : Prop := ∃ W : Nat → Nat → L2.St → Hp → Prop, (∃ z, W 0 z σ H1) ∧ ∀ j z σ H, W j z σ H →
  (J.stop j H ∧ D.nx σ H) ∨ (J.go j H ∧ ∃ N : L2.St → Hp → Prop, (∀ σ' H', N σ' H' → ∃ y, y < z ∧ W (j + 1) y σ' H') ∧ ∀ x H', J.yld j H x H' → g x σ H' fun σ2 H2 => tb { D with nx := N, ct := N, bk := D.nx } σ2 H2)
section
variable {K : PySem.W.Frag} {σ : L2.St} {H H1 : Hp} {wi : TI} {g : TG} {tb : TS} {nx bk ct : L2.St → Hp → Prop} {rt : VK}
theorem rd_for {D : Ends} (q : wi σ H fun J H1 => ForG J g tb D σ H1) : tFor wi g tb D σ H := q
theorem forg_it {J : It} {n : Nat} {G : Hp → Prop} {Y : Nat → Hp → V → Hp → Prop} (w : Walk J n G Y) (Pv : Nat → L2.St → Hp → Prop) (h0 : Pv 0 σ H) (hG : ∀ i σ H, i ≤ n → Pv i σ H → G H)
    (hs : ∀ i x σ H H', i < n → Pv i σ H → Y i H x H' → g x σ H' fun σ2 H2 => tb ⟨Pv (i + 1), rt, nx, Pv (i + 1)⟩ σ2 H2) (hd : ∀ σ H, Pv n σ H → nx σ H) : ForG J g tb ⟨nx, rt, bk, ct⟩ σ H := for_it w Pv h0 hG hs hd
theorem forg_str {z : Str} (Pv : Nat → L2.St → Hp → Prop) (h0 : Pv 0 σ H) (hs : ∀ i c σ H, (sg z)[i]? = some c → Pv i σ H → g (.str ⟨#[c]⟩) σ H fun σ2 H2 => tb ⟨Pv (i + 1), rt, nx, Pv (i + 1)⟩ σ2 H2) (hd : ∀ σ H, Pv (sg z).length σ H → nx σ H) :
    ForG (Its z) g tb ⟨nx, rt, bk, ct⟩ σ H := forg_it walk_str Pv h0 (fun _ _ _ _ _ => True.intro) (fun i x σ H H' hi p y => by
  obtain ⟨e, c, h1, h2⟩ := y
  rw [e, h2]
  exact hs i c σ H (by rw [← h1]; exact Array.getElem?_toList) p) fun σ H h => hd σ H (by rw [sg_len]; exact h)
theorem forg_list {a : Addr} {xs : List V} (Pv : Nat → L2.St → Hp → Prop) (h0 : Pv 0 σ H) (hl : ∀ i σ H, i ≤ xs.length → Pv i σ H → SqL K H a xs)
    (hs : ∀ i x σ H, xs[i]? = some x → Pv i σ H → g x σ H fun σ2 H2 => tb ⟨Pv (i + 1), rt, nx, Pv (i + 1)⟩ σ2 H2) (hd : ∀ σ H, Pv xs.length σ H → nx σ H) : ForG (Itl K a) g tb ⟨nx, rt, bk, ct⟩ σ H :=
  forg_it walk_list Pv h0 hl (fun i x σ H H' hi p y => by
    rw [y.1]
    exact hs i x σ H y.2 p) hd
theorem forg_tup {a : Addr} {xs : List V} (Pv : Nat → L2.St → Hp → Prop) (h0 : Pv 0 σ H) (hl : ∀ i σ H, i ≤ xs.length → Pv i σ H → SqT K H a xs)
    (hs : ∀ i x σ H, xs[i]? = some x → Pv i σ H → g x σ H fun σ2 H2 => tb ⟨Pv (i + 1), rt, nx, Pv (i + 1)⟩ σ2 H2) (hd : ∀ σ H, Pv xs.length σ H → nx σ H) : ForG (Itt K a) g tb ⟨nx, rt, bk, ct⟩ σ H :=
  forg_it walk_tup Pv h0 hl (fun i x σ H H' hi p y => by
    rw [y.1]
    exact hs i x σ H y.2 p) hd
theorem forg_range {lo : Int} {n : Nat} (Pv : Nat → L2.St → Hp → Prop) (h0 : Pv 0 σ H)
    (hs : ∀ (i : Nat) σ H, i < n → Pv i σ H → g (.int (lo + i)) σ H fun σ2 H2 => tb ⟨Pv (i + 1), rt, nx, Pv (i + 1)⟩ σ2 H2) (hd : ∀ σ H, Pv n σ H → nx σ H) : ForG (Itr lo n) g tb ⟨nx, rt, bk, ct⟩ σ H :=
  forg_it walk_range Pv h0 (fun _ _ _ _ _ => True.intro) (fun i x σ H H' hi p y => by
    obtain ⟨e1, e2⟩ := y
    rw [e1, e2]
    exact hs i σ H hi p) hd
end
theorem rd_ntt {A B : Prop} (h : B) : if (!true) = true then A else B := h
theorem rd_nff {A B : Prop} (h : A) : if (!false) = true then A else B := h
theorem rd_cut {σ : L2.St} {H : Hp} {nx bk ct : L2.St → Hp → Prop} {rt : VK} {t u : TS} (Mid : L2.St → Hp → Prop) (h1 : ∀ nx' : L2.St → Hp → Prop, (∀ σ' H', Mid σ' H' → nx' σ' H') → t ⟨nx', rt, bk, ct⟩ σ H) (h2 : ∀ σ' H', Mid σ' H' → u ⟨nx, rt, bk, ct⟩ σ' H') : tSeq t u ⟨nx, rt, bk, ct⟩ σ H := h1 _ h2
theorem rd_cutE {te : TE} {σ : L2.St} {H : Hp} {Q : VK} (Mid : V → Hp → Prop) (h1 : ∀ Q' : VK, (∀ v H', Mid v H' → Q' v H') → te σ H Q') (h2 : ∀ v H', Mid v H' → Q v H') : te σ H Q := h1 Q h2
theorem filtT {α : Type} (l : List α) : l.filter (fun _ => true) = l := List.filter_eq_self.mpr fun _ _ => rfl
/-! ### further steps -/
section
variable {K : PySem.W.Frag} {σ : L2.St} {H : Hp} {Q : VK} {te : TE}
theorem rd_tyes {Q : Bool → Hp → Prop} (q : Q true H) : tYes σ H Q := q
theorem dec_str (a b : Str) : decide (V.str a = V.str b) = decide (a = b) := by
  by_cases h : a = b
  · rw [h]
    simp
  · rw [decide_eq_false h]
    exact decide_eq_false fun z => h (V.str.inj z)
theorem dec_intV (a b : Int) : decide (V.int a = V.int b) = decide (a = b) := by
  by_cases h : a = b
  · rw [h]
    simp
  · rw [decide_eq_false h]
    exact decide_eq_false fun z => h (V.int.inj z)
theorem dec_bl (a b : Bool) : decide (V.bl a = V.bl b) = decide (a = b) := by
  by_cases h : a = b
  · rw [h]
    simp
  · rw [decide_eq_false h]
    exact decide_eq_false fun z => h (V.bl.inj z)
theorem rd_isBool {z : Bool} (q : Q (.bl true) H) : rIsi K [.bl z, .ty "bool"] H Q := ⟨_, _, _, _, true, rfl, .ty _, .base (.bl _), rfl, q⟩
theorem rd_ixS {z : Str} {i : Int} {c : Nat} (hz : z.length ≤ sizeLine) (h : atI z.cps.toList i = some c) (q : Q (.str ⟨#[c]⟩) H) : rIx K (.str z) (.int i) H Q := .inr (.inr ⟨z, i, c, rfl, rfl, hz, h, q⟩)
theorem rd_cat {a b : Addr} {xs ys : List V} (h1 : H a = some (.lst xs)) (h2 : H b = some (.lst ys)) (c : xs.length + ys.length ≤ sizeLine) (q : ∀ p, H p = none → Q (.ref p) (upd H p (.lst (xs ++ ys)))) : rPlus K (.ref a) (.ref b) H Q := .inr (.inr (.inl ⟨a, b, xs, ys, rfl, rfl, h1, h2, c, q⟩))
theorem rd_slS {z : Str} {lo hi : Option Int} (hz : z.length ≤ sizeLine) (q : Q (.str (cutS z lo hi)) H) : rSlU K (.str z) lo hi H Q := .inr (.inl ⟨z, rfl, hz, q⟩)
theorem rd_slL {a : Addr} {xs : List V} {lo hi : Option Int} (h : SqL K H a xs) (q : ∀ p, H p = none → Q (.ref p) (upd H p (.lst (cutV xs lo hi)))) : rSlU K (.ref a) lo hi H Q := .inl ⟨a, xs, rfl, h, q⟩
theorem rd_sl {r : V → Option Int → Option Int → Hp → VK → Prop} {tl th : TO} (q : te σ H fun x H1 => tl σ H1 fun lo H2 => th σ H2 fun hi H3 => r x lo hi H3 Q) : tSl r te tl th σ H Q := q
theorem rd_noP {Q : Option Int → Hp → Prop} (q : Q none H) : tNoPart σ H Q := q
theorem rd_part {Q : Option Int → Hp → Prop} (q : te σ H fun v H1 => ∃ i, v = .int i ∧ Q (some i) H1) : tPart te σ H Q := q
theorem rd_eqStr {a b : Str} (q : Q (.bl (decide (a = b))) H) : rEqU K (.str a) (.str b) H Q := .inl ⟨rfl, by rw [dec_str]; exact q⟩
theorem rd_neStr {a b : Str} (q : Q (.bl (!decide (a = b))) H) : rNeU K (.str a) (.str b) H Q := .inl ⟨rfl, by rw [dec_str]; exact q⟩
theorem rd_eqInt {a b : Int} (q : Q (.bl (decide (a = b))) H) : rEqU K (.int a) (.int b) H Q := .inl ⟨rfl, by rw [dec_intV]; exact q⟩
theorem rd_neInt {a b : Int} (q : Q (.bl (!decide (a = b))) H) : rNeU K (.int a) (.int b) H Q := .inl ⟨rfl, by rw [dec_intV]; exact q⟩
theorem rd_eqBl {a b : Bool} (q : Q (.bl (decide (a = b))) H) : rEqU K (.bl a) (.bl b) H Q := .inl ⟨rfl, by rw [dec_bl]; exact q⟩
theorem rd_rev (q : te σ H fun x H1 => ∃ a xs, x = .ref a ∧ SqL K H1 a xs ∧ ∀ p, H1 p = none → Q (.ref p) (upd H1 p (.lst xs.reverse))) : tRevL K te σ H Q := q
theorem rd_revL {a : Addr} {xs : List V} (h : SqL K H a xs) (q : ∀ p, H p = none → Q (.ref p) (upd H p (.lst xs.reverse))) : ∃ b ys, V.ref a = .ref b ∧ SqL K H b ys ∧ ∀ p, H p = none → Q (.ref p) (upd H p (.lst ys.reverse)) := ⟨a, xs, rfl, h, q⟩
theorem rd_exA {a : Str} {P : Prop} (q : P) : (∃ b, V.str a = .str b) ∧ P := ⟨⟨a, rfl⟩, q⟩
def tFs (ts : List TE) : TE := fun σ H Q => tJs ts Str.empty σ H fun out H1 => Q (.str out) H1
theorem pe_fstr {X : Cx} {v1 v2 : Expr} {rest : List Expr} {ts : List TE} {pos : Pos} (h : PJ X (v1 :: v2 :: rest) ts) : PE X (.JoinedStr (v1 :: v2 :: rest) pos) (tFs ts) := pe_joined h
theorem rd_fs {ts : List TE} (q : tJs ts Str.empty σ H fun out H1 => Q (.str out) H1) : tFs ts σ H Q := q
theorem rd_jc {t : TE} {ts : List TE} {acc : Str} {Q : Str → Hp → Prop} (q : t σ H fun x H1 => ∃ y : Str, x = .str y ∧ (acc ++ y).length ≤ sizeLine ∧ tJs ts (acc ++ y) σ H1 Q) : tJs (t :: ts) acc σ H Q := q
theorem rd_jn {acc : Str} {Q : Str → Hp → Prop} (q : Q acc H) : tJs [] acc σ H Q := q
theorem rd_fmt {t : TE} (q : t σ H fun x H1 => (∃ y : Str, x = .str y ∧ y.length ≤ sizeLine ∧ Q (.str y) H1) ∨ ∃ i : Int, x = .int i ∧ i.natAbs.log2 < 1920 ∧ Q (.str (toString i)) H1) : tFmt t σ H Q := q
theorem rd_fmtS {y : Str} {C : Prop} (h : y.length ≤ sizeLine) (q : Q (.str y) H) : (∃ z : Str, V.str y = .str z ∧ z.length ≤ sizeLine ∧ Q (.str z) H) ∨ C := .inl ⟨y, rfl, h, q⟩
theorem rd_exStrs {y : Str} {P : Str → Prop} (q : P y) : ∃ z : Str, V.str y = .str z ∧ P z := ⟨y, rfl, q⟩
theorem rd_bm {T : String} {r : V → List V → Hp → VK → Prop} {t : TA} (q : te σ H fun x H1 => tyV K T x H1 ∧ t σ H1 fun xs H2 => r x xs H2 Q) : tBM K T r te t σ H Q := q
theorem rd_tyL {p : Addr} {xs : List V} {P : Prop} (h : H p = some (.lst xs)) (q : P) : tyV K "list" (.ref p) H ∧ P := ⟨.inl ⟨rfl, xs, .inl (.inl h)⟩, q⟩
theorem rd_app {p : Addr} {xs : List V} {y : V} (h : H p = some (.lst xs)) (c : xs.length < sizeLine) (q : Q .non (upd H p (.lst (xs ++ [y])))) : rAppend (.ref p) [y] H Q := ⟨p, xs, y, rfl, rfl, h, c, q⟩
end
/-! ### a list of data, sorted -/
section
open PySem.W
def Srt (xs : List V) (ds : List PyData) (ys : List V) : Prop := EachIs (fun y d => (y, d) ∈ xs.zip ds) ys (ds.mergeSort (dataLe false id))
def rSortD (K : PySem.W.Frag) : List V → Hp → VK → Prop := fun vs H Q => ∃ (a : Addr) (xs : List V) (ds : List PyData), vs = [.ref a] ∧ SqL K H a xs ∧ DpAll K H xs ds ∧ AllAlike ds ∧ Sortable ds ∧ (∀ d ∈ ds, d.depth ≤ 60) ∧
  ∀ (ys : List V) (p : Addr), Srt xs ds ys → H p = none → Q (.ref p) (upd H p (.lst ys))
end
def dotS : Str := "."
theorem sg_dot : sg dotS = [46] := by decide +kernel
def lettersS : Str := "abcdefghijklmnopqrstuvwxyz0123456789"
def wordB (z ls : Str) (m : Int) : Bool := decide ((1 : Int) ≤ (z.length : Int)) && (decide ((z.length : Int) ≤ m) && (sg z).all fun c => decide (c ∈ sg ls))
def idB (z : Str) : Bool := wordB z lettersS 4
def labelB (z : Str) : Bool := wordB z lettersS 8
def partsL (z : Str) : List Str := Txt.split z dotS
def nameB (z : Str) : Bool := decide (z = dotS) || (decide (((partsL z).length : Int) ≤ 4) && (partsL z).all labelB)
def labelsL (z : Str) : List Str := if z = dotS then [] else (partsL z).reverse
def endsB (n o : Str) : Bool := decide (o = dotS) || (decide (n = o) || Txt.endswith n (dotS ++ o))
theorem parts_sg (z : Str) : (partsL z).map sg = TL.spl [46] 0 [] (sg z) := by
  have h := TL.split_spl z dotS (by rw [show TL.tl dotS = [46] from sg_dot]; simp) (TL.kind_ok (by decide +kernel))
  rw [show TL.tl dotS = [46] from sg_dot] at h
  exact h
/-- a text is none of its parts longer than itself -/
theorem spl_len : ∀ (l acc : List Nat), (TL.spl [46] 0 acc l).length = l.count 46 + 1
  | [], acc => rfl
  | c :: r, acc => by
    by_cases h : c = 46
    · subst h
      have e : TL.spl [46] 0 acc (46 :: r) = acc :: TL.spl [46] 0 [] r := by
        rw [TL.spl, if_pos (by rfl)]
        rfl
      rw [e, List.length_cons, spl_len r []]
      simp
    · have e : TL.spl [46] 0 acc (c :: r) = TL.spl [46] 0 (acc ++ [c]) r := by
        rw [TL.spl, if_neg]
        show ¬ (TL.pre [46] (c :: r) = true)
        unfold TL.pre
        simpa using h
      rw [e, spl_len r]
      rw [List.count_cons_of_ne h]
theorem parts_len (z : Str) : (partsL z).length = (sg z).count 46 + 1 := by
  rw [← spl_len (sg z) [], ← parts_sg, List.length_map]
theorem parts_le (z : Str) : (partsL z).length ≤ z.length + 1 := by
  have h := List.count_le_length (a := 46) (l := sg z)
  rw [sg_len] at h
  rw [parts_len]
  omega
theorem spl_mem : ∀ (l acc : List Nat) (x : List Nat), x ∈ TL.spl [46] 0 acc l → x.length ≤ acc.length + l.length
  | [], acc, x, h => by
    have h : x ∈ [acc] := h
    rw [List.mem_singleton.mp h]
    omega
  | c :: r, acc, x, h => by
    by_cases hc : c = 46
    · subst hc
      have e : TL.spl [46] 0 acc (46 :: r) = acc :: TL.spl [46] 0 [] r := by
        rw [TL.spl, if_pos (by rfl)]
        rfl
      rw [e] at h
      rcases List.mem_cons.mp h with h | h
      · rw [h]
        omega
      · have := spl_mem r [] x h
        simp only [List.length_cons, List.length_nil] at this ⊢
        omega
    · have e : TL.spl [46] 0 acc (c :: r) = TL.spl [46] 0 (acc ++ [c]) r := by
        rw [TL.spl, if_neg]
        show ¬ (TL.pre [46] (c :: r) = true)
        unfold TL.pre
        simpa using hc
      rw [e] at h
      have := spl_mem r _ x h
      simp only [List.length_cons, List.length_append, List.length_nil] at this ⊢
      omega
theorem parts_mem {z x : Str} (h : x ∈ partsL z) : x.length ≤ z.length := by
  have h1 : sg x ∈ TL.spl [46] 0 [] (sg z) := by
    rw [← parts_sg]
    exact List.mem_map_of_mem h
  have h2 := spl_mem _ _ _ h1
  rw [sg_len, sg_len] at h2
  simpa using h2
theorem fs_dot (u : Str) : (Str.empty ++ Str.ofString ".") ++ u = dotS ++ u := sg_inj (by rw [sg_app, sg_app, sg_app]; rfl)
theorem fs_len (u : Str) (h : u.length ≤ 1000) : (Str.empty ++ Str.ofString "." ++ u).length ≤ sizeLine := by
  have e : (dotS ++ u).length = 1 + u.length := by
    rw [← sg_len, sg_app, List.length_append, sg_dot, sg_len]
    rfl
  rw [fs_dot, e]
  exact Nat.le_trans (show _ ≤ 1001 by omega) (by decide)
theorem dot_len : (Str.ofString ".").length = 1 := by decide +kernel
theorem dot_app (u : Str) (h : u.length ≤ 1000) : (Str.ofString ".").length + u.length ≤ sizeLine := by
  rw [dot_len]
  exact Nat.le_trans (show _ ≤ 1001 by omega) (by decide)
/-- the law's own ends -/
def lawEndsB (n o : Str) : Bool := decide (o = dotS) || (decide (n = o) || decide (cutS n (some (-(o.length : Int) - 1)) none = dotS ++ o))
theorem sIx_tail (n k : Nat) : HT.sIx n 0 (some (-(k : Int) - 1)) = n - (k + 1) := by
  unfold HT.sIx
  simp only []
  split <;> omega
theorem cut_tail (n o : Str) : sg (cutS n (some (-(o.length : Int) - 1)) none) = (sg n).drop (n.length - (o.length + 1)) := by
  unfold cutS
  rw [sIx_tail, HT.sIx_none]
  show (List.toArray _).toList = _
  rw [List.take_of_length_le]
  rw [List.length_drop, show n.cps.toList.length = n.length from sg_len n]
  omega
theorem lawEnds_eq (n o : Str) : lawEndsB n o = endsB n o := by
  unfold lawEndsB endsB
  congr 2
  rw [Bool.eq_iff_iff, decide_eq_true_eq, endswith_iff]
  have hl : (sg (dotS ++ o)).length = o.length + 1 := by
    rw [sg_app, List.length_append, sg_dot, sg_len]
    simp
    omega
  constructor
  · intro h
    have h2 := cut_tail n o
    rw [h] at h2
    rw [h2]
    exact List.drop_suffix _ _
  · intro h
    refine sg_inj ?_
    rw [cut_tail]
    have h2 := List.suffix_iff_eq_drop.mp h
    rw [hl, sg_len] at h2
    exact h2.symm
section
variable (T : List (Addr × Str))
def spWord : Sp := fun vs H Q _ => ∃ (z ls : Str) (m : Int), vs = [.str z, .str ls, .int m] ∧ z.length ≤ 1000 ∧ ∀ H', Ext T [] H H' → Q (.bl (wordB z ls m)) H'
/-- a text in, a truth value out -/
def spTB (f : Str → Bool) : Sp := fun vs H Q _ => ∃ z : Str, vs = [.str z] ∧ z.length ≤ 1000 ∧ ∀ H', Ext T [] H H' → Q (.bl (f z)) H'
def spTTB (f : Str → Str → Bool) : Sp := fun vs H Q _ => ∃ z u : Str, vs = [.str z, .str u] ∧ z.length ≤ 1000 ∧ u.length ≤ 1000 ∧ ∀ H', Ext T [] H H' → Q (.bl (f z u)) H'
/-- a text in, a new list of texts out -/
def spTL (f : Str → List Str) : Sp := fun vs H Q _ => ∃ z : Str, vs = [.str z] ∧ z.length ≤ 1000 ∧ ∀ p H', Nw H p → Ext T [] H H' → H' p = some (.lst ((f z).map V.str)) → Q (.ref p) H'
end

/-! ### an index that lies in it -/
theorem at_in {α : Type} {l : List α} {i : Int} (h0 : 0 ≤ i) (h : i < l.length) : ∃ c, atI l i = some c ∧ l[i.toNat]? = some c ∧ c ∈ l := by
  have hi : i.toNat < l.length := by omega
  have e : i = ((i.toNat : Nat) : Int) := by omega
  obtain ⟨c, hc⟩ : ∃ c, l[i.toNat]? = some c := ⟨_, List.getElem?_eq_getElem hi⟩
  have h2 := atI_nat hc
  rw [← e] at h2
  exact ⟨c, h2, hc, List.mem_of_getElem? hc⟩
def spText (T : List (Addr × Str)) : Sp := fun vs H Q _ => ∃ (l t : Addr) (m : Int), vs = [.ref t, .int m] ∧ 0 < m ∧ m < 100 ∧ Tape l H t ∧ ∀ z H', (z.length : Int) < m → Ext T [t] H H' → Tape l H' t → Q (.str z) H'
def spName (T : List (Addr × Str)) : Sp := fun vs H Q _ => ∃ (l t : Addr) (m : Int), vs = [.ref t, .int m] ∧ 0 < m ∧ m ≤ 4 ∧ Tape l H t ∧ ∀ z H', nameB z = true → z.length ≤ 100 → Ext T [t] H H' → Tape l H' t → Q (.str z) H'

theorem strs_of {S : List Str} : ∀ {vs : List V}, (∀ v ∈ vs, ∃ x ∈ S, v = V.str x) → ∃ ys : List Str, vs = ys.map V.str ∧ ∀ y ∈ ys, y ∈ S
  | [], _ => ⟨[], rfl, by simp⟩
  | v :: r, h => by
    obtain ⟨ys, e, h2⟩ := strs_of (vs := r) fun u hu => h u (List.mem_cons_of_mem _ hu)
    obtain ⟨x, hx, rfl⟩ := h v List.mem_cons_self
    refine ⟨x :: ys, by rw [e]; rfl, fun y hy => ?_⟩
    rcases List.mem_cons.mp hy with hy | hy
    · rw [hy]
      exact hx
    · exact h2 y hy
theorem sum_le {B : Nat} : ∀ {l : List Nat}, (∀ x ∈ l, x ≤ B) → l.sum ≤ l.length * B
  | [], _ => by simp
  | x :: r, h => by
    have h1 := h x List.mem_cons_self
    have h2 := sum_le (l := r) fun y hy => h y (List.mem_cons_of_mem _ hy)
    rw [List.sum_cons, List.length_cons, Nat.succ_mul]
    omega
theorem joinL_len (S : List Nat) : ∀ ps : List (List Nat), (TL.joinL S ps).length ≤ (ps.map List.length).sum + ps.length * S.length
  | [] => by simp [TL.joinL]
  | [p] => by
    show p.length ≤ _
    simp
  | p :: q :: r => by
    have ih := joinL_len S (q :: r)
    show (p ++ (S ++ TL.joinL S (q :: r))).length ≤ _
    rw [List.length_append, List.length_append, List.map_cons, List.sum_cons, List.length_cons (a := p), Nat.succ_mul]
    omega
def joinS (ys : List Str) : Str := Txt.join dotS ys
theorem join_len (ys : List Str) : (joinS ys).length ≤ (ys.map (·.length)).sum + ys.length := by
  have h := joinL_len (sg dotS) (ys.map sg)
  have e : sg (joinS ys) = TL.joinL (sg dotS) (ys.map sg) := by
    show sg (Txt.join dotS ys) = _
    rw [TL.join_eq]
    exact TL.tl_join dotS ys
  rw [← e, sg_len, sg_dot, List.length_map, List.map_map] at h
  have e2 : List.map (List.length ∘ sg) ys = ys.map (·.length) := List.map_congr_left fun y _ => sg_len y
  rw [e2] at h
  simpa using h
theorem parts_join {ys : List Str} (hne : ys ≠ []) (h : ∀ y ∈ ys, 46 ∉ sg y) : partsL (joinS ys) = ys := TL.split_join sg_dot (by decide +kernel) hne h
theorem label_nodot {y : Str} (h : labelB y = true) : 46 ∉ sg y := fun hm => by
  unfold labelB wordB at h
  rw [Bool.and_eq_true, Bool.and_eq_true] at h
  have h2 := of_decide_eq_true (List.all_eq_true.mp h.2.2 46 hm)
  exact absurd h2 (by decide +kernel)
theorem name_join {ys : List Str} (hne : ys ≠ []) (hl : ys.length ≤ 4) (h : ∀ y ∈ ys, labelB y = true) : nameB (joinS ys) = true := by
  unfold nameB
  rw [parts_join hne fun y hy => label_nodot (h y hy), decide_eq_true (show (ys.length : Int) ≤ 4 by omega), List.all_eq_true.mpr h]
  simp
def namesL : List Str := ["land", "shop", "a", "b", "workshop", "x1"]
theorem namesL_ok : ∀ y ∈ namesL, labelB y = true ∧ y.length ≤ 8 := by decide +kernel
def spForms (T : List (Addr × Str)) : Sp := fun vs H Q _ => ∃ (l t : Addr), vs = [.ref t] ∧ Tape l H t ∧ ∀ H', Ext T [t] H H' → Tape l H' t → Q (.bl true) H'
theorem strs_ofP {Pr : Str → Prop} : ∀ {vs : List V}, (∀ v ∈ vs, ∃ x, Pr x ∧ v = V.str x) → ∃ ys : List Str, vs = ys.map V.str ∧ ∀ y ∈ ys, Pr y
  | [], _ => ⟨[], rfl, by simp⟩
  | v :: r, h => by
    obtain ⟨ys, e, h2⟩ := strs_ofP (vs := r) fun u hu => h u (List.mem_cons_of_mem _ hu)
    obtain ⟨x, hx, rfl⟩ := h v List.mem_cons_self
    refine ⟨x :: ys, by rw [e]; rfl, fun y hy => ?_⟩
    rcases List.mem_cons.mp hy with hy | hy
    · rw [hy]
      exact hx
    · exact h2 y hy
theorem at_last {α : Type} {l : List α} {v : α} (h : l.getLast? = some v) : atI l (-1) = some v := by
  obtain ⟨r, e⟩ := List.getLast?_eq_some_iff.mp h
  rw [e]
  exact atI_last _ _

open PySem PySem.Spec PyProof.Rows L2
/-! ### sorted of data -/
section
open PySem.W
theorem each_vals : ∀ {xs : List V} {us : List Value}, Vals xs us → EachIs (fun u x => RelV x u) us xs
  | _, _, .nil => .nil
  | _, _, .cons r t => .cons r (each_vals t)
theorem each_zip {γ : Type} : ∀ {xs : List V} {us : List Value} {ds : List γ}, Vals xs us → ds.length = xs.length → EachIs (fun u d => ∃ y, RelV y u ∧ (y, d) ∈ xs.zip ds) us ds
  | _, _, [], .nil, _ => .nil
  | _, _, d :: ds, .nil, h => by cases h
  | _, _, [], .cons _ _, h => by cases h
  | _, _, d :: ds, .cons (a := x) r t, h => by
    refine .cons ⟨x, r, List.mem_cons_self⟩ ?_
    exact (each_zip t (by simpa using h)).mono fun u e ⟨y, h1, h2⟩ => ⟨y, h1, List.mem_cons_of_mem _ h2⟩
/-- the sorted values, by their abstract ones -/
theorem each_back {γ : Type} {R : V → γ → Prop} : ∀ {us : List Value} {ds : List γ}, EachIs (fun u d => ∃ y, RelV y u ∧ R y d) us ds → ∃ ys, Vals ys us ∧ EachIs R ys ds
  | _, _, .nil => ⟨[], .nil, .nil⟩
  | _, _, .cons ⟨y, h1, h2⟩ t => by
    obtain ⟨ys, a, b⟩ := each_back t
    exact ⟨y :: ys, .cons h1 a, .cons h2 b⟩
theorem dpAll_len {K : PySem.W.Frag} {H : Hp} : ∀ {xs : List V} {ds : List PyData}, DpAll K H xs ds → ds.length = xs.length
  | _, _, .nil => rfl
  | _, _, .cons _ t => by rw [List.length_cons, List.length_cons, dpAll_len t]
theorem call_sortedU {X : Cx} (K : PySem.W.Frag) (hK : X.K = K) (hu : X.A.units + 64 < cLine) : CallR X (.builtin "sorted") (rSortD K) := by
  subst hK
  intro pins s σ H vs us Q I r h
  obtain ⟨a, xs, ds, rfl, hs, hd, hal, hk, hdep, q⟩ := h
  cases r with
  | cons r t =>
    cases t
    cases r
    obtain ⟨its, rv, hl, hz⟩ := I.list hs
    have hlen := dpAll_len hd
    obtain ⟨as, hr⟩ := Dp.readsAll I ds xs its hd rv
    have er : EachIs (fun v d => ∃ as, Reads s.heap v (id d) as) its ds := readsAll_each (enc := id) (bs := ds) (by rw [List.map_id]; exact hr)
    refine sorted_data (bs := ds) (enc := id) hl.isList (each_zip rv hlen) er (by rw [List.map_id]; exact hal) (by rw [List.map_id]; exact hk) (by rw [hlen]; exact hz) (fun d hm => ?_) fun out ho he => ?_
    · have := hdep d hm
      show X.A.units + 2 + d.depth < cLine
      omega
    · obtain ⟨ys, h1, h2⟩ := each_back he
      obtain ⟨ep, hp⟩ := PyProof.Rows.sortedAll_at s.heap its (List.toArray out)
      refine ⟨.ref _, upd H (s.heap.objs.size + 1) (.lst ys), I.laid (t' := s.toks) (fun _ _ => PyProof.Rows.sortedAll_old) (Nat.le_succ _) ⟨?_, out, ep, h1, hp⟩, rfl, q ys _ h2 (I.hok.fresh (Nat.le_succ _))⟩
      rw [h1.length, ho, hlen]
      exact hz
end

open PySem PySem.Spec PyProof.Rows L2
/-! ### sorted(xs, key=lambda x: ..) whose keys are ints -/
section
variable {P : Program} {w : World} {K : PySem.W.Frag} {mg : Str → Option Value} {base : Heap} {N : List Str} {x q : Str} {scope : Scope} {k : Nat} {f c : Addr} {params : Arguments} {body : Expr} {pm ctv : Value} {tb : TE}
/-- a lambda's object without captured names, called on one value -/
theorem lam_run {A : Around} {outer : List Env} {s : Shared} {H : Hp} {u : Value} {v : V} {Q : VK} (of : s.heap.get? f = some (PySem.W.kla_obj "<lambda>" q params body scope [] pm c ctv)) (hc : s.heap.CodeRec (.ref c) q) (S : FnScope N [x] scope) (hr : Room (k + 1) A)
    (e0 : Env0 P w K mg base A outer s H) (hb : bindArgs (PySem.W.kla_fn "<lambda>" q params body scope [] pm (.ref c) ctv) ⟨[u], []⟩ = pure [(x, u)]) (r : RelV v u)
    (hbody : PE (cxOf CX0 P w K mg base N q scope f (.ref c) A outer s H E0) body tb) (h : tb (start N [v]) H Q) :
    codeAny (model P w) A (.call (.ref f) ⟨[u], []⟩) (CR CX0 outer P w H s Q E0) s := by
  have lim : s.heap.NoLimit := e0.mod.nolimit.keeps fun b o e => (e0.bs b o e).1
  refine PySem.W.kla_callFunE hr.depth of rfl S.co S.gen rfl hc ?_
  rw [hb]
  refine wpAny_pure (wpAny_newFunctionEnv_cells S.kind (fun y hy => ?_) fun env he s1 z => ?_)
  · obtain rfl : y = (x, u) := by simpa using hy
    rcases S.par x (by simp) with j | j
    · exact .inl j
    · exact .inr ⟨j, PySem.W.cellsFrom_some _ _ _ (.inl j)⟩
  · subst he
    refine ⟨lim.keeps z.toInCall.keep, ?_⟩
    have I : Inv (cxOf CX0 P w K mg base N q scope f (.ref c) A outer s H E0) [] (start N [v]) H s1 := inv_start S hr.hd e0 rfl (.cons r .nil) z
    refine PySem.W.kla_codeExpr (wpAny_mono (hbody.run [] s1 _ H Q I h) (fun y s' hy => ?_) fun e s' he => he)
    obtain ⟨y', H', J, ry, qy⟩ := hy
    exact ⟨y', H', J.os, J.bare, J.base, J.hok, ry, qy⟩
end
/-- an untracked object is changed -/
theorem hok_free {P : Program} {w : World} {H : Hp} {h h' : Heap} {c : Addr} (ok : HOk P w H h) (n : H c = none) (kp : ∀ b o, b ≠ c → h.get? b = some o → h'.get? b = some o) : HOk P w H h' := fun a o e =>
  (ok a o e).stay (fun b u hb g => kp b u (by
    rintro rfl
    rcases hb with hb | hb
    · rw [← hb, n] at e
      cases e
    · rw [n] at hb
      cases hb) g) (fun _ z => z) fun _ _ z => z
theorem un_free {fs : List Addr} {H : Hp} {h h' : Heap} {c : Addr} (kp : ∀ b o, b ≠ c → h.get? b = some o → h'.get? b = some o) (there : ∃ o, h'.get? c = some o) : Un fs [c] H H h h' where
  keep := fun b o e _ _ hx => kp b o (by simpa using hx) e
  slot := fun b o e _ _ hx => ⟨o.slots, kp b o (by simpa using hx) e⟩
  free := fun _ _ _ n _ => n
  there := fun b o e hx => ⟨o, kp b o (by simpa using hx) e⟩
  tups := fun _ _ e => e
  frzs := fun _ _ _ e => e
  tbls := fun _ ps e => ⟨#[], by simpa using e⟩
/-- what was not there does not count -/
theorem un_drop {fs : List Addr} {H H' : Hp} {h h' : Heap} {c : Addr} (u : Un fs [c] H H' h h') (n : h.get? c = none) : Un fs [] H H' h h' := by
  have ne : ∀ b o, h.get? b = some o → b ∉ [c] := fun b o e z => by
    rw [show b = c by simpa using z, n] at e
    cases e
  exact ⟨fun b o e n1 n2 _ => u.keep b o e n1 n2 (ne b o e), fun b o e n1 n2 _ => u.slot b o e n1 n2 (ne b o e), fun b o e n1 _ => u.free b o e n1 (ne b o e), fun b o e _ => u.there b o e (ne b o e), u.tups, u.frzs, u.tbls⟩
theorem not_fr {X : Cx} {pins : List (Addr × Obj)} {σ : L2.St} {H : Hp} {s : Shared} (I : Inv X pins σ H s) {b : Addr} (hb : s.heap.objs.size ≤ b) : b ∉ frs X.stack := by
  intro z
  cases List.mem_cons.mp (I.stkSub b z) with
  | inl e =>
    have h1 := I.lt
    subst e
    exact absurd (Nat.lt_of_lt_of_le h1 hb) (Nat.lt_irrefl _)
  | inr e => exact I.nofs hb e
theorem vals_each : ∀ {xs : List V} {us : List Value}, PySem.W.EachIs (fun u x => RelV x u) us xs → Vals xs us
  | _, _, .nil => .nil
  | _, _, .cons r t => .cons r (vals_each t)
theorem ints_read (h : Heap) : ∀ {ks : List Int} {us : List Value}, Vals (ks.map V.int) us → PySem.W.EachIs (fun u d => ∃ as, Reads h u d as) us (ks.map PyData.int)
  | [], _, .nil => .nil
  | n :: ks, _, .cons ⟨t, e⟩ r => by
    subst e
    exact .cons ⟨[], .int n t⟩ (ints_read h r)

section
open PySem.W
def tSortLam (T : List (Addr × Str)) (K : PySem.W.Frag) (N : List Str) (ta : TA) (tb : TE) : TE := fun σ H Q => ta σ H fun vs H1 => ∃ (a : Addr) (xs : List V) (κ : V → Int), vs = [.ref a] ∧ SqL K H1 a xs ∧ LamX.Tabs T H1 ∧
  (∀ x ∈ xs, ∀ H2, Ext T [] H1 H2 → ∀ Q' : VK, (∀ H3, Ext T [] H2 H3 → Q' (.int (κ x)) H3) → tb (start N [x]) H2 Q') ∧ ∀ q H3, Nw H1 q → Ext T [] H1 H3 → H3 q = some (.lst (xs.mergeSort fun a b => decide (κ a ≤ κ b))) → Q (.ref q) H3
theorem tab_ext {T : List (Addr × Str)} {H H1 : Hp} (e : LamX.ExtN H H1) (t : LamX.Tabs T H1) : Ext T [] H H1 := ⟨fun b o _ n h => e b o h n, fun _ => t⟩
/-- the sort's loop over the items and its end -/
theorem sort_lam_run {X : Cx} {pins : List (Addr × Obj)} {σ : L2.St} {H : Hp} {s : Shared} {T : List (Addr × Str)} {N : List Str} {x q : Str} {scope : Scope} {k : Nat} {f c l : Addr} {params : Arguments} {body : Expr} {pm ctv : Value} {tb : TE} {xs : List V} {κ : V → Int} {Q : VK}
    (I : Inv X pins σ H s) (of : s.heap.get? f = some (kla_obj "<lambda>" q params body scope [] pm c ctv)) (fn : H f = none) (ff : f ∉ frs X.stack) (hc : H c = some (LamX.CodeO c q)) (S : FnScope N [x] scope) (hr : Room (k + 2) X.A)
    (hb : ∀ u, bindArgs (kla_fn "<lambda>" q params body scope [] pm (.ref c) ctv) ⟨[u], []⟩ = pure [(x, u)])
    (hbody : ∀ (A : Around) (s : Shared) (H : Hp), Room k (A.deeper (envOfC q scope s.heap.objs.size f (.ref c))) → PE (cxOf CX0 X.prog X.w X.K X.mg X.base N q scope f (.ref c) A X.stack s H E0) body tb)
    (hl : SqL X.K H l xs) (turn : ∀ x ∈ xs, ∀ H2, Ext T [] H H2 → ∀ Q' : VK, (∀ H3, Ext T [] H2 H3 → Q' (.int (κ x)) H3) → tb (start N [x]) H2 Q')
    (done : ∀ q H3, Nw H q → Ext T [] H H3 → H3 q = some (.lst (xs.mergeSort fun a b => decide (κ a ≤ κ b))) → Q (.ref q) H3) :
    wpAny (model X.prog X.w) X.A (call (.builtin "sorted") [.ref l] [(Str.ofString "key", .ref f)]) (EP X pins σ Q) X.xe s := by
  obtain ⟨its, rv, pl, hz⟩ := I.list hl
  have hlen : its.length = xs.length := rv.length.symm
  have hz' : its.length ≤ sizeLine := by rw [hlen]; exact hz
  refine sorted_of_sort pl.isList hz' (ksk_s1 _ _) (fun _ => ksk_l1 _ _) fun E' => ?_
  rw [ksk_t1]
  have hA := copyHeap_at s.heap its
  have hsz : (copyHeap s.heap its).objs.size = s.heap.objs.size + 2 := by
    unfold copyHeap
    rw [size_push', Heap.size_update, size_push']
  generalize ha : s.heap.objs.size + 1 = a at hA ⊢
  unfold ksk_tree
  obtain ⟨e1, hA1⟩ : ∃ e1, ((copyHeap s.heap its).update a (Obj.mapSeq fun _ => (#[] : Array Value))).get? a = some (seqObj "list" #[] e1) := ⟨_, get?_update_seq hA fun _ => #[]⟩
  refine wpAny_bind (listItems_at hA rfl ?_)
  refine wpAny_bind (listUpdate_at hA rfl ?_ (by rw [List.size_toArray]; exact hz') (Nat.zero_le _))
  refine wpAny_bind (seqEpoch_at hA1 rfl ?_)
  refine wpAny_bind (wpAny_newTuple ?_ (by show its.length ≤ _; exact hz'))
  refine wpAny_bind (wpAny_newList ?_ (Nat.zero_le _))
  refine wpAny_holding ?_
  have hkv : ((copyHeap s.heap its).update a (Obj.mapSeq fun _ => (#[] : Array Value)) |>.push (seqObj "tuple" its.toArray 0)).objs.size = s.heap.objs.size + 3 := by
    rw [size_push', Heap.size_update, hsz]
  show wpAny _ _ _ _ _ { s with heap := (((copyHeap s.heap its).update a (Obj.mapSeq fun _ => (#[] : Array Value))).push (seqObj "tuple" its.toArray 0)).push (seqObj "list" #[] 0) }
  have gK : ((((copyHeap s.heap its).update a (Obj.mapSeq fun _ => (#[] : Array Value))).push (seqObj "tuple" its.toArray 0)).push (seqObj "list" #[] 0)).get? (s.heap.objs.size + 3) = some (seqObj "list" #[] 0) := by
    rw [← hkv]
    exact Heap.get?_push_size _ rfl
  have gA : ((((copyHeap s.heap its).update a (Obj.mapSeq fun _ => (#[] : Array Value))).push (seqObj "tuple" its.toArray 0)).push (seqObj "list" #[] 0)).get? a = some (seqObj "list" #[] e1) := Heap.get?_push_of_some _ (Heap.get?_push_of_some _ hA1)
  have gO : ∀ b o, s.heap.get? b = some o → ((((copyHeap s.heap its).update a (Obj.mapSeq fun _ => (#[] : Array Value))).push (seqObj "tuple" its.toArray 0)).push (seqObj "list" #[] 0)).get? b = some o := fun b o e => by
    have hb : b ≠ a := by
      rw [← ha]
      exact Nat.ne_of_lt (Nat.lt_succ_of_lt (Heap.lt_size e))
    exact sortingHeap_old hb (copyHeap_old e)
  have eK : (((copyHeap s.heap its).update a (Obj.mapSeq fun _ => (#[] : Array Value))).push (seqObj "tuple" its.toArray 0)).objs.size = s.heap.objs.size + 3 := hkv
  rw [eK]
  generalize hk : s.heap.objs.size + 3 = kS at gK ⊢
  generalize ((((copyHeap s.heap its).update a (Obj.mapSeq fun _ => (#[] : Array Value))).push (seqObj "tuple" its.toArray 0)).push (seqObj "list" #[] 0)) = G at gK gA gO ⊢
  have hka : kS ≠ a := by
    rw [← hk, ← ha]
    exact Nat.ne_of_gt (Nat.lt_succ_of_lt (Nat.lt_succ_self _))
  have hleA : s.heap.objs.size ≤ a := by
    rw [← ha]
    exact Nat.le_succ _
  have hleK : s.heap.objs.size ≤ kS := by
    rw [← hk]
    exact Nat.le_add_right _ 3
  have sA : s.heap.get? a = none := Heap.get?_none_of_le hleA
  have sK : s.heap.get? kS = none := Heap.get?_none_of_le hleK
  have fA := not_fr I hleA
  have fK := not_fr I hleK
  unfold ksk_rest
  refine wpAny_bind (wpAny_rule ?_)
  rw [List.forIn_toArray]
  refine wpAny_bind (ksk_fold (fun i st => ∃ (Hi : Hp) (keys : Array Value) (ep : Nat), st.os = s.os ∧ AllBare st.gens ∧ Un (frs X.stack) [] H Hi s.heap st.heap ∧ HOk X.prog X.w Hi st.heap ∧ Ext T [] H Hi ∧ Hi a = none ∧ Hi kS = none ∧ Hi f = none ∧
      st.heap.get? kS = some (seqObj "list" keys ep) ∧ st.heap.get? a = some (seqObj "list" #[] e1) ∧ st.heap.get? f = some (kla_obj "<lambda>" q params body scope [] pm c ctv) ∧ Vals (((xs.take i).map κ).map V.int) keys.toList) its 0 _
    ⟨H, #[], 0, rfl, I.bare, .kept gO, I.hok.kept gO, .refl, I.hok.fresh hleA, I.hok.fresh hleK, fn, gK, gA, gO _ _ of, .nil⟩ ?step ?fin)
  case step =>
    rintro j v st hv ⟨Hi, keys, ep, k1, k2, k3, k4, k5, k6, k7, k8, k9, k10, k11, k12⟩
    simp only [Nat.zero_add] at k12 ⊢
    have J : Inv X pins σ Hi st := I.call' (ch := []) k1 k3 k4 k2 (by simp)
    have hj : j < its.length := (List.getElem?_eq_some_iff.mp hv).1
    obtain ⟨y, hy⟩ : ∃ y, xs[j]? = some y := ⟨_, List.getElem?_eq_getElem (by omega)⟩
    have hym : y ∈ xs := List.mem_of_getElem? hy
    obtain ⟨v', hv', ry⟩ := rv.get hy
    rw [hv] at hv'
    cases hv'
    have e0 := J.env0
    have hci : Hi c = some (LamX.CodeO c q) := k5.keep c _ (by simp) (fun ps z => LamX.codeO_ne ps z) hc
    obtain ⟨⟨oc, vs0, tq, c1, c2, c3⟩, _, _⟩ := k4 c _ hci
    have hr2 : Room (k + 1) X.A.in1.in1 := ⟨hr.hd, by have := hr.dp; show X.A.depth + 3 * (k + 1) + 5 < _; omega, by have := hr.un; show X.A.units + 1 + 1 + 16 * (k + 1) + 200 < _; omega⟩
    have rc := lam_run (k := k) (A := X.A.in1.in1) (outer := X.stack) (Q := fun r H3 => r = .int (κ y) ∧ Ext T [] Hi H3) k11 ⟨c, oc, vs0, tq, rfl, c1, c2, c3⟩ S hr2 ⟨e0.frames, e0.mod, e0.bs, e0.bsz, e0.funs, e0.frf, e0.hok, e0.bare⟩ (hb v) ry
      (hbody X.A.in1.in1 st Hi (hr2.deeper _)) (turn y hym Hi k5 _ fun H3 e3 => ⟨rfl, e3⟩)
    refine wpAny_bind (wpAny_attempt (wpAny_mono (wpAny_call (Q := fun u s2 => ∃ H', s2.os = s.os ∧ AllBare s2.gens ∧ Un (frs X.stack) [] Hi H' st.heap s2.heap ∧ HOk X.prog X.w H' s2.heap ∧ Ext T [] Hi H' ∧ ∃ t, u = .int (κ y) t) (E := fun _ _ => False)
      (codeAny_mono rc fun r s2 hq => ?_)) (fun u s2 he => ?_) fun _ _ z => z.elim))
    · cases r with
      | error e => exact False.elim hq
      | ok fl =>
        cases fl with
        | next => exact False.elim hq
        | brk => exact False.elim hq
        | cont => exact False.elim hq
        | ret u =>
          obtain ⟨z, H', h1, h2, h3, h4, h5, h6, h7⟩ := hq
          subst h6
          exact ⟨H', h1.trans k1, h2, h3, h4, h7, h5⟩
    · obtain ⟨H', m1, m2, m3, m4, m5, t', rfl⟩ := he
      have nA := m3.free a _ k10 k6 (by simp)
      have nK := m3.free kS _ k9 k7 (by simp)
      have nF := m3.free f _ k11 k8 (by simp)
      have gK2 := m3.keep kS _ k9 k7 fK (by simp)
      have gA2 := m3.keep a _ k10 k6 fA (by simp)
      have gF2 := m3.keep f _ k11 k8 ff (by simp)
      have sb := Heap.SameBut.update s2.heap kS (Obj.mapSeq (·.push (.int (κ y) t')))
      obtain ⟨c2', hc2⟩ : ∃ c2, (s2.heap.update kS (Obj.mapSeq (·.push (.int (κ y) t')))).get? kS = some (seqObj "list" (keys.push (.int (κ y) t')) c2) := ⟨_, get?_update_seq gK2 (·.push (.int (κ y) t'))⟩
      have kp : ∀ b o, b ≠ kS → s2.heap.get? b = some o → (s2.heap.update kS (Obj.mapSeq (·.push (.int (κ y) t')))).get? b = some o := fun b o hb e => (sb.2 b hb).trans e
      have hkl : keys.size = j := by
        have h1 := k12.length
        have h0 : keys.toList.length = keys.size := Array.length_toList
        rw [List.length_map, List.length_map, List.length_take] at h1
        omega
      have hfk : f ≠ kS := fun z => by
        rw [z] at of
        rw [sK] at of
        cases of
      refine wpAny_bind (listUpdate_at gK2 rfl ?_ (by rw [hkl]; omega) (by show (keys.push _).size ≤ _; rw [Array.size_push, hkl]; omega))
      refine wpAny_pure ⟨rfl, H', keys.push (.int (κ y) t'), c2', m1, m2, ?_, hok_free m4 nK kp, k5.trans m5, nA, nK, nF, hc2, kp a _ hka.symm gA2, kp f _ hfk gF2, ?_⟩
      · exact un_drop (((k3.mono (fun _ z => z) (fun _ z => absurd z (by simp))).trans (m3.mono (fun _ z => z) (fun _ z => absurd z (by simp)))).trans (un_free kp ⟨_, hc2⟩)) sK
      · rw [List.take_add_one, hy, Array.toList_push, List.map_append, List.map_append]
        exact k12.append (.cons ⟨t', rfl⟩ .nil)
  case fin =>
    rintro st ⟨Hi, keys, ep, k1, k2, k3, k4, k5, k6, k7, k8, k9, k10, k11, k12⟩
    have et : xs.take (0 + its.length) = xs := List.take_of_length_le (by omega)
    rw [et] at k12
    have hkl : keys.size = its.length := by
      have h1 := k12.length
      have h0 : keys.toList.length = keys.size := Array.length_toList
      rw [List.length_map, List.length_map] at h1
      omega
    refine wpAny_bind (listItems_at k9 rfl ?_)
    have hrd : EachIs (fun u d => ∃ as, Reads st.heap u d as) keys.toList (xs.map fun y => PyData.int (κ y)) := by
      have h1 := ints_read st.heap (ks := xs.map κ) k12
      rw [List.map_map] at h1
      exact h1
    have hal : AllAlike (xs.map fun y => PyData.int (κ y)) := fun d hd d' hd' => by
      obtain ⟨y, _, rfl⟩ := List.mem_map.mp hd
      obtain ⟨y', _, rfl⟩ := List.mem_map.mp hd'
      rfl
    have hso : PySem.W.Sortable (xs.map fun y => PyData.int (κ y)) := .inr fun d hd => by
      obtain ⟨y, _, rfl⟩ := List.mem_map.mp hd
      exact ⟨(fun z => nomatch z), (fun _ z => nomatch z)⟩
    refine keyH_end (κ := dataKind st.heap (xs.map fun y => PyData.int (κ y))) (h₁ := hideAll st.heap [kS]) (fun b o _ e => of_hideAll _ e) (hideAll_none _ (by simp)) k9 k10 hka
      (SortsAt.data (s := st) hrd hal hso fun d hd => ?_) hkl hz' fun h' tk c3 kb na => ?_
    · obtain ⟨y, _, rfl⟩ := List.mem_map.mp hd
      have h1 := hr.un
      show X.A.units + 1 + 1 + 0 < cLine
      omega
    · refine ⟨rfl, ?_⟩
      have ho := keyedOut_each (fun y : V => PyData.int (κ y)) (rev := false) (bs := xs) (vs := its) ⟨st.heap, keys.toList, hal, rfl, hrd⟩ (each_vals rv)
      rw [dataLe_int] at ho
      have hv := vals_each ho
      have kp : ∀ b o, b ≠ a → b ≠ kS → st.heap.get? b = some o → h'.get? b = some o := fun b o h1 h2 e => kb b o h1 (hideAll_get _ e (by simpa using h2))
      have nA : ∀ b u, Hi b = some u → b ≠ a := fun b u e => ne_of_none e k6
      have nK : ∀ b u, Hi b = some u → b ≠ kS := fun b u e => ne_of_none e k7
      have oA : ∀ b o, s.heap.get? b = some o → b ≠ a := fun b o e z => by
        rw [z, sA] at e
        cases e
      have oK : ∀ b o, s.heap.get? b = some o → b ≠ kS := fun b o e z => by
        rw [z, sK] at e
        cases e
      have hml : (xs.mergeSort fun a b => decide (κ a ≤ κ b)).length ≤ sizeLine := by
        rw [List.length_mergeSort]
        exact hz
      have hok2 : HOk X.prog X.w (upd Hi a (.lst (xs.mergeSort fun a b => decide (κ a ≤ κ b)))) h' := fun b u e => by
        by_cases hb : b = a
        · subst hb
          rw [upd_same] at e
          cases e
          exact ⟨hml, _, c3, hv, na⟩
        · rw [upd_ne hb] at e
          refine (k4 b u e).stay (fun d o hd g => ?_) (fun d g => by rw [upd_ne (nA d _ g)]; exact g) fun d ys g => by rw [upd_ne (nA d _ g)]; exact g
          rcases hd with rfl | hd
          · exact kp _ _ hb (nK _ _ e) g
          · exact kp _ _ (nA _ _ hd) (nK _ _ hd) g
      have un2 : Un (frs X.stack) [] H (upd Hi a (.lst (xs.mergeSort fun a b => decide (κ a ≤ κ b)))) s.heap h' := by
        refine ⟨fun b o e n nf nx => kp b o (oA b o e) (oK b o e) (k3.keep b o e n nf nx), fun b o e n nf nx => ?_, fun b o e n nx => ?_, fun b o e nx => ?_, fun b ys e => ?_, fun b o u e => ?_, fun b ps e => ?_⟩
        · obtain ⟨sl, e2⟩ := k3.slot b o e n nf nx
          exact ⟨sl, kp b _ (oA b o e) (oK b o e) e2⟩
        · rw [upd_ne (oA b o e)]
          exact k3.free b o e n nx
        · obtain ⟨o', e2⟩ := k3.there b o e nx
          exact ⟨o', kp b _ (oA b o e) (oK b o e) e2⟩
        · have e2 := k3.tups b ys e
          rw [upd_ne (nA b _ e2)]
          exact e2
        · have e2 := k3.frzs b o u e
          rw [upd_ne (nA b _ e2)]
          exact e2
        · obtain ⟨more, e2⟩ := k3.tbls b ps e
          exact ⟨more, by rw [upd_ne (nA b _ e2)]; exact e2⟩
      refine ⟨.ref a, _, I.call' (s' := { st with heap := h', toks := tk }) (ch := []) k1 un2 hok2 k2 (by simp), rfl, done a _ (.of (I.hok.fresh hleA)) (k5.newR k6) upd_same⟩
theorem pe_sortedLam {X : Cx} {T : List (Addr × Str)} (K : PySem.W.Frag) (hK : X.K = K) {N : List Str} {x : Str} {e : Expr} {ta : TA} {tb : TE} {c P : Addr} {k : Nat} {params : Arguments} {body : Expr} {scope : Scope} {p lpos kpos pos : Pos}
    (TB : LamX.TabB X.base X.mg c P) (hcode : X.env.code = .ref c) (hmT : (P, X.env.qual ++ "<lambda>") ∈ T) (hu : ∀ z ∈ T, z.1 = P → z.2 = X.env.qual ++ "<lambda>") (hr : Room (k + 2) X.A) (S : FnScope N [x] scope)
    (hbody : ∀ (A : Around) (s : Shared) (H : Hp) (f c' : Addr), Room k (A.deeper (envOfC (X.env.qual ++ "<lambda>") scope s.heap.objs.size f (.ref c'))) → PE (cxOf CX0 X.prog X.w X.K X.mg X.base N (X.env.qual ++ "<lambda>") scope f (.ref c') A X.stack s H E0) body tb)
    (hg : Gl X "sorted") (hm : X.mg "sorted" = none) (ha : PA X [e] ta) (hcl : cloFrom X.env.cells scope.names [] = [] := by rfl) (hfr : ∀ y ∈ scope.names, y.2 ≠ .free := by decide +kernel)
    (hdef : defaultsOf params X.env = ([], []) := by rfl)
    (hb : ∀ (q : Str) (pm cv ctv u : Value), bindArgs (kla_fn "<lambda>" q params body scope [] pm cv ctv) ⟨[u], []⟩ = pure [(x, u)] := by intros; rfl)
    (hst : backTo pos (starEach [e] X.env) = (false, eval e X.env) :: backTo pos (starEach [] X.env) := by rfl) (hpl : (backTo pos (starEach [e] X.env)).any (·.1) = false := by rfl) :
    PE X (.Call (.Name "sorted" p) [e] [⟨some "key", .Lambda params body scope lpos, kpos⟩] pos) (tSortLam T K N ta tb) := by
  subst hK
  refine ⟨fun pins s σ H Q I h => ?_⟩
  refine wpAny_Call_Name_kw (ld_blt I hg hm (by decide +kernel : bootBuiltins "sorted" = some (.builtin "sorted")) ?_)
  refine PyProof.Rows.callWith_kw (thn (ha.run pos pins s σ H _ I h) fun us s1 ⟨vs, H1, I1, r1, a, xs, κ, ea, hl, ht, turn, done⟩ => ?_) hst hpl rfl rfl
  subst ea
  cases r1 with
  | cons r rr =>
    cases rr
    cases r
    show wpAny _ _ (evalAll [do let v ← eval (.Lambda params body scope lpos) X.env; standAt pos; pure v]) _ _ s1
    refine wpAny_evalAll_cons (wpAny_bind (LamX.lam_make2 I1 TB hcode hmT hu ht hdef (fun y hy z => absurd z (hfr y hy)) fun f c' pm ctv H2 s2 I2 eN T2 hf hfn hff hco => ?_))
    refine wpAny_bind (wpAny_standAt (wpAny_pure (wpAny_evalAll_nil ?_)))
    rw [hcl] at hf
    have e2 := tab_ext eN T2
    exact sort_lam_run (k := k) (κ := κ) (T := T) (I2) hf hfn hff hco S hr (fun u => hb _ _ _ _ u) (fun A s H hr' => hbody A s H f c' hr') (e2.seqL (by simp) hl) (fun x hx H3 e3 => turn x hx H3 (e2.trans e3)) fun q H3 nq e3 hq => done q H3 (e2.back (by simp) nq) (e2.trans e3) hq
theorem rd_sortLam {T : List (Addr × Str)} {K : PySem.W.Frag} {N : List Str} {ta : TA} {tb : TE} {σ : L2.St} {H : Hp} {Q : VK} (q : ta σ H fun vs H1 => ∃ (a : Addr) (xs : List V) (κ : V → Int), vs = [.ref a] ∧ SqL K H1 a xs ∧ LamX.Tabs T H1 ∧
  (∀ x ∈ xs, ∀ H2, Ext T [] H1 H2 → ∀ Q' : VK, (∀ H3, Ext T [] H2 H3 → Q' (.int (κ x)) H3) → tb (start N [x]) H2 Q') ∧ ∀ q H3, Nw H1 q → Ext T [] H1 H3 → H3 q = some (.lst (xs.mergeSort fun a b => decide (κ a ≤ κ b))) → Q (.ref q) H3) : tSortLam T K N ta tb σ H Q := q
end
/-! ### a def whose own code object is known: it makes a lambda -/
def DefC (K : PySem.W.Frag) (mg : Str → Option Value) (x : Str) (st : Stmt) (ps : List Str) (c : Addr) : Prop :=
  ∃ (f : Addr) (oc : Value) (od : Option Addr) (kV doc pm : Value) (an : Option Addr) (ct : Value) (osl : Array (Option Value)),
    K.lookup f = some ⟨oc, od, .func (PySem.W.fnOf x x (defArgs st) (defBody st) (defScope st) .none kV doc pm an (.ref c) ct), osl⟩ ∧ PySem.W.codeIn K (.ref c) x = true ∧ PySem.W.keepIn K (.ref f) = true ∧ mg x = some (.ref f) ∧
    Binds K (PySem.W.fnOf x x (defArgs st) (defBody st) (defScope st) .none kV doc pm an (.ref c) ct) ps []
theorem DefC.ok {P : Program} {w : World} {K : PySem.W.Frag} {mg : Str → Option Value} {base : Heap} {x : Str} {st : Stmt} {N ps : List Str} {k : Nat} {sp : Sp} {c : Addr} (D : DefC K mg x st ps c) (S : FnScope N ps (defScope st)) (len : ∀ vs H Q E, sp vs H Q E → vs.length = ps.length)
    (hbody : ∀ (f : Addr) (A : Around) (outer : List Env) (s : Shared) (H : Hp) (vs : List V) (Q : VK) (E : XK), Room k (A.deeper (envOfC x (defScope st) s.heap.objs.size f (.ref c))) → sp vs H Q E →
      ∃ t, PSs (cxOf CX0 P w K mg base N x (defScope st) f (.ref c) A outer s H E).nox (defBody st) t ∧ t { nx := fun _ H' => Q .non H', rt := Q } (start N vs) H) : Ok P w K mg base (k + 1) x ps sp := by
  obtain ⟨f, oc, od, kV, doc, pm, an, ct, osl, lk, hcd, hk, hm, hb⟩ := D
  refine ⟨f, _, fn_of lk hcd S len fun A outer s H vs Q E hr h => ?_, hm, hk, hb⟩
  obtain ⟨t, h1, h2⟩ := hbody f A outer s H vs Q E hr h
  exact ⟨t, h1.nox, h2⟩

open PySem PySem.Spec PyProof.Rows L2
/-! ### what the head has written: the defs, the constants, the words of the language -/
def DefIn (K : PySem.W.Frag) (x : Str) (st : Stmt) : Prop :=
  ∃ (f : Addr) (oc : Value) (od : Option Addr) (kV doc pm : Value) (an : Option Addr) (cdv ct : Value) (osl : Array (Option Value)),
    PySem.W.nsIn K mainGlobals x = some (some (.ref f)) ∧ K.lookup f = some ⟨oc, od, .func (PySem.W.fnOf x x (defArgs st) (defBody st) (defScope st) .none kV doc pm an cdv ct), osl⟩ ∧ PySem.W.codeIn K cdv x = true ∧ PySem.W.keepIn K (.ref f) = true
def DefInC (K : PySem.W.Frag) (x : Str) (st : Stmt) (c : Addr) : Prop :=
  ∃ (f : Addr) (oc : Value) (od : Option Addr) (kV doc pm : Value) (an : Option Addr) (ct : Value) (osl : Array (Option Value)),
    PySem.W.nsIn K mainGlobals x = some (some (.ref f)) ∧ K.lookup f = some ⟨oc, od, .func (PySem.W.fnOf x x (defArgs st) (defBody st) (defScope st) .none kV doc pm an (.ref c) ct), osl⟩ ∧ PySem.W.codeIn K (.ref c) x = true ∧ PySem.W.keepIn K (.ref f) = true
theorem DefIn.of {K : PySem.W.Frag} {x : Str} {st : Stmt} {f : Addr} {oc : Value} {od : Option Addr} {kV doc pm : Value} {an : Option Addr} {cdv ct : Value} {osl : Array (Option Value)} (h1 : PySem.W.nsIn K mainGlobals x = some (some (.ref f)))
    (h2 : K.lookup f = some ⟨oc, od, .func (PySem.W.fnOf x x (defArgs st) (defBody st) (defScope st) .none kV doc pm an cdv ct), osl⟩) (h3 : PySem.W.codeIn K cdv x = true) (h4 : PySem.W.keepIn K (.ref f) = true) : DefIn K x st := ⟨f, oc, od, kV, doc, pm, an, cdv, ct, osl, h1, h2, h3, h4⟩
theorem DefInC.of {K : PySem.W.Frag} {x : Str} {st : Stmt} {f c : Addr} {oc : Value} {od : Option Addr} {kV doc pm : Value} {an : Option Addr} {ct : Value} {osl : Array (Option Value)} (h1 : PySem.W.nsIn K mainGlobals x = some (some (.ref f)))
    (h2 : K.lookup f = some ⟨oc, od, .func (PySem.W.fnOf x x (defArgs st) (defBody st) (defScope st) .none kV doc pm an (.ref c) ct), osl⟩) (h3 : PySem.W.codeIn K (.ref c) x = true) (h4 : PySem.W.keepIn K (.ref f) = true) : DefInC K x st c := ⟨f, oc, od, kV, doc, pm, an, ct, osl, h1, h2, h3, h4⟩
theorem cstS_of {K : PySem.W.Frag} {x y : Str} {t : Tok} (h : PySem.W.nsIn K mainGlobals x = some (some (.str y t))) : ∃ t, PySem.W.nsIn K mainGlobals x = some (some (.str y t)) := ⟨t, h⟩
theorem cstI_of {K : PySem.W.Frag} {x : Str} {y : Int} {t : Tok} (h : PySem.W.nsIn K mainGlobals x = some (some (.int y t))) : ∃ t, PySem.W.nsIn K mainGlobals x = some (some (.int y t)) := ⟨t, h⟩
section
variable {K : PySem.W.Frag} {h : Heap} {mg : Str → Option Value} {x : Str} {st : Stmt} {ps : List Str}
def BindOk (x : Str) (st : Stmt) (ps : List Str) : Prop := ∀ (kV doc pm : Value) (an : Option Addr) (cdv ct : Value) (us : List Value), us.length = ps.length → bindArgs (PySem.W.fnOf x x (defArgs st) (defBody st) (defScope st) .none kV doc pm an cdv ct) ⟨us, []⟩ = pure (ps.zip us)
theorem DefIn.mk (d : DefIn K x st) (X : K.In h) (G : h.Ns mainGlobals mg) (hb : BindOk x st ps) : Def K mg x st ps := by
  obtain ⟨f, oc, od, kV, doc, pm, an, cdv, ct, osl, h1, h2, h3, h4⟩ := d
  have F := fun_mk (st := st) h2 h3 h4
  exact ⟨f, _, F, PySem.W.mg_of X G h1, F.binds hb⟩
theorem DefInC.mk {c : Addr} (d : DefInC K x st c) (X : K.In h) (G : h.Ns mainGlobals mg) (hb : BindOk x st ps) : DefC K mg x st ps c := by
  obtain ⟨f, oc, od, kV, doc, pm, an, ct, osl, h1, h2, h3, h4⟩ := d
  exact ⟨f, oc, od, kV, doc, pm, an, ct, osl, h2, h3, h4, PySem.W.mg_of X G h1, (fun_mk (st := st) h2 h3 h4).binds hb⟩
end

open PySem PySem.Spec PyProof.Rows L2
def topS (i : Nat) : Stmt := PySem.Challenge.pw_neverdark_k00_names.main.body.getD i (.Pass ⟨0, 0, 0, 0⟩)
abbrev s_is_word : Stmt := topS 5
abbrev N_is_word : List Str := ["text", "letters", "most", "letter"]
theorem sc_is_word : FnScope ["text", "letters", "most", "letter"] ["text", "letters", "most"] (defScope s_is_word) := ⟨rfl, rfl, rfl, by decide +kernel, rfl, by decide +kernel, by decide +kernel⟩
abbrev s_is_id : Stmt := topS 6
abbrev N_is_id : List Str := ["text"]
theorem sc_is_id : FnScope ["text"] ["text"] (defScope s_is_id) := ⟨rfl, rfl, rfl, by decide +kernel, rfl, by decide +kernel, by decide +kernel⟩
abbrev s_is_label : Stmt := topS 7
abbrev N_is_label : List Str := ["text"]
theorem sc_is_label : FnScope ["text"] ["text"] (defScope s_is_label) := ⟨rfl, rfl, rfl, by decide +kernel, rfl, by decide +kernel, by decide +kernel⟩
abbrev s_is_name : Stmt := topS 8
abbrev N_is_name : List Str := ["text", "parts", "part"]
theorem sc_is_name : FnScope ["text", "parts", "part"] ["text"] (defScope s_is_name) := ⟨rfl, rfl, rfl, by decide +kernel, rfl, by decide +kernel, by decide +kernel⟩
abbrev s_labels : Stmt := topS 9
abbrev N_labels : List Str := ["name"]
theorem sc_labels : FnScope ["name"] ["name"] (defScope s_labels) := ⟨rfl, rfl, rfl, by decide +kernel, rfl, by decide +kernel, by decide +kernel⟩
abbrev s_ends : Stmt := topS 10
abbrev N_ends : List Str := ["name", "other"]
theorem sc_ends : FnScope ["name", "other"] ["name", "other"] (defScope s_ends) := ⟨rfl, rfl, rfl, by decide +kernel, rfl, by decide +kernel, by decide +kernel⟩
abbrev s_chain : Stmt := topS 11
abbrev N_chain : List Str := ["zones", "name", "found", "zone"]
theorem sc_chain : FnScope ["zones", "name", "found", "zone"] ["zones", "name"] (defScope s_chain) := ⟨rfl, rfl, rfl, by decide +kernel, rfl, by decide +kernel, by decide +kernel⟩
abbrev s_zone_of : Stmt := topS 12
abbrev N_zone_of : List Str := ["zones", "name"]
theorem sc_zone_of : FnScope ["zones", "name"] ["zones", "name"] (defScope s_zone_of) := ⟨rfl, rfl, rfl, by decide +kernel, rfl, by decide +kernel, by decide +kernel⟩
abbrev s_law_mix : Stmt := topS 14
abbrev N_law_mix : List Str := ["number"]
theorem sc_law_mix : FnScope ["number"] ["number"] (defScope s_law_mix) := ⟨rfl, rfl, rfl, by decide +kernel, rfl, by decide +kernel, by decide +kernel⟩
abbrev s_law_tape : Stmt := topS 15
abbrev N_law_tape : List Str := ["script", "budget"]
theorem sc_law_tape : FnScope ["script", "budget"] ["script", "budget"] (defScope s_law_tape) := ⟨rfl, rfl, rfl, by decide +kernel, rfl, by decide +kernel, by decide +kernel⟩
abbrev s_law_take : Stmt := topS 16
abbrev N_law_take : List Str := ["tape", "many", "cell", "digit"]
theorem sc_law_take : FnScope ["tape", "many", "cell", "digit"] ["tape", "many"] (defScope s_law_take) := ⟨rfl, rfl, rfl, by decide +kernel, rfl, by decide +kernel, by decide +kernel⟩
abbrev s_law_text : Stmt := topS 17
abbrev N_law_text : List Str := ["tape", "many", "signs", "text", "k", "draw"]
theorem sc_law_text : FnScope ["tape", "many", "signs", "text", "k", "draw"] ["tape", "many"] (defScope s_law_text) := ⟨rfl, rfl, rfl, by decide +kernel, rfl, by decide +kernel, by decide +kernel⟩
abbrev s_law_small : Stmt := topS 18
abbrev N_law_small : List Str := ["text", "sign"]
theorem sc_law_small : FnScope ["text", "sign"] ["text"] (defScope s_law_small) := ⟨rfl, rfl, rfl, by decide +kernel, rfl, by decide +kernel, by decide +kernel⟩
abbrev s_law_is : Stmt := topS 19
abbrev N_law_is : List Str := ["told", "due"]
theorem sc_law_is : FnScope ["told", "due"] ["told", "due"] (defScope s_law_is) := ⟨rfl, rfl, rfl, by decide +kernel, rfl, by decide +kernel, by decide +kernel⟩
abbrev s_law_name : Stmt := topS 20
abbrev N_law_name : List Str := ["tape", "most", "parts", "many", "k"]
theorem sc_law_name : FnScope ["tape", "most", "parts", "many", "k"] ["tape", "most"] (defScope s_law_name) := ⟨rfl, rfl, rfl, by decide +kernel, rfl, by decide +kernel, by decide +kernel⟩
abbrev s_law_from_root : Stmt := topS 21
abbrev N_law_from_root : List Str := ["name", "found", "label"]
theorem sc_law_from_root : FnScope ["name", "found", "label"] ["name"] (defScope s_law_from_root) := ⟨rfl, rfl, rfl, by decide +kernel, rfl, by decide +kernel, by decide +kernel⟩
abbrev s_law_ends : Stmt := topS 22
abbrev N_law_ends : List Str := ["name", "other"]
theorem sc_law_ends : FnScope ["name", "other"] ["name", "other"] (defScope s_law_ends) := ⟨rfl, rfl, rfl, by decide +kernel, rfl, by decide +kernel, by decide +kernel⟩
abbrev s_law_forms : Stmt := topS 23
abbrev N_law_forms : List Str := ["tape", "text", "parts", "fine", "part", "k"]
theorem sc_law_forms : FnScope ["tape", "text", "parts", "fine", "part", "k"] ["tape"] (defScope s_law_forms) := ⟨rfl, rfl, rfl, by decide +kernel, rfl, by decide +kernel, by decide +kernel⟩
abbrev s_law : Stmt := topS 24
abbrev N_law : List Str := ["script", "tape", "turn", "name", "zones", "k", "other", "kept", "found", "zone", "due", "row"]
theorem sc_law : FnScope ["script", "tape", "turn", "name", "zones", "k", "other", "kept", "found", "zone", "due", "row"] ["script"] (defScope s_law) := ⟨rfl, rfl, rfl, by decide +kernel, rfl, by decide +kernel, by decide +kernel⟩
local macro_rules | `(tactic| walk_at "szl") => `(tactic| first
  | assumption
  | exact Nat.lt_of_le_of_lt (by assumption) (by decide)
  | (refine Nat.lt_of_le_of_lt ?_ (show (100000 : Nat) < sizeLine by decide); (try simp only [List.length_map, List.length_cons, List.length_nil, List.length_append]); omega))
local macro_rules | `(tactic| walk_at "sz") => `(tactic| first
  | assumption
  | exact Nat.le_trans (by assumption) (by decide)
  | (show _ ≤ sizeLine; decide)
  | (refine Nat.le_trans ?_ (show (100000 : Nat) ≤ sizeLine by decide); (try simp only [List.length_map, List.length_cons, List.length_nil, List.length_append]); omega))
local macro_rules | `(tactic| walk_at "hp") => `(tactic| first
  | assumption
  | exact upd_same
  | (refine (upd_ne ?hne).trans ?_; (case hne => first | assumption | exact Ne.symm (by assumption)); walk_at "hp"))
local macro_rules | `(tactic| walk_at "rd1") => `(tactic| first
  | with_reducible refine rd_seq ?_
  | with_reducible refine rd_asg ?_
  | with_reducible refine rd_ret ?_
  | with_reducible refine rd_if ?_
  | with_reducible refine rd_drop ?_
  | with_reducible refine rd_next ?_
  | with_reducible refine rd_B ?_
  | with_reducible refine rd_ifE ?_
  | with_reducible refine rd_T ?_
  | with_reducible refine rd_tnot ?_
  | with_reducible refine rd_tand ?_
  | with_reducible refine rd_tor ?_
  | with_reducible refine rd_chain ?_
  | with_reducible refine rd_op ?_
  | with_reducible refine rd_un ?_
  | with_reducible refine rd_call ?_
  | with_reducible refine rd_cons ?_
  | with_reducible refine rd_nil ?_
  | with_reducible refine rd_cb ?_
  | with_reducible refine rd_c ?_
  | with_reducible refine rd_not ?_
  | with_reducible refine rd_and ?_
  | with_reducible refine rd_or ?_
  | with_reducible refine rd_sub ?_
  | with_reducible refine rd_lc ?_
  | with_reducible refine rd_iStr ?_
  | with_reducible refine rd_exStr ?_
  | with_reducible refine rd_iSeq ?_
  | with_reducible refine rd_rng ?_
  | with_reducible refine rd_exRef ?_
  | with_reducible refine rd_exInt ?_
  | with_reducible refine rd_exInts ?_
  | ((with_reducible refine' rd_seqL (xs := ?rxs) ?rxh ?_); (case rxh => exact SqL.of (by walk_at "hp")))
  | with_reducible refine rd_tyes ?_
  | with_reducible refine rd_eqStr ?_
  | with_reducible refine rd_neStr ?_
  | with_reducible refine rd_eqInt ?_
  | with_reducible refine rd_neInt ?_
  | with_reducible refine rd_eqBl ?_
  | with_reducible refine rd_rev ?_
  | with_reducible refine rd_exA ?_
  | with_reducible refine rd_fs ?_
  | with_reducible refine rd_jc ?_
  | with_reducible refine rd_jn ?_
  | with_reducible refine rd_fmt ?_
  | with_reducible refine rd_for ?_
  | with_reducible refine rd_bm ?_
  | ((with_reducible refine' rd_tyL (xs := ?rxs) ?rxh ?_); (case rxh => walk_at "hp"))
  | ((with_reducible refine' rd_app (xs := ?rxs) ?rxh ?rxc ?_); (case rxh => walk_at "hp"); (case rxc => walk_at "szl"))
  | ((with_reducible refine rd_fmtS ?rdc ?_); (case rdc => walk_at "sz"))
  | with_reducible refine rd_isBool ?_
  | with_reducible refine rd_sl ?_
  | with_reducible refine rd_noP ?_
  | with_reducible refine rd_part ?_
  | ((with_reducible refine rd_slS ?rdc ?_); (case rdc => walk_at "sz"))
  | with_reducible refine iteT ?_
  | with_reducible refine rd_ntt ?_
  | with_reducible refine rd_nff ?_
  | with_reducible refine iteF ?_
  | with_reducible refine rd_m1 ?_
  | (with_reducible refine ⟨⟨_, rfl⟩, ?_⟩)
  | ((with_reducible refine rd_len ?rdc ?_); (case rdc => walk_at "sz"))
  | with_reducible refine rd_ends ?_
  | with_reducible refine rd_inS ?_
  | with_reducible refine rd_ninS ?_
  | with_reducible refine rd_isStr ?_
  | with_reducible refine rd_lst ?_
  | with_reducible refine rd_tup ?_
  | with_reducible refine rd_name ?_
  | with_reducible refine rd_bl ?_
  | with_reducible refine rd_i0 ?_
  | with_reducible refine rd_uI ?_
  | with_reducible refine rd_plusI ?_
  | with_reducible refine rd_int1 ?_
  | ((with_reducible refine rd_i ?rdc ?_); (case rdc => first | decide | (constructor <;> decide) | (left; constructor <;> decide) | (right; constructor <;> decide) | omega | (left; constructor <;> omega) | (right; constructor <;> omega) | (constructor <;> omega)))
  | ((with_reducible refine' rd_ixL (v := ?rxv) (xs := ?rxs) ?rxh ?rxa ?_); (case rxh => exact SqL.of (by walk_at "hp")); (case rxa => rfl))
  | ((with_reducible refine' rd_lenL (ys := ?rxs) ?rxh ?_); (case rxh => exact SqL.of (by walk_at "hp")))
  | ((with_reducible refine' rd_set (xs := ?rxs) (j := ?rxj) ?rxh ?rxa ?_); (case rxh => walk_at "hp"); (case rxa => rfl))
  | ((with_reducible refine' rd_var (v := ?rdw) ?rdv ?_); (case rdv => rfl)))
local macro_rules | `(tactic| walk_at "rd") => `(tactic| repeat walk_at "rd1")
local macro_rules | `(tactic| walk_at "ext") => `(tactic| first
  | exact Ext.refl
  | assumption
  | (refine Ext.trans ?_ (Ext.mut (by simp) (by walk_at "hp")); walk_at "ext")
  | (refine Ext.trans ?_ (Ext.new (by assumption)); walk_at "ext"))

section
variable {T : List (Addr × Str)} {P : Program} {w : World} {K : PySem.W.Frag} {mg : Str → Option Value} {base : Heap}
def bltns : List Str := ["isinstance", "str", "len", "all", "sorted", "range", "list", "tuple", "int", "bool"]
theorem ok_law_mix (D : Def K mg "_law_mix" s_law_mix ["number"]) (mb : ∀ x ∈ bltns, mg x = none) : Ok P w K mg base 1 "_law_mix" ["number"] spMix := by
  refine D.ok sc_law_mix (fun vs H Q E h => ?_) (fun cdv f A outer s H vs Q E hr h => ?_)
  · obtain ⟨n, rfl, _⟩ := h
    rfl
  · obtain ⟨n, rfl, q⟩ := h
    refine ⟨_, (pss_cons (ps_set (i := 0) sc_law_mix.nd rfl (.inl rfl) (pe_op op_mod (pe_callTy call_int1U (by rfl) (mb _ (by decide)) (by decide +kernel) (pa_cons (pe_op (op_plus K rfl) (pe_op op_mul (pv 0) pe_int) pe_int) pa_nil)) pe_int))
   (pss_one (ps_ret (pe_op op_mod (pe_callTy call_int1U (by rfl) (mb _ (by decide)) (by decide +kernel) (pa_cons (pe_op (op_plus K rfl) (pe_op op_fdivW (pe_op op_mul (pv 0) (pv 0)) pe_int) (pe_op op_mul (pv 0) pe_int)) pa_nil)) pe_int)))), ?_⟩
    walk_at "rd"
    exact q
theorem ok_law_tape (D : Def K mg "_law_tape" s_law_tape ["script", "budget"]) (mb : ∀ x ∈ bltns, mg x = none) : Ok P w K mg base 1 "_law_tape" ["script", "budget"] (spTape T K) := by
  refine D.ok sc_law_tape (fun vs H Q E h => ?_) (fun cdv f A outer s H vs Q E hr h => ?_)
  · obtain ⟨a, ns, b, rfl, _⟩ := h
    rfl
  · obtain ⟨a, ns, b, rfl, ha, hl, q⟩ := h
    refine ⟨_, (pss_one (ps_ret (pe_lst (pa_cons (pe_callTy (call_listU K rfl) (by rfl) (mb _ (by decide)) (by decide +kernel) (pa_cons (pv 0) pa_nil)) (pa_cons pe_int (pa_cons pe_int (pa_cons pe_int (pa_cons (pv 1) pa_nil)))))))), ?_⟩
    walk_at "rd"
    refine rd_listL ha fun l nl => ?_
    walk_at "rd"
    refine ⟨by show 5 ≤ sizeLine; decide, fun t nt => ?_⟩
    have hlt : l ≠ t := fun z => by
      rw [← z, upd_same] at nt
      cases nt
    have ntH : H t = none := by
      rw [upd_ne (Ne.symm hlt)] at nt
      exact nt
    exact q t l _ (.of ntH) ((Ext.new nl).trans (.new nt)) ⟨ns, 0, 0, 1, b, upd_same, by rw [upd_ne hlt]; exact upd_same, hlt, by decide, by decide⟩
theorem ok_law_take (D : Def K mg "_law_take" s_law_take ["tape", "many"]) (G_law_mix : Ok P w K mg base 1 "_law_mix" ["number"] spMix) (mb : ∀ x ∈ bltns, mg x = none) : Ok P w K mg base 2 "_law_take" ["tape", "many"] (spTake T) := by
  refine D.ok sc_law_take (fun vs H Q E h => ?_) (fun cdv f A outer s H vs Q E hr h => ?_)
  · obtain ⟨l, t, m, rfl, _⟩ := h
    rfl
  · obtain ⟨l, t, m, rfl, hm, hm2, hT, q⟩ := h
    obtain ⟨ns, pos, rest, st, bud, ht, hlh, hlt, hr0, hs0⟩ := hT
    refine ⟨_, (pss_cons (ps_if (pt_cmpR op_lt (pe_ix (ix_U K rfl) (pv 0) pe_int (fun _ _ => rfl)) (pv 1) (nomark _)) (pss_one (ps_if (pt_cmpR op_lt (pe_ix (ix_U K rfl) (pv 0) pe_int (fun _ _ => rfl)) (pe_callB (call_lenU K rfl) (by rfl) (mb _ (by decide)) (by decide +kernel) (pa_cons (pe_ix (ix_U K rfl) (pv 0) pe_int (fun _ _ => rfl)) pa_nil)) (nomark _)) (pss_cons (ps_set (i := 2) sc_law_take.nd rfl (.inl rfl) (pe_ix (ix_U K rfl) (pe_ix (ix_U K rfl) (pv 0) pe_int (fun _ _ => rfl)) (pe_ix (ix_U K rfl) (pv 0) pe_int (fun _ _ => rfl)) (fun _ _ => rfl)))
   (pss_cons (ps_set (i := 2) sc_law_take.nd rfl (.inl rfl) (pe_ifExp (pt_cmpR op_ge (pv 2) pe_int (nomark _)) (pe_op op_mul pe_int (pv 2)) (pe_op op_sub (pe_op op_mul (pe_un un_neg pe_int) (pv 2)) pe_int)))
   (pss_cons (ps_asg (pe_op (op_plus K rfl) (pe_ix (ix_U K rfl) (pv 0) pe_int (fun _ _ => rfl)) pe_int) (pg_sub (pv 0) pe_int set_list))
   (pss_cons (ps_asg (pe_callO G_law_mix (hr.mono (by decide)) (by rfl) (pa_cons (pe_op (op_plus K rfl) (pe_ix (ix_U K rfl) (pv 0) pe_int (fun _ _ => rfl)) (pv 2)) pa_nil)) (pg_sub (pv 0) pe_int set_list))
   (pss_one (ps_asg (pe_ifExp (pt_cmpR op_ge (pv 2) (pe_op op_pow pe_int pe_int) (nomark _)) (pv 2) (pe_callO G_law_mix (hr.mono (by decide)) (by rfl) (pa_cons (pe_callO G_law_mix (hr.mono (by decide)) (by rfl) (pa_cons (pv 2) pa_nil)) pa_nil))) (pg_sub (pv 0) pe_int set_list))))))) (pss_cons (ps_asg (pe_callO G_law_mix (hr.mono (by decide)) (by rfl) (pa_cons (pe_op (op_plus K rfl) (pe_ix (ix_U K rfl) (pv 0) pe_int (fun _ _ => rfl)) pe_int) pa_nil)) (pg_sub (pv 0) pe_int set_list))
   (pss_one (ps_asg (pe_ix (ix_U K rfl) (pv 0) pe_int (fun _ _ => rfl)) (pg_sub (pv 0) pe_int set_list)))))) pss_nil)
   (pss_cons (ps_set (i := 3) sc_law_take.nd rfl (.inl rfl) (pe_op op_mod (pe_callTy call_int1U (by rfl) (mb _ (by decide)) (by decide +kernel) (pa_cons (pe_ix (ix_U K rfl) (pv 0) pe_int (fun _ _ => rfl)) pa_nil)) (pv 1)))
   (pss_cons (ps_asg (pe_op op_fdivW (pe_ix (ix_U K rfl) (pv 0) pe_int (fun _ _ => rfl)) (pv 1)) (pg_sub (pv 0) pe_int set_list))
   (pss_one (ps_ret (pv 3)))))), ?_⟩
    have fin : ∀ (H1 : Hp) (po : Nat) (re sm : Int) (σ' : L2.St), H1 t = some (.lst [.ref l, .int (po : Int), .int re, .int sm, .int bud]) → H1 l = some (.lst (ns.map V.int)) → 0 ≤ re → 0 ≤ sm → Ext T [t] H H1 →
        ∀ d, 0 ≤ d → d < m → Q (.int d) (upd H1 t (.lst [.ref l, .int (po : Int), .int (re / m), .int sm, .int bud])) := fun H1 po re sm σ' e1 e2 h1 h2 ex d h3 h4 =>
      q d _ h3 h4 (ex.trans (.mut (by simp) e1)) ⟨ns, po, re / m, sm, bud, upd_same, by rw [upd_ne hlt]; exact e2, hlt, Int.ediv_nonneg h1 (by omega), h2⟩
    have wm : ∀ i, CDivW i m := fun i => wide_div hm (b := 64) (by omega) (by decide) (by decide)
    have tail : ∀ (H1 : Hp) (po : Nat) (re sm : Int) (xs : List V), xs = [.ref l, .int (po : Int), .int re, .int sm, .int bud] → H1 t = some (.lst xs) → H1 l = some (.lst (ns.map V.int)) → 0 ≤ re → 0 ≤ sm → Ext T [t] H H1 →
        Q (.int (re % m)) (upd H1 t (.lst (xs.set 2 (.int (re / m))))) := fun H1 po re sm xs exs e1 e2 h1 h2 ex => by
      subst exs
      exact fin H1 po re sm [] e1 e2 h1 h2 ex _ (Int.emod_nonneg _ (by omega)) (Int.emod_lt_of_pos _ hm)
    walk_at "rd"
    refine rd_ite (fun h1 => ?_) (fun h1 => ?_)
    · walk_at "rd"
      refine rd_ite (fun h2 => ?_) (fun h2 => ?_)
      · walk_at "rd"
        have hp : pos < ns.length := by
          rw [List.length_map] at h2
          omega
        refine rd_ixL (v := .int ns[pos]) (SqL.of hlh) (atI_nat (by rw [List.getElem?_map, List.getElem?_eq_getElem hp]; rfl)) ?_
        walk_at "rd"
        refine rd_ite (fun h3 => ?_) (fun h3 => ?_)
        · walk_at "rd"
          refine ⟨_, rfl, ?_⟩
          walk_at "rd"
          refine rd_ite (fun h4 => ?_) (fun h4 => ?_)
          · walk_at "rd"
            refine rd_i (wm _) ?_
            walk_at "rd"
            exact tail _ (pos + 1) _ _ _ rfl upd_same (by walk_at "hp") (by omega) (mixI_nn _) (by walk_at "ext")
          · walk_at "rd"
            refine ⟨_, rfl, ?_⟩
            walk_at "rd"
            refine ⟨_, rfl, ?_⟩
            walk_at "rd"
            refine rd_i (wm _) ?_
            walk_at "rd"
            exact tail _ (pos + 1) _ _ _ rfl upd_same (by walk_at "hp") (mixI_nn _) (mixI_nn _) (by walk_at "ext")
        · walk_at "rd"
          refine ⟨_, rfl, ?_⟩
          walk_at "rd"
          refine rd_ite (fun h4 => ?_) (fun h4 => ?_)
          · walk_at "rd"
            refine rd_i (wm _) ?_
            walk_at "rd"
            exact tail _ (pos + 1) _ _ _ rfl upd_same (by walk_at "hp") (by omega) (mixI_nn _) (by walk_at "ext")
          · walk_at "rd"
            refine ⟨_, rfl, ?_⟩
            walk_at "rd"
            refine ⟨_, rfl, ?_⟩
            walk_at "rd"
            refine rd_i (wm _) ?_
            walk_at "rd"
            exact tail _ (pos + 1) _ _ _ rfl upd_same (by walk_at "hp") (mixI_nn _) (mixI_nn _) (by walk_at "ext")
      · walk_at "rd"
        refine ⟨_, rfl, ?_⟩
        walk_at "rd"
        refine rd_i (wm _) ?_
        walk_at "rd"
        exact tail _ pos _ _ _ rfl upd_same (by walk_at "hp") (mixI_nn _) (mixI_nn _) (by walk_at "ext")
    · walk_at "rd"
      refine rd_i (wm _) ?_
      walk_at "rd"
      exact tail H pos rest st _ rfl ht hlh hr0 hs0 .refl
structure Cst (mg : Str → Option Value) : Prop where
  c_LETTERS : ∃ t, mg "LETTERS" = some (.str lettersS t)
  c_MAX_ID : ∃ t, mg "MAX_ID" = some (.int 4 t)
  c_MAX_LABEL : ∃ t, mg "MAX_LABEL" = some (.int 8 t)
  c_MAX_LABELS : ∃ t, mg "MAX_LABELS" = some (.int 4 t)
theorem ok_is_word (D : Def K mg "is_word" s_is_word ["text", "letters", "most"]) (mb : ∀ x ∈ bltns, mg x = none) : Ok P w K mg base 1 "is_word" ["text", "letters", "most"] (spWord T) := by
  refine D.ok sc_is_word (fun vs H Q E h => ?_) (fun cdv f A outer s H vs Q E hr h => ?_)
  · obtain ⟨z, ls, m, rfl, _⟩ := h
    rfl
  · obtain ⟨z, ls, m, rfl, hz, q⟩ := h
    have hz2 : z.length ≤ sizeLine := Nat.le_trans hz (by decide)
    refine ⟨_, (pss_one (ps_ret (pe_and (pe_callB (call_isiU K rfl) (by rfl) (mb _ (by decide)) (by decide +kernel) (pa_cons (pv 0) (pa_cons (pe_bltn (v := .ty "str") (u := .type "str") (by rfl) (mb _ (by decide)) (by decide +kernel) rfl) pa_nil))) (pe_and (pe_chain op_le op_le pe_int (pe_callB (call_lenU K rfl) (by rfl) (mb _ (by decide)) (by decide +kernel) (pa_cons (pv 0) pa_nil)) (pv 2)) (pe_one (pe_callB (call_allU K rfl rfl) (by rfl) (mb _ (by decide)) (by decide +kernel) (pa_cons (pe_lc (own := [("letter", 3)]) (g := gName 3) (tt := tYes) rfl sc_is_word.nd (pi_str (pv 0)) (blkOk_by (N := N_is_word) (sc := defScope s_is_word) (by decide +kernel)) (fun _ _ _ _ _ => (pg_name (i := 3) sc_is_word.nd rfl (Or.inl rfl))) (fun _ _ _ _ _ => pts_nil) (fun _ _ _ _ _ => (pe_cmpR (op_inU K rfl) (pv 3) (pv 1) rfl))) pa_nil))))))), ?_⟩
    have q' : ∀ (H' : Hp) {b : Bool}, Ext T [] H H' → wordB z ls m = b → Q (.bl b) H' := fun H' b e h => by
      rw [← h]
      exact q H' e
    unfold wordB at q'
    walk_at "rd"
    refine rd_ite (fun h1 => ?_) (fun h1 => ?_)
    · walk_at "rd"
      refine rd_ite (fun h2 => ?_) (fun h2 => ?_)
      · walk_at "rd"
        refine lcg_str T [] (fun _ => true) (fun v => .bl (match v with | .str x => decide ((sg x).headD 0 ∈ sg ls) | _ => false)) (Nat.lt_of_le_of_lt hz (by decide)) (by simp) (fun x hx H' e R S h1 h2 => ?_) (fun D H2 nw e hD => ?_)
        · obtain ⟨c, hc, rfl⟩ := List.mem_map.mp hx
          walk_at "rd"
          exact h1 rfl H' .refl
        · walk_at "rd"
          refine rd_all (bs := (sg z).map fun c => decide (c ∈ sg ls)) (SqL.of (by rw [hD, filtT, chrs, List.map_map, List.map_map]; rfl)) (q' _ e ?_)
          rw [decide_eq_true h1, decide_eq_true h2, List.all_map]
          rfl
      · exact q' H .refl (by rw [decide_eq_false h2, Bool.false_and, Bool.and_false])
    · walk_at "rd"
      exact q' H .refl (by rw [decide_eq_false h1, Bool.false_and])
theorem ok_is_id (D : Def K mg "is_id" s_is_id ["text"]) (M : Cst mg) (G_is_word : Ok P w K mg base 1 "is_word" ["text", "letters", "most"] (spWord T)) : Ok P w K mg base 2 "is_id" ["text"] (spTB T idB) := by
  refine D.ok sc_is_id (fun vs H Q E h => ?_) (fun cdv f A outer s H vs Q E hr h => ?_)
  · obtain ⟨z, rfl, _⟩ := h
    rfl
  · obtain ⟨z, rfl, hz, q⟩ := h
    refine ⟨_, (pss_one (ps_ret (pe_callO G_is_word (hr.mono (by decide)) (by rfl) (pa_cons (pv 0) (pa_cons (pe_glS (by rfl) M.c_LETTERS) (pa_cons (pe_glI (by rfl) M.c_MAX_ID) pa_nil)))))), ?_⟩
    walk_at "rd"
    exact ⟨z, _, _, rfl, hz, q⟩
theorem ok_is_label (D : Def K mg "is_label" s_is_label ["text"]) (M : Cst mg) (G_is_word : Ok P w K mg base 1 "is_word" ["text", "letters", "most"] (spWord T)) : Ok P w K mg base 2 "is_label" ["text"] (spTB T labelB) := by
  refine D.ok sc_is_label (fun vs H Q E h => ?_) (fun cdv f A outer s H vs Q E hr h => ?_)
  · obtain ⟨z, rfl, _⟩ := h
    rfl
  · obtain ⟨z, rfl, hz, q⟩ := h
    refine ⟨_, (pss_one (ps_ret (pe_callO G_is_word (hr.mono (by decide)) (by rfl) (pa_cons (pv 0) (pa_cons (pe_glS (by rfl) M.c_LETTERS) (pa_cons (pe_glI (by rfl) M.c_MAX_LABEL) pa_nil)))))), ?_⟩
    walk_at "rd"
    exact ⟨z, _, _, rfl, hz, q⟩
theorem ok_is_name (D : Def K mg "is_name" s_is_name ["text"]) (mb : ∀ x ∈ bltns, mg x = none) (M : Cst mg) (G_is_label : Ok P w K mg base 2 "is_label" ["text"] (spTB T labelB)) : Ok P w K mg base 3 "is_name" ["text"] (spTB T nameB) := by
  refine D.ok sc_is_name (fun vs H Q E h => ?_) (fun cdv f A outer s H vs Q E hr h => ?_)
  · obtain ⟨z, rfl, _⟩ := h
    rfl
  · obtain ⟨z, rfl, hz, q⟩ := h
    refine ⟨_, (pss_cons (ps_if (pt_not (pt_E (pe_callB (call_isiU K rfl) (by rfl) (mb _ (by decide)) (by decide +kernel) (pa_cons (pv 0) (pa_cons (pe_bltn (v := .ty "str") (u := .type "str") (by rfl) (mb _ (by decide)) (by decide +kernel) rfl) pa_nil))))) (pss_one (ps_ret pe_bl)) pss_nil)
   (pss_cons (ps_if (pt_cmpR (op_eqU K rfl hr.units) (pv 0) pe_str (nomark _)) (pss_one (ps_ret pe_bl)) pss_nil)
   (pss_cons (ps_set (i := 1) sc_is_name.nd rfl (.inl rfl) (pe_m1 PySem.F.slot_str_split PySem.F.type_str_split mt_splitU (pv 0) pe_str))
   (pss_one (ps_ret (pe_and (pe_cmpR op_le (pe_callB (call_lenU K rfl) (by rfl) (mb _ (by decide)) (by decide +kernel) (pa_cons (pv 1) pa_nil)) (pe_glI (by rfl) M.c_MAX_LABELS) (nomark _)) (pe_one (pe_callB (call_allU K rfl rfl) (by rfl) (mb _ (by decide)) (by decide +kernel) (pa_cons (pe_lc (own := [("part", 2)]) (g := gName 2) (tt := tYes) rfl sc_is_name.nd (pi_seq K rfl (pv 1)) (blkOk_by (N := N_is_name) (sc := defScope s_is_name) (by decide +kernel)) (fun _ _ _ _ _ => (pg_name (i := 2) sc_is_name.nd rfl (Or.inl rfl))) (fun _ _ _ _ _ => pts_nil) (fun _ _ _ _ _ => (pe_callO G_is_label (hr.mono (by decide)) (by rfl) (pa_cons (pv 2) pa_nil)))) pa_nil))))))))), ?_⟩
    have q' : ∀ (H' : Hp) {b : Bool}, Ext T [] H H' → nameB z = b → Q (.bl b) H' := fun H' b e h => by
      rw [← h]
      exact q H' e
    unfold nameB at q'
    walk_at "rd"
    refine rd_ite (fun h1 => ?_) (fun h1 => ?_)
    · walk_at "rd"
      exact q' H .refl (by rw [decide_eq_true (show z = dotS from h1), Bool.true_or])
    · walk_at "rd"
      refine rd_split (by decide +kernel) (by walk_at "sz") fun p np => ?_
      have hpl := parts_le z
      have hd0 : decide (z = dotS) = false := decide_eq_false h1
      have hpl2 : ((partsL z).map V.str).length < sizeLine := by
        rw [List.length_map]
        exact Nat.lt_of_le_of_lt (show _ ≤ 1001 by omega) (by decide)
      walk_at "rd"
      refine rd_ite (fun h2 => ?_) (fun h2 => ?_) <;> rw [List.length_map] at h2
      · walk_at "rd"
        refine lcg_list T [] (K := K) (SqL.of upd_same) (fun _ => true) (fun v => .bl (match v with | .str x => labelB x | _ => false)) hpl2 (by simp) (by simp) (fun x hx H' e R S h1 h2 => ?_) (fun D H2 nw e hD => ?_)
        · obtain ⟨y, hy, rfl⟩ := List.mem_map.mp hx
          walk_at "rd"
          exact ⟨y, rfl, Nat.le_trans (parts_mem hy) hz, fun H3 e3 => h1 rfl H3 e3⟩
        · walk_at "rd"
          refine rd_all (bs := (partsL z).map labelB) (SqL.of (by rw [hD, filtT, List.map_map, List.map_map]; rfl)) (q' _ ((Ext.new np).trans e) ?_)
          rw [hd0, decide_eq_true (show ((partsL z).length : Int) ≤ 4 from h2), List.all_map]
          rfl
      · exact q' _ (.new np) (by rw [hd0, decide_eq_false (show ¬ ((partsL z).length : Int) ≤ 4 from h2)]; rfl)
theorem ok_labels (D : Def K mg "labels" s_labels ["name"]) (mb : ∀ x ∈ bltns, mg x = none) : Ok P w K mg base 1 "labels" ["name"] (spTL T labelsL) := by
  refine D.ok sc_labels (fun vs H Q E h => ?_) (fun cdv f A outer s H vs Q E hr h => ?_)
  · obtain ⟨z, rfl, _⟩ := h
    rfl
  · obtain ⟨z, rfl, hz, q⟩ := h
    refine ⟨_, (pss_cons (ps_if (pt_cmpR (op_eqU K rfl hr.units) (pv 0) pe_str (nomark _)) (pss_one (ps_ret (pe_lst pa_nil))) pss_nil)
   (pss_one (ps_ret (pe_rev K rfl (pe_m1 PySem.F.slot_str_split PySem.F.type_str_split mt_splitU (pv 0) pe_str))))), ?_⟩
    unfold labelsL at q
    walk_at "rd"
    refine rd_ite (fun h1 => ?_) (fun h1 => ?_)
    · walk_at "rd"
      refine ⟨by show 0 ≤ sizeLine; decide, fun p np => q p _ (.of np) (.new np) ?_⟩
      rw [if_pos (show z = dotS from h1)]
      exact upd_same
    · walk_at "rd"
      refine rd_split (by decide +kernel) (by walk_at "sz") fun p np => ?_
      refine rd_revL (SqL.of upd_same) fun r nr => q r _ (Ext.back (T := T) (ms := []) (.new np) (by simp) (.of nr)) ((Ext.new np).newR nr) ?_
      rw [if_neg (show ¬ z = dotS from h1), upd_same, List.map_reverse]
      rfl
theorem ok_ends (D : Def K mg "ends" s_ends ["name", "other"]) (mb : ∀ x ∈ bltns, mg x = none) : Ok P w K mg base 1 "ends" ["name", "other"] (spTTB T endsB) := by
  refine D.ok sc_ends (fun vs H Q E h => ?_) (fun cdv f A outer s H vs Q E hr h => ?_)
  · obtain ⟨z, u, rfl, _⟩ := h
    rfl
  · obtain ⟨z, u, rfl, hz, hu, q⟩ := h
    refine ⟨_, (pss_one (ps_ret (pe_or (pe_cmpR (op_eqU K rfl hr.units) (pv 1) pe_str (nomark _)) (pe_or (pe_cmpR (op_eqU K rfl hr.units) (pv 0) (pv 1) (nomark _)) (pe_one (pe_m1 PySem.F.slot_str_endswith PySem.F.type_str_endswith mt_endsU (pv 0) (pe_fstr (.cons pe_str (.cons (pe_fmt (pv 1)) PJ.nil))))))))), ?_⟩
    have q' : ∀ (H' : Hp) {b : Bool}, Ext T [] H H' → endsB z u = b → Q (.bl b) H' := fun H' b e h => by
      rw [← h]
      exact q H' e
    unfold endsB at q'
    walk_at "rd"
    refine rd_ite (fun h1 => ?_) (fun h1 => ?_)
    · walk_at "rd"
      exact q' H .refl (by rw [decide_eq_true (show u = dotS from h1)]; rfl)
    · have h1' : decide (u = dotS) = false := decide_eq_false h1
      walk_at "rd"
      refine rd_ite (fun h2 => ?_) (fun h2 => ?_)
      · walk_at "rd"
        exact q' H .refl (by rw [h1', decide_eq_true h2]; rfl)
      · walk_at "rd"
        refine ⟨by walk_at "sz", ?_⟩
        walk_at "rd"
        refine .inl ⟨_, rfl, by walk_at "sz", _, rfl, fs_len u hu, ?_⟩
        walk_at "rd"
        exact q' H .refl (by rw [h1', decide_eq_false h2, ← fs_dot]; rfl)
theorem ok_law_small (D : Def K mg "_law_small" s_law_small ["text"]) : Ok P w K mg base 1 "_law_small" ["text"] (spTB T fun z => (sg z).all fun c => decide (c ∈ sg lettersS)) := by
  refine D.ok sc_law_small (fun vs H Q E h => ?_) (fun cdv f A outer s H vs Q E hr h => ?_)
  · obtain ⟨z, rfl, _⟩ := h
    rfl
  · obtain ⟨z, rfl, hz, q⟩ := h
    refine ⟨_, (pss_cons (ps_for PassesOwn.never rfl (pi_str (pv 0)) (pg_name (i := 1) sc_law_small.nd rfl (.inl rfl)) (pss_one (ps_if (pt_cmpR (op_ninU K rfl) (pv 1) pe_str rfl) (pss_one (ps_ret pe_bl)) pss_nil)))
   (pss_one (ps_ret pe_bl))), ?_⟩
    have q' : ∀ {b : Bool}, ((sg z).all fun c => decide (c ∈ sg lettersS)) = b → Q (.bl b) H := fun {b} h => by
      rw [← h]
      exact q H .refl
    walk_at "rd"
    refine forg_str (fun i σ H' => H' = H ∧ (∃ v, σ = [some (.str z), v]) ∧ ∀ c ∈ (sg z).take i, c ∈ sg lettersS) ⟨rfl, ⟨none, rfl⟩, by simp⟩ (fun i c σ H' hi h => ?_) (fun σ H' h => ?_)
    · obtain ⟨rfl, ⟨v, rfl⟩, h⟩ := h
      walk_at "rd"
      refine rd_itn (fun hc => ?_) (fun hc => ?_)
      · walk_at "rd"
        refine ⟨rfl, ⟨_, rfl⟩, fun d hd => ?_⟩
        rw [List.take_add_one, hi] at hd
        rcases List.mem_append.mp hd with hd | hd
        · exact h d hd
        · rw [show d = c by simpa using hd]
          exact hc
      · walk_at "rd"
        refine q' (Bool.eq_false_iff.mpr fun z2 => hc ?_)
        exact of_decide_eq_true (List.all_eq_true.mp z2 c (List.mem_of_getElem? hi))
    · obtain ⟨rfl, ⟨v, rfl⟩, h⟩ := h
      rw [List.take_length] at h
      walk_at "rd"
      exact q' (List.all_eq_true.mpr fun c hc => decide_eq_true (h c hc))
def spIs : Sp := fun vs H Q _ => ∃ a b : Bool, vs = [.bl a, .bl b] ∧ Q (.bl (decide (a = b))) H
theorem ok_law_is (D : Def K mg "_law_is" s_law_is ["told", "due"]) (mb : ∀ x ∈ bltns, mg x = none) : Ok P w K mg base 1 "_law_is" ["told", "due"] spIs := by
  refine D.ok sc_law_is (fun vs H Q E h => ?_) (fun cdv f A outer s H vs Q E hr h => ?_)
  · obtain ⟨a, b, rfl, _⟩ := h
    rfl
  · obtain ⟨a, b, rfl, q⟩ := h
    refine ⟨_, (pss_one (ps_ret (pe_and (pe_callB (call_isiU K rfl) (by rfl) (mb _ (by decide)) (by decide +kernel) (pa_cons (pv 0) (pa_cons (pe_bltn (v := .ty "bool") (u := .type "bool") (by rfl) (mb _ (by decide)) (by decide +kernel) rfl) pa_nil))) (pe_one (pe_cmpR (op_eqU K rfl hr.units) (pv 0) (pv 1) (nomark _)))))), ?_⟩
    walk_at "rd"
    exact q
theorem ok_law_ends (D : Def K mg "_law_ends" s_law_ends ["name", "other"]) (mb : ∀ x ∈ bltns, mg x = none) : Ok P w K mg base 1 "_law_ends" ["name", "other"] (spTTB T endsB) := by
  refine D.ok sc_law_ends (fun vs H Q E h => ?_) (fun cdv f A outer s H vs Q E hr h => ?_)
  · obtain ⟨z, u, rfl, _⟩ := h
    rfl
  · obtain ⟨z, u, rfl, hz, hu, q⟩ := h
    refine ⟨_, (pss_cons (ps_if (pt_cmpR (op_eqU K rfl hr.units) (pv 1) pe_str (nomark _)) (pss_one (ps_ret pe_bl)) pss_nil)
   (pss_one (ps_ret (pe_or (pe_cmpR (op_eqU K rfl hr.units) (pv 0) (pv 1) (nomark _)) (pe_one (pe_cmpR (op_eqU K rfl hr.units) (pe_slice (sl_U K rfl) (pv 0) (po_some (pe_op op_sub (pe_un un_neg (pe_callB (call_lenU K rfl) (by rfl) (mb _ (by decide)) (by decide +kernel) (pa_cons (pv 1) pa_nil))) pe_int)) po_none) (pe_op (op_plus K rfl) pe_str (pv 1)) (nomark _))))))), ?_⟩
    have q' : ∀ {b : Bool}, lawEndsB z u = b → Q (.bl b) H := fun {b} h => by
      rw [← h, lawEnds_eq]
      exact q H .refl
    unfold lawEndsB at q'
    walk_at "rd"
    refine rd_ite (fun h1 => ?_) (fun h1 => ?_)
    · walk_at "rd"
      exact q' (by rw [decide_eq_true (show u = dotS from h1)]; rfl)
    · have h1' : decide (u = dotS) = false := decide_eq_false h1
      walk_at "rd"
      refine rd_ite (fun h2 => ?_) (fun h2 => ?_)
      · walk_at "rd"
        exact q' (by rw [h1', decide_eq_true h2]; rfl)
      · walk_at "rd"
        refine rd_plusS (dot_app u hu) ?_
        walk_at "rd"
        exact q' (by rw [h1', decide_eq_false h2]; rfl)
theorem ok_law_from_root (D : Def K mg "_law_from_root" s_law_from_root ["name"]) (mb : ∀ x ∈ bltns, mg x = none) : Ok P w K mg base 1 "_law_from_root" ["name"] (spTL T labelsL) := by
  refine D.ok sc_law_from_root (fun vs H Q E h => ?_) (fun cdv f A outer s H vs Q E hr h => ?_)
  · obtain ⟨z, rfl, _⟩ := h
    rfl
  · obtain ⟨z, rfl, hz, q⟩ := h
    refine ⟨_, (pss_cons (ps_set (i := 1) sc_law_from_root.nd rfl (.inl rfl) (pe_lst pa_nil))
   (pss_cons (ps_if (pt_cmpR (op_neU K rfl hr.units) (pv 0) pe_str (nomark _)) (pss_one (ps_for PassesOwn.never rfl (pi_seq K rfl (pe_m1 PySem.F.slot_str_split PySem.F.type_str_split mt_splitU (pv 0) pe_str)) (pg_name (i := 2) sc_law_from_root.nd rfl (.inl rfl)) (pss_one (ps_set (i := 1) sc_law_from_root.nd rfl (.inl rfl) (pe_op (op_plus K rfl) (pe_lst (pa_cons (pv 2) pa_nil)) (pv 1)))))) pss_nil)
   (pss_one (ps_ret (pv 1))))), ?_⟩
    unfold labelsL at q
    walk_at "rd"
    refine ⟨by show 0 ≤ sizeLine; decide, fun o no => ?_⟩
    walk_at "rd"
    refine rd_itn (fun h1 => ?_) (fun h1 => ?_)
    · walk_at "rd"
      refine q o _ (.of no) (.new no) ?_
      rw [if_pos (show z = dotS from h1)]
      exact upd_same
    · rw [if_neg (show ¬ z = dotS from h1)] at q
      walk_at "rd"
      refine rd_split (by decide +kernel) (by walk_at "sz") fun p np => ?_
      walk_at "rd"
      have hop : p ≠ o := fun z => by
        rw [z, upd_same] at np
        cases np
      have hpl := parts_le z
      refine forg_list (xs := (partsL z).map V.str) (fun i σ H' => Ext T [] H H' ∧ (∃ c lb, σ = [some (.str z), some (.ref c), lb] ∧ Nw H c ∧ H' c = some (.lst (((partsL z).take i).reverse.map V.str))) ∧ H' p = some (.lst ((partsL z).map V.str)))
        ⟨(Ext.new no).newR np, ⟨o, none, rfl, .of no, by rw [upd_ne hop.symm, upd_same]; rfl⟩, upd_same⟩ (fun i σ H' _ h => SqL.of h.2.2) (fun i x σ H' hx h => ?_) (fun σ H' h => ?_)
      · obtain ⟨e, ⟨c, lb, rfl, nc, hc⟩, hp⟩ := h
        rw [List.getElem?_map] at hx
        obtain ⟨y, hy, rfl⟩ := Option.map_eq_some_iff.mp hx
        walk_at "rd"
        refine ⟨by show 1 ≤ sizeLine; decide, fun a na => ?_⟩
        walk_at "rd"
        have hac : c ≠ a := ne_of_none hc na
        have hap : p ≠ a := ne_of_none hp na
        refine rd_cat upd_same (by rw [upd_ne hac]; exact hc) ?_ fun b nb => ?_
        · rw [List.length_map, List.length_reverse, List.length_take]
          exact Nat.le_trans (show _ ≤ 1002 by simp; omega) (by decide)
        · have hbp : p ≠ b := ne_of_none (show (upd H' a _) p = _ by rw [upd_ne hap]; exact hp) nb
          walk_at "rd"
          refine ⟨(e.newR na).newR nb, ⟨b, _, rfl, Ext.back (T := T) (ms := []) (e.newR na) (by simp) (.of nb), ?_⟩, by rw [upd_ne hbp, upd_ne hap]; exact hp⟩
          rw [upd_same, List.take_add_one, hy, List.reverse_append]
          rfl
      · obtain ⟨e, ⟨c, lb, rfl, nc, hc⟩, hp⟩ := h
        rw [List.length_map, List.take_length] at hc
        walk_at "rd"
        exact q c H' nc e hc
end

open PySem PySem.Spec PyProof.Rows L2
local macro_rules | `(tactic| walk_at "szl") => `(tactic| first
  | assumption
  | exact Nat.lt_of_le_of_lt (by assumption) (by decide)
  | (refine Nat.lt_of_le_of_lt ?_ (show (100000 : Nat) < sizeLine by decide); (try simp only [List.length_map, List.length_cons, List.length_nil, List.length_append]); omega))
local macro_rules | `(tactic| walk_at "sz") => `(tactic| first
  | assumption
  | exact Nat.le_trans (by assumption) (by decide)
  | (show _ ≤ sizeLine; decide)
  | (refine Nat.le_trans ?_ (show (100000 : Nat) ≤ sizeLine by decide); (try simp only [List.length_map, List.length_cons, List.length_nil, List.length_append]); omega))
local macro_rules | `(tactic| walk_at "hp") => `(tactic| first
  | assumption
  | exact upd_same
  | (refine (upd_ne ?hne).trans ?_; (case hne => first | assumption | exact Ne.symm (by assumption)); walk_at "hp"))
local macro_rules | `(tactic| walk_at "rd1") => `(tactic| first
  | with_reducible refine rd_seq ?_
  | with_reducible refine rd_asg ?_
  | with_reducible refine rd_ret ?_
  | with_reducible refine rd_if ?_
  | with_reducible refine rd_drop ?_
  | with_reducible refine rd_next ?_
  | with_reducible refine rd_B ?_
  | with_reducible refine rd_ifE ?_
  | with_reducible refine rd_T ?_
  | with_reducible refine rd_tnot ?_
  | with_reducible refine rd_tand ?_
  | with_reducible refine rd_tor ?_
  | with_reducible refine rd_chain ?_
  | with_reducible refine rd_op ?_
  | with_reducible refine rd_un ?_
  | with_reducible refine rd_call ?_
  | with_reducible refine rd_cons ?_
  | with_reducible refine rd_nil ?_
  | with_reducible refine rd_cb ?_
  | with_reducible refine rd_c ?_
  | with_reducible refine rd_not ?_
  | with_reducible refine rd_and ?_
  | with_reducible refine rd_or ?_
  | with_reducible refine rd_sub ?_
  | with_reducible refine rd_lc ?_
  | with_reducible refine rd_iStr ?_
  | with_reducible refine rd_exStr ?_
  | with_reducible refine rd_iSeq ?_
  | with_reducible refine rd_rng ?_
  | with_reducible refine rd_exRef ?_
  | with_reducible refine rd_exInt ?_
  | with_reducible refine rd_exInts ?_
  | ((with_reducible refine' rd_seqL (xs := ?rxs) ?rxh ?_); (case rxh => exact SqL.of (by walk_at "hp")))
  | with_reducible refine rd_tyes ?_
  | with_reducible refine rd_eqStr ?_
  | with_reducible refine rd_neStr ?_
  | with_reducible refine rd_eqInt ?_
  | with_reducible refine rd_neInt ?_
  | with_reducible refine rd_eqBl ?_
  | with_reducible refine rd_rev ?_
  | with_reducible refine rd_exA ?_
  | with_reducible refine rd_fs ?_
  | with_reducible refine rd_jc ?_
  | with_reducible refine rd_jn ?_
  | with_reducible refine rd_fmt ?_
  | with_reducible refine rd_for ?_
  | with_reducible refine rd_bm ?_
  | ((with_reducible refine' rd_tyL (xs := ?rxs) ?rxh ?_); (case rxh => walk_at "hp"))
  | ((with_reducible refine' rd_app (xs := ?rxs) ?rxh ?rxc ?_); (case rxh => walk_at "hp"); (case rxc => walk_at "szl"))
  | ((with_reducible refine rd_fmtS ?rdc ?_); (case rdc => walk_at "sz"))
  | with_reducible refine rd_isBool ?_
  | with_reducible refine rd_sl ?_
  | with_reducible refine rd_noP ?_
  | with_reducible refine rd_part ?_
  | ((with_reducible refine rd_slS ?rdc ?_); (case rdc => walk_at "sz"))
  | with_reducible refine iteT ?_
  | with_reducible refine rd_ntt ?_
  | with_reducible refine rd_nff ?_
  | with_reducible refine iteF ?_
  | with_reducible refine rd_m1 ?_
  | (with_reducible refine ⟨⟨_, rfl⟩, ?_⟩)
  | ((with_reducible refine rd_len ?rdc ?_); (case rdc => walk_at "sz"))
  | with_reducible refine rd_ends ?_
  | with_reducible refine rd_inS ?_
  | with_reducible refine rd_ninS ?_
  | with_reducible refine rd_isStr ?_
  | with_reducible refine rd_lst ?_
  | with_reducible refine rd_tup ?_
  | with_reducible refine rd_name ?_
  | with_reducible refine rd_bl ?_
  | with_reducible refine rd_i0 ?_
  | with_reducible refine rd_uI ?_
  | with_reducible refine rd_plusI ?_
  | with_reducible refine rd_int1 ?_
  | ((with_reducible refine rd_i ?rdc ?_); (case rdc => first | decide | (constructor <;> decide) | (left; constructor <;> decide) | (right; constructor <;> decide) | omega | (left; constructor <;> omega) | (right; constructor <;> omega) | (constructor <;> omega)))
  | ((with_reducible refine' rd_ixL (v := ?rxv) (xs := ?rxs) ?rxh ?rxa ?_); (case rxh => exact SqL.of (by walk_at "hp")); (case rxa => rfl))
  | ((with_reducible refine' rd_lenL (ys := ?rxs) ?rxh ?_); (case rxh => exact SqL.of (by walk_at "hp")))
  | ((with_reducible refine' rd_set (xs := ?rxs) (j := ?rxj) ?rxh ?rxa ?_); (case rxh => walk_at "hp"); (case rxa => rfl))
  | ((with_reducible refine' rd_var (v := ?rdw) ?rdv ?_); (case rdv => rfl)))
local macro_rules | `(tactic| walk_at "rdn1") => `(tactic| first
  | with_reducible refine rd_asg ?_
  | with_reducible refine rd_ret ?_
  | with_reducible refine rd_if ?_
  | with_reducible refine rd_drop ?_
  | with_reducible refine rd_next ?_
  | with_reducible refine rd_B ?_
  | with_reducible refine rd_ifE ?_
  | with_reducible refine rd_T ?_
  | with_reducible refine rd_tnot ?_
  | with_reducible refine rd_tand ?_
  | with_reducible refine rd_tor ?_
  | with_reducible refine rd_chain ?_
  | with_reducible refine rd_op ?_
  | with_reducible refine rd_un ?_
  | with_reducible refine rd_call ?_
  | with_reducible refine rd_cons ?_
  | with_reducible refine rd_nil ?_
  | with_reducible refine rd_cb ?_
  | with_reducible refine rd_c ?_
  | with_reducible refine rd_not ?_
  | with_reducible refine rd_and ?_
  | with_reducible refine rd_or ?_
  | with_reducible refine rd_sub ?_
  | with_reducible refine rd_lc ?_
  | with_reducible refine rd_iStr ?_
  | with_reducible refine rd_exStr ?_
  | with_reducible refine rd_iSeq ?_
  | with_reducible refine rd_rng ?_
  | with_reducible refine rd_exRef ?_
  | with_reducible refine rd_exInt ?_
  | with_reducible refine rd_exInts ?_
  | ((with_reducible refine' rd_seqL (xs := ?rxs) ?rxh ?_); (case rxh => exact SqL.of (by walk_at "hp")))
  | with_reducible refine rd_tyes ?_
  | with_reducible refine rd_eqStr ?_
  | with_reducible refine rd_neStr ?_
  | with_reducible refine rd_eqInt ?_
  | with_reducible refine rd_neInt ?_
  | with_reducible refine rd_eqBl ?_
  | with_reducible refine rd_rev ?_
  | with_reducible refine rd_exA ?_
  | with_reducible refine rd_fs ?_
  | with_reducible refine rd_jc ?_
  | with_reducible refine rd_jn ?_
  | with_reducible refine rd_fmt ?_
  | with_reducible refine rd_for ?_
  | with_reducible refine rd_bm ?_
  | ((with_reducible refine' rd_tyL (xs := ?rxs) ?rxh ?_); (case rxh => walk_at "hp"))
  | ((with_reducible refine' rd_app (xs := ?rxs) ?rxh ?rxc ?_); (case rxh => walk_at "hp"); (case rxc => walk_at "szl"))
  | ((with_reducible refine rd_fmtS ?rdc ?_); (case rdc => walk_at "sz"))
  | with_reducible refine rd_isBool ?_
  | with_reducible refine rd_sl ?_
  | with_reducible refine rd_noP ?_
  | with_reducible refine rd_part ?_
  | ((with_reducible refine rd_slS ?rdc ?_); (case rdc => walk_at "sz"))
  | with_reducible refine iteT ?_
  | with_reducible refine rd_ntt ?_
  | with_reducible refine rd_nff ?_
  | with_reducible refine iteF ?_
  | with_reducible refine rd_m1 ?_
  | (with_reducible refine ⟨⟨_, rfl⟩, ?_⟩)
  | ((with_reducible refine rd_len ?rdc ?_); (case rdc => walk_at "sz"))
  | with_reducible refine rd_ends ?_
  | with_reducible refine rd_inS ?_
  | with_reducible refine rd_ninS ?_
  | with_reducible refine rd_isStr ?_
  | with_reducible refine rd_lst ?_
  | with_reducible refine rd_tup ?_
  | with_reducible refine rd_name ?_
  | with_reducible refine rd_bl ?_
  | with_reducible refine rd_i0 ?_
  | with_reducible refine rd_uI ?_
  | with_reducible refine rd_plusI ?_
  | with_reducible refine rd_int1 ?_
  | ((with_reducible refine rd_i ?rdc ?_); (case rdc => first | decide | (constructor <;> decide) | (left; constructor <;> decide) | (right; constructor <;> decide) | omega | (left; constructor <;> omega) | (right; constructor <;> omega) | (constructor <;> omega)))
  | ((with_reducible refine' rd_ixL (v := ?rxv) (xs := ?rxs) ?rxh ?rxa ?_); (case rxh => exact SqL.of (by walk_at "hp")); (case rxa => rfl))
  | ((with_reducible refine' rd_lenL (ys := ?rxs) ?rxh ?_); (case rxh => exact SqL.of (by walk_at "hp")))
  | ((with_reducible refine' rd_set (xs := ?rxs) (j := ?rxj) ?rxh ?rxa ?_); (case rxh => walk_at "hp"); (case rxa => rfl))
  | ((with_reducible refine' rd_var (v := ?rdw) ?rdv ?_); (case rdv => rfl)))
local macro_rules | `(tactic| walk_at "rd") => `(tactic| repeat walk_at "rd1")
local macro_rules | `(tactic| walk_at "ext") => `(tactic| first
  | exact Ext.refl
  | assumption
  | (refine Ext.trans ?_ (Ext.mut (by simp) (by walk_at "hp")); walk_at "ext")
  | (refine Ext.trans ?_ (Ext.new (by assumption)); walk_at "ext"))
local macro_rules | `(tactic| walk_at "rdn") => `(tactic| repeat walk_at "rdn1")

section
variable {T : List (Addr × Str)} {P : Program} {w : World} {K : PySem.W.Frag} {mg : Str → Option Value} {base : Heap}
theorem ok_law_text (D : Def K mg "_law_text" s_law_text ["tape", "many"]) (mb : ∀ x ∈ bltns, mg x = none) (G_law_take : Ok P w K mg base 2 "_law_take" ["tape", "many"] (spTake T)) : Ok P w K mg base 3 "_law_text" ["tape", "many"] (spText T) := by
  refine D.ok sc_law_text (fun vs H Q E h => ?_) (fun cdv f A outer s H vs Q E hr h => ?_)
  · obtain ⟨l, t, m, rfl, _⟩ := h
    rfl
  · obtain ⟨l, t, m, rfl, hm, hm2, hT, q⟩ := h
    refine ⟨_, (pss_cons (ps_set (i := 2) sc_law_text.nd rfl (.inl rfl) pe_str)
   (pss_cons (ps_set (i := 3) sc_law_text.nd rfl (.inl rfl) pe_str)
   (pss_cons (ps_for PassesOwn.never rfl (pi_range1 (by rfl) (mb _ (by decide)) (pa_cons (pe_callO G_law_take (hr.mono (by decide)) (by rfl) (pa_cons (pv 0) (pa_cons (pv 1) pa_nil))) pa_nil)) (pg_name (i := 4) sc_law_text.nd rfl (.inl rfl)) (pss_cons (ps_set (i := 5) sc_law_text.nd rfl (.inl rfl) (pe_callO G_law_take (hr.mono (by decide)) (by rfl) (pa_cons (pv 0) (pa_cons pe_int pa_nil))))
   (pss_one (ps_set (i := 3) sc_law_text.nd rfl (.inl rfl) (pe_op (op_plus K rfl) (pv 3) (pe_ifExp (pt_cmpR op_lt (pv 5) pe_int (nomark _)) (pe_ix (ix_U K rfl) (pv 2) (pv 5) (fun _ _ => rfl)) (pe_ix (ix_U K rfl) pe_str (pe_op op_mod (pv 5) pe_int) (fun _ _ => rfl))))))))
   (pss_one (ps_ret (pv 3)))))), ?_⟩
    walk_at "rd"
    refine ⟨l, t, m, rfl, hm, by omega, hT, fun d H1 hd0 hd1 e1 T1 => ?_⟩
    walk_at "rd"
    refine ⟨by omega, by omega, ?_⟩
    refine forg_range (fun i σ H' => Ext T [t] H H' ∧ Tape l H' t ∧ ∃ z k dr, σ = [some (.ref t), some (.int m), some (.str (Str.ofString "abz09-A ._")), some (.str z), k, dr] ∧ z.length ≤ i)
      ⟨e1, T1, _, none, none, rfl, by decide +kernel⟩ (fun i σ H' hi h => ?_) (fun σ H' h => ?_)
    · obtain ⟨e2, T2, z, k, dr, rfl, hz⟩ := h
      have hs10 : (sg (Str.ofString "abz09-A ._")).length = 10 := by decide +kernel
      have hk2 : (sg (Str.ofString "k7")).length = 2 := by decide +kernel
      walk_at "rd"
      refine ⟨l, t, 14, rfl, by decide, by decide, T2, fun d2 H2 h0 h1 e3 T3 => ?_⟩
      have fin : ∀ c : Nat, rPlus K (.str z) (.str ⟨#[c]⟩) H2 (fun v H3 => Ext T [t] H H3 ∧ Tape l H3 t ∧ ∃ z k dr, [some (.ref t), some (.int m), some (.str (Str.ofString "abz09-A ._")), some v, some (.int (0 + (i : Int))), some (.int d2)] = [some (.ref t), some (.int m), some (.str (Str.ofString "abz09-A ._")), some (.str z), k, dr] ∧ z.length ≤ i + 1) := fun c => by
        refine rd_plusS ?_ ⟨e2.trans e3, T3, _, _, _, rfl, ?_⟩
        · show z.length + 1 ≤ sizeLine
          exact Nat.le_trans (show _ ≤ 101 by omega) (by decide)
        · rw [← sg_len, sg_app, List.length_append, sg_len]
          exact Nat.succ_le_succ hz
      walk_at "rd"
      refine rd_ite (fun h2 => ?_) (fun h2 => ?_)
      · walk_at "rd"
        obtain ⟨c, hc, _⟩ := at_in (l := sg (Str.ofString "abz09-A ._")) h0 (by omega)
        refine rd_ixS (by rw [← sg_len, hs10]; decide) hc ?_
        walk_at "rd"
        exact fin c
      · walk_at "rd"
        obtain ⟨c, hc, _⟩ := at_in (l := sg (Str.ofString "k7")) (i := d2 % 2) (by omega) (by omega)
        refine rd_ixS (by rw [← sg_len, hk2]; decide) hc ?_
        walk_at "rd"
        exact fin c
    · obtain ⟨e2, T2, z, k, dr, rfl, hz⟩ := h
      walk_at "rd"
      exact q z H' (by omega) e2 T2
theorem ok_law_name (D : Def K mg "_law_name" s_law_name ["tape", "most"]) (mb : ∀ x ∈ bltns, mg x = none) (G_law_take : Ok P w K mg base 2 "_law_take" ["tape", "many"] (spTake T)) : Ok P w K mg base 3 "_law_name" ["tape", "most"] (spName T) := by
  refine D.ok sc_law_name (fun vs H Q E h => ?_) (fun cdv f A outer s H vs Q E hr h => ?_)
  · obtain ⟨l, t, m, rfl, _⟩ := h
    rfl
  · obtain ⟨l, t, m, rfl, hm, hm2, hT, q⟩ := h
    refine ⟨_, (pss_cons (ps_set (i := 2) sc_law_name.nd rfl (.inr rfl) (pe_lst (pa_cons pe_str (pa_cons pe_str (pa_cons pe_str (pa_cons pe_str (pa_cons pe_str (pa_cons pe_str pa_nil))))))))
   (pss_cons (ps_set (i := 3) sc_law_name.nd rfl (.inl rfl) (pe_callO G_law_take (hr.mono (by decide)) (by rfl) (pa_cons (pv 0) (pa_cons (pe_op (op_plus K rfl) (pv 1) pe_int) pa_nil))))
   (pss_cons (ps_if (pt_cmpR (op_eqU K rfl hr.units) (pv 3) pe_int (nomark _)) (pss_one (ps_ret pe_str)) pss_nil)
   (pss_one (ps_ret (pe_m1 PySem.F.slot_str_join PySem.F.type_str_join (mt_joinU K rfl) pe_str (pe_lc (own := [("k", 4)]) (g := gName 4) (tt := tYes) rfl sc_law_name.nd (pi_range1 (by rfl) (mb _ (by decide)) (pa_cons (pv 3) pa_nil)) (blkOk_by (N := N_law_name) (sc := defScope s_law_name) (by decide +kernel)) (fun _ _ _ _ _ => (pg_name (i := 4) sc_law_name.nd rfl (Or.inl rfl))) (fun _ _ _ _ _ => pts_nil) (fun _ _ _ _ _ => (pe_ix (ix_U K rfl) (pv 2) (pe_callO G_law_take (hr.mono (by decide)) (by rfl) (pa_cons (pv 0) (pa_cons pe_int pa_nil))) (fun _ _ => rfl)))))))))), ?_⟩
    walk_at "rd"
    refine ⟨by show 6 ≤ sizeLine; decide, fun o no => ?_⟩
    have hot := hT.ne (.of no)
    walk_at "rd"
    refine ⟨l, t, m + 1, rfl, by omega, by omega, hT.upd no, fun d H1 hd0 hd1 e1 T1 => ?_⟩
    have e1' : Ext T [t] H H1 := (Ext.new no).trans e1
    have hO : H1 o = some (.lst (namesL.map V.str)) := e1.lst (by simpa using hot.1) upd_same
    walk_at "rd"
    refine rd_ite (fun h1 => ?_) (fun h1 => ?_)
    · walk_at "rd"
      exact q _ H1 (by decide +kernel) (by decide +kernel) e1' T1
    · walk_at "rd"
      refine ⟨by omega, by omega, ?_⟩
      refine lcg_range_tape T T1 (fun v => ∃ x ∈ namesL, v = .str x) (Nat.lt_of_le_of_lt (show d.toNat ≤ 100 by omega) (by decide)) (fun i H2 hi e2 T2 R hR => ?_) (fun D H2 vs nD e2 T2 hD hl hv => ?_)
      · walk_at "rd"
        refine ⟨l, t, 6, rfl, by decide, by decide, T2, fun d2 H3 h0 h2 e3 T3 => ?_⟩
        obtain ⟨c, hc, _, hm⟩ := at_in (l := namesL.map V.str) (i := d2) h0 (by show d2 < 6; exact h2)
        obtain ⟨y, hy, rfl⟩ := List.mem_map.mp hm
        refine rd_ixL (SqL.of ((e2.trans e3).lst (by simpa using hot.1) hO)) hc ?_
        exact hR _ H3 ⟨y, hy, rfl⟩ e3 T3
      · obtain ⟨ys, rfl, hys⟩ := strs_of hv
        rw [List.length_map] at hl
        have hne : ys ≠ [] := fun z => by
          rw [z] at hl
          have hl : 0 = d.toNat := hl
          exact h1 (by omega)
        have hlab := fun y hy => (namesL_ok y (hys y hy)).1
        have hsum : (ys.map (·.length)).sum ≤ 32 := by
          have := sum_le (B := 8) (l := ys.map (·.length)) fun x hx => by
            obtain ⟨y, hy, rfl⟩ := List.mem_map.mp hx
            exact (namesL_ok y (hys y hy)).2
          rw [List.length_map] at this
          omega
        have hjl := join_len ys
        refine rd_join (SqL.of hD) ?_ ?_
        · rw [dot_len]
          omega
        · exact q _ H2 (name_join hne (by omega) hlab) (show (joinS ys).length ≤ 100 by omega) (e1'.trans e2) T2
theorem chain_small {σ : L2.St} {H : Hp} {i : Nat} {y : Str} {m : Int} {Q' : VK} (hσ : σ[i]? = some (some (.str y))) (hy : y.length ≤ 1000) (h : ∀ H', Ext T [] H H' → Q' (.bl (wordB y lettersS m)) H') :
    tAndV (tChain (rI0 fun i j => V.bl (decide (i ≤ j))) (rI0 fun i j => V.bl (decide (i ≤ j))) (tC (V.int 1)) (tCB (rLenU K) (tCons (tVar i) tNil)) (tC (V.int m))) (tCall (spTB T fun z => (sg z).all fun c => decide (c ∈ sg lettersS)) [] E0 (tCons (tVar i) tNil)) σ H Q' := by
  have h' : ∀ H' {b : Bool}, Ext T [] H H' → wordB y lettersS m = b → Q' (.bl b) H' := fun H' b e hb => by
    rw [← hb]
    exact h H' e
  unfold wordB at h'
  walk_at "rd"
  refine rd_var hσ ?_
  walk_at "rd"
  refine rd_ite (fun h1 => ?_) (fun h1 => ?_)
  · walk_at "rd"
    refine rd_ite (fun h2 => ?_) (fun h2 => ?_)
    · walk_at "rd"
      refine rd_var hσ ?_
      walk_at "rd"
      exact ⟨y, rfl, hy, fun H' e => h' H' e (by rw [decide_eq_true h1, decide_eq_true h2]; rfl)⟩
    · exact h' H .refl (by rw [decide_eq_true h1, decide_eq_false h2]; rfl)
  · walk_at "rd"
    exact h' H .refl (by rw [decide_eq_false h1]; rfl)
theorem ok_law_forms (D : Def K mg "_law_forms" s_law_forms ["tape"]) (mb : ∀ x ∈ bltns, mg x = none) (G_law_take : Ok P w K mg base 2 "_law_take" ["tape", "many"] (spTake T)) (G_law_text : Ok P w K mg base 3 "_law_text" ["tape", "many"] (spText T))
    (G_law_small : Ok P w K mg base 1 "_law_small" ["text"] (spTB T fun z => (sg z).all fun c => decide (c ∈ sg lettersS))) (G_law_is : Ok P w K mg base 1 "_law_is" ["told", "due"] spIs)
    (G_is_id : Ok P w K mg base 2 "is_id" ["text"] (spTB T idB)) (G_is_label : Ok P w K mg base 2 "is_label" ["text"] (spTB T labelB)) (G_is_name : Ok P w K mg base 3 "is_name" ["text"] (spTB T nameB)) : Ok P w K mg base 4 "_law_forms" ["tape"] (spForms T) := by
  refine D.ok sc_law_forms (fun vs H Q E h => ?_) (fun cdv f A outer s H vs Q E hr h => ?_)
  · obtain ⟨l, t, rfl, _⟩ := h
    rfl
  · obtain ⟨l, t, rfl, hT, q⟩ := h
    refine ⟨_, (pss_cons (ps_set (i := 1) sc_law_forms.nd rfl (.inl rfl) (pe_callO G_law_text (hr.mono (by decide)) (by rfl) (pa_cons (pv 0) (pa_cons pe_int pa_nil))))
   (pss_cons (ps_if (pt_cmpR (op_eqU K rfl hr.units) (pe_callO G_law_take (hr.mono (by decide)) (by rfl) (pa_cons (pv 0) (pa_cons pe_int pa_nil))) pe_int (nomark _)) (pss_one (ps_set (i := 1) sc_law_forms.nd rfl (.inl rfl) (pe_m1 PySem.F.slot_str_join PySem.F.type_str_join (mt_joinU K rfl) pe_str (pe_lc (own := [("k", 5)]) (g := gName 5) (tt := tYes) rfl sc_law_forms.nd (pi_range1 (by rfl) (mb _ (by decide)) (pa_cons (pe_callO G_law_take (hr.mono (by decide)) (by rfl) (pa_cons (pv 0) (pa_cons pe_int pa_nil))) pa_nil)) (blkOk_by (N := N_law_forms) (sc := defScope s_law_forms) (by decide +kernel)) (fun _ _ _ _ _ => (pg_name (i := 5) sc_law_forms.nd rfl (Or.inl rfl))) (fun _ _ _ _ _ => pts_nil) (fun _ _ _ _ _ => (pe_callO G_law_text (hr.mono (by decide)) (by rfl) (pa_cons (pv 0) (pa_cons pe_int pa_nil)))))))) pss_nil)
   (pss_cons (ps_set (i := 2) sc_law_forms.nd rfl (.inl rfl) (pe_m1 PySem.F.slot_str_split PySem.F.type_str_split mt_splitU (pv 1) pe_str))
   (pss_cons (ps_set (i := 3) sc_law_forms.nd rfl (.inl rfl) (pe_cmpR op_le (pe_callB (call_lenU K rfl) (by rfl) (mb _ (by decide)) (by decide +kernel) (pa_cons (pv 2) pa_nil)) pe_int (nomark _)))
   (pss_cons (ps_for PassesOwn.never rfl (pi_seq K rfl (pv 2)) (pg_name (i := 4) sc_law_forms.nd rfl (.inl rfl)) (pss_one (ps_set (i := 3) sc_law_forms.nd rfl (.inl rfl) (pe_and (pv 3) (pe_and (pe_chain op_le op_le pe_int (pe_callB (call_lenU K rfl) (by rfl) (mb _ (by decide)) (by decide +kernel) (pa_cons (pv 4) pa_nil)) pe_int) (pe_one (pe_callO G_law_small (hr.mono (by decide)) (by rfl) (pa_cons (pv 4) pa_nil))))))))
   (pss_cons (ps_if (pt_not (pt_E (pe_callO G_law_is (hr.mono (by decide)) (by rfl) (pa_cons (pe_callO G_is_id (hr.mono (by decide)) (by rfl) (pa_cons (pv 1) pa_nil)) (pa_cons (pe_and (pe_chain op_le op_le pe_int (pe_callB (call_lenU K rfl) (by rfl) (mb _ (by decide)) (by decide +kernel) (pa_cons (pv 1) pa_nil)) pe_int) (pe_one (pe_callO G_law_small (hr.mono (by decide)) (by rfl) (pa_cons (pv 1) pa_nil)))) pa_nil))))) (pss_one (ps_ret pe_bl)) pss_nil)
   (pss_cons (ps_if (pt_not (pt_E (pe_callO G_law_is (hr.mono (by decide)) (by rfl) (pa_cons (pe_callO G_is_label (hr.mono (by decide)) (by rfl) (pa_cons (pv 1) pa_nil)) (pa_cons (pe_and (pe_chain op_le op_le pe_int (pe_callB (call_lenU K rfl) (by rfl) (mb _ (by decide)) (by decide +kernel) (pa_cons (pv 1) pa_nil)) pe_int) (pe_one (pe_callO G_law_small (hr.mono (by decide)) (by rfl) (pa_cons (pv 1) pa_nil)))) pa_nil))))) (pss_one (ps_ret pe_bl)) pss_nil)
   (pss_one (ps_ret (pe_callO G_law_is (hr.mono (by decide)) (by rfl) (pa_cons (pe_callO G_is_name (hr.mono (by decide)) (by rfl) (pa_cons (pv 1) pa_nil)) (pa_cons (pe_or (pe_cmpR (op_eqU K rfl hr.units) (pv 1) pe_str (nomark _)) (pe_one (pv 3))) pa_nil)))))))))))), ?_⟩
    refine rd_seq ?_
    walk_at "rdn"
    refine ⟨l, t, 11, rfl, by decide, by decide, hT, fun z0 H1 hz0 e1 T1 => ?_⟩
    walk_at "rdn"
    refine rd_cut (fun σ H2 => Ext T [t] H H2 ∧ Tape l H2 t ∧ ∃ z : Str, σ = [some (.ref t), some (.str z), none, none, none, none] ∧ z.length ≤ 100) (fun nx' hnx => ?_) (fun σ H2 h => ?_)
    · walk_at "rd"
      refine ⟨l, t, 3, rfl, by decide, by decide, T1, fun d H2 h0 h1 e2 T2 => ?_⟩
      walk_at "rd"
      refine rd_ite (fun h2 => ?_) (fun h2 => ?_)
      · walk_at "rd"
        refine ⟨l, t, 7, rfl, by decide, by decide, T2, fun d3 H3 h03 h13 e3 T3 => ?_⟩
        walk_at "rd"
        refine ⟨by omega, by omega, ?_⟩
        refine lcg_range_tape T T3 (fun v => ∃ x : Str, x.length ≤ 5 ∧ v = .str x) (Nat.lt_of_le_of_lt (show d3.toNat ≤ 100 by omega) (by decide)) (fun i H4 hi e4 T4 R hR => ?_) (fun D H4 vs nD e4 T4 hD hl hv => ?_)
        · walk_at "rd"
          exact ⟨l, t, 5, rfl, by decide, by decide, T4, fun z5 H5 hz5 e5 T5 => hR _ H5 ⟨z5, by omega, rfl⟩ e5 T5⟩
        · obtain ⟨ys, rfl, hys⟩ := strs_ofP hv
          rw [List.length_map] at hl
          have hsum : (ys.map (·.length)).sum ≤ ys.length * 5 := by
            have := sum_le (B := 5) (l := ys.map (·.length)) fun x hx => by
              obtain ⟨y, hy, rfl⟩ := List.mem_map.mp hx
              exact hys y hy
            rw [List.length_map] at this
            exact this
          have hjl := join_len ys
          refine rd_join (SqL.of hD) ?_ ?_
          · rw [dot_len]
            omega
          · walk_at "rd"
            exact hnx _ _ ⟨((e1.trans e2).trans e3).trans e4, T4, joinS ys, rfl, by omega⟩
      · walk_at "rd"
        exact hnx _ _ ⟨e1.trans e2, T2, z0, rfl, by omega⟩
    · obtain ⟨e2, T2, z, rfl, hz⟩ := h
      have hpl := parts_le z
      have hzs : z.length ≤ sizeLine := Nat.le_trans hz (by decide)
      refine rd_seq ?_
      walk_at "rdn"
      refine rd_split (by decide +kernel) (Nat.le_trans (show z.length + 2 ≤ 102 by omega) (by decide)) fun p np => ?_
      obtain ⟨hpt, hpl'⟩ := T2.ne (.of np)
      have e3 : Ext T [t] H (upd H2 p (.lst ((partsL z).map V.str))) := e2.newR np
      have hP : (upd H2 p (.lst ((partsL z).map V.str))) p = some (.lst ((partsL z).map V.str)) := upd_same
      have T3 := T2.upd (o := .lst ((partsL z).map V.str)) np
      show gName 2 (.ref p) _ (upd H2 p (.lst ((partsL z).map V.str))) _
      generalize upd H2 p (.lst ((partsL z).map V.str)) = H3 at e3 hP T3 ⊢
      walk_at "rdn"
      refine rd_seq ?_
      walk_at "rdn"
      refine rd_cut (fun σ H4 => Ext T [t] H H4 ∧ Tape l H4 t ∧ ∃ y4 y5, σ = [some (.ref t), some (.str z), some (.ref p), some (.bl (decide (((partsL z).length : Int) ≤ 4) && (partsL z).all labelB)), y4, y5]) (fun nx' hnx => ?_) (fun σ H4 h => ?_)
      · walk_at "rd"
        refine forg_list (xs := (partsL z).map V.str) (fun i σ H4 => Ext T [t] H H4 ∧ Tape l H4 t ∧ H4 p = some (.lst ((partsL z).map V.str)) ∧ ∃ y4 y5, σ = [some (.ref t), some (.str z), some (.ref p), some (.bl (decide (((partsL z).length : Int) ≤ 4) && ((partsL z).take i).all labelB)), y4, y5])
          ⟨e3, T3, hP, none, none, by rw [List.take_zero, List.all_nil, Bool.and_true, List.length_map]; rfl⟩ (fun i σ H4 _ h => SqL.of h.2.2.1) (fun i x σ H4 hx h => ?_) (fun σ H4 h => ?_)
        · obtain ⟨e4, T4, hP4, y4, y5, rfl⟩ := h
          rw [List.getElem?_map] at hx
          obtain ⟨y, hy, rfl⟩ := Option.map_eq_some_iff.mp hx
          have hyl : y.length ≤ 100 := Nat.le_trans (parts_mem (List.mem_of_getElem? hy)) hz
          refine rd_asg ?_
          refine rd_cutE (te := tAndV _ _) (fun v H5 => v = .bl ((decide (((partsL z).length : Int) ≤ 4) && ((partsL z).take i).all labelB) && labelB y) ∧ Ext T [] H4 H5) (fun Q' hQ => ?_) (fun v H5 h => ?_)
          · refine rd_and ?_
            refine rd_var (v := .bl (decide (((partsL z).length : Int) ≤ 4) && ((partsL z).take i).all labelB)) rfl ?_
            refine ⟨_, rfl, ?_⟩
            cases hb : (decide (((partsL z).length : Int) ≤ 4) && ((partsL z).take i).all labelB) with
            | true =>
              refine iteT ?_
              exact chain_small (y := y) (m := 8) rfl (by omega) fun H5 e5 => hQ _ H5 ⟨by rw [hb]; rfl, e5⟩
            | false =>
              walk_at "rd"
              exact hQ _ H4 ⟨by rw [hb]; rfl, .refl⟩
          · obtain ⟨rfl, e5⟩ := h
            walk_at "rd"
            have hv : ((decide (((partsL z).length : Int) ≤ 4) && ((partsL z).take i).all labelB) && labelB y) = (decide (((partsL z).length : Int) ≤ 4) && ((partsL z).take (i + 1)).all labelB) := by
              rw [List.take_add_one, hy, List.all_append, Bool.and_assoc]
              simp
            rw [hv]
            exact ⟨e4.trans e5.any, T4.ext e5, e5.lst (by simp) hP4, _, _, rfl⟩
        · obtain ⟨e4, T4, hP4, y4, y5, rfl⟩ := h
          rw [List.length_map, List.take_length]
          exact hnx _ _ ⟨e4, T4, y4, y5, rfl⟩
      · obtain ⟨e4, T4, y4, y5, rfl⟩ := h
        refine rd_cut (fun σ H5 => Ext T [t] H H5 ∧ Tape l H5 t ∧ σ = [some (.ref t), some (.str z), some (.ref p), some (.bl (decide (((partsL z).length : Int) ≤ 4) && (partsL z).all labelB)), y4, y5]) (fun nx' hnx => ?_) (fun σ H5 h => ?_)
        · walk_at "rd"
          refine ⟨z, rfl, by omega, fun H5 e5 => ?_⟩
          refine rd_cons ?_
          refine chain_small (y := z) (m := 4) rfl (by omega) fun H6 e6 => ?_
          walk_at "rd"
          refine ⟨idB z, idB z, rfl, ?_⟩
          rw [decide_eq_true rfl]
          walk_at "rd"
          exact hnx _ _ ⟨(e4.trans e5.any).trans e6.any, (T4.ext e5).ext e6, rfl⟩
        · obtain ⟨e5, T5, rfl⟩ := h
          refine rd_cut (fun σ H5 => Ext T [t] H H5 ∧ Tape l H5 t ∧ σ = [some (.ref t), some (.str z), some (.ref p), some (.bl (decide (((partsL z).length : Int) ≤ 4) && (partsL z).all labelB)), y4, y5]) (fun nx' hnx => ?_) (fun σ H6 h => ?_)
          · walk_at "rd"
            refine ⟨z, rfl, by omega, fun H6 e6 => ?_⟩
            refine rd_cons ?_
            refine chain_small (y := z) (m := 8) rfl (by omega) fun H7 e7 => ?_
            walk_at "rd"
            refine ⟨labelB z, labelB z, rfl, ?_⟩
            rw [decide_eq_true rfl]
            walk_at "rd"
            exact hnx _ _ ⟨(e5.trans e6.any).trans e7.any, (T5.ext e6).ext e7, rfl⟩
          · obtain ⟨e6, T6, rfl⟩ := h
            walk_at "rd"
            refine ⟨z, rfl, by omega, fun H7 e7 => ?_⟩
            have fin : ∀ b, nameB z = b → spIs [.bl (nameB z), .bl b] H7 Q E0 := fun b hb => by
              refine ⟨nameB z, b, rfl, ?_⟩
              rw [decide_eq_true hb]
              exact q H7 (e6.trans e7.any) (T6.ext e7)
            unfold nameB at fin
            walk_at "rd"
            refine rd_ite (fun h1 => ?_) (fun h1 => ?_)
            · walk_at "rd"
              exact fin _ (by rw [decide_eq_true (show z = dotS from h1)]; rfl)
            · walk_at "rd"
              exact fin _ (by rw [decide_eq_false (show ¬ z = dotS from h1), Bool.false_or])
end

open PySem PySem.Spec PyProof.Rows L2
local macro_rules | `(tactic| walk_at "szl") => `(tactic| first
  | assumption
  | exact Nat.lt_of_le_of_lt (by assumption) (by decide)
  | (refine Nat.lt_of_le_of_lt ?_ (show (100000 : Nat) < sizeLine by decide); (try simp only [List.length_map, List.length_cons, List.length_nil, List.length_append]); omega))
local macro_rules | `(tactic| walk_at "sz") => `(tactic| first
  | assumption
  | exact Nat.le_trans (by assumption) (by decide)
  | (show _ ≤ sizeLine; decide)
  | (refine Nat.le_trans ?_ (show (100000 : Nat) ≤ sizeLine by decide); (try simp only [List.length_map, List.length_cons, List.length_nil, List.length_append]); omega))
local macro_rules | `(tactic| walk_at "hp") => `(tactic| first
  | assumption
  | exact upd_same
  | (refine (upd_ne ?hne).trans ?_; (case hne => first | assumption | exact Ne.symm (by assumption)); walk_at "hp"))
local macro_rules | `(tactic| walk_at "rd1") => `(tactic| first
  | with_reducible refine rd_seq ?_
  | with_reducible refine rd_asg ?_
  | with_reducible refine rd_ret ?_
  | with_reducible refine rd_if ?_
  | with_reducible refine rd_drop ?_
  | with_reducible refine rd_next ?_
  | with_reducible refine rd_B ?_
  | with_reducible refine rd_ifE ?_
  | with_reducible refine rd_T ?_
  | with_reducible refine rd_tnot ?_
  | with_reducible refine rd_tand ?_
  | with_reducible refine rd_tor ?_
  | with_reducible refine rd_chain ?_
  | with_reducible refine rd_op ?_
  | with_reducible refine rd_un ?_
  | with_reducible refine rd_call ?_
  | with_reducible refine rd_cons ?_
  | with_reducible refine rd_nil ?_
  | with_reducible refine rd_cb ?_
  | with_reducible refine rd_c ?_
  | with_reducible refine rd_not ?_
  | with_reducible refine rd_and ?_
  | with_reducible refine rd_or ?_
  | with_reducible refine rd_sub ?_
  | with_reducible refine rd_lc ?_
  | with_reducible refine rd_iStr ?_
  | with_reducible refine rd_exStr ?_
  | with_reducible refine rd_iSeq ?_
  | with_reducible refine rd_rng ?_
  | with_reducible refine rd_exRef ?_
  | with_reducible refine rd_exInt ?_
  | with_reducible refine rd_exInts ?_
  | ((with_reducible refine' rd_seqL (xs := ?rxs) ?rxh ?_); (case rxh => exact SqL.of (by walk_at "hp")))
  | with_reducible refine rd_tyes ?_
  | with_reducible refine rd_eqStr ?_
  | with_reducible refine rd_neStr ?_
  | with_reducible refine rd_eqInt ?_
  | with_reducible refine rd_neInt ?_
  | with_reducible refine rd_eqBl ?_
  | with_reducible refine rd_rev ?_
  | with_reducible refine rd_exA ?_
  | with_reducible refine rd_fs ?_
  | with_reducible refine rd_jc ?_
  | with_reducible refine rd_jn ?_
  | with_reducible refine rd_fmt ?_
  | with_reducible refine rd_for ?_
  | with_reducible refine rd_bm ?_
  | ((with_reducible refine' rd_tyL (xs := ?rxs) ?rxh ?_); (case rxh => walk_at "hp"))
  | ((with_reducible refine' rd_app (xs := ?rxs) ?rxh ?rxc ?_); (case rxh => walk_at "hp"); (case rxc => walk_at "szl"))
  | ((with_reducible refine rd_fmtS ?rdc ?_); (case rdc => walk_at "sz"))
  | with_reducible refine rd_isBool ?_
  | with_reducible refine rd_sl ?_
  | with_reducible refine rd_noP ?_
  | with_reducible refine rd_part ?_
  | ((with_reducible refine rd_slS ?rdc ?_); (case rdc => walk_at "sz"))
  | with_reducible refine rd_sortLam ?_
  | with_reducible refine iteT ?_
  | with_reducible refine rd_ntt ?_
  | with_reducible refine rd_nff ?_
  | with_reducible refine iteF ?_
  | with_reducible refine rd_m1 ?_
  | (with_reducible refine ⟨⟨_, rfl⟩, ?_⟩)
  | ((with_reducible refine rd_len ?rdc ?_); (case rdc => walk_at "sz"))
  | with_reducible refine rd_ends ?_
  | with_reducible refine rd_inS ?_
  | with_reducible refine rd_ninS ?_
  | with_reducible refine rd_isStr ?_
  | with_reducible refine rd_lst ?_
  | with_reducible refine rd_tup ?_
  | with_reducible refine rd_name ?_
  | with_reducible refine rd_bl ?_
  | with_reducible refine rd_i0 ?_
  | with_reducible refine rd_uI ?_
  | with_reducible refine rd_plusI ?_
  | with_reducible refine rd_int1 ?_
  | ((with_reducible refine rd_i ?rdc ?_); (case rdc => first | decide | (constructor <;> decide) | (left; constructor <;> decide) | (right; constructor <;> decide) | omega | (left; constructor <;> omega) | (right; constructor <;> omega) | (constructor <;> omega)))
  | ((with_reducible refine' rd_ixL (v := ?rxv) (xs := ?rxs) ?rxh ?rxa ?_); (case rxh => exact SqL.of (by walk_at "hp")); (case rxa => rfl))
  | ((with_reducible refine' rd_lenL (ys := ?rxs) ?rxh ?_); (case rxh => exact SqL.of (by walk_at "hp")))
  | ((with_reducible refine' rd_set (xs := ?rxs) (j := ?rxj) ?rxh ?rxa ?_); (case rxh => walk_at "hp"); (case rxa => rfl))
  | ((with_reducible refine' rd_var (v := ?rdw) ?rdv ?_); (case rdv => rfl)))
local macro_rules | `(tactic| walk_at "rdn1") => `(tactic| first
  | with_reducible refine rd_asg ?_
  | with_reducible refine rd_ret ?_
  | with_reducible refine rd_if ?_
  | with_reducible refine rd_drop ?_
  | with_reducible refine rd_next ?_
  | with_reducible refine rd_B ?_
  | with_reducible refine rd_ifE ?_
  | with_reducible refine rd_T ?_
  | with_reducible refine rd_tnot ?_
  | with_reducible refine rd_tand ?_
  | with_reducible refine rd_tor ?_
  | with_reducible refine rd_chain ?_
  | with_reducible refine rd_op ?_
  | with_reducible refine rd_un ?_
  | with_reducible refine rd_call ?_
  | with_reducible refine rd_cons ?_
  | with_reducible refine rd_nil ?_
  | with_reducible refine rd_cb ?_
  | with_reducible refine rd_c ?_
  | with_reducible refine rd_not ?_
  | with_reducible refine rd_and ?_
  | with_reducible refine rd_or ?_
  | with_reducible refine rd_sub ?_
  | with_reducible refine rd_lc ?_
  | with_reducible refine rd_iStr ?_
  | with_reducible refine rd_exStr ?_
  | with_reducible refine rd_iSeq ?_
  | with_reducible refine rd_rng ?_
  | with_reducible refine rd_exRef ?_
  | with_reducible refine rd_exInt ?_
  | with_reducible refine rd_exInts ?_
  | ((with_reducible refine' rd_seqL (xs := ?rxs) ?rxh ?_); (case rxh => exact SqL.of (by walk_at "hp")))
  | with_reducible refine rd_tyes ?_
  | with_reducible refine rd_eqStr ?_
  | with_reducible refine rd_neStr ?_
  | with_reducible refine rd_eqInt ?_
  | with_reducible refine rd_neInt ?_
  | with_reducible refine rd_eqBl ?_
  | with_reducible refine rd_rev ?_
  | with_reducible refine rd_exA ?_
  | with_reducible refine rd_fs ?_
  | with_reducible refine rd_jc ?_
  | with_reducible refine rd_jn ?_
  | with_reducible refine rd_fmt ?_
  | with_reducible refine rd_for ?_
  | with_reducible refine rd_bm ?_
  | ((with_reducible refine' rd_tyL (xs := ?rxs) ?rxh ?_); (case rxh => walk_at "hp"))
  | ((with_reducible refine' rd_app (xs := ?rxs) ?rxh ?rxc ?_); (case rxh => walk_at "hp"); (case rxc => walk_at "szl"))
  | ((with_reducible refine rd_fmtS ?rdc ?_); (case rdc => walk_at "sz"))
  | with_reducible refine rd_isBool ?_
  | with_reducible refine rd_sl ?_
  | with_reducible refine rd_noP ?_
  | with_reducible refine rd_part ?_
  | ((with_reducible refine rd_slS ?rdc ?_); (case rdc => walk_at "sz"))
  | with_reducible refine rd_sortLam ?_
  | with_reducible refine iteT ?_
  | with_reducible refine rd_ntt ?_
  | with_reducible refine rd_nff ?_
  | with_reducible refine iteF ?_
  | with_reducible refine rd_m1 ?_
  | (with_reducible refine ⟨⟨_, rfl⟩, ?_⟩)
  | ((with_reducible refine rd_len ?rdc ?_); (case rdc => walk_at "sz"))
  | with_reducible refine rd_ends ?_
  | with_reducible refine rd_inS ?_
  | with_reducible refine rd_ninS ?_
  | with_reducible refine rd_isStr ?_
  | with_reducible refine rd_lst ?_
  | with_reducible refine rd_tup ?_
  | with_reducible refine rd_name ?_
  | with_reducible refine rd_bl ?_
  | with_reducible refine rd_i0 ?_
  | with_reducible refine rd_uI ?_
  | with_reducible refine rd_plusI ?_
  | with_reducible refine rd_int1 ?_
  | ((with_reducible refine rd_i ?rdc ?_); (case rdc => first | decide | (constructor <;> decide) | (left; constructor <;> decide) | (right; constructor <;> decide) | omega | (left; constructor <;> omega) | (right; constructor <;> omega) | (constructor <;> omega)))
  | ((with_reducible refine' rd_ixL (v := ?rxv) (xs := ?rxs) ?rxh ?rxa ?_); (case rxh => exact SqL.of (by walk_at "hp")); (case rxa => rfl))
  | ((with_reducible refine' rd_lenL (ys := ?rxs) ?rxh ?_); (case rxh => exact SqL.of (by walk_at "hp")))
  | ((with_reducible refine' rd_set (xs := ?rxs) (j := ?rxj) ?rxh ?rxa ?_); (case rxh => walk_at "hp"); (case rxa => rfl))
  | ((with_reducible refine' rd_var (v := ?rdw) ?rdv ?_); (case rdv => rfl)))
local macro_rules | `(tactic| walk_at "rd") => `(tactic| repeat walk_at "rd1")
local macro_rules | `(tactic| walk_at "ext") => `(tactic| first
  | exact Ext.refl
  | assumption
  | (refine Ext.trans ?_ (Ext.mut (by simp) (by walk_at "hp")); walk_at "ext")
  | (refine Ext.trans ?_ (Ext.new (by assumption)); walk_at "ext"))
local macro_rules | `(tactic| walk_at "rdn") => `(tactic| repeat walk_at "rdn1")

section
variable {T : List (Addr × Str)} {P : Program} {w : World} {K : PySem.W.Frag} {mg : Str → Option Value} {base : Heap}
/-- the zones of a name, sorted by their number of labels -/
def keyOf : V → Int := fun v => match v with | .str z => ((labelsL z).length : Int) | _ => 0
def chainL (zs : List Str) (n : Str) : List V := ((zs.filter fun z => endsB n z).map V.str).mergeSort fun a b => decide (keyOf a ≤ keyOf b)
def spChain (T : List (Addr × Str)) (K : PySem.W.Frag) : Sp := fun vs H Q _ => ∃ (a : Addr) (zs : List Str) (n : Str), vs = [.ref a, .str n] ∧ (SqL K H a (zs.map V.str) ∨ SqT K H a (zs.map V.str)) ∧ zs.length ≤ 100 ∧ (∀ z ∈ zs, z.length ≤ 1000) ∧ n.length ≤ 1000 ∧ LamX.Tabs T H ∧
  ∀ p H', Nw H p → Ext T [] H H' → H' p = some (.lst (chainL zs n)) → Q (.ref p) H'
theorem ok_chain {c Pt : Addr} (D : DefC K mg "chain" s_chain ["zones", "name"] c) (mb : ∀ x ∈ bltns, mg x = none) (TB : LamX.TabB base mg c Pt) (hmT : (Pt, ("chain.<locals>.<lambda>" : Str)) ∈ T) (huT : ∀ z ∈ T, z.1 = Pt → z.2 = ("chain.<locals>.<lambda>" : Str))
    (G_labels : Ok P w K mg base 1 "labels" ["name"] (spTL T labelsL)) (G_ends : Ok P w K mg base 1 "ends" ["name", "other"] (spTTB T endsB)) : Ok P w K mg base 4 "chain" ["zones", "name"] (spChain T K) := by
  refine D.ok sc_chain (fun vs H Q E h => ?_) (fun f A outer s H vs Q E hr h => ?_)
  · obtain ⟨a, zs, n, rfl, _⟩ := h
    rfl
  · obtain ⟨a, zs, n, rfl, hz, hl, hzl, hn, hT, q⟩ := h
    refine ⟨_, (pss_cons (ps_setLc (i := 2) (own := [("zone", 3)]) (g := gName 3) rfl sc_chain.nd rfl rfl (sw_true rfl rfl rfl (by decide +kernel)) (pi_seq K rfl (pv 0)) (blkOk_by (N := N_chain) (sc := defScope s_chain) (by decide +kernel)) (fun _ _ _ _ _ => (pg_name (i := 3) sc_chain.nd rfl (Or.inl rfl))) (fun _ _ _ _ _ => (pts_one (pt_E (pe_callO G_ends (hr.mono (by decide)) (by rfl) (pa_cons (pv 1) (pa_cons (pv 3) pa_nil)))))) (fun _ _ _ _ _ => (pv 3)))
   (pss_one (ps_ret (pe_sortedLam (T := T) (N := ["zone"]) (x := "zone") (k := 1) K rfl TB rfl hmT huT (hr.mono (by decide)) (by exact ⟨rfl, rfl, rfl, by decide +kernel, rfl, by decide +kernel, by decide +kernel⟩) (fun A s H f c' hr => (pe_callB (call_lenU K rfl) (by rfl) (mb _ (by decide)) (by decide +kernel) (pa_cons (pe_callO G_labels (hr.mono (by decide)) (by rfl) (pa_cons (pv 0) pa_nil)) pa_nil))) (by rfl) (mb _ (by decide)) (pa_cons (pv 2) pa_nil))))), ?_⟩
    refine rd_seq ?_
    walk_at "rdn"
    have hm : ∀ _ : Nat, (zs.map V.str).filter (fun v => match v with | .str z => endsB n z | _ => false) = (zs.filter fun z => endsB n z).map V.str := fun _ => by
      rw [List.filter_map]
      rfl
    have step : ∀ (xs : List V), (∀ x ∈ xs, ∃ z : Str, z.length ≤ 1000 ∧ x = .str z) → ∀ x ∈ xs, ∀ H', Ext T [] H H' → ∀ (R : V → Hp → Prop) (S : Hp → Prop), ((match x with | .str z => endsB n z | _ => false) = true → ∀ H2, Ext T [] H' H2 → R x H2) → ((match x with | .str z => endsB n z | _ => false) = false → ∀ H2, Ext T [] H' H2 → S H2) →
        tB (tCall (spTTB T endsB) [] E0 (tCons (tVar 1) (tCons (tVar 3) tNil))) ((wipe (start N_chain [.ref a, .str n]) [3]).set 3 (some x)) H' fun b H2 => if b = true then tVar 3 ((wipe (start N_chain [.ref a, .str n]) [3]).set 3 (some x)) H2 R else S H2 := fun xs hxs x hx H' e R S h1 h2 => by
      obtain ⟨z, hzz, rfl⟩ := hxs x hx
      walk_at "rd"
      refine ⟨n, z, rfl, hn, hzz, fun H2 e2 => ?_⟩
      walk_at "rd"
      cases hb : endsB n z with
      | true =>
        walk_at "rd"
        exact h1 hb H2 e2
      | false =>
        walk_at "rd"
        exact h2 hb H2 e2
    have hxs : ∀ x ∈ zs.map V.str, ∃ z : Str, z.length ≤ 1000 ∧ x = .str z := fun x hx => by
      obtain ⟨z, hz, rfl⟩ := List.mem_map.mp hx
      exact ⟨z, hzl z hz, rfl⟩
    have hzs : (zs.map V.str).length < sizeLine := by
      rw [List.length_map]
      exact Nat.lt_of_le_of_lt hl (by decide)
    have rest : ∀ D H2, Nw H D → Ext T [] H H2 → H2 D = some (.lst (((zs.map V.str).filter (fun v => match v with | .str z => endsB n z | _ => false)).map id)) →
        tSortLam T K [Str.ofString "zone"] (tCons (tVar 2) tNil) (tCB (rLenU K) (tCons (tCall (spTL T labelsL) [] E0 (tCons (tVar 0) tNil)) tNil)) ((start N_chain [.ref a, .str n]).set 2 (some (.ref D))) H2 Q := fun D H2 nw e hD => by
      rw [List.map_id, hm 0] at hD
      walk_at "rd"
      refine ⟨D, _, keyOf, rfl, SqL.of hD, e.tabs hT, fun x hx H3 e3 Q' hQ => ?_, fun p H3 np e3 hp => q p H3 (e.back (by simp) np) (e.trans e3) hp⟩
      obtain ⟨z, hz, rfl⟩ := List.mem_map.mp hx
      walk_at "rd"
      refine ⟨z, rfl, hzl z (List.mem_filter.mp hz).1, fun p H4 np e4 hp => ?_⟩
      walk_at "rd"
      rw [List.length_map]
      exact hQ H4 e4
    rcases hz with hz | hz
    · refine .inl ⟨⟨_, hz⟩, ?_⟩
      refine lcg_list T [] hz (fun v => match v with | .str z => endsB n z | _ => false) id hzs (by simp) (by simp) (step _ hxs) (fun D H2 nw e hD => ?_)
      refine rd_name ?_
      refine rd_ret ?_
      exact rest D H2 nw e hD
    · refine .inr ⟨⟨_, hz⟩, ?_⟩
      refine lcg_tup T [] hz (fun v => match v with | .str z => endsB n z | _ => false) id hzs (by simp) (by simp) (step _ hxs) (fun D H2 nw e hD => ?_)
      refine rd_name ?_
      refine rd_ret ?_
      exact rest D H2 nw e hD
def spZoneOf (T : List (Addr × Str)) (K : PySem.W.Frag) : Sp := fun vs H Q _ => ∃ (a : Addr) (zs : List Str) (n : Str) (v : V), vs = [.ref a, .str n] ∧ SqL K H a (zs.map V.str) ∧ zs.length ≤ 100 ∧ (∀ z ∈ zs, z.length ≤ 1000) ∧ n.length ≤ 1000 ∧ LamX.Tabs T H ∧ (chainL zs n).getLast? = some v ∧ ∀ H', Ext T [] H H' → Q v H'
theorem ok_zone_of (D : Def K mg "zone_of" s_zone_of ["zones", "name"]) (G_chain : Ok P w K mg base 4 "chain" ["zones", "name"] (spChain T K)) : Ok P w K mg base 5 "zone_of" ["zones", "name"] (spZoneOf T K) := by
  refine D.ok sc_zone_of (fun vs H Q E h => ?_) (fun cdv f A outer s H vs Q E hr h => ?_)
  · obtain ⟨a, zs, n, v, rfl, _⟩ := h
    rfl
  · obtain ⟨a, zs, n, v, rfl, hz, hl, hzl, hn, hT, hv, q⟩ := h
    refine ⟨_, (pss_one (ps_ret (pe_ix (ix_U K rfl) (pe_callO G_chain (hr.mono (by decide)) (by rfl) (pa_cons (pv 0) (pa_cons (pv 1) pa_nil))) (pe_un un_neg pe_int) (fun _ _ => rfl)))), ?_⟩
    walk_at "rd"
    refine ⟨a, zs, n, rfl, .inl hz, hl, hzl, hn, hT, fun p H' np e hp => ?_⟩
    walk_at "rd"
    refine rd_ixL (v := v) (SqL.of hp) (at_last hv) ?_
    exact q H' e
end

open PySem PySem.Spec PyProof.Rows L2
/-! ### names are plain texts -/
theorem spl_cover : ∀ (l acc : List Nat) (c : Nat), c ∈ l → c = 46 ∨ ∃ p ∈ TL.spl [46] 0 acc l, c ∈ p
  | [], _, _, h => by cases h
  | d :: r, acc, c, h => by
    by_cases hd : d = 46
    · subst hd
      have e : TL.spl [46] 0 acc (46 :: r) = acc :: TL.spl [46] 0 [] r := by
        rw [TL.spl, if_pos (by rfl)]
        rfl
      rcases List.mem_cons.mp h with h | h
      · exact .inl h
      · rcases spl_cover r [] c h with h2 | ⟨p, h2, h3⟩
        · exact .inl h2
        · exact .inr ⟨p, by rw [e]; exact List.mem_cons_of_mem _ h2, h3⟩
    · have e : TL.spl [46] 0 acc (d :: r) = TL.spl [46] 0 (acc ++ [d]) r := by
        rw [TL.spl, if_neg]
        show ¬ (TL.pre [46] (d :: r) = true)
        unfold TL.pre
        simpa using hd
      rw [e]
      rcases List.mem_cons.mp h with h | h
      · refine .inr ?_
        subst h
        have key : ∀ (l acc : List Nat), c ∈ acc → ∃ p ∈ TL.spl [46] 0 acc l, c ∈ p := by
          intro l
          induction l with
          | nil => exact fun acc h => ⟨acc, List.mem_singleton.mpr rfl, h⟩
          | cons d r ih =>
            intro acc h
            by_cases hd : d = 46
            · subst hd
              have e : TL.spl [46] 0 acc (46 :: r) = acc :: TL.spl [46] 0 [] r := by
                rw [TL.spl, if_pos (by rfl)]
                rfl
              exact ⟨acc, by rw [e]; exact List.mem_cons_self, h⟩
            · have e : TL.spl [46] 0 acc (d :: r) = TL.spl [46] 0 (acc ++ [d]) r := by
                rw [TL.spl, if_neg]
                show ¬ (TL.pre [46] (d :: r) = true)
                unfold TL.pre
                simpa using hd
              rw [e]
              exact ih _ (List.mem_append_left _ h)
        exact key r _ (by simp)
      · exact spl_cover r _ c h
theorem label_mem {y : Str} (h : labelB y = true) {c : Nat} (hc : c ∈ sg y) : c ∈ sg lettersS := by
  unfold labelB wordB at h
  rw [Bool.and_eq_true, Bool.and_eq_true] at h
  exact of_decide_eq_true (List.all_eq_true.mp h.2.2 c hc)
theorem label_len {y : Str} (h : labelB y = true) : y.length ≤ 8 := by
  unfold labelB wordB at h
  rw [Bool.and_eq_true, Bool.and_eq_true] at h
  have := of_decide_eq_true h.2.1
  omega
theorem letters_lt : ∀ c ∈ sg lettersS, c < 128 := by decide +kernel
theorem name_parts {z : Str} (h : nameB z = true) : z = dotS ∨ ((partsL z).length ≤ 4 ∧ ∀ p ∈ partsL z, labelB p = true) := by
  unfold nameB at h
  rw [Bool.or_eq_true, Bool.and_eq_true] at h
  rcases h with h | ⟨h1, h2⟩
  · exact .inl (of_decide_eq_true h)
  · have := of_decide_eq_true h1
    exact .inr ⟨by omega, List.all_eq_true.mp h2⟩
theorem name_plain {z : Str} (h : nameB z = true) : ∀ c ∈ sg z, c < 128 := fun c hc => by
  rcases name_parts h with e | ⟨_, h2⟩
  · rw [e, sg_dot] at hc
    rw [List.mem_singleton.mp hc]
    decide
  · rcases spl_cover (sg z) [] c hc with e | ⟨p, hp, hcp⟩
    · rw [e]
      decide
    · rw [← parts_sg] at hp
      obtain ⟨y, hy, rfl⟩ := List.mem_map.mp hp
      exact letters_lt c (label_mem (h2 y hy) hcp)
theorem part_plain {z : Str} (h : nameB z = true) {y : Str} (hy : y ∈ partsL z) : ∀ c ∈ sg y, c < 128 := fun c hc => by
  rcases name_parts h with e | ⟨_, h2⟩
  · subst e
    have e2 : partsL dotS = [⟨#[]⟩, ⟨#[]⟩] := by decide +kernel
    rw [e2] at hy
    have : y = ⟨#[]⟩ := by simpa using hy
    subst this
    cases hc
  · exact letters_lt c (label_mem (h2 y hy) hc)
/-! ### keys of zones -/
theorem suffix_or {n z : Str} (h : endsB n z = true) : z = dotS ∨ sg z <:+ sg n ∧ (sg z = sg n ∨ ∃ a, sg n = a ++ 46 :: sg z) := by
  unfold endsB at h
  rw [Bool.or_eq_true, Bool.or_eq_true] at h
  rcases h with h | h | h
  · exact .inl (of_decide_eq_true h)
  · rw [of_decide_eq_true h]
    exact .inr ⟨List.suffix_refl _, .inl rfl⟩
  · rw [endswith_iff, sg_app, sg_dot] at h
    obtain ⟨a, e⟩ := h
    refine .inr ⟨⟨a ++ [46], by rw [← e]; simp⟩, .inr ⟨a, by rw [← e]; simp⟩⟩
theorem count_lt {n u v : List Nat} (hu : u <:+ n) (hv : v = n ∨ ∃ a, n = a ++ 46 :: v) (hvs : v <:+ n) (hl : v.length < u.length) : v.count 46 < u.count 46 := by
  obtain ⟨a, ea⟩ := hu
  rcases hv with e | ⟨b, eb⟩
  · rw [e, ← ea, List.length_append] at hl
    omega
  · have hl2 : (46 :: v).length ≤ u.length := hl
    have h1 : (46 :: v) <:+ u := by
      refine List.suffix_of_suffix_length_le (l₃ := n) ⟨b, by rw [eb]⟩ ⟨a, ea⟩ hl2
    obtain ⟨x, ex⟩ := h1
    rw [← ex, List.count_append, List.count_cons_self]
    omega
theorem key_lab {z : Str} : keyOf (.str z) = if z = dotS then 0 else (((sg z).count 46 + 1 : Nat) : Int) := by
  show ((labelsL z).length : Int) = _
  unfold labelsL
  by_cases h : z = dotS
  · rw [if_pos h, if_pos h]
    rfl
  · rw [if_neg h, if_neg h, List.length_reverse, parts_len]
theorem key_inj {n u v : Str} (hu : endsB n u = true) (hv : endsB n v = true) (h : keyOf (.str u) = keyOf (.str v)) : u = v := by
  rw [key_lab, key_lab] at h
  rcases suffix_or hu with e1 | ⟨s1, c1⟩
  · rcases suffix_or hv with e2 | ⟨s2, c2⟩
    · rw [e1, e2]
    · by_cases e2 : v = dotS
      · rw [e1, e2]
      · rw [if_pos e1, if_neg e2] at h
        omega
  · by_cases e1 : u = dotS
    · by_cases e2 : v = dotS
      · rw [e1, e2]
      · rw [if_pos e1, if_neg e2] at h
        omega
    · by_cases e2 : v = dotS
      · rw [if_neg e1, if_pos e2] at h
        omega
      · rw [if_neg e1, if_neg e2] at h
        rcases suffix_or hv with e3 | ⟨s2, c2⟩
        · exact absurd e3 e2
        · refine sg_inj ?_
          rcases Nat.lt_trichotomy (sg u).length (sg v).length with hl | hl | hl
          · have := count_lt s2 c1 s1 hl
            omega
          · have h1 := List.suffix_iff_eq_drop.mp s1
            have h2 := List.suffix_iff_eq_drop.mp s2
            rw [h1, h2, hl]
          · have := count_lt s1 c2 s2 hl
            omega
open PySem PySem.Spec PyProof.Rows L2
open PySem.W (EachIs sort_maps dataLe dataLe_eq dataLt_pair dataLt_int AllAlike)
/-! ### the sorted pairs are the chain -/
def leK (a b : Str) : Bool := decide (keyOf (.str a) ≤ keyOf (.str b))
def rowD (z : Str) : PyData := .tuple [.int (keyOf (.str z)), .str z]
def chainS (zs : List Str) (n : Str) : List Str := (zs.filter fun z => endsB n z).mergeSort leK
theorem chainL_eq (zs : List Str) (n : Str) : chainL zs n = (chainS zs n).map V.str := by
  unfold chainL chainS
  exact (sort_maps V.str (fun a _ b _ => rfl)).symm
theorem rows_sorted (zs : List Str) (n : Str) : ((zs.filter fun z => endsB n z).map rowD).mergeSort (dataLe false id) = (chainS zs n).map rowD := by
  unfold chainS
  refine (sort_maps rowD fun a ha b hb => ?_).symm
  rw [dataLe_eq]
  show leK a b = !PySem.W.dataLt (rowD b) (rowD a)
  unfold rowD leK
  rw [dataLt_pair (by rfl) (by rfl)]
  by_cases h : keyOf (.str b) = keyOf (.str a)
  · have e : b = a := key_inj (List.mem_filter.mp hb).2 (List.mem_filter.mp ha).2 h
    subst e
    rw [if_pos (by simp [PyData.eqv]), if_pos (by simp [PyData.eqv])]
    simp
  · rw [if_neg (by simp [PyData.eqv, h]), dataLt_int]
    by_cases h2 : keyOf (.str b) < keyOf (.str a)
    · rw [decide_eq_true h2, decide_eq_false (by omega)]
      rfl
    · rw [decide_eq_false h2, decide_eq_true (by omega)]
      rfl
theorem chainS_mem {zs : List Str} {n z : Str} (h : z ∈ chainS zs n) : z ∈ zs := by
  unfold chainS at h
  rw [List.mem_mergeSort] at h
  exact (List.mem_filter.mp h).1
theorem chainS_dot {zs : List Str} {n : Str} (h : dotS ∈ zs) : ∃ v, (chainS zs n).getLast? = some v := by
  have hm : dotS ∈ chainS zs n := by
    unfold chainS
    rw [List.mem_mergeSort]
    exact List.mem_filter.mpr ⟨h, by unfold endsB; rw [decide_eq_true rfl]; rfl⟩
  cases e : (chainS zs n).getLast? with
  | some v => exact ⟨v, rfl⟩
  | none =>
    rw [List.getLast?_eq_none_iff.mp e] at hm
    cases hm
/-! ### lists of texts as data -/
theorem dp_strs {K : PySem.W.Frag} {H : Hp} : ∀ zs : List Str, DpAll K H (zs.map V.str) (zs.map PyData.str)
  | [] => .nil
  | z :: zs => .cons (.str z) (dp_strs zs)
theorem lay_strs : ∀ {zs : List Str}, (∀ z ∈ zs, ∀ c ∈ sg z, c < 128) → PyData.canLayAll0 (zs.map PyData.str) = true
  | [], _ => rfl
  | z :: zs, h => by
    show (PyData.strOk z && PyData.canLayAll0 (zs.map PyData.str)) = true
    rw [lay_strs fun y hy => h y (List.mem_cons_of_mem _ hy), Bool.and_true]
    unfold PyData.strOk
    rw [← Array.all_toList, List.all_eq_true]
    intro c hc
    have := h z List.mem_cons_self c hc
    exact decide_eq_true (by omega)
theorem dep_strs : ∀ zs : List Str, PyData.depthAll (zs.map PyData.str) = 0
  | [] => rfl
  | z :: zs => by
    show max (PyData.depth (.str z)) (PyData.depthAll (zs.map PyData.str)) = 0
    rw [dep_strs zs]
    rfl
theorem shaped_strs {zs : List Str} (h : ∀ z ∈ zs, ∀ c ∈ sg z, c < 128) : SeqAt.shaped (.list (zs.map PyData.str)) = true := by
  unfold SeqAt.shaped
  rw [Bool.and_eq_true]
  refine ⟨lay_strs h, decide_eq_true ?_⟩
  show PyData.depthAll (zs.map PyData.str) + 1 ≤ 64
  rw [dep_strs]
  decide
theorem eqv_strs : ∀ zs : List Str, PyData.eqvAll (zs.map PyData.str) (zs.map PyData.str) = true
  | [] => rfl
  | z :: zs => by
    show (z == z && PyData.eqvAll (zs.map PyData.str) (zs.map PyData.str)) = true
    rw [eqv_strs zs]
    simp
theorem rd_neStrs {K : PySem.W.Frag} {H : Hp} {Q : VK} {a b : Addr} {zs : List Str} (ha : H a = some (.lst (zs.map V.str))) (hb : H b = some (.lst (zs.map V.str))) (h : ∀ z ∈ zs, ∀ c ∈ sg z, c < 128) (q : Q (.bl false) H) : rNeU K (.ref a) (.ref b) H Q := by
  refine .inr ⟨_, _, .lst (.inl (.inl ha)) (dp_strs zs), .lst (.inl (.inl hb)) (dp_strs zs), shaped_strs h, shaped_strs h, ?_⟩
  rw [show PyData.eqv (.list (zs.map PyData.str)) (.list (zs.map PyData.str)) = true from eqv_strs zs]
  exact q
theorem inV_strs (o : Str) : ∀ zs : List Str, inV (.str o) (zs.map V.str) = decide (o ∈ zs)
  | [] => rfl
  | z :: zs => by
    show ((z == o) || inV (.str o) (zs.map V.str)) = _
    rw [inV_strs o zs]
    by_cases h : z = o
    · subst h
      simp
    · have h2 : ¬ o = z := fun e => h e.symm
      simp [h, h2]
theorem flat_strs (zs : List Str) : (zs.map V.str).all flatV = true := by
  rw [List.all_map]
  exact List.all_eq_true.mpr fun _ _ => rfl
theorem rd_ninStrs {K : PySem.W.Frag} {H : Hp} {Q : VK} {o : Str} {a : Addr} {zs : List Str} (ha : H a = some (.lst (zs.map V.str))) (q : Q (.bl (!decide (o ∈ zs))) H) : rNinU K (.str o) (.ref a) H Q :=
  .inl ⟨a, _, rfl, .inl (.inl (.inl ha)), rfl, flat_strs zs, by rw [if_pos rfl, inV_strs]; exact q⟩
theorem cutV_strs (zs : List Str) {i : Int} (h0 : 0 ≤ i) : cutV (zs.map V.str) (some i) none = (zs.drop i.toNat).map V.str := by
  unfold cutV
  rw [HT.sIx_none, List.length_map]
  have e : HT.sIx zs.length 0 (some i) = min i.toNat zs.length := by
    obtain ⟨k, rfl⟩ := Int.eq_ofNat_of_zero_le h0
    exact HT.sIx_nat zs.length 0 k
  rw [e, ← List.map_drop, ← List.map_take, List.take_of_length_le (by rw [List.length_drop]; omega)]
  congr 1
  by_cases h : i.toNat ≤ zs.length
  · rw [Nat.min_eq_left h]
  · rw [Nat.min_eq_right (by omega), List.drop_length, List.drop_eq_nil_of_le (by omega)]
/-- the lengths of the parts together -/
theorem spl_sum : ∀ l acc : List Nat, ((TL.spl [46] 0 acc l).map List.length).sum ≤ acc.length + l.length
  | [], acc => by
    show ([acc].map List.length).sum ≤ _
    simp
  | c :: r, acc => by
    by_cases hd : c = 46
    · subst hd
      have e : TL.spl [46] 0 acc (46 :: r) = acc :: TL.spl [46] 0 [] r := by
        rw [TL.spl, if_pos (by rfl)]
        rfl
      have := spl_sum r []
      rw [e, List.map_cons, List.sum_cons]
      simp only [List.length_nil, List.length_cons] at this ⊢
      omega
    · have e : TL.spl [46] 0 acc (c :: r) = TL.spl [46] 0 (acc ++ [c]) r := by
        rw [TL.spl, if_neg]
        show ¬ (TL.pre [46] (c :: r) = true)
        unfold TL.pre
        simpa using hd
      have := spl_sum r (acc ++ [c])
      rw [e]
      simp only [List.length_append, List.length_cons, List.length_nil] at this ⊢
      omega
theorem parts_sum (z : Str) : ((partsL z).map (·.length)).sum ≤ z.length := by
  have h := spl_sum (sg z) []
  rw [← parts_sg, List.map_map] at h
  have e2 : List.map (List.length ∘ sg) (partsL z) = (partsL z).map (·.length) := List.map_congr_left fun y _ => sg_len y
  rw [e2, sg_len] at h
  simpa using h
theorem sum_drop (l : List Nat) (k : Nat) : (l.drop k).sum ≤ l.sum := by
  have h := congrArg List.sum (List.take_append_drop k l)
  rw [List.sum_append] at h
  omega

open PySem PySem.Spec PyProof.Rows L2

section
variable {T : List (Addr × Str)} {P : Program} {w : World} {K : PySem.W.Frag} {mg : Str → Option Value} {base : Heap}
def spLaw (T : List (Addr × Str)) (K : PySem.W.Frag) : Sp := fun vs H Q _ => ∃ (a : Addr) (ns : List Int), vs = [.ref a] ∧ SqL K H a (ns.map V.int) ∧ ns.length ≤ 63 ∧ LamX.Tabs T H ∧ ∀ H', Q (.bl true) H'
/-- at F the pairs of the zones fs -/
def RowAt (H : Hp) (y : V) (z : Str) : Prop := ∃ ta, y = .ref ta ∧ H ta = some (.tup [.int (keyOf (.str z)), .str z])
theorem row_ext {ms : List Addr} {H H' : Hp} (e : Ext T ms H H') {ys : List V} {zs : List Str} (h : PySem.W.EachIs (RowAt H) ys zs) (hm : ∀ b ∈ ms, ∃ xs, H b = some (.lst xs)) : PySem.W.EachIs (RowAt H') ys zs :=
  h.mono fun y z ⟨ta, e1, e2⟩ => ⟨ta, e1, e.tup (fun hb => by
    obtain ⟨xs, e3⟩ := hm ta hb
    rw [e2] at e3
    cases e3) e2⟩
theorem rows_dp {H : Hp} : ∀ {ys : List V} {zs : List Str}, PySem.W.EachIs (RowAt H) ys zs → DpAll K H ys (zs.map rowD)
  | _, _, .nil => .nil
  | _, _, .cons ⟨ta, e1, e2⟩ t => by
    subst e1
    exact .cons (.tup (SqT.of e2) (.cons (.int _) (.cons (.str _) .nil))) (rows_dp t)
theorem rowD_inj {y z : Str} (h : rowD y = rowD z) : y = z := by
  unfold rowD at h
  injection h with h
  injection h with _ h
  injection h with h _
  injection h
theorem rows_srt {H : Hp} {xs ys : List V} {zs : List Str} {n : Str} (h : PySem.W.EachIs (RowAt H) xs (zs.filter fun z => endsB n z)) (hs : Srt xs ((zs.filter fun z => endsB n z).map rowD) ys) : PySem.W.EachIs (RowAt H) ys (chainS zs n) := by
  unfold Srt at hs
  rw [rows_sorted] at hs
  refine (PySem.W.each_of_map rowD hs).mono fun y z hm => ?_
  rw [List.zip_map_right] at hm
  obtain ⟨p, hp, e⟩ := List.mem_map.mp hm
  have e1 : p.1 = y := congrArg Prod.fst e
  have e2 : rowD p.2 = rowD z := congrArg Prod.snd e
  have h3 := h.zip p hp
  rw [e1, rowD_inj e2] at h3
  exact h3
theorem rows_alike (zs : List Str) : PySem.W.AllAlike (zs.map rowD) := fun d hd e he => by
  obtain ⟨y, _, rfl⟩ := List.mem_map.mp hd
  obtain ⟨z, _, rfl⟩ := List.mem_map.mp he
  rfl
theorem rows_sortable (zs : List Str) : PySem.W.Sortable (zs.map rowD) := .inl fun d hd => by
  obtain ⟨y, _, rfl⟩ := List.mem_map.mp hd
  exact ⟨_, _, rfl⟩
theorem rows_depth (zs : List Str) : ∀ d ∈ zs.map rowD, d.depth ≤ 60 := fun d hd => by
  obtain ⟨y, _, rfl⟩ := List.mem_map.mp hd
  show 0 + 1 ≤ 60
  decide
/-- the second of a pair -/
def secF (H : Hp) : V → V := fun v => match v with
  | .ref a => match H a with
    | some (.tup [_, y]) => y
    | _ => .non
  | _ => .non
theorem secF_row {H : Hp} {y : V} {z : Str} (h : RowAt H y z) : secF H y = .str z := by
  obtain ⟨ta, e1, e2⟩ := h
  subst e1
  unfold secF
  simp only [e2]
theorem secF_map {H : Hp} : ∀ {ys : List V} {zs : List Str}, PySem.W.EachIs (RowAt H) ys zs → ys.map (secF H) = zs.map V.str
  | _, _, .nil => rfl
  | _, _, .cons h t => by rw [List.map_cons, List.map_cons, secF_row h, secF_map t]
theorem ok_law {f0 : Addr} {fd : FuncData} (F0 : Fun K "law" "law" s_law f0 fd) (mb : ∀ x ∈ bltns, mg x = none) (G_law_tape : Ok P w K mg base 1 "_law_tape" ["script", "budget"] (spTape T K)) (G_law_take : Ok P w K mg base 2 "_law_take" ["tape", "many"] (spTake T))
    (G_law_forms : Ok P w K mg base 4 "_law_forms" ["tape"] (spForms T)) (G_law_name : Ok P w K mg base 3 "_law_name" ["tape", "most"] (spName T)) (G_is_name : Ok P w K mg base 3 "is_name" ["text"] (spTB T nameB))
    (G_labels : Ok P w K mg base 1 "labels" ["name"] (spTL T labelsL)) (G_law_from_root : Ok P w K mg base 1 "_law_from_root" ["name"] (spTL T labelsL)) (G_ends : Ok P w K mg base 1 "ends" ["name", "other"] (spTTB T endsB))
    (G_law_ends : Ok P w K mg base 1 "_law_ends" ["name", "other"] (spTTB T endsB)) (G_law_is : Ok P w K mg base 1 "_law_is" ["told", "due"] spIs) (G_chain : Ok P w K mg base 4 "chain" ["zones", "name"] (spChain T K))
    (G_zone_of : Ok P w K mg base 5 "zone_of" ["zones", "name"] (spZoneOf T K)) : FnOk P w K mg base CX0 7 f0 fd ["script"] (spLaw T K) := by
  refine F0.ok sc_law (fun vs H Q E h => ?_) (fun cdv A outer s H vs Q E hr h => ?_)
  · obtain ⟨a, ns, rfl, _⟩ := h
    rfl
  · obtain ⟨a, ns, rfl, ha, hl, hTb, q⟩ := h
    refine ⟨_, (pss_cons (ps_set (i := 1) sc_law.nd rfl (.inl rfl) (pe_callO G_law_tape (hr.mono (by decide)) (by rfl) (pa_cons (pv 0) (pa_cons pe_int pa_nil))))
   (pss_cons (ps_for PassesOwn.never rfl (pi_range1 (by rfl) (mb _ (by decide)) (pa_cons pe_int pa_nil)) (pg_name (i := 2) sc_law.nd rfl (.inl rfl)) (pss_one (ps_if (pt_not (pt_E (pe_callO G_law_forms (hr.mono (by decide)) (by rfl) (pa_cons (pv 1) pa_nil)))) (pss_one (ps_ret pe_bl)) pss_nil)))
   (pss_cons (ps_set (i := 3) sc_law.nd rfl (.inl rfl) (pe_callO G_law_name (hr.mono (by decide)) (by rfl) (pa_cons (pv 1) (pa_cons pe_int pa_nil))))
   (pss_cons (ps_set (i := 4) sc_law.nd rfl (.inl rfl) (pe_lst (pa_cons pe_str pa_nil)))
   (pss_cons (ps_for PassesOwn.never rfl (pi_range1 (by rfl) (mb _ (by decide)) (pa_cons (pe_callO G_law_take (hr.mono (by decide)) (by rfl) (pa_cons (pv 1) (pa_cons pe_int pa_nil))) pa_nil)) (pg_name (i := 5) sc_law.nd rfl (.inl rfl)) (pss_cons (ps_set (i := 6) sc_law.nd rfl (.inl rfl) (pe_ifExp (pt_cmpR (op_eqU K rfl hr.units) (pe_callO G_law_take (hr.mono (by decide)) (by rfl) (pa_cons (pv 1) (pa_cons pe_int pa_nil))) pe_int (nomark _)) (pe_callO G_law_name (hr.mono (by decide)) (by rfl) (pa_cons (pv 1) (pa_cons pe_int pa_nil))) (pe_m1 PySem.F.slot_str_join PySem.F.type_str_join (mt_joinU K rfl) pe_str (pe_slice (sl_U K rfl) (pe_m1 PySem.F.slot_str_split PySem.F.type_str_split mt_splitU (pv 3) pe_str) (po_some (pe_callO G_law_take (hr.mono (by decide)) (by rfl) (pa_cons (pv 1) (pa_cons pe_int pa_nil)))) po_none))))
   (pss_one (ps_if (PW.pt (pw_and (pt_E (pe_callO G_is_name (hr.mono (by decide)) (by rfl) (pa_cons (pv 6) pa_nil))) (pw_and1 (pt_cmpR (op_ninU K rfl) (pv 6) (pv 4) rfl)))) (pss_one (ps_expr (pe_bm PySem.F.plainAttrs_list PySem.F.slot_list_append PySem.F.type_list_append mt_append (pv 4) (pa_cons (pv 6) pa_nil)))) pss_nil))))
   (pss_cons (ps_set (i := 7) sc_law.nd rfl (.inl rfl) (pe_callTy (call_listU K rfl) (by rfl) (mb _ (by decide)) (by decide +kernel) (pa_cons (pv 4) pa_nil)))
   (pss_cons (ps_if (PW.pt (pw_or (pt_cmpR (op_neU K rfl hr.units) (pe_callO G_labels (hr.mono (by decide)) (by rfl) (pa_cons (pv 3) pa_nil)) (pe_callO G_law_from_root (hr.mono (by decide)) (by rfl) (pa_cons (pv 3) pa_nil)) (nomark _)) (pw_or1 (pt_cmpR op_isnotU (pe_callO G_is_name (hr.mono (by decide)) (by rfl) (pa_cons (pv 3) pa_nil)) pe_bl (nomark _))))) (pss_one (ps_ret pe_bl)) pss_nil)
   (pss_cons (ps_set (i := 8) sc_law.nd rfl (.inl rfl) (pe_lst pa_nil))
   (pss_cons (ps_for PassesOwn.never rfl (pi_seq K rfl (pv 4)) (pg_name (i := 9) sc_law.nd rfl (.inl rfl)) (pss_cons (ps_if (pt_not (pt_E (pe_callO G_law_is (hr.mono (by decide)) (by rfl) (pa_cons (pe_callO G_ends (hr.mono (by decide)) (by rfl) (pa_cons (pv 3) (pa_cons (pv 9) pa_nil))) (pa_cons (pe_callO G_law_ends (hr.mono (by decide)) (by rfl) (pa_cons (pv 3) (pa_cons (pv 9) pa_nil))) pa_nil))))) (pss_one (ps_ret pe_bl)) pss_nil)
   (pss_one (ps_if (pt_E (pe_callO G_law_ends (hr.mono (by decide)) (by rfl) (pa_cons (pv 3) (pa_cons (pv 9) pa_nil)))) (pss_one (ps_expr (pe_bm PySem.F.plainAttrs_list PySem.F.slot_list_append PySem.F.type_list_append mt_append (pv 8) (pa_cons (pe_tup (pa_cons (pe_callB (call_lenU K rfl) (by rfl) (mb _ (by decide)) (by decide +kernel) (pa_cons (pe_callO G_law_from_root (hr.mono (by decide)) (by rfl) (pa_cons (pv 9) pa_nil)) pa_nil)) (pa_cons (pv 9) pa_nil))) pa_nil)))) pss_nil))))
   (pss_cons (ps_setLc (i := 10) (own := [("row", 11)]) (g := gName 11) (tt := tYes) rfl sc_law.nd rfl rfl (sw_true rfl rfl rfl (by decide +kernel)) (pi_seq K rfl (pe_callB (call_sortedU K rfl hr.units) (by rfl) (mb _ (by decide)) (by decide +kernel) (pa_cons (pv 8) pa_nil))) (blkOk_by (N := N_law) (sc := defScope s_law) (by decide +kernel)) (fun _ _ _ _ _ => (pg_name (i := 11) sc_law.nd rfl (Or.inl rfl))) (fun _ _ _ _ _ => pts_nil) (fun _ _ _ _ _ => (pe_ix (ix_U K rfl) (pv 11) pe_int (fun _ _ => rfl))))
   (pss_cons (ps_if (PW.pt (pw_or (pt_cmpR (op_neU K rfl hr.units) (pe_callO G_chain (hr.mono (by decide)) (by rfl) (pa_cons (pv 4) (pa_cons (pv 3) pa_nil))) (pv 10) (nomark _)) (pw_or (pt_cmpR (op_neU K rfl hr.units) (pe_callO G_chain (hr.mono (by decide)) (by rfl) (pa_cons (pe_callTy (call_tupU K rfl) (by rfl) (mb _ (by decide)) (by decide +kernel) (pa_cons (pv 4) pa_nil)) (pa_cons (pv 3) pa_nil))) (pv 10) (nomark _)) (pw_or1 (pt_cmpR (op_neU K rfl hr.units) (pv 4) (pv 7) (nomark _)))))) (pss_one (ps_ret pe_bl)) pss_nil)
   (pss_one (ps_ret (pe_cmpR (op_eqU K rfl hr.units) (pe_callO G_zone_of (hr.mono (by decide)) (by rfl) (pa_cons (pv 4) (pa_cons (pv 3) pa_nil))) (pe_ix (ix_U K rfl) (pv 10) (pe_un un_neg pe_int) (fun _ _ => rfl)) (nomark _))))))))))))))), ?_⟩
    refine rd_seq ?_
    walk_at "rdn"
    refine ⟨a, ns, 0, rfl, ha, hl, fun t l H1 nt e1 T1 => ?_⟩
    walk_at "rdn"
    -- six forms
    refine rd_cut (fun σ H2 => LamX.Tabs T H2 ∧ Tape l H2 t ∧ ∃ (y : Option V), σ = [some (.ref a), some (.ref t), y, none, none, none, none, none, none, none, none, none]) (fun nx' hnx => ?_) (fun σ H2 h => ?_)
    · walk_at "rd"
      refine ⟨by decide, by decide, ?_⟩
      refine forg_range (fun i σ H2 => LamX.Tabs T H2 ∧ Tape l H2 t ∧ ∃ (y : Option V), σ = [some (.ref a), some (.ref t), y, none, none, none, none, none, none, none, none, none]) ⟨e1.tabs hTb, T1, none, rfl⟩ (fun i σ H2 hi h => ?_) (fun σ H2 h => hnx _ _ h)
      obtain ⟨b2, T2, y, rfl⟩ := h
      walk_at "rd"
      refine ⟨l, t, rfl, T2, fun H3 e3 T3 => ?_⟩
      walk_at "rd"
      exact ⟨e3.tabs b2, T3, _, rfl⟩
    · obtain ⟨b2, T2, y, rfl⟩ := h
      clear T1 e1
      refine rd_seq ?_
      walk_at "rdn"
      refine ⟨l, t, 4, rfl, by decide, by decide, T2, fun n H3 hn hnl e3 T3 => ?_⟩
      have b3 := e3.tabs b2
      clear e3 T2 b2
      walk_at "rdn"
      refine rd_seq ?_
      walk_at "rdn"
      refine ⟨by show 1 ≤ sizeLine; decide, fun Z nZ => ?_⟩
      have b4 : LamX.Tabs T (upd H3 Z (.lst [.str (Str.ofString ".")])) := (Ext.new (ms := []) nZ).tabs b3
      have T4 := T3.upd (o := .lst [.str (Str.ofString ".")]) nZ
      have hZ4 : (upd H3 Z (.lst [.str (Str.ofString ".")])) Z = some (.lst ([dotS].map V.str)) := upd_same
      obtain ⟨hZt, hZl⟩ := T3.ne (.of nZ)
      generalize upd H3 Z (.lst [.str (Str.ofString ".")]) = H4 at b4 T4 hZ4 ⊢
      clear nZ T3 b3
      walk_at "rdn"
      -- the zones
      refine rd_cut (fun σ H5 => LamX.Tabs T H5 ∧ Tape l H5 t ∧ ∃ (zs : List Str) (y5 y6 : Option V), σ = [some (.ref a), some (.ref t), y, some (.str n), some (.ref Z), y5, y6, none, none, none, none, none] ∧ H5 Z = some (.lst (zs.map V.str)) ∧ zs.length ≤ 20 ∧ (∀ z ∈ zs, nameB z = true ∧ z.length ≤ 1000) ∧ dotS ∈ zs) (fun nx' hnx => ?_) (fun σ H5 h => ?_)
      · walk_at "rd"
        refine ⟨l, t, 7, rfl, by decide, by decide, T4, fun d H5 hd0 hd1 e5 T5 => ?_⟩
        walk_at "rd"
        refine ⟨by omega, by omega, ?_⟩
        refine forg_range (fun i σ H6 => LamX.Tabs T H6 ∧ Tape l H6 t ∧ ∃ (zs : List Str) (y5 y6 : Option V), σ = [some (.ref a), some (.ref t), y, some (.str n), some (.ref Z), y5, y6, none, none, none, none, none] ∧ H6 Z = some (.lst (zs.map V.str)) ∧ zs.length ≤ i + 1 ∧ (∀ z ∈ zs, nameB z = true ∧ z.length ≤ 1000) ∧ dotS ∈ zs)
          ⟨e5.tabs b4, T5, [dotS], none, none, rfl, e5.lst (by simpa using hZt) hZ4, by simp, fun z hz => by rw [List.mem_singleton.mp hz]; exact ⟨by decide +kernel, by decide +kernel⟩, by simp⟩ (fun i σ H6 hi h => ?_) (fun σ H6 h => ?_)
        · obtain ⟨b6, T6, zs, y5, y6, rfl, hZ6, hzl, hzs, hdot⟩ := h
          refine rd_name ?_
          refine rd_cut (fun σ H7 => LamX.Tabs T H7 ∧ Tape l H7 t ∧ H7 Z = some (.lst (zs.map V.str)) ∧ ∃ (o : Str) (y5 : Option V), σ = [some (.ref a), some (.ref t), y, some (.str n), some (.ref Z), y5, some (.str o), none, none, none, none, none] ∧ o.length ≤ 1000) (fun nx' hnx => ?_) (fun σ H7 h => ?_)
          · walk_at "rd"
            refine ⟨l, t, 2, rfl, by decide, by decide, T6, fun d2 H7 h0 h1 e7 T7 => ?_⟩
            walk_at "rd"
            have hZ7 := e7.lst (by simpa using hZt) hZ6
            refine rd_ite (fun h2 => ?_) (fun h2 => ?_)
            · walk_at "rd"
              refine ⟨l, t, 3, rfl, by decide, by decide, T7, fun o H8 ho hol e8 T8 => ?_⟩
              walk_at "rd"
              exact hnx _ _ ⟨e8.tabs (e7.tabs b6), T8, e8.lst (by simpa using hZt) hZ7, o, _, rfl, by omega⟩
            · walk_at "rd"
              refine rd_split (by decide +kernel) (Nat.le_trans (show n.length + 2 ≤ 102 by omega) (by decide)) fun p np => ?_
              obtain ⟨hpt, hpl⟩ := T7.ne (.of np)
              have hpZ : Z ≠ p := (Nw.of np).lst hZ7
              have b8 : LamX.Tabs T (upd H7 p (.lst ((partsL n).map V.str))) := (Ext.new (ms := []) np).tabs (e7.tabs b6)
              have hP : (upd H7 p (.lst ((partsL n).map V.str))) p = some (.lst ((partsL n).map V.str)) := upd_same
              have T8 := T7.upd (o := .lst ((partsL n).map V.str)) np
              have hZ8 : (upd H7 p (.lst ((partsL n).map V.str))) Z = some (.lst (zs.map V.str)) := (upd_ne hpZ).trans hZ7
              show tPart _ _ (upd H7 p (.lst ((partsL n).map V.str))) _
              generalize upd H7 p (.lst ((partsL n).map V.str)) = H8 at b8 hP T8 hZ8 ⊢
              refine rd_part ?_
              walk_at "rd"
              refine ⟨l, t, 3, rfl, by decide, by decide, T8, fun d3 H9 h03 h13 e9 T9 => ?_⟩
              walk_at "rd"
              have hP9 := e9.lst (by simpa using hpt) hP
              have hZ9 := e9.lst (by simpa using hZt) hZ8
              have b9 := e9.tabs b8
              refine rd_slL (SqL.of hP9) fun q nq => ?_
              rw [cutV_strs _ h03]
              have hsum : ((((partsL n).drop d3.toNat)).map (·.length)).sum ≤ 100 := by
                rw [List.map_drop]
                have := sum_drop ((partsL n).map (·.length)) d3.toNat
                have := parts_sum n
                omega
              have hlen : ((partsL n).drop d3.toNat).length ≤ 101 := by
                rw [List.length_drop]
                have := parts_le n
                omega
              have hjl := join_len ((partsL n).drop d3.toNat)
              refine rd_join (SqL.of upd_same) ?_ ?_
              · rw [dot_len]
                omega
              · have hqZ : Z ≠ q := (Nw.of nq).lst hZ9
                walk_at "rd"
                exact hnx _ _ ⟨(Ext.new (ms := []) nq).tabs b9, T9.upd nq, (upd_ne hqZ).trans hZ9, joinS ((partsL n).drop d3.toNat), _, rfl, by omega⟩
          · obtain ⟨b7, T7, hZ7, o, y5, rfl, ho⟩ := h
            walk_at "rd"
            refine ⟨o, rfl, ho, fun H8 e8 => ?_⟩
            have b8 := e8.tabs b7
            have T8 := T7.ext e8
            have hZ8 := e8.lst (by simp) hZ7
            walk_at "rd"
            cases hb : nameB o with
            | false =>
              walk_at "rd"
              exact ⟨b8, T8, zs, _, _, rfl, hZ8, by omega, hzs, hdot⟩
            | true =>
              walk_at "rd"
              refine rd_ninStrs hZ8 ?_
              walk_at "rd"
              cases hm : decide (o ∈ zs) with
              | true =>
                walk_at "rd"
                exact ⟨b8, T8, zs, _, _, rfl, hZ8, by omega, hzs, hdot⟩
              | false =>
                walk_at "rd"
                refine ⟨(Ext.mut (ms := [Z]) (by simp) hZ8).tabs b8, T8.own hZt hZl, zs ++ [o], _, _, rfl, ?_, ?_, ?_, ?_⟩
                · rw [List.map_append]
                  exact upd_same
                · rw [List.length_append]
                  exact Nat.succ_le_succ hzl
                · intro z hz
                  rcases List.mem_append.mp hz with h | h
                  · exact hzs z h
                  · rw [List.mem_singleton.mp h]
                    exact ⟨hb, ho⟩
                · exact List.mem_append_left _ hdot
        · obtain ⟨b6, T6, zs, y5, y6, rfl, hZ6, hzl, hzs, hdot⟩ := h
          exact hnx _ _ ⟨b6, T6, zs, y5, y6, rfl, hZ6, by omega, hzs, hdot⟩
      · obtain ⟨b5, T5, zs, y5, y6, rfl, hZ5, hzl, hzs, hdot⟩ := h
        clear T4 b4 hZ4 T5
        refine rd_seq ?_
        walk_at "rdn"
        refine rd_listL (SqL.of hZ5) fun kp nk => ?_
        have b6 := (Ext.new (ms := []) (o := .lst (zs.map V.str)) nk).tabs b5
        have hkZ : Z ≠ kp := (Nw.of nk).lst hZ5
        have hZ6 : (upd H5 kp (.lst (zs.map V.str))) Z = some (.lst (zs.map V.str)) := (upd_ne hkZ).trans hZ5
        have hk6 : (upd H5 kp (.lst (zs.map V.str))) kp = some (.lst (zs.map V.str)) := upd_same
        show gName 7 (.ref kp) _ (upd H5 kp (.lst (zs.map V.str))) _
        generalize upd H5 kp (.lst (zs.map V.str)) = H6 at b6 hZ6 hk6 ⊢
        clear nk b5 hZ5
        walk_at "rdn"
        refine rd_cut (fun σ H7 => LamX.Tabs T H7 ∧ H7 Z = some (.lst (zs.map V.str)) ∧ H7 kp = some (.lst (zs.map V.str)) ∧ σ = [some (.ref a), some (.ref t), y, some (.str n), some (.ref Z), y5, y6, some (.ref kp), none, none, none, none]) (fun nx' hnx => ?_) (fun σ H7 h => ?_)
        · walk_at "rd"
          refine ⟨n, rfl, by omega, fun p H7 np e7 hp => ?_⟩
          walk_at "rd"
          refine ⟨n, rfl, by omega, fun p2 H8 np2 e8 hp2 => ?_⟩
          walk_at "rd"
          refine rd_neStrs (zs := labelsL n) (e8.lst (by simp) hp) hp2 ?_ ?_
          · intro z hz
            unfold labelsL at hz
            by_cases h : n = dotS
            · rw [if_pos h] at hz
              cases hz
            · rw [if_neg h] at hz
              exact part_plain hn (List.mem_reverse.mp hz)
          · walk_at "rd"
            refine ⟨n, rfl, by omega, fun H9 e9 => ?_⟩
            walk_at "rd"
            refine .inl ⟨_, _, rfl, rfl, ?_⟩
            rw [hn]
            walk_at "rd"
            have e := (e7.trans e8).trans e9
            exact hnx _ _ ⟨e.tabs b6, e.lst (by simp) hZ6, e.lst (by simp) hk6, rfl⟩
        · obtain ⟨b7, hZ7, hk7, rfl⟩ := h
          clear hZ6 hk6 b6
          refine rd_seq ?_
          walk_at "rdn"
          refine ⟨by show 0 ≤ sizeLine; decide, fun F nF => ?_⟩
          have hFZ : Z ≠ F := (Nw.of nF).lst hZ7
          have hFk : kp ≠ F := (Nw.of nF).lst hk7
          have b8 : LamX.Tabs T (upd H7 F (.lst [])) := (Ext.new (ms := []) nF).tabs b7
          have hZ8 : (upd H7 F (.lst [])) Z = some (.lst (zs.map V.str)) := (upd_ne hFZ).trans hZ7
          have hk8 : (upd H7 F (.lst [])) kp = some (.lst (zs.map V.str)) := (upd_ne hFk).trans hk7
          have hF8 : (upd H7 F (.lst [])) F = some (.lst []) := upd_same
          show gName 8 (.ref F) _ (upd H7 F (.lst [])) _
          generalize upd H7 F (.lst []) = H8 at b8 hZ8 hk8 hF8 ⊢
          clear nF b7 hZ7 hk7
          walk_at "rdn"
          refine rd_cut (fun σ H9 => LamX.Tabs T H9 ∧ H9 Z = some (.lst (zs.map V.str)) ∧ H9 kp = some (.lst (zs.map V.str)) ∧ ∃ (rs : List V) (y9 : Option V), H9 F = some (.lst rs) ∧ PySem.W.EachIs (RowAt H9) rs (zs.filter fun z => endsB n z) ∧ σ = [some (.ref a), some (.ref t), y, some (.str n), some (.ref Z), y5, y6, some (.ref kp), some (.ref F), y9, none, none]) (fun nx' hnx => ?_) (fun σ H9 h => ?_)
          · walk_at "rd"
            refine forg_list (xs := zs.map V.str) (fun i σ H9 => LamX.Tabs T H9 ∧ H9 Z = some (.lst (zs.map V.str)) ∧ H9 kp = some (.lst (zs.map V.str)) ∧ ∃ (rs : List V) (y9 : Option V), H9 F = some (.lst rs) ∧ PySem.W.EachIs (RowAt H9) rs ((zs.take i).filter fun z => endsB n z) ∧ σ = [some (.ref a), some (.ref t), y, some (.str n), some (.ref Z), y5, y6, some (.ref kp), some (.ref F), y9, none, none])
              ⟨b8, hZ8, hk8, [], none, hF8, .nil, rfl⟩ (fun i σ H9 _ h => SqL.of h.2.1) (fun i x σ H9 hx h => ?_) (fun σ H9 h => ?_)
            · obtain ⟨b9, hZ9, hk9, rs, y9, hF9, hr9, rfl⟩ := h
              rw [List.getElem?_map] at hx
              obtain ⟨z, hz, rfl⟩ := Option.map_eq_some_iff.mp hx
              obtain ⟨hzn, hzl⟩ := hzs z (List.mem_of_getElem? hz)
              have htk : (zs.take (i + 1)).filter (fun z => endsB n z) = (zs.take i).filter (fun z => endsB n z) ++ [z].filter (fun z => endsB n z) := by
                rw [List.take_add_one, hz, List.filter_append]
                rfl
              have hrl : rs.length ≤ 20 := by
                rw [hr9.length]
                exact Nat.le_trans (List.length_filter_le _ _) (Nat.le_trans (List.length_take_le' ..) (by assumption))
              rw [htk]
              walk_at "rd"
              refine ⟨n, z, rfl, by omega, hzl, fun H10 e10 => ?_⟩
              walk_at "rd"
              refine ⟨n, z, rfl, by omega, hzl, fun H11 e11 => ?_⟩
              walk_at "rd"
              refine ⟨endsB n z, endsB n z, rfl, ?_⟩
              rw [decide_eq_true rfl]
              walk_at "rd"
              refine ⟨n, z, rfl, by omega, hzl, fun H12 e12 => ?_⟩
              have e := (e10.trans e11).trans e12
              have b12 := e.tabs b9
              have hZ12 := e.lst (by simp) hZ9
              have hk12 := e.lst (by simp) hk9
              have hF12 := e.lst (by simp) hF9
              have hr12 := row_ext e hr9 (fun b hb => by cases hb)
              clear e e10 e11 e12
              walk_at "rd"
              cases hb : endsB n z with
              | false =>
                walk_at "rd"
                refine ⟨b12, hZ12, hk12, rs, _, hF12, ?_, rfl⟩
                rw [show [z].filter (fun z => endsB n z) = [] by rw [List.filter_cons, hb]; rfl, List.append_nil]
                exact hr12
              | true =>
                walk_at "rd"
                refine ⟨z, rfl, hzl, fun p H13 np e13 hp => ?_⟩
                walk_at "rd"
                refine ⟨by show 2 ≤ sizeLine; decide, fun ta nta => ?_⟩
                have e14 := e13.trans (Ext.new (ms := []) (o := .tup [.int ((labelsL z).map V.str).length, .str z]) nta)
                have b14 := e14.tabs b12
                have hZ14 := e14.lst (by simp) hZ12
                have hk14 := e14.lst (by simp) hk12
                have hF14 := e14.lst (by simp) hF12
                have hr14 := row_ext e14 hr12 (fun b hb => by cases hb)
                have hta : RowAt (upd H13 ta (.tup [.int ((labelsL z).map V.str).length, .str z])) (.ref ta) z := ⟨ta, rfl, by rw [List.length_map]; exact upd_same⟩
                show tNil _ (upd H13 ta (.tup [.int ((labelsL z).map V.str).length, .str z])) _
                generalize upd H13 ta (.tup [.int ((labelsL z).map V.str).length, .str z]) = H14 at b14 hZ14 hk14 hF14 hr14 hta ⊢
                refine rd_nil ?_
                refine rd_app hF14 (Nat.lt_of_le_of_lt hrl (by decide)) ?_
                have e15 : Ext T [F] H14 (upd H14 F (.lst (rs ++ [.ref ta]))) := Ext.mut (by simp) hF14
                refine ⟨e15.tabs b14, e15.lst (by simpa using hFZ) hZ14, e15.lst (by simpa using hFk) hk14, rs ++ [.ref ta], _, upd_same, ?_, rfl⟩
                rw [show [z].filter (fun z => endsB n z) = [z] by rw [List.filter_cons, hb]; rfl]
                exact row_ext e15 (PySem.W.each_snoc hta hr14) (fun b hb => ⟨rs, by rw [List.mem_singleton.mp hb]; exact hF14⟩)
            · obtain ⟨b9, hZ9, hk9, rs, y9, hF9, hr9, rfl⟩ := h
              rw [List.length_map, List.take_length] at hr9
              exact hnx _ _ ⟨b9, hZ9, hk9, rs, y9, hF9, hr9, rfl⟩
          · obtain ⟨b9, hZ9, hk9, rs, y9, hF9, hr9, rfl⟩ := h
            clear hZ8 hk8 b8 hF8
            have hcs : ∀ z ∈ chainS zs n, nameB z = true ∧ z.length ≤ 1000 := fun z hz => hzs z (chainS_mem hz)
            have hrl : rs.length ≤ 20 := by
              rw [hr9.length]
              exact Nat.le_trans (List.length_filter_le _ _) hzl
            refine rd_seq ?_
            walk_at "rdn"
            refine ⟨F, rs, (zs.filter fun z => endsB n z).map rowD, rfl, SqL.of hF9, rows_dp hr9, rows_alike _, rows_sortable _, rows_depth _, fun ss sp hs nsp => ?_⟩
            have hss := rows_srt hr9 hs
            have e10 := Ext.new (ms := []) (T := T) (o := .lst ss) nsp
            have b10 := e10.tabs b9
            have hZ10 := e10.lst (by simp) hZ9
            have hk10 := e10.lst (by simp) hk9
            have hs10 : (upd H9 sp (.lst ss)) sp = some (.lst ss) := upd_same
            have hss10 := row_ext e10 hss (fun b hb => by cases hb)
            clear hs hss e10
            generalize upd H9 sp (.lst ss) = H10 at b10 hZ10 hk10 hs10 hss10 ⊢
            clear nsp
            have hsl : ss.length ≤ 20 := by
              rw [hss10.length]
              unfold chainS
              rw [List.length_mergeSort]
              exact Nat.le_trans (List.length_filter_le _ _) hzl
            walk_at "rdn"
            refine lcg_list (ms := []) T (SqL.of hs10) (fun _ => true) (secF H10) (Nat.lt_of_le_of_lt hsl (by decide)) (by simp) (by simp) (fun x hx H11 e11 R S h1 h2 => ?_) (fun D H11 nD e11 hD => ?_)
            · obtain ⟨z, _, hz⟩ := hss10.left x hx
              have hsec := secF_row hz
              obtain ⟨ta, rfl, hta⟩ := hz
              walk_at "rd"
              refine rd_ixT (v := .str z) (SqT.of (e11.tup (by simp) hta)) rfl ?_
              have h3 := h1 rfl H11 .refl
              rw [hsec] at h3
              exact h3
            · rw [filtT, secF_map hss10] at hD
              have b11 := e11.tabs b10
              have hZ11 := e11.lst (by simp) hZ10
              have hk11 := e11.lst (by simp) hk10
              clear b10 hZ10 hk10 hs10 hss10 e11 nD
              have hplain : ∀ z ∈ chainS zs n, ∀ c ∈ sg z, c < 128 := fun z hz => name_plain (hcs z hz).1
              have hzl2 : ∀ z ∈ zs, z.length ≤ 1000 := fun z hz => (hzs z hz).2
              have hz100 : zs.length ≤ 100 := by omega
              have hn1000 : n.length ≤ 1000 := by omega
              walk_at "rdn"
              refine rd_cut (fun σ H12 => LamX.Tabs T H12 ∧ H12 Z = some (.lst (zs.map V.str)) ∧ H12 D = some (.lst ((chainS zs n).map V.str)) ∧ σ = [some (.ref a), some (.ref t), y, some (.str n), some (.ref Z), y5, y6, some (.ref kp), some (.ref F), y9, some (.ref D), none]) (fun nx' hnx => ?_) (fun σ H12 h => ?_)
              · walk_at "rd"
                refine ⟨Z, zs, n, rfl, .inl (SqL.of hZ11), hz100, hzl2, hn1000, b11, fun p H12 np e12 hp => ?_⟩
                rw [chainL_eq] at hp
                have b12 := e12.tabs b11
                have hZ12 := e12.lst (by simp) hZ11
                have hk12 := e12.lst (by simp) hk11
                have hD12 := e12.lst (by simp) hD
                clear e12 np
                walk_at "rd"
                refine rd_neStrs hp hD12 hplain ?_
                walk_at "rd"
                refine rd_tupL (SqL.of hZ12) fun tp ntp => ?_
                have e13 := Ext.new (ms := []) (T := T) (o := .tup (zs.map V.str)) ntp
                have b13 := e13.tabs b12
                have hZ13 := e13.lst (by simp) hZ12
                have hk13 := e13.lst (by simp) hk12
                have hD13 := e13.lst (by simp) hD12
                have ht13 : (upd H12 tp (.tup (zs.map V.str))) tp = some (.tup (zs.map V.str)) := upd_same
                clear e13
                show tCons _ _ _ (upd H12 tp (.tup (zs.map V.str))) _
                generalize upd H12 tp (.tup (zs.map V.str)) = H13 at b13 hZ13 hk13 hD13 ht13 ⊢
                walk_at "rd"
                refine ⟨tp, zs, n, rfl, .inr (SqT.of ht13), hz100, hzl2, hn1000, b13, fun p2 H14 np2 e14 hp2 => ?_⟩
                rw [chainL_eq] at hp2
                have b14 := e14.tabs b13
                have hZ14 := e14.lst (by simp) hZ13
                have hk14 := e14.lst (by simp) hk13
                have hD14 := e14.lst (by simp) hD13
                walk_at "rd"
                refine rd_neStrs hp2 hD14 hplain ?_
                walk_at "rd"
                refine rd_neStrs hZ14 hk14 (fun z hz => name_plain (hzs z hz).1) ?_
                walk_at "rd"
                exact hnx _ _ ⟨b14, hZ14, hD14, rfl⟩
              · obtain ⟨b12, hZ12, hD12, rfl⟩ := h
                obtain ⟨v, hv⟩ := chainS_dot (n := n) hdot
                have hv2 : ((chainS zs n).map V.str).getLast? = some (.str v) := by
                  rw [List.getLast?_map, hv]
                  rfl
                walk_at "rd"
                refine ⟨Z, zs, n, .str v, rfl, SqL.of hZ12, hz100, hzl2, hn1000, b12, by rw [chainL_eq]; exact hv2, fun H13 e13 => ?_⟩
                walk_at "rd"
                refine rd_ixL (v := .str v) (SqL.of (e13.lst (by simp) hD12)) (at_last hv2) ?_
                refine rd_eqStr ?_
                rw [decide_eq_true rfl]
                exact q H13
end

open PySem PySem.Spec PyProof.Rows L2
theorem all_mk {l : PySem.W.OpenLaw} {w : World} {K : PySem.W.Frag} {h : Heap} {mg : Str → Option Value} {fa c Pt : Addr} (X : K.In h) (G : h.Ns mainGlobals mg) (hfa : mg "law" = some (.ref fa)) (hTab : h.get? Pt = some { cls := .none, data := .fields #[] }) (nT : K.lookup Pt = none) (hcd : PySem.W.codeHdIn K c Pt = true)
    (d1 : DefIn K "_law_mix" s_law_mix) (d2 : DefIn K "_law_tape" s_law_tape) (d3 : DefIn K "_law_take" s_law_take) (d4 : DefIn K "is_word" s_is_word) (d5 : DefIn K "is_id" s_is_id) (d6 : DefIn K "is_label" s_is_label) (d7 : DefIn K "is_name" s_is_name) (d8 : DefIn K "labels" s_labels) (d9 : DefIn K "ends" s_ends)
    (d10 : DefIn K "_law_small" s_law_small) (d11 : DefIn K "_law_is" s_law_is) (d12 : DefIn K "_law_ends" s_law_ends) (d13 : DefIn K "_law_from_root" s_law_from_root) (d14 : DefIn K "_law_text" s_law_text) (d15 : DefIn K "_law_name" s_law_name) (d16 : DefIn K "_law_forms" s_law_forms)
    (d17 : DefInC K "chain" s_chain c) (d18 : DefIn K "zone_of" s_zone_of) (d19 : DefIn K "law" s_law)
    (mb : ∀ x ∈ bltns, PySem.W.nsIn K mainGlobals x = some none) (c1 : ∃ t, PySem.W.nsIn K mainGlobals "LETTERS" = some (some (.str lettersS t))) (c2 : ∃ t, PySem.W.nsIn K mainGlobals "MAX_ID" = some (some (.int 4 t))) (c3 : ∃ t, PySem.W.nsIn K mainGlobals "MAX_LABEL" = some (some (.int 8 t))) (c4 : ∃ t, PySem.W.nsIn K mainGlobals "MAX_LABELS" = some (some (.int 4 t))) :
    LamX.LawAtS l w K CX0 7 63 "script" mg fa h := by
  have M : Cst mg := ⟨c1.imp fun _ e => PySem.W.mg_of X G e, c2.imp fun _ e => PySem.W.mg_of X G e, c3.imp fun _ e => PySem.W.mg_of X G e, c4.imp fun _ e => PySem.W.mg_of X G e⟩
  have mb : ∀ x ∈ bltns, mg x = none := fun x hx => PySem.W.mg_none_of X G (mb x hx)
  obtain ⟨f, oc, od, kV, doc, pm, an, cdv, ct, osl, h1, h2, h3, h4⟩ := d19
  have F19 := fun_mk (st := s_law) h2 h3 h4
  have e := hfa.symm.trans (PySem.W.mg_of X G h1)
  cases e
  have D1 := d1.mk (ps := ["number"]) X G fun _ _ _ _ _ _ us hl => match us, hl with | [_], _ => rfl
  have D2 := d2.mk (ps := ["script", "budget"]) X G fun _ _ _ _ _ _ us hl => match us, hl with | [_, _], _ => rfl
  have D3 := d3.mk (ps := ["tape", "many"]) X G fun _ _ _ _ _ _ us hl => match us, hl with | [_, _], _ => rfl
  have D4 := d4.mk (ps := ["text", "letters", "most"]) X G fun _ _ _ _ _ _ us hl => match us, hl with | [_, _, _], _ => rfl
  have D5 := d5.mk (ps := ["text"]) X G fun _ _ _ _ _ _ us hl => match us, hl with | [_], _ => rfl
  have D6 := d6.mk (ps := ["text"]) X G fun _ _ _ _ _ _ us hl => match us, hl with | [_], _ => rfl
  have D7 := d7.mk (ps := ["text"]) X G fun _ _ _ _ _ _ us hl => match us, hl with | [_], _ => rfl
  have D8 := d8.mk (ps := ["name"]) X G fun _ _ _ _ _ _ us hl => match us, hl with | [_], _ => rfl
  have D9 := d9.mk (ps := ["name", "other"]) X G fun _ _ _ _ _ _ us hl => match us, hl with | [_, _], _ => rfl
  have D10 := d10.mk (ps := ["text"]) X G fun _ _ _ _ _ _ us hl => match us, hl with | [_], _ => rfl
  have D11 := d11.mk (ps := ["told", "due"]) X G fun _ _ _ _ _ _ us hl => match us, hl with | [_, _], _ => rfl
  have D12 := d12.mk (ps := ["name", "other"]) X G fun _ _ _ _ _ _ us hl => match us, hl with | [_, _], _ => rfl
  have D13 := d13.mk (ps := ["name"]) X G fun _ _ _ _ _ _ us hl => match us, hl with | [_], _ => rfl
  have D14 := d14.mk (ps := ["tape", "many"]) X G fun _ _ _ _ _ _ us hl => match us, hl with | [_, _], _ => rfl
  have D15 := d15.mk (ps := ["tape", "most"]) X G fun _ _ _ _ _ _ us hl => match us, hl with | [_, _], _ => rfl
  have D16 := d16.mk (ps := ["tape"]) X G fun _ _ _ _ _ _ us hl => match us, hl with | [_], _ => rfl
  have D17 := d17.mk (ps := ["zones", "name"]) X G fun _ _ _ _ _ _ us hl => match us, hl with | [_, _], _ => rfl
  have D18 := d18.mk (ps := ["zones", "name"]) X G fun _ _ _ _ _ _ us hl => match us, hl with | [_, _], _ => rfl
  refine ⟨PySem.W.fnOf "law" "law" (defArgs s_law) (defBody s_law) (defScope s_law) .none kV doc pm an cdv ct, [(c, Pt)], spLaw [(Pt, "chain.<locals>.<lambda>")] K, fun p hp => ?_, fun p hp => ?_, fun p hp => ?_, fun s u => .of_eq rfl, fun H a ns hl _ hT hS => ?_, fun base _ _ hTB => ?_⟩
  · rw [List.mem_singleton.mp hp]
    exact hTab
  · rw [List.mem_singleton.mp hp]
    exact nT
  · rw [List.mem_singleton.mp hp]
    exact PySem.W.codeHd_of_K X hcd
  · refine ⟨a, ns, rfl, hS, hl, fun p hp => ?_, fun _ => rfl⟩
    rw [List.mem_singleton.mp hp]
    exact .nil (hT (c, Pt) List.mem_cons_self)
  · have TB : LamX.TabB base mg c Pt := hTB (c, Pt) List.mem_cons_self
    have hmT : (Pt, ("chain.<locals>.<lambda>" : Str)) ∈ [(Pt, ("chain.<locals>.<lambda>" : Str))] := List.mem_cons_self
    have huT : ∀ z ∈ [(Pt, ("chain.<locals>.<lambda>" : Str))], z.1 = Pt → z.2 = ("chain.<locals>.<lambda>" : Str) := fun z hz _ => by rw [List.mem_singleton.mp hz]
    have O1 := ok_law_mix (P := l.prog) (w := w) (base := base) D1 mb
    have O2 := ok_law_tape (P := l.prog) (w := w) (base := base) (T := [(Pt, ("chain.<locals>.<lambda>" : Str))]) D2 mb
    have O3 := ok_law_take (T := [(Pt, ("chain.<locals>.<lambda>" : Str))]) D3 O1 mb
    have O4 := ok_is_word (P := l.prog) (w := w) (base := base) (T := [(Pt, ("chain.<locals>.<lambda>" : Str))]) D4 mb
    have O5 := ok_is_id D5 M O4
    have O6 := ok_is_label D6 M O4
    have O7 := ok_is_name D7 mb M O6
    have O8 := ok_labels (P := l.prog) (w := w) (base := base) (T := [(Pt, ("chain.<locals>.<lambda>" : Str))]) D8 mb
    have O9 := ok_ends (P := l.prog) (w := w) (base := base) (T := [(Pt, ("chain.<locals>.<lambda>" : Str))]) D9 mb
    have O10 := ok_law_small (P := l.prog) (w := w) (base := base) (T := [(Pt, ("chain.<locals>.<lambda>" : Str))]) D10
    have O11 := ok_law_is (P := l.prog) (w := w) (base := base) D11 mb
    have O12 := ok_law_ends (P := l.prog) (w := w) (base := base) (T := [(Pt, ("chain.<locals>.<lambda>" : Str))]) D12 mb
    have O13 := ok_law_from_root (P := l.prog) (w := w) (base := base) (T := [(Pt, ("chain.<locals>.<lambda>" : Str))]) D13 mb
    have O14 := ok_law_text D14 mb O3
    have O15 := ok_law_name D15 mb O3
    have O16 := ok_law_forms D16 mb O3 O14 O10 O11 O5 O6 O7
    have O17 := ok_chain D17 mb TB hmT huT O8 O9
    have O18 := ok_zone_of D18 O17
    exact ok_law F19 mb O2 O3 O16 O15 O7 O8 O13 O9 O12 O11 O17 O18

end NK
open PySem PySem.W PyProof.Rows
set_option maxHeartbeats 0 in
theorem PySem.Challenge.cw_neverdark_k00_names_holds : PySem.Challenge.rw_neverdark_k00_names.Holds := by
  w_on; o_law; k_head; (case hw => w_witness2)
  k_fill
  refine LamX.walk_ofTs (l := PySem.Challenge.rw_neverdark_k00_names) (n := 63) (k := 7) (x := "script") (CX := fun _ => L2.CX0) rfl (by decide) rfl ⟨rfl, by decide, by decide⟩ (fun w h Y => Y.1) ?F (fun _ _ _ _ _ h => h)
  case F =>
    intro w mg fa h Y KX G hmg
    refine' NK.all_mk (Pt := 54) KX G hmg (Y.2 54 (by simp)) ?nT ?hcd ?d1 ?d2 ?d3 ?d4 ?d5 ?d6 ?d7 ?d8 ?d9 ?d10 ?d11 ?d12 ?d13 ?d14 ?d15 ?d16 ?d17 ?d18 ?d19 ?mb ?c1 ?c2 ?c3 ?c4
    case nT => exact rfl
    case d17 => 
      refine' NK.DefInC.of ?x1 ?x2 ?x3 ?x4
      (case x1 => k_is); (case x2 => k_is); (case x3 => k_is); (case x4 => k_is)
    case hcd => exact rfl
    case d1 => (refine' NK.DefIn.of ?x1 ?x2 ?x3 ?x4; (case x1 => k_is); (case x2 => k_is); (case x3 => k_is); (case x4 => k_is))
    case d2 => (refine' NK.DefIn.of ?x1 ?x2 ?x3 ?x4; (case x1 => k_is); (case x2 => k_is); (case x3 => k_is); (case x4 => k_is))
    case d3 => (refine' NK.DefIn.of ?x1 ?x2 ?x3 ?x4; (case x1 => k_is); (case x2 => k_is); (case x3 => k_is); (case x4 => k_is))
    case d4 => (refine' NK.DefIn.of ?x1 ?x2 ?x3 ?x4; (case x1 => k_is); (case x2 => k_is); (case x3 => k_is); (case x4 => k_is))
    case d5 => (refine' NK.DefIn.of ?x1 ?x2 ?x3 ?x4; (case x1 => k_is); (case x2 => k_is); (case x3 => k_is); (case x4 => k_is))
    case d6 => (refine' NK.DefIn.of ?x1 ?x2 ?x3 ?x4; (case x1 => k_is); (case x2 => k_is); (case x3 => k_is); (case x4 => k_is))
    case d7 => (refine' NK.DefIn.of ?x1 ?x2 ?x3 ?x4; (case x1 => k_is); (case x2 => k_is); (case x3 => k_is); (case x4 => k_is))
    case d8 => (refine' NK.DefIn.of ?x1 ?x2 ?x3 ?x4; (case x1 => k_is); (case x2 => k_is); (case x3 => k_is); (case x4 => k_is))
    case d9 => (refine' NK.DefIn.of ?x1 ?x2 ?x3 ?x4; (case x1 => k_is); (case x2 => k_is); (case x3 => k_is); (case x4 => k_is))
    case d10 => (refine' NK.DefIn.of ?x1 ?x2 ?x3 ?x4; (case x1 => k_is); (case x2 => k_is); (case x3 => k_is); (case x4 => k_is))
    case d11 => (refine' NK.DefIn.of ?x1 ?x2 ?x3 ?x4; (case x1 => k_is); (case x2 => k_is); (case x3 => k_is); (case x4 => k_is))
    case d12 => (refine' NK.DefIn.of ?x1 ?x2 ?x3 ?x4; (case x1 => k_is); (case x2 => k_is); (case x3 => k_is); (case x4 => k_is))
    case d13 => (refine' NK.DefIn.of ?x1 ?x2 ?x3 ?x4; (case x1 => k_is); (case x2 => k_is); (case x3 => k_is); (case x4 => k_is))
    case d14 => (refine' NK.DefIn.of ?x1 ?x2 ?x3 ?x4; (case x1 => k_is); (case x2 => k_is); (case x3 => k_is); (case x4 => k_is))
    case d15 => (refine' NK.DefIn.of ?x1 ?x2 ?x3 ?x4; (case x1 => k_is); (case x2 => k_is); (case x3 => k_is); (case x4 => k_is))
    case d16 => (refine' NK.DefIn.of ?x1 ?x2 ?x3 ?x4; (case x1 => k_is); (case x2 => k_is); (case x3 => k_is); (case x4 => k_is))
    case d18 => (refine' NK.DefIn.of ?x1 ?x2 ?x3 ?x4; (case x1 => k_is); (case x2 => k_is); (case x3 => k_is); (case x4 => k_is))
    case d19 => (refine' NK.DefIn.of ?x1 ?x2 ?x3 ?x4; (case x1 => k_is); (case x2 => k_is); (case x3 => k_is); (case x4 => k_is))
    case mb =>
      intro x hx
      rcases List.mem_cons.mp hx with e | hx
      · rw [e]; k_is
      rcases List.mem_cons.mp hx with e | hx
      · rw [e]; k_is
      rcases List.mem_cons.mp hx with e | hx
      · rw [e]; k_is
      rcases List.mem_cons.mp hx with e | hx
      · rw [e]; k_is
      rcases List.mem_cons.mp hx with e | hx
      · rw [e]; k_is
      rcases List.mem_cons.mp hx with e | hx
      · rw [e]; k_is
      rcases List.mem_cons.mp hx with e | hx
      · rw [e]; k_is
      rcases List.mem_cons.mp hx with e | hx
      · rw [e]; k_is
      rcases List.mem_cons.mp hx with e | hx
      · rw [e]; k_is
      rcases List.mem_cons.mp hx with e | hx
      · rw [e]; k_is
      cases hx
    case c1 => refine' NK.cstS_of ?x; (case x => k_is)
    case c2 => refine' NK.cstI_of ?x; (case x => k_is)
    case c3 => refine' NK.cstI_of ?x; (case x => k_is)
    case c4 => refine' NK.cstI_of ?x; (case x => k_is)
